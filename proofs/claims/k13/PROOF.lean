import PyProof.Rows.All
import Wide.All
import OpenK.AllK
import Wide.FinOn
import PyProof.EqAt
import PyProof.EqKinds
import PyProof.TupleCall
import PyProof.StationsW
import PyProof.ExcArgs
import PyProof.Seq
import PyProof.TupleIter
import PyProof.RangeIter
import PyProof.WalkInts
import PyProof.SumWalkG
import PyProof.ListRange
import PyProof.Rows.Range3
import OpenK.KDescr
import PyProof.ExcAttrAll.ValueError
import PyProof.Draws
import PyProof.EnumFor
import PyProof.EnumMake
import PyProof.LayNew
import PyProof.Rows.EnumRows
import PyProof.MinMaxWalk
import Lean
import PySem.Challenge.RW_cheapcovers_k13_covers_by_number
set_option Elab.async false
set_option linter.all false
set_option maxRecDepth 100000
set_option maxHeartbeats 8000000
set_option compiler.extract_closed false
set_option bootstrap.genMatcherCode false
set_option genSizeOfSpec false
section
open PySem PySem.Spec PyProof PyProof.Rows
abbrev qaa := @List.getElem?_append_right
abbrev qab := @Array.getElem?_eq_some_iff
abbrev qac := @List.getElem?_eq_some_iff
abbrev qad := @List.getElem?_append_left
abbrev qae := @List.drop_eq_getElem_cons
abbrev qaf := @List.getElem?_eq_getElem
abbrev qag := @Heap.get?_push_of_some
abbrev qah := @Heap.get?_update_other
abbrev qai := @List.getElem?_set_self
abbrev qaj := @Array.getElem?_toList
abbrev qak := @List.mem_append_right
abbrev qal := @Heap.get?_update_self
abbrev qam := @List.take_append_drop
abbrev qan := @List.mem_cons_of_mem
abbrev qao := @List.getElem?_set_ne
abbrev qap := @Around.under_plainId
abbrev qaq := @List.pairwise_append
abbrev qar := @Heap.get?_push_size
abbrev qas := @Array.length_toList
abbrev qat := @List.filterMap_cons
abbrev qau := @List.mem_cons_self
abbrev qav := @List.length_append
abbrev qaw := @Nat.lt_of_lt_of_le
abbrev qax := @Bool.false_eq_true
abbrev qay := @List.pairwise_cons
abbrev qaz := @Array.size_extract
abbrev qaA := @List.size_toArray
abbrev qaB := @Int.toNat_natCast
abbrev qaC := @wpAny_newObj_type
abbrev qaD := @decide_eq_true_eq
abbrev qaE := @List.length_cons
abbrev qaF := @List.not_mem_nil
abbrev qaG := @Bool.and_eq_true
abbrev qaH := @List.length_map
abbrev qaI := @List.length_set
abbrev qaJ := @List.length_nil
abbrev qaK := @List.mem_append
abbrev qaL := @Heap.size_push
abbrev qaM := @List.map_cons
abbrev qaN := @Nat.lt_irrefl
abbrev qaO := @wpAny_holding
abbrev qaP := @List.mem_cons
abbrev qaQ := @Heap.lt_size
abbrev qaR := @Nat.ne_of_lt
abbrev qaS := @Nat.le_trans
abbrev qaT := @List.map_map
abbrev qaU := @List.mem_map
abbrev qaV := @Nat.le_refl
abbrev qaW := @wpAny_bind
abbrev qaX := @wpAny_pure
abbrev qaZ := @wpAny_mono
abbrev qa0 := @False.elim
abbrev qa2 := @wpS_bind
abbrev qa3 := @wpS_pure
abbrev qa4 := @if_pos
abbrev qa5 := @if_neg
end
noncomputable def PySem.W.Fast.tw12708778570640095163:Nat:=0
noncomputable def PySem.W.Fast.tw12809935534054978434:Nat:=0
noncomputable def PySem.W.Fast.tw7988592746196656030:Nat:=0
noncomputable def PySem.W.Fast.tw18017430412815881311:Nat:=0
noncomputable def PySem.W.Fast.tw15508943948851594279:Nat:=0
noncomputable def PySem.W.Fast.tw16800968897832195463:Nat:=0
noncomputable def PySem.W.Fast.tw7895968351359843100:Nat:=0
noncomputable def PySem.W.Fast.tw9978170606586385182:Nat:=0
noncomputable def PySem.W.Fast.tw562647661307318192:Nat:=0
noncomputable def PySem.W.Fast.tw2679647782770802870:Nat:=0
noncomputable def PySem.W.Fast.tw4418099996801148108:Nat:=0
namespace L3
open PySem
def zhX (h:Heap) (e:Addr) (cls head:Value):Prop:= ∃ ob vs,h.get? e=some ob/\ob.cls=cls/\ob.dict=none/\ob.data= .fields vs/\vs[2]? = some .none/\vs[1]? = some head
def zvv (h B:Heap) (e:Addr) (head fl:Value):Prop:= ∃ T ot ts,head= .ref T/\B.get? T=none/\T≠e/\h.get? T=some ot/\ot.data= .fields ts/\ts[3]? = some fl
structure Fly (B:Heap) (l:List Env) (e:Addr) (cls fl:Value) (h:Heap):Prop where
 stays:B.StaysIn h
 new:B.get? e=none
 frames:h.FunFrames B l
 exc: ∃ head,zhX h e cls head/\zvv h B e head fl
theorem zmY (o:Obj) (f):(o.mapFields f).dict=o.dict:=by
 obtain ⟨c,d,t,z⟩:=o
 cases t<;>rfl
section
variable {M:Model} {A:Around} {E:Value->Shared->Prop} {s:Shared} {B:Heap} {env:Env} {outer l:List Env} {L e:Addr} {cls head fl:Value}
theorem zi6 {hd0:Value} {hadNext:Bool} {Q:Unit->Shared->Prop} (hfr:A.frames=some (env::outer)) (hl:s.heap.FunFrames B (env::outer)) (hf:env.frame=some L) (hx:zhX s.heap e cls head)
  (hkb:B.StaysIn s.heap) (hen:B.get? e=none) (q: ∀ h',Fly B (env::outer) e cls (rawInt L) h'->s.heap.UpToSlots h'->Q () {s with heap:=h'}):
  wpAny M A (do let a<-frameOf env;let pl<-entryPlaceOf L hadNext;let b<-EntryCells.newEntry hd0 a .none (rawInt L) .none pl;setField (.ref e) 1 b) Q E s:=by
 obtain ⟨ob,vs,h1,h2,h3,h4,h5,h6⟩:=hx
 have hsz:1<vs.size:=(qab.mp h6).1
 have nfr:e∉(env::outer).filterMap (·.frame):=fun z=>by
  obtain ⟨_,o,ho,hn⟩:=hl.mem z
  rw [h1] at ho
  cases ho
  exact hn vs h4
 refine qaW (wpAny_frameOf_fun hfr hl hf fun g sg=> ?_)
 refine qaW (wpAny_entryPlaceOf fun pl hpl=> ?_)
 unfold EntryCells.newEntry newFields
 refine qaW (qaC ?_ (hpl.sizeOk5 _ _ _ _ _))
 have e1:g.get? e=some ob:=(sg.2.1 e nfr).trans h1
 have kb:B.StaysIn g:=fun b o z=>(sg.2.1 b fun w=>by rw [(hl.mem w).1] at z;cases z).trans (hkb b o z)
 generalize hob:({cls:= .type "traceback",dict:=none,data:= .fields ([hd0,.ref L,.none,rawInt L,.none]++(if pl.isEmpty then List.replicate 6 Value.none else pl)).toArray}:Obj)=tb
 have e2:(g.push tb).get? e=some ob:=qag _ e1
 have ne:g.objs.size≠e:=Nat.ne_of_gt (qaQ e1)
 have d3:=Obj.data_mapFields h4 (·.setIfInBounds 1 (Value.ref g.objs.size))
 have e3:=qal (Obj.mapFields (·.setIfInBounds 1 (Value.ref g.objs.size))) e2 (Obj.isFreed_of_fields d3)
 have ft:tb.isFreed=false:=by rw [<- hob];rfl
 have t3:((g.push tb).update e (Obj.mapFields (·.setIfInBounds 1 (Value.ref g.objs.size)))).get? g.objs.size=some tb:=(qah _ _ (Ne.symm ne)).trans (qar g ft)
 have stay: ∀ b o,b≠e->g.get? b=some o->((g.push tb).update e (Obj.mapFields (·.setIfInBounds 1 (Value.ref g.objs.size)))).get? b=some o:=fun b o hb z=>by
  rw [qah _ _ (Ne.symm hb)]
  exact qag _ z
 have nrec: ∀ b o,s.heap.get? b=some o->(∀ ws,o.data≠ .fields ws)->b≠e:=fun b o z hn w=>by
  rw [w,h1] at z
  cases z
  exact hn vs h4
 have ht: ∃ ts,tb.data= .fields ts/\ts[3]? = some (rawInt L):=⟨_,by rw [<- hob],by rcases hpl with rfl | ⟨_,_,_,_,_,_,_,rfl⟩<;>simp⟩
 obtain ⟨ts,ht1,ht2⟩:=ht
 refine wpAny_setField e2 h4 hsz (q _ ⟨fun b o z=>stay b o (fun w=>by rw [w,hen] at z;cases z) (kb b o z),hen,hl.of_keeps fun b o z hn=> ?_,.ref g.objs.size,⟨_,_,e3,(Obj.cls_mapFields _ _).trans h2,(zmY _ _).trans h3,d3,?_,?_⟩,g.objs.size,tb,ts,rfl,kb.fresh,ne,t3,ht1,ht2⟩ fun b o z hn=> ?_)
 ·obtain ⟨sl,hs⟩:=sg.2.2 b o z
  exact ⟨_,stay b _ (nrec b o z hn) hs,rfl⟩
 ·rw [Array.getElem?_setIfInBounds_ne (by decide)]
  exact h5
 ·simp [hsz]
 ·obtain ⟨sl,hs⟩:=sg.2.2 b o z
  exact ⟨sl,stay b _ (nrec b o z hn) hs⟩
theorem zj5 {Q:Unit->Shared->Prop} (hfr:A.frames=some (env::outer)) (hl:s.heap.FunFrames B (env::outer)) (hf:env.frame=some L) (hx:zhX s.heap e cls .none)
  (hkb:B.StaysIn s.heap) (hen:B.get? e=none) (q: ∀ h',Fly B (env::outer) e cls (rawInt L) h'->s.heap.UpToSlots h'->Q () {s with heap:=h'}):wpAny M A (noteFrame (.ref e) env) Q E s:=by
 obtain ⟨ob,vs,h1,h2,h3,h4,h5,h6⟩:=id hx
 unfold noteFrame
 simp only [hf]
 refine qaW (wpAny_field h1 h4 h6 ?_)
 rw [qa5 (by decide)]
 exact zi6 hfr hl hf hx hkb hen q
theorem zl0 {Q:Unit->Shared->Prop} (hfr:A.frames=some (env::outer)) (hf:env.frame=some L) (y:Fly B (env::outer) e cls .none s.heap)
  (q: ∀ h',Fly B (env::outer) e cls (rawInt L) h'->s.heap.UpToSlots h'->Q () {s with heap:=h'}):wpAny M A (noteFrame (.ref e) env) Q E s:=by
 obtain ⟨hkb,hen,hl,hd,⟨ob,vs,h1,h2,h3,h4,h5,h6⟩,T,ot,ts,rfl,t1,t2,t3,t4,t5⟩:=y
 unfold noteFrame
 simp only [hf]
 refine qaW (wpAny_field h1 h4 h6 ?_)
 rw [qa4 (show (Value.ref T != Value.none)=true by simp)]
 refine qaW (wpAny_field t3 t4 t5 ?_)
 rw [qa5 (show ¬(Value.none==rawInt L)=true by simp [rawInt])]
 refine qaW (wpAny_setField t3 t4 (qab.mp t5).1 ?_)
 have oth: ∀ b,b≠T->(s.heap.update T (Obj.mapFields (·.setIfInBounds 3 Value.none))).get? b=s.heap.get? b:=fun b hb=>qah _ _ (Ne.symm hb)
 have nrec: ∀ b o,s.heap.get? b=some o->(∀ ws,o.data≠ .fields ws)->b≠T:=fun b o z hn w=>by
  rw [w,t3] at z
  cases z
  exact hn ts t4
 refine zi6 hfr (hl.of_keeps fun b o z hn=>⟨o,(oth b (nrec b o z hn)).trans z,rfl⟩) hf ⟨ob,vs,(oth e (Ne.symm t2)).trans h1,h2,h3,h4,h5,h6⟩ (fun b o z=>(oth b fun w=>by rw [w,t1] at z;cases z).trans (hkb b o z)) hen fun h' y u=> ?_
 exact q h' y fun b o z hn=>u b o ((oth b (nrec b o z hn)).trans z) hn
theorem zdS {Q:Unit->Shared->Prop} (y:Fly B l e cls fl s.heap) (q: ∀ h',Fly B l e cls .none h'->(∀ b o,s.heap.get? b=some o->(∀ ws,o.data≠ .fields ws)->h'.get? b=some o)->Q () {s with heap:=h'}):
  wpAny M A (setFlight (.ref e) none) Q E s:=by
 obtain ⟨hkb,hen,hl,hd,⟨ob,vs,h1,h2,h3,h4,h5,h6⟩,T,ot,ts,rfl,t1,t2,t3,t4,t5⟩:=y
 have hsz:=(qab.mp t5).1
 have oth: ∀ b,b≠T->(s.heap.update T (Obj.mapFields (·.setIfInBounds 3 ((none:Option Addr).elim Value.none fun f=>rawInt f)))).get? b=s.heap.get? b:=fun b hb=>qah _ _ (Ne.symm hb)
 have nrec: ∀ b o,s.heap.get? b=some o->(∀ ws,o.data≠ .fields ws)->b≠T:=fun b o z hn w=>by
  rw [w,t3] at z
  cases z
  exact hn ts t4
 unfold setFlight
 refine qaW (wpAny_field h1 h4 h6 ?_)
 rw [qa4 (show (Value.ref T != Value.none)=true by simp)]
 refine wpAny_setField t3 t4 hsz (q _ ⟨fun b o z=>(oth b fun w=>by rw [w,t1] at z;cases z).trans (hkb b o z),hen,hl.of_keeps fun b o z hn=>⟨o,(oth b (nrec b o z hn)).trans z,rfl⟩,
   .ref T,⟨ob,vs,(oth e (Ne.symm t2)).trans h1,h2,h3,h4,h5,h6⟩,T,_,_,rfl,t1,t2,qal _ t3 (Obj.isFreed_of_fields (Obj.data_mapFields t4 _)),Obj.data_mapFields t4 _,by simp [hsz]⟩ fun b o z hn=>(oth b (nrec b o z hn)).trans z)
theorem Fly.tail {h:Heap} (y:Fly B (env::outer) e cls fl h):Fly B outer e cls fl h:=⟨y.stays,y.new,y.frames.2.2,y.exc⟩
theorem zhY {Q:Unit->Shared->Prop} (hfr:A.frames=some (env::outer)) (hl:s.heap.FunFrames B (env::outer)) (hf:env.frame=some L) (hx:zhX s.heap e cls .none)
  (hkb:B.StaysIn s.heap) (hen:B.get? e=none) (q: ∀ h',Fly B outer e cls .none h'->s.heap.UpToSlots h'->Q () {s with heap:=h'}):wpAny M A (leaving env (.ref e)) Q E s:=by
 unfold leaving
 refine qaW (zj5 hfr hl hf hx hkb hen fun h1 y1 u1=> ?_)
 refine zdS (s:={s with heap:=h1}) y1 fun h2 y2 k2=>q h2 y2.tail (u1.trans fun b o z hn=>⟨o.slots,k2 b o z hn⟩)
theorem znf {Q:Unit->Shared->Prop} (hfr:A.frames=some (env::outer)) (hf:env.frame=some L) (y:Fly B (env::outer) e cls .none s.heap)
  (q: ∀ h',Fly B outer e cls .none h'->s.heap.UpToSlots h'->Q () {s with heap:=h'}):wpAny M A (leaving env (.ref e)) Q E s:=by
 unfold leaving
 refine qaW (zl0 hfr hf y fun h1 y1 u1=> ?_)
 refine zdS (s:={s with heap:=h1}) y1 fun h2 y2 k2=>q h2 y2.tail (u1.trans fun b o z hn=>⟨o.slots,k2 b o z hn⟩)
theorem znK {h h':Heap} {args:List Value} (x:Heap.MadeExcOf h h' e cls args):zhX h' e cls .none:=by
 obtain ⟨t,h1,_,_⟩:=x.there
 exact ⟨_,_,h1,rfl,rfl,rfl,rfl,rfl⟩
end
theorem zgh:entryFor table "proto.unchain"=some Builtin.«proto.unchain» := entryFor_of_tree (by kernel_rfl)
section
variable {prog:Program} {w:World} {A:Around} {E:Value->Shared->Prop} {s:Shared}
theorem zdU {α:Type} {a h:Addr} {o:Obj} {us:Array Value} {cls head:Value} {Q:α->Shared->Prop} (hh:A.handled=some (.ref h)) (hx:zhX s.heap h cls head) (ho:s.heap.get? a=some o) (hd:o.data= .fields us) (hz:2<us.size) (hne:h≠a)
  (q:E (.ref a) {s with heap:=s.heap.update a (Obj.mapFields (·.setIfInBounds 2 (.ref h)))}):wpAny (model prog w) A (raiseNew (.ref a):Sem α) Q E s:=by
 obtain ⟨ob,vs,h1,h2,h3,h4,h5,h6⟩:=hx
 unfold raiseNew
 refine qaW (wpAny_handled ?_)
 rw [hh]
 dsimp only
 rw [qa4 (show (Value.ref h != Value.ref a)=true by simp [hne])]
 refine qaW (qaO (wpAny_runValue (codeAny_builtin zgh ?_)))
 unfold Builtin.«proto.unchain»
 refine qaW (wpAny_field h1 h4 h5 ?_)
 rw [qa4 (show (Value.none==Value.none)=true from rfl)]
 refine qaW (qaX (qaX ?_))
 refine qaW ?_
 obtain ⟨c,d,dt,sl⟩:=o
 dsimp only at hd
 subst hd
 unfold updateField
 refine qaW (wpAny_load ho ?_)
 dsimp only
 rw [qa4 hz]
 exact wpAny_update ho (wpAny_throw q)
def zne (A:Around) (h:Heap):Prop:=A.handled=none\/ ∃ a cls head,A.handled=some (.ref a)/\zhX h a cls head
theorem zi0 {it l:Addr} {i:Nat} {items:Array Value} {Q:Option Value->Shared->Prop} (hh:zne A s.heap) (hit:s.heap.IsListIter it l i) (hl:s.heap.IsList l items) (hx:items[i]? = none)
  (k: ∀ h',Heap.ExtBut it s.heap h'->Q none {s with heap:=h'}):wpAny (model prog w) A (pyNext (.ref it)) Q E s:=by
 rcases hh with hh | ⟨ha,cls,head,hh,hX⟩
 ·exact wpAny_pyNext_list_end hh hit hl hx k
 obtain ⟨o,h1,h2,h3⟩:=id hit
 obtain ⟨ol,l1,_,nl,l2⟩:=hl
 unfold pyNext
 refine qaW (wpAny_attempt (wpAny_callSpecial?_slot (name:=Str.ofString "__next__") hit.typeIs slot_listiter_next (wpAny_call_entry slot_listiter_next hit.typeIs entry_listiter_next ?_ (args_listiter_next _))))
 show wpAny _ _ (field (.ref it) 0>>=_) _ _ s
 refine qaW (wpAny_field h1 h3 (x:= .ref l) rfl ?_)
 show wpAny _ _ (if (Value.ref l==Value.none)=true then _ else _) _ _ s
 rw [qa5 (show ¬(Value.ref l==Value.none)=true from nofun)]
 show wpAny _ _ (field (.ref it) 1>>=_) _ _ s
 refine qaW (wpAny_field h1 h3 (x:= .int i 0) rfl ?_)
 show wpAny _ _ (seqItems? (.ref l)>>=_) _ _ s
 refine qaW (wpAny_seqItems l1 l2 ?_)
 simp only [qaB,hx]
 refine qaW (wpAny_rule (qaW (wpAny_setField h1 h3 (by simp) ?_)))
 have nit:ha≠it:=fun z=>by
  subst z
  obtain ⟨ob,vs,x1,_,_,x4,x5,x6⟩:=hX
  rw [h1] at x1
  cases x1
  rw [h3] at x4
  cases x4
  simp at x5
 have hX1:zhX (s.heap.update it (Obj.mapFields (·.setIfInBounds 0 Value.none))) ha cls head:=by
  obtain ⟨ob,vs,x1,x2⟩:=hX
  exact ⟨ob,vs,(qah _ _ (Ne.symm nit)).trans x1,x2⟩
 show wpAny _ _ (newExc (.type "StopIteration") []>>=_) _ _ _
 refine qaW ?_
 simp only [newExc,newTuple]
 refine qaW (qaC ?_ (by size_fits))
 refine qaW (m:=firstArgMember _ _) (wpAny_of_eq (a:=Value.none) (by first | rfl | (simp only [firstArgMember];rfl)) ?_)
 refine qaC ?_ (by size_fits)
 obtain ⟨ob,vs,x1,x2⟩:=hX1
 have y1:=qag {cls:= .type "tuple",dict:=none,data:= .seq [].toArray} x1
 refine zdU (h:=ha) (cls:=cls) (head:=head) hh ⟨ob,vs,qag _ y1,x2⟩ (qar _ rfl) rfl (by simp;omega) (qaR (qaQ y1)) ?_
 refine qaW (wpAny_isInstance (T:="StopIteration") (b:=true) ⟨_,qal _ (qar _ rfl) rfl,rfl⟩ isSubtype_stop ?_)
 refine qaX (k _ fun b o hb z=> ?_)
 have z1:(s.heap.update it (Obj.mapFields (·.setIfInBounds 0 Value.none))).get? b=some o:=(qah _ _ (Ne.symm hb)).trans z
 have z2:=qag {cls:= .type "tuple",dict:=none,data:= .seq [].toArray} z1
 rw [qah _ _ (Nat.ne_of_gt (qaQ z2))]
 exact qag _ z2
theorem zkh {it l:Addr} {i:Nat} {items:Array Value} {Q:Option Value->Shared->Prop} (hh:zne A s.heap) (hit:s.heap.IsTupleIter it l i) (hl:s.heap.IsTuple l items) (hx:items[i]? = none)
  (k: ∀ h',Heap.ExtBut it s.heap h'->Q none {s with heap:=h'}):wpAny (model prog w) A (pyNext (.ref it)) Q E s:=by
 rcases hh with hh | ⟨ha,cls,head,hh,hX⟩
 ·exact wpAny_pyNext_tuple_end hh hit hl hx k
 obtain ⟨o,h1,h2,h3⟩:=id hit
 obtain ⟨ol,l1,_,nl,l2⟩:=hl
 unfold pyNext
 refine qaW (wpAny_attempt (wpAny_callSpecial?_slot (name:=Str.ofString "__next__") hit.typeIs F.slot_tuple_iterator_next (wpAny_call_entry F.slot_tuple_iterator_next hit.typeIs F.entry_tuple_iterator_next ?_ (F.args_tuple_iterator_next_1 _))))
 show wpAny _ _ (field (.ref it) 0>>=_) _ _ s
 refine qaW (wpAny_field h1 h3 (x:= .ref l) rfl ?_)
 show wpAny _ _ (if (Value.ref l==Value.none)=true then _ else _) _ _ s
 rw [qa5 (show ¬(Value.ref l==Value.none)=true from nofun)]
 show wpAny _ _ (field (.ref it) 1>>=_) _ _ s
 refine qaW (wpAny_field h1 h3 (x:= .int i 0) rfl ?_)
 show wpAny _ _ (seqItems? (.ref l)>>=_) _ _ s
 refine qaW (wpAny_seqItems l1 l2 ?_)
 simp only [qaB,hx]
 refine qaW (wpAny_rule (qaW (wpAny_setField h1 h3 (by simp) ?_)))
 have nit:ha≠it:=fun z=>by
  subst z
  obtain ⟨ob,vs,x1,_,_,x4,x5,x6⟩:=hX
  rw [h1] at x1
  cases x1
  rw [h3] at x4
  cases x4
  simp at x5
 have hX1:zhX (s.heap.update it (Obj.mapFields (·.setIfInBounds 0 Value.none))) ha cls head:=by
  obtain ⟨ob,vs,x1,x2⟩:=hX
  exact ⟨ob,vs,(qah _ _ (Ne.symm nit)).trans x1,x2⟩
 show wpAny _ _ (newExc (.type "StopIteration") []>>=_) _ _ _
 refine qaW ?_
 simp only [newExc,newTuple]
 refine qaW (qaC ?_ (by size_fits))
 refine qaW (m:=firstArgMember _ _) (wpAny_of_eq (a:=Value.none) (by first | rfl | (simp only [firstArgMember];rfl)) ?_)
 refine qaC ?_ (by size_fits)
 obtain ⟨ob,vs,x1,x2⟩:=hX1
 have y1:=qag {cls:= .type "tuple",dict:=none,data:= .seq [].toArray} x1
 refine zdU (h:=ha) (cls:=cls) (head:=head) hh ⟨ob,vs,qag _ y1,x2⟩ (qar _ rfl) rfl (by simp;omega) (qaR (qaQ y1)) ?_
 refine qaW (wpAny_isInstance (T:="StopIteration") (b:=true) ⟨_,qal _ (qar _ rfl) rfl,rfl⟩ isSubtype_stop ?_)
 refine qaX (k _ fun b o hb z=> ?_)
 have z1:(s.heap.update it (Obj.mapFields (·.setIfInBounds 0 Value.none))).get? b=some o:=(qah _ _ (Ne.symm hb)).trans z
 have z2:=qag {cls:= .type "tuple",dict:=none,data:= .seq [].toArray} z1
 rw [qah _ _ (Nat.ne_of_gt (qaQ z2))]
 exact qag _ z2
theorem zhl {it:Addr} {x left step:Int} {Q:Option Value->Shared->Prop} (hh:zne A s.heap) (hit:IsRangeIter s.heap it x left step) (hleft:left<=0)
  (k: ∀ h',Heap.ExtBut it s.heap h'->Q none {s with heap:=h'}):wpAny (model prog w) A (pyNext (.ref it)) Q E s:=by
 rcases hh with hh | ⟨ha,cls,head,hh,hX⟩
 ·exact wpAny_pyNext_range_end hh hit hleft k
 have hT:s.TypeIs (.ref it) "range_iterator":=⟨_,hit,rfl⟩
 unfold pyNext
 refine qaW (wpAny_attempt (wpAny_callSpecial?_slot (name:=Str.ofString "__next__") hT F.slot_range_iterator_next (wpAny_call_entry F.slot_range_iterator_next hT F.entry_range_iterator_next ?_ (F.args_range_iterator_next_1 _))))
 show wpAny _ _ (field (.ref it) 0>>=_) _ _ s
 refine qaW (wpAny_field hit rfl (x:=rawInt x) rfl ?_)
 show wpAny _ _ (field (.ref it) 1>>=_) _ _ s
 refine qaW (wpAny_field hit rfl (x:=rawInt left) rfl ?_)
 show wpAny _ _ (field (.ref it) 2>>=_) _ _ s
 refine qaW (wpAny_field hit rfl (x:=rawInt step) rfl ?_)
 show wpAny _ _ (if left<=0 then _ else _) _ _ s
 rw [qa4 hleft]
 refine qaW (wpAny_rule (qaW ?_))
 show wpAny _ _ (newExc (.type "StopIteration") []>>=_) _ _ _
 refine qaW ?_
 simp only [newExc,newTuple]
 refine qaW (qaC ?_ (by size_fits))
 refine qaW (m:=firstArgMember _ _) (wpAny_of_eq (a:=Value.none) (by first | rfl | (simp only [firstArgMember];rfl)) ?_)
 refine qaC ?_ (by size_fits)
 obtain ⟨ob,vs,x1,x2⟩:=hX
 have y1:=qag {cls:= .type "tuple",dict:=none,data:= .seq [].toArray} x1
 refine zdU (h:=ha) (cls:=cls) (head:=head) hh ⟨ob,vs,qag _ y1,x2⟩ (qar _ rfl) rfl (by simp;omega) (qaR (qaQ y1)) ?_
 refine qaW (wpAny_isInstance (T:="StopIteration") (b:=true) ⟨_,qal _ (qar _ rfl) rfl,rfl⟩ isSubtype_stop ?_)
 refine qaX (k _ fun b o hb z=> ?_)
 have z2:=qag {cls:= .type "tuple",dict:=none,data:= .seq [].toArray} z
 rw [qah _ _ (Nat.ne_of_gt (qaQ z2))]
 exact qag _ z2
theorem zhX.keep {h h':Heap} {a:Addr} {cls head:Value} (x:zhX h a cls head) (k: ∀ o,h.get? a=some o->h'.get? a=some o):zhX h' a cls head:=by
 obtain ⟨ob,vs,x1,x2⟩:=x
 exact ⟨ob,vs,k _ x1,x2⟩
theorem zjq {ha:Addr} {cls head:Value} (hh:A.handled=some (.ref ha)) (I ax:Addr) (hne:ax≠I) (hn2:ha≠I) (items:Array Value):
  Walks prog w A I [I,ax,ha] [I] items.size (fun i v=>items[i]? = some v) (fun i h=>h.IsListIter I ax i/\h.IsList ax items/\zhX h ha cls head) where
 sub:=fun b hb=>by simp at hb;simp [hb]
 frame:=fun _ _ _ st hk=>⟨st.1.at fun o e=>hk I (by simp) o e,st.2.1.at fun o e=>hk ax (by simp) o e,st.2.2.keep fun o e=>hk ha (by simp) o e⟩
 item:=fun i s Q E hi st hQ=>by
  refine wpAny_pyNext_list_item st.1 st.2.1 (x:=items[i]) (by simp [hi]) fun h' hit' hs'=> ?_
  exact hQ _ h' s.toks (by simp [hi]) ⟨hit',st.2.1.extBut hs'.extBut hne,st.2.2.keep fun o e=>hs'.extBut ha o hn2 e⟩ fun b o hb e=>hs'.extBut b o (fun h=>hb (by simp [h])) e
 done:=fun s Q E st hQ=>zi0 (.inr ⟨ha,cls,head,hh,st.2.2⟩) st.1 st.2.1 (by simp) fun h' he'=>hQ h' s.toks fun b o hb e=>he' b o (fun h=>hb (by simp [h])) e
 self:=fun _ _ _ _ st hQ=>wpAny_pyIter_listiter st.1 hQ
end
end L3
namespace L2
open PySem PySem.Spec PyProof.Rows
noncomputable abbrev Key:=Sum Int Str
noncomputable def zjU:Key->Value->Bool
 | .inl k,v=>Value.isInt k v
 | .inr x,v=>Value.isStrOf x v
noncomputable def zvD (w:World):Key->Int
 | .inl k=>hashInt k
 | .inr x=>hashStr w x
theorem zaS: ∀ {k:Key} {v:Value},zjU k v=true->(∃ i t,k=Sum.inl i/\v=Value.int i t)\/(∃ x t,k=Sum.inr x/\v=Value.str x t)
 | .inl i,v,h=>by
  obtain ⟨t,e⟩:=Value.isInt_shape (k:=i) (v:=v) h
  exact .inl ⟨i,t,rfl,e⟩
 | .inr x,v,h=>by
  obtain ⟨t,e⟩:=Value.isStrOf_shape (x:=x) (v:=v) h
  exact .inr ⟨x,t,rfl,e⟩
theorem zlV (i:Int) (t:Tok):zjU (.inl i) (.int i t)=true:=by simp [zjU,Value.isInt]
theorem zkn (x:Str) (t:Tok):zjU (.inr x) (.str x t)=true:=by simp [zjU,Value.isStrOf]
theorem zrd (a b:Int):decide ((Sum.inl a:Key)=Sum.inl b)=(a==b):=by
 by_cases e:a=b
 ·subst e;simp
 ·have h: ¬(Sum.inl a:Key)=Sum.inl b:=fun q=>e (Sum.inl.inj q)
  rw [decide_eq_false h]
  exact (beq_eq_false_iff_ne.mpr e).symm
theorem zsY (a b:Str):decide ((Sum.inr a:Key)=Sum.inr b)=decide (a=b):=by
 by_cases e:a=b
 ·subst e;simp
 ·have h: ¬(Sum.inr a:Key)=Sum.inr b:=fun q=>e (Sum.inr.inj q)
  rw [decide_eq_false h,decide_eq_false e]
theorem zrc (a:Int) (b:Str):decide ((Sum.inl a:Key)=Sum.inr b)=false:=decide_eq_false (fun q=>nomatch q)
theorem zsg (a:Str) (b:Int):decide ((Sum.inr a:Key)=Sum.inl b)=false:=decide_eq_false (fun q=>nomatch q)
noncomputable def zd3 (prog:Program) (w:World):PySem.KeyKind prog w Key where
 is:=zjU
 hash:=zvD w
 inj:=fun v a b ha hb=>by
  rcases zaS ha with ⟨i,t,rfl,rfl⟩ | ⟨x,t,rfl,rfl⟩
  ·rcases zaS hb with ⟨j,u,rfl,e⟩ | ⟨y,u,rfl,e⟩
   ·injection e with e1 _;rw [e1]
   ·exact nomatch e
  ·rcases zaS hb with ⟨j,u,rfl,e⟩ | ⟨y,u,rfl,e⟩
   ·exact nomatch e
   ·injection e with e1 _;rw [e1]
 byValue:=fun k v h=>by
  rcases zaS h with ⟨i,t,rfl,rfl⟩ | ⟨x,t,rfl,rfl⟩<;>rfl
 pyHash:=fun hv h=>by
  rcases zaS hv with ⟨i,t,rfl,rfl⟩ | ⟨x,t,rfl,rfl⟩
  ·exact wpAny_pyHash_int h
  ·exact wpAny_pyHash_str h
 eqBool:=fun hu hv h=>by
  rcases zaS hu with ⟨i,t,rfl,rfl⟩ | ⟨x,t,rfl,rfl⟩
  ·rcases zaS hv with ⟨j,u,rfl,rfl⟩ | ⟨y,u,rfl,rfl⟩
   ·rw [zrd] at h;exact wpAny_eqBool_int h
   ·rw [zrc] at h;exact SeqAt.EqAt.int_str i t y u _ _ _ _ h
  ·rcases zaS hv with ⟨j,u,rfl,rfl⟩ | ⟨y,u,rfl,rfl⟩
   ·rw [zsg] at h;exact SeqAt.EqAt.str_int x t j u _ _ _ _ h
   ·rw [zsY] at h;exact wpAny_eqBool_str h
 «strs» := fun k x t v h=>by
  rcases zaS h with ⟨i,u,rfl,e⟩ | ⟨y,u,rfl,e⟩
  ·exact nomatch e
  ·injection e with e1 _
   subst e1
   cases v<;>rfl
theorem zis (prog:Program) (w:World) (i:Int) (t:Tok):(zd3 prog w).is (.inl i) (.int i t)=true:=zlV i t
theorem zhW (prog:Program) (w:World) (x:Str) (t:Tok):(zd3 prog w).is (.inr x) (.str x t)=true:=zkn x t
inductive V where
 | non | bl (b:Bool) | int (i:Int) | str (x:Str) | byt (b:Array UInt8) | flt (b:UInt64) | ref (a:Addr) | ty (n:String)
 deriving DecidableEq
noncomputable def zbl:V->Value->Prop
 | .non,u=>u=Value.none
 | .bl b,u=>u=Value.bool b
 | .int i,u=> ∃ t,u=Value.int i t
 | .str x,u=> ∃ t,u=Value.str x t
 | .byt b,u=> ∃ t,u=Value.bytes b t
 | .flt b,u=> ∃ t,u=Value.float b t
 | .ref a,u=>u=Value.ref a
 | .ty n,u=>u=Value.type n
noncomputable abbrev zaK:List V->List Value->Prop:=Paired zbl
theorem zaK.length {xs:List V} {us:List Value} (r:zaK xs us):xs.length=us.length:=Paired.length r
theorem zaK.get: ∀ {xs:List V} {us:List Value} {i:Nat} {x:V},zaK xs us->xs[i]? = some x-> ∃ u,us[i]? = some u/\zbl x u
 | _,_,_,_,.nil,e=>by simp at e
 | _,_,0,_,.cons r _,e=>by simp at e;subst e;exact ⟨_,rfl,r⟩
 | _,_,i+1,x,.cons _ t,e=>by
  obtain ⟨u,h1,h2⟩:=zaK.get (i:=i) (x:=x) t (by simpa using e)
  exact ⟨u,by simpa using h1,h2⟩
theorem zaK.set {x:V} {u:Value} (r:zbl x u): ∀ {xs:List V} {us:List Value} (i:Nat),zaK xs us->zaK (xs.set i x) (us.set i u)
 | _,_,_,.nil=> .nil
 | _,_,0,.cons _ t=> .cons r t
 | _,_,i+1,.cons q t=> .cons q (zaK.set r i t)
theorem zaK.append: ∀ {xs ys:List V} {us ws:List Value},zaK xs us->zaK ys ws->zaK (xs++ys) (us++ws)
 | _,_,_,_,.nil,s=>s
 | _,_,_,_,.cons r t,s=> .cons r (zaK.append t s)
theorem zaK.take: ∀ {xs:List V} {us:List Value} (n:Nat),zaK xs us->zaK (xs.take n) (us.take n)
 | _,_,0,_=> .nil
 | _,_,_+1,.nil=> .nil
 | _,_,n+1,.cons r t=> .cons r (zaK.take n t)
theorem zaK.drop: ∀ {xs:List V} {us:List Value} (n:Nat),zaK xs us->zaK (xs.drop n) (us.drop n)
 | _,_,0,r=>r
 | _,_,_+1,.nil=> .nil
 | _,_,n+1,.cons _ t=>zaK.drop n t
noncomputable def zuH:Option V->Option Value->Prop
 | some v,some u=>zbl v u
 | none,none=>True
 | _,_=>False
noncomputable def KV {κ:Type}:List (κ×V)->List (κ×Value)->Prop:=Paired fun (p:κ×V) (q:κ×Value)=>p.1=q.1/\zbl p.2 q.2
noncomputable def kV:Key->V
 | .inl i=> .int i
 | .inr x=> .str x
inductive HO where
 | lst (xs:List V)
 | tup (xs:List V)
 | dK (kvs:List (Key×V)) | dT (kvs:List (List Key×V))
 | set (S:Int->Bool) (n:Nat)
 | ins (C dx:Addr) (fs:List (Str×V))
 | own (x:Addr)
 | xd (fs:List (Str×V))
 | met (f x:Addr)
 | rng (lo hi:Int)
 | frz (o:Obj) (u:HO)
 | tbl (ps:Array Value)
 | ext (φ:Heap->Prop)
noncomputable abbrev Hp:=Addr->Option HO
noncomputable def upd (H:Hp) (a:Addr) (o:HO):Hp:=fun b=>if b=a then some o else H b
theorem zaC {H:Hp} {a:Addr} {o:HO}:upd H a o a=some o:=by unfold upd;rw [qa4 rfl]
theorem zat {H:Hp} {a b:Addr} {o:HO} (h:b≠a):upd H a o b=H b:=by unfold upd;rw [qa5 h]
theorem zaE {H:Hp} {a b:Addr} {o:HO} (h:H a=some o) (h':H b=none):a≠b:=by
 intro e;subst e;rw [h] at h';cases h'
section
variable (P:Program) (w:World)
noncomputable def zbo (H:Hp) (h:Heap) (a:Addr):HO->Prop
 | .lst xs=>xs.length<=sizeLine/\ ∃ (its:List Value) (n:Nat),zaK xs its/\h.get? a=some {cls:= .type "list",data:= .seq its.toArray n}
 | .tup xs=>xs.length<=sizeLine/\ ∃ its:List Value,zaK xs its/\IsTup h a its.toArray
 | .dK kvs=>kvs.length<=sizeLine/\(a==sysModules)=false/\ ∃ vs,KV kvs vs/\h.DictOf (zd3 P w) a vs
 | .dT kvs=>kvs.length<=sizeLine/\(a==sysModules)=false/\ ∃ xs:List (List Key×Addr×Value),
   Paired (fun (p:List Key×V) (q:List Key×Addr×Value)=>p.1=q.1/\H q.2.1=some (.tup (p.1.map kV))/\zbl p.2 q.2.2) kvs xs/\
   ∃ o es ep,h.get? a=some o/\o.ExactDict/\o.data= .dict es ep/\es.toList=xs.map (entryOfKey (tupleKind (zd3 P w)))/\(xs.map (·.1)).Nodup
 | .set S n=>h.SetOf (intKind P w) a S n
 | .ins C dx fs=>H dx=some (.own a)/\fs.length<=1000/\dx≠a/\h.get? a=some (W.instObj C dx)/\
   ∃ mA,h.Ns1 dx mA/\(∀ f,zuH (fs.lookup f) (mA f))/\PySem.Within mA (fs.map (·.1))
 | .own _=> ∃ o,h.get? a=some o
 | .xd fs=> ∃ mA,h.Ns1 a mA/\ ∀ f,zuH (fs.lookup f) (mA f)
 | .rng lo hi=> ∃ t u v,h.get? a=some {cls:= .type "range",data:= .fields #[.int lo t,.int hi u,.int 1 v]}
 | .frz o u=>h.get? a=some o/\zbo H h a u
 | .tbl ps=>h.get? a=some {cls:= .none,data:= .fields ps}
 | .met f x=>h.get? a=some (W.methodObj (.ref f) (.ref x))
 | .ext φ=>φ h/\(∃ o,h.get? a=some o)/\ ∀ h1 h2:Heap,φ h1->(∀ o,h1.get? a=some o->h2.get? a=some o)->φ h2
def HOk (H:Hp) (h:Heap):Prop:= ∀ a o,H a=some o->zbo P w H h a o
end
section
variable {P:Program} {w:World} {H H':Hp} {h h':Heap} {a:Addr} {o:HO}
theorem zbo.lt (x:zbo P w H h a o):a<h.objs.size:=by
 cases o with
 | lst xs=>obtain ⟨_,_,_,_,e⟩:=x;exact qaQ e
 | tup xs=>obtain ⟨_,_,_,p⟩:=x;exact p.lt
 | dK kvs=>obtain ⟨_,_,_,_,o,_,_,e,_⟩:=x;exact qaQ e
 | dT kvs=>obtain ⟨_,_,_,_,o,_,_,e,_⟩:=x;exact qaQ e
 | set S n=>obtain ⟨o,_,_,_,e,_⟩:=x;exact qaQ e
 | ins C dx fs=>obtain ⟨_,_,_,e,_⟩:=x;exact qaQ e
 | own y=>obtain ⟨_,e⟩:=x;exact qaQ e
 | xd fs=>obtain ⟨_,⟨_,_,_,e,_⟩,_⟩:=x;exact qaQ e
 | rng lo hi=>obtain ⟨_,_,_,e⟩:=x;exact qaQ e
 | frz ob u=>obtain ⟨e,_⟩:=x;exact qaQ e
 | tbl ps=>exact qaQ (show h.get? a=some _ from x)
 | met f y=>exact qaQ (show h.get? a=some _ from x)
 | ext φ=>obtain ⟨_,⟨_,e⟩,_⟩:=x;exact qaQ e
theorem Paired.mapP {α β:Type} {F G:α->β->Prop}: ∀ {l₁:List α} {l₂:List β},Paired F l₁ l₂->(∀ a b,F a b->G a b)->Paired G l₁ l₂
 | _,_,.nil,_=> .nil
 | _,_,.cons r t,f=> .cons (f _ _ r) (Paired.mapP t f)
theorem zbo.stay (x:zbo P w H h a o) (k: ∀ b u,(b=a\/H b=some (.own a))->h.get? b=some u->h'.get? b=some u)
  (ho: ∀ b,H b=some (.own a)->H' b=some (.own a)) (ht: ∀ b xs,H b=some (.tup xs)->H' b=some (.tup xs)):zbo P w H' h' a o:=by
 induction o with
 | lst xs=>obtain ⟨z,its,n,r,e⟩:=x;exact ⟨z,its,n,r,k _ _ (.inl rfl) e⟩
 | tup xs=>obtain ⟨z,its,r,ob,e,c⟩:=x;exact ⟨z,its,r,ob,k _ _ (.inl rfl) e,c⟩
 | dK kvs=>obtain ⟨z,y,vs,r,ob,es,ep,e,c⟩:=x;exact ⟨z,y,vs,r,ob,es,ep,k _ _ (.inl rfl) e,c⟩
 | dT kvs=>
  obtain ⟨z,y,xs,r,ob,es,ep,e,c⟩:=x
  exact ⟨z,y,xs,Paired.mapP r fun p q z=>⟨z.1,ht _ _ z.2.1,z.2.2⟩,ob,es,ep,k _ _ (.inl rfl) e,c⟩
 | set S n=>obtain ⟨ob,es,ep,t,e,c⟩:=x;exact ⟨ob,es,ep,t,k _ _ (.inl rfl) e,c⟩
 | ins C dx fs=>
  obtain ⟨d,z,ne,e,mA,⟨od,es,ep,e2,c⟩,r⟩:=x
  exact ⟨ho _ d,z,ne,k _ _ (.inl rfl) e,mA,⟨od,es,ep,k _ _ (.inr d) e2,c⟩,r⟩
 | own y=>obtain ⟨ob,e⟩:=x;exact ⟨ob,k _ _ (.inl rfl) e⟩
 | xd fs=>obtain ⟨mA,⟨od,es,ep,e,c⟩,r⟩:=x;exact ⟨mA,⟨od,es,ep,k _ _ (.inl rfl) e,c⟩,r⟩
 | rng lo hi=>obtain ⟨t,u,v,e⟩:=x;exact ⟨t,u,v,k _ _ (.inl rfl) e⟩
 | frz ob u ih=>obtain ⟨e,q⟩:=x;exact ⟨k _ _ (.inl rfl) e,ih q⟩
 | tbl ps=>
  have e:h.get? a=some {cls:= .none,data:= .fields ps}:=x
  show h'.get? a=some {cls:= .none,data:= .fields ps}
  exact k a _ (.inl rfl) e
 | met f y=>
  have e:h.get? a=some (W.methodObj (.ref f) (.ref y)):=x
  show h'.get? a=some (W.methodObj (.ref f) (.ref y))
  exact k a _ (.inl rfl) e
 | ext φ=>obtain ⟨p,⟨o,e⟩,st⟩:=x;exact ⟨st _ _ p fun o q=>k _ _ (.inl rfl) q,⟨o,k _ _ (.inl rfl) e⟩,st⟩
theorem HOk.lt (x:HOk P w H h) (e:H a=some o):a<h.objs.size:=(x a o e).lt
theorem HOk.fresh (x:HOk P w H h) (e:h.objs.size<=a):H a=none:=by
 cases q:H a with
 | none=>rfl
 | some u=>exact absurd (qaw (x.lt q) e) (qaN _)
theorem HOk.kept (x:HOk P w H h) (k: ∀ b u,h.get? b=some u->h'.get? b=some u):HOk P w H h':=fun a o e=>
 (x a o e).stay (fun b u _ q=>k b u q) (fun _ q=>q) fun _ _ q=>q
theorem HOk.laid (x:HOk P w H h) (k: ∀ b u,h.get? b=some u->h'.get? b=some u) (hp:h.objs.size<=a) (new:zbo P w (upd H a o) h' a o):HOk P w (upd H a o) h':=fun b u e=>by
 have hn:=x.fresh hp
 by_cases hb:b=a
 ·subst hb;rw [zaC] at e;cases e;exact new
 ·rw [zat hb] at e
  exact (x b u e).stay (fun c v _ q=>k c v q) (fun c q=>by rw [zat (zaE q hn)];exact q) fun c xs q=>by rw [zat (zaE q hn)];exact q
end
def Rd (H:Hp) (a:Addr) (u:HO):Prop:=H a=some u\/ ∃ o,H a=some (.frz o u)
theorem Rd.of {H:Hp} {a:Addr} {u:HO} (h:H a=some u):Rd H a u:= .inl h
theorem Rd.ok {P:Program} {w:World} {H:Hp} {h:Heap} {a:Addr} {u:HO} (r:Rd H a u) (x:HOk P w H h):zbo P w H h a u:=by
 rcases r with r | ⟨o,r⟩
 ·exact x a u r
 ·obtain ⟨_,q⟩:=x a _ r
  exact q
noncomputable def Mut:Option HO->Prop
 | some (.lst _)=>True
 | some (.dK _)=>True
 | some (.dT _)=>True
 | some (.set _ _)=>True
 | some (.ins _ _ _)=>True
 | some (.ext _)=>True
 | _=>False
section
variable {P:Program} {w:World} {H:Hp} {h h':Heap} {x e:Addr} {o':HO}
theorem HOk.write (ok:HOk P w H h) (mu:Mut (H x)) (he:e=x\/H e=some (.own x)) (k: ∀ b u,b≠e->h.get? b=some u->h'.get? b=some u) (heo: ∃ u,h'.get? e=some u)
  (new:zbo P w (upd H x o') h' x o'):HOk P w (upd H x o') h':=fun b u q=>by
 have nown: ∀ c y,H c=some (.own y)->c≠x:=fun c y r z=>by subst z;rw [r] at mu;exact mu
 have ntup: ∀ c xs,H c=some (.tup xs)->c≠x:=fun c xs r z=>by subst z;rw [r] at mu;exact mu
 by_cases hb:b=x
 ·subst hb;rw [zaC] at q;cases q;exact new
 ·rw [zat hb] at q
  by_cases hbe:b=e
  ·have q':H b=some (.own x):=by
    rcases he with z | z
    ·exact absurd (hbe.trans z) hb
    ·rw [hbe];exact z
   rw [q] at q';cases q'
   obtain ⟨v,hv⟩:=heo
   exact ⟨v,by rw [hbe];exact hv⟩
  ·refine (ok b u q).stay (fun c v hc r=>k c v ?_ r) (fun c r=>by rw [zat (nown c b r)];exact r) fun c xs r=>by rw [zat (ntup c xs r)];exact r
   rcases hc with rfl | hc
   ·exact hbe
   ·rintro rfl
    rcases he with z | z
    ·exact nown c b hc z
    ·rw [hc] at z;cases z;exact hb rfl
end
structure Un (fs ex:List Addr) (H H':Hp) (h h':Heap):Prop where
 keep: ∀ b o,h.get? b=some o->H b=none->b∉fs->b∉ex->h'.get? b=some o
 slot: ∀ b o,h.get? b=some o->H b=none->b∈fs->b∉ex-> ∃ sl,h'.get? b=some {o with slots:=sl}
 free: ∀ b o,h.get? b=some o->H b=none->b∉ex->H' b=none
 there: ∀ b o,h.get? b=some o->b∉ex-> ∃ o',h'.get? b=some o'
 tups: ∀ b xs,H b=some (.tup xs)->H' b=some (.tup xs)
 frzs: ∀ b o u,H b=some (.frz o u)->H' b=some (.frz o u)
 tbls: ∀ b ps,H b=some (.tbl ps)-> ∃ more,H' b=some (.tbl (ps++more))
section
variable {fs fs' ex ex':List Addr} {H H1 H2:Hp} {h h1 h2 h':Heap} {a x e:Addr} {o:HO}
theorem Un.any (u:Un fs ex H H1 h h1) {b:Addr} {ob:Obj} (q:h.get? b=some ob) (n:H b=none) (hx:b∉ex): ∃ sl,h1.get? b=some {ob with slots:=sl}:=by
 by_cases hb:b∈fs
 ·exact u.slot b ob q n hb hx
 ·exact ⟨ob.slots,u.keep b ob q n hb hx⟩
theorem Un.trans (a:Un fs ex H H1 h h1) (b:Un fs ex H1 H2 h1 h2):Un fs ex H H2 h h2 where
 keep:=fun c ob q n hc hx=>b.keep c ob (a.keep c ob q n hc hx) (a.free c ob q n hx) hc hx
 slot:=fun c ob q n hc hx=>by
  obtain ⟨sl,e1⟩:=a.slot c ob q n hc hx
  obtain ⟨sl',e2⟩:=b.slot c _ e1 (a.free c ob q n hx) hc hx
  exact ⟨sl',e2⟩
 free:=fun c ob q n hx=>by
  obtain ⟨o',e1⟩:=a.there c ob q hx
  exact b.free c o' e1 (a.free c ob q n hx) hx
 there:=fun c ob q hx=>by
  obtain ⟨o',e1⟩:=a.there c ob q hx
  exact b.there c o' e1 hx
 tups:=fun c xs q=>b.tups c xs (a.tups c xs q)
 frzs:=fun c ob xs q=>b.frzs c ob xs (a.frzs c ob xs q)
 tbls:=fun c ps q=>by
  obtain ⟨m1,e1⟩:=a.tbls c ps q
  obtain ⟨m2,e2⟩:=b.tbls c _ e1
  exact ⟨m1++m2,by rw [e2,Array.append_assoc]⟩
theorem Un.kept (k: ∀ b u,h.get? b=some u->h'.get? b=some u):Un fs ex H H h h':=
 ⟨fun b ob q _ _ _=>k b ob q,fun b ob q _ _ _=>⟨ob.slots,k b ob q⟩,fun _ _ _ n _=>n,fun b ob q _=>⟨ob,k b ob q⟩,fun _ _ q=>q,fun _ _ _ q=>q,fun _ ps q=>⟨#[],by rw [q];simp⟩⟩
theorem Un.refl:Un fs ex H H h h:=Un.kept fun _ _ q=>q
theorem Un.laid (k: ∀ b u,h.get? b=some u->h'.get? b=some u) (hp:h.objs.size<=a) (hn:H a=none):Un fs ex H (upd H a o) h h' where
 keep:=fun b u q _ _ _=>k b u q
 slot:=fun b u q _ _ _=>⟨u.slots,k b u q⟩
 free:=fun b u q n _=>by rw [zat (qaR (qaw (qaQ q) hp))];exact n
 there:=fun b u q _=>⟨u,k b u q⟩
 tups:=fun b xs q=>by rw [zat (zaE q hn)];exact q
 frzs:=fun b u xs q=>by rw [zat (zaE q hn)];exact q
 tbls:=fun b ps q=>⟨#[],by rw [zat (zaE q hn),q];simp⟩
theorem Un.write (mu:Mut (H x)) (he:e=x\/H e=some (.own x)) (k: ∀ b u,b≠e->h.get? b=some u->h'.get? b=some u) (heo: ∃ u,h'.get? e=some u):Un fs ex H (upd H x o) h h':=by
 have hx: ∀ b,H b=none->b≠x:=fun b n z=>by subst z;rw [n] at mu;exact mu
 have hb: ∀ b,H b=none->b≠e:=fun b n z=>by
  subst z
  rcases he with r | r
  ·exact hx b n r
  ·rw [n] at r;cases r
 have hm: ∀ b u,H b=some u-> ¬Mut (some u)->b≠x:=fun b u q nm z=>by subst z;rw [q] at mu;exact nm mu
 refine ⟨fun b u q n _ _=>k b u (hb b n) q,fun b u q n _ _=>⟨u.slots,k b u (hb b n) q⟩,fun b u q n _=>by rw [zat (hx b n)];exact n,fun b u q _=> ?_,
   fun b xs q=>by rw [zat (hm b _ q fun z=>z)];exact q,fun b u xs q=>by rw [zat (hm b _ q fun z=>z)];exact q,fun b ps q=>⟨#[],by rw [zat (hm b _ q fun z=>z),q];simp⟩⟩
 by_cases hbe:b=e
 ·subst hbe;exact heo
 ·exact ⟨u,k b u hbe q⟩
theorem Un.mono (u:Un fs ex H H1 h h1) (hs: ∀ b∈fs,b∈fs') (hx: ∀ b∈ex,b∈ex'):Un fs' ex' H H1 h h1:=
 ⟨fun b ob q n hb he=>u.keep b ob q n (fun z=>hb (hs b z)) fun z=>he (hx b z),fun _ _ q n _ he=>u.any q n fun z=>he (hx _ z),fun b ob q n he=>u.free b ob q n fun z=>he (hx b z),fun b ob q he=>u.there b ob q fun z=>he (hx b z),u.tups,u.frzs,u.tbls⟩
end
noncomputable def trk (h:Heap) (H:Hp):List Addr:=(List.range h.objs.size).filter fun a=>(H a).isSome
noncomputable def zm6 (h:Heap) (H:Hp):Heap:=W.hideAll h (trk h H)
theorem zkV (h:Heap) (H:Hp):(zm6 h H).objs.size=h.objs.size:=W.hideAll_size _ _
theorem zmA {h:Heap} {H:Hp} {b:Addr} {o:Obj} (e:h.get? b=some o) (n:H b=none):(zm6 h H).get? b=some o:=
 W.hideAll_get _ e fun hm=>by
  have q:(H b).isSome=true:=(List.mem_filter.mp hm).2
  rw [n] at q;simp at q
theorem zqy {h:Heap} {H:Hp} {b:Addr} {o:Obj} (e:(zm6 h H).get? b=some o):h.get? b=some o/\H b=none:=by
 have e':h.get? b=some o:=W.of_hideAll (trk h H) e
 refine ⟨e',?_⟩
 cases q:H b with
 | none=>rfl
 | some x=>
  have hm:b∈trk h H:=List.mem_filter.mpr ⟨List.mem_range.mpr (qaQ e'),by simp [q]⟩
  have z:(zm6 h H).get? b=none:=W.hideAll_none (trk h H) hm
  rw [z] at e;cases e
noncomputable def zo3 (g h:Heap) (L:Addr):List (Addr×Obj):=(List.range h.objs.size).filterMap fun a=>if a=L\/(g.get? a).isSome=true then none else (h.get? a).map fun o=>(a,o)
noncomputable def rest (g h:Heap) (L d:Addr):List (Addr×Obj):=(zo3 g h L).filter fun p=>decide (p.1≠d)
structure Mod (K:W.Frag) (mg:Str->Option Value) (base:Heap):Prop where
 kin:K.In base
 glob:base.Ns mainGlobals mg
 blt: ∃ mb,base.Ns builtinsNs mb/\ ∀ x:Str,x≠"__name__"->mb x=bootBuiltins x
 nolimit:base.NoLimit
structure Cx where
 prog:Program
 w:World
 K:W.Frag
 mg:Str->Option Value
 base:Heap
 A:Around
 N:List Str
 s₀:Shared
 H₀:Hp
 env:Env
 outer:List Env
 stack:List Env
 ex:List Addr
 fn:Str->Bool
 calm:Bool
 pn:List (Addr×Obj)
 xe:Value->Shared->Prop
noncomputable def frs (l:List Env):List Addr:=l.filterMap (·.frame)
noncomputable abbrev Cx.fs (X:Cx):List Addr:=frs X.outer
def Vis (sc:Scope) (x:Str):Prop:=sc.names.lookup x=some .local\/sc.names.lookup x=some .cell\/sc.names.lookup x=some .free
def Loc (sc:Scope) (x:Str):Prop:=sc.names.lookup x=some .local\/sc.names.lookup x=some .cell
def zve (env:Env) (h:Heap) (m:Str->Option Value) (x:Str) (u:Value):Prop:=
 (env.kindOf x=some .local/\m x=some u)\/((env.kindOf x=some .cell\/env.kindOf x=some .free)/\ ∃ c,env.cells.lookup x=some c/\h.IsCell c (some u))
def zhc (A:Around) (H:Hp):Prop:=A.handled=none\/ ∃ a o cls head vs,A.handled=some (.ref a)/\H a=some (.frz o (.own 0))/\o.cls=cls/\o.dict=none/\o.data= .fields vs/\vs[2]? = some .none/\vs[1]? = some head
structure Cx.Ok (X:Cx):Prop where
 mod:Mod X.K X.mg X.base
 kind:X.env.scope.kind= .function
 glob:X.env.globals=mainGlobals
 blt:X.env.builtins=builtinsNs
 above:X.s₀.heap.objs.size<=X.env.locals
 inj: ∀ x y c,X.env.cells.lookup x=some c->X.env.cells.lookup y=some c->x=y
 has: ∀ x,(X.env.kindOf x=some .cell\/X.env.kindOf x=some .free)-> ∃ c,X.env.cells.lookup x=some c
 cab: ∀ x c,X.fn x=true->X.env.cells.lookup x=some c->X.s₀.heap.objs.size<=c
 hd:X.calm=true->X.A.handled=none
 hx:zhc X.A X.H₀
 frames:X.A.frames=some X.stack
 stk:X.stack=X.outer\/(X.stack=X.env::X.outer/\X.env.frame=some X.env.locals)
 exf: ∀ b∈X.ex,b≠X.env.locals/\ ∀ x c,X.env.cells.lookup x=some c->c≠b
 bs: ∀ b o,X.base.get? b=some o->X.s₀.heap.get? b=some o/\X.H₀ b=none
 bsz:X.base.objs.size<=X.s₀.heap.objs.size
 noex: ∀ b o,X.base.get? b=some o->b∉X.ex
 exfs: ∀ b∈X.ex,b∉X.fs
 funs:X.s₀.heap.FunFrames X.base X.outer
 frf: ∀ b∈X.fs,X.H₀ b=none
structure Inv (X:Cx) (pins:List (Addr×Obj)) (σ:List (Option V)) (H:Hp) (s:Shared):Prop where
 ok:X.Ok
 os:s.os=X.s₀.os
 bare:AllBare s.gens
 base:Un X.fs X.ex X.H₀ H X.s₀.heap s.heap
 loc: ∃ m,s.heap.Ns X.env.locals m/\ ∀ (i:Nat) (x:Str) (v:V),X.N[i]? = some x->σ[i]? = some (some v)->Vis X.env.scope x-> ∃ u,zbl v u/\zve X.env s.heap m x u
 cell: ∀ x c,X.env.cells.lookup x=some c-> ∃ v,s.heap.IsCell c v
 free:H X.env.locals=none
 freeC: ∀ x c,X.env.cells.lookup x=some c->H c=none
 pin: ∀ p∈X.pn++pins,s.heap.get? p.1=some p.2/\H p.1=none/\p.1≠X.env.locals/\p.1∉X.fs/\ ∀ v,p.2.data≠ .cell v
 hok:HOk X.prog X.w H s.heap
 len:σ.length=X.N.length
section
variable {X:Cx} {pins:List (Addr×Obj)} {σ:List (Option V)} {H H':Hp} {s:Shared} {h':Heap}
theorem Cx.Ok.nofr (ok:X.Ok) {b:Addr} {o:Obj} (e:X.base.get? b=some o):b∉X.fs:=fun hb=>by
 have:=(ok.funs.mem hb).1
 rw [e] at this;cases this
theorem Inv.bs (I:Inv X pins σ H s): ∀ b o,X.base.get? b=some o->s.heap.get? b=some o/\H b=none:=fun b o e=>
 ⟨I.base.keep b o (I.ok.bs b o e).1 (I.ok.bs b o e).2 (I.ok.nofr e) (I.ok.noex b o e),I.base.free b o (I.ok.bs b o e).1 (I.ok.bs b o e).2 (I.ok.noex b o e)⟩
theorem Inv.bk (I:Inv X pins σ H s): ∀ b o,X.base.get? b=some o->s.heap.get? b=some o:=fun b o e=>(I.bs b o e).1
theorem Inv.mod (I:Inv X pins σ H s):Mod X.K X.mg X.base:=I.ok.mod
theorem Inv.kIn (I:Inv X pins σ H s):X.K.In s.heap:=I.ok.mod.kin.keeps I.bk
theorem Inv.nolimit (I:Inv X pins σ H s):s.heap.NoLimit:=I.ok.mod.nolimit.keeps I.bk
theorem Inv.fr (I:Inv X pins σ H s): ∃ m,Fr X.base X.env.locals s.heap m:=
 let ⟨m,hn,_⟩:=I.loc
 ⟨m,hn,I.bk,qaS I.ok.bsz I.ok.above⟩
theorem Inv.lt (I:Inv X pins σ H s):X.env.locals<s.heap.objs.size:=let ⟨_,hn,_⟩:=I.loc;hn.lt
theorem Inv.sz (I:Inv X pins σ H s):X.s₀.heap.objs.size<=s.heap.objs.size:=qaS I.ok.above (Nat.le_of_lt I.lt)
theorem Inv.nofs (I:Inv X pins σ H s) {a:Addr} (h:s.heap.objs.size<=a):a∉X.fs:=fun hb=>by
 obtain ⟨_,o,ho,_⟩:=I.ok.funs.mem hb
 exact absurd (qaw (qaQ ho) (qaS I.sz h)) (qaN _)
theorem Inv.cne (I:Inv X pins σ H s): ∀ x c,X.env.cells.lookup x=some c->c≠X.env.locals:=fun x c e z=>by
 obtain ⟨v,o,ho,hd⟩:=I.cell x c e
 obtain ⟨m,⟨o',es,ep,ho',hd',_⟩,_⟩:=I.loc
 rw [z,ho'] at ho;cases ho;rw [hd'] at hd;cases hd
theorem Inv.funs (I:Inv X pins σ H s):s.heap.FunFrames X.base X.outer:=by
 have all: ∀ (l:List Env),(∀ b∈frs l,b∈X.fs)->X.s₀.heap.FunFrames X.base l->s.heap.FunFrames X.base l:=by
  intro l
  induction l with
  | nil=>intro _ _;trivial
  | cons env r ih=>
   intro hs hl
   obtain ⟨hk,⟨L,o,hf,hn,ho,hd⟩,hr⟩:=hl
   have hL:L∈X.fs:=hs L (by unfold frs;rw [qat,hf];exact qau)
   obtain ⟨sl,e⟩:=I.base.slot L o ho (I.ok.frf L hL) hL fun z=>I.ok.exfs L z hL
   exact ⟨hk,⟨L,_,hf,hn,e,hd⟩,ih (fun b hb=>hs b (by unfold frs;rw [qat,hf];exact qan _ hb)) hr⟩
 exact all X.outer (fun _ hb=>hb) I.ok.funs
theorem Inv.stack (I:Inv X pins σ H s):s.heap.FunFrames X.base X.stack:=by
 rcases I.ok.stk with e | ⟨e,hf⟩
 ·rw [e];exact I.funs
 ·rw [e]
  obtain ⟨m,hn,_⟩:=I.loc
  refine .cons (by rw [I.ok.kind];decide) hf hn ?_ I.funs
  exact Heap.get?_none_of_le (qaS I.ok.bsz I.ok.above)
theorem Inv.stkSub (I:Inv X pins σ H s): ∀ b∈frs X.stack,b∈X.env.locals::X.fs:=fun b hb=>by
 rcases I.ok.stk with e | ⟨e,hf⟩
 ·rw [e] at hb;exact qan _ hb
 ·rw [e] at hb
  unfold frs at hb
  rw [qat,hf] at hb
  exact hb
theorem Inv.stkFree (I:Inv X pins σ H s): ∀ b∈frs X.stack,H b=none:=fun b hb=>by
 rcases qaP.mp (I.stkSub b hb) with e | hb
 ·rw [e];exact I.free
 ·obtain ⟨_,o,ho,_⟩:=I.ok.funs.mem hb
  exact I.base.free b o ho (I.ok.frf b hb) fun z=>I.ok.exfs b z hb
theorem Inv.step {g':Array GenState} {t':Nat} {d':Drawn} {ch:List Addr} (I:Inv X pins σ H s)
  (hch: ∀ b∈ch,(b∈X.ex\/X.s₀.heap.objs.size<=b)/\b≠X.env.locals/\(∀ x c,X.env.cells.lookup x=some c->c≠b)/\ ∀ p∈X.pn++pins,p.1≠b)
  (keep: ∀ b o,b≠X.env.locals->b∉X.fs->b∉ch->s.heap.get? b=some o->H b=none->h'.get? b=some o)
  (slot: ∀ b o,b≠X.env.locals->b∈X.fs->b∉ch->s.heap.get? b=some o->H b=none-> ∃ sl,h'.get? b=some {o with slots:=sl}) (free: ∀ b o,b∉ch->s.heap.get? b=some o->H b=none->H' b=none)
  (there: ∀ b o,b∉ch->s.heap.get? b=some o-> ∃ o',h'.get? b=some o')
  (tups: ∀ b xs,H b=some (.tup xs)->H' b=some (.tup xs)) (frzs: ∀ b o u,H b=some (.frz o u)->H' b=some (.frz o u)) (tbls: ∀ b ps,H b=some (.tbl ps)-> ∃ more,H' b=some (.tbl (ps++more)))
  (ns: ∀ m,s.heap.Ns X.env.locals m->h'.Ns X.env.locals m) (hok:HOk X.prog X.w H' h') (hg:AllBare g'):
  Inv X pins σ H' {s with heap:=h',gens:=g',drawn:=d',toks:=t'}:=by
 have neL: ∀ b o,X.s₀.heap.get? b=some o->b≠X.env.locals:=fun b o e=>qaR (qaw (qaQ e) I.ok.above)
 have neC: ∀ b o,X.s₀.heap.get? b=some o->b∉X.ex->b∉ch:=fun b o e hx hb=>by
  rcases (hch b hb).1 with z | z
  ·exact hx z
  ·exact absurd (qaw (qaQ e) z) (qaN _)
 have cellK: ∀ x c,X.env.cells.lookup x=some c-> ∀ v,s.heap.IsCell c v->h'.IsCell c v:=fun x c e v ⟨o,ho,hd⟩=>by
  have nch:c∉ch:=fun z=>(hch c z).2.2.1 x c e rfl
  by_cases hc:c∈X.fs
  ·obtain ⟨sl,q⟩:=slot c o (I.cne x c e) hc nch ho (I.freeC x c e)
   exact ⟨_,q,hd⟩
  ·exact ⟨o,keep c o (I.cne x c e) hc nch ho (I.freeC x c e),hd⟩
 refine ⟨I.ok,I.os,hg,⟨fun b o e n hb hx=> ?_,fun b o e n hb hx=> ?_,fun b o e n hx=> ?_,fun b o e hx=> ?_,fun b xs e=>tups b xs (I.base.tups b xs e),fun b o xs e=>frzs b o xs (I.base.frzs b o xs e),fun b ps e=> ?_⟩,?_,fun x c e=> ?_,?_,fun x c e=> ?_,fun p hp=> ?_,hok,I.len⟩
 ·exact keep b o (neL b o e) hb (neC b o e hx) (I.base.keep b o e n hb hx) (I.base.free b o e n hx)
 ·obtain ⟨sl,e1⟩:=I.base.slot b o e n hb hx
  obtain ⟨sl',e2⟩:=slot b _ (neL b o e) hb (neC b o e hx) e1 (I.base.free b o e n hx)
  exact ⟨sl',e2⟩
 ·obtain ⟨o',e1⟩:=I.base.there b o e hx
  exact free b o' (neC b o e hx) e1 (I.base.free b o e n hx)
 ·obtain ⟨o',e1⟩:=I.base.there b o e hx
  exact there b o' (neC b o e hx) e1
 ·obtain ⟨m1,e1⟩:=I.base.tbls b ps e
  obtain ⟨m2,e2⟩:=tbls b _ e1
  exact ⟨m1++m2,by rw [e2,Array.append_assoc]⟩
 ·obtain ⟨m,hn,hl⟩:=I.loc
  refine ⟨m,ns m hn,fun i x v e1 e2 e3=> ?_⟩
  obtain ⟨u,r,l⟩:=hl i x v e1 e2 e3
  refine ⟨u,r,?_⟩
  rcases l with l | ⟨k,c,e,z⟩
  ·exact .inl l
  ·exact .inr ⟨k,c,e,cellK x c e _ z⟩
 ·obtain ⟨v,z⟩:=I.cell x c e
  exact ⟨v,cellK x c e v z⟩
 ·obtain ⟨m,⟨o,_,_,ho,_⟩,_⟩:=I.loc
  exact free _ o (fun z=>(hch _ z).2.1 rfl) ho I.free
 ·obtain ⟨v,o,ho,hd⟩:=I.cell x c e
  exact free c o (fun z=>(hch c z).2.2.1 x c e rfl) ho (I.freeC x c e)
 ·obtain ⟨e,n,ne,nf,d⟩:=I.pin p hp
  have nch:p.1∉ch:=fun z=>(hch p.1 z).2.2.2 p hp rfl
  exact ⟨keep p.1 p.2 ne nf nch e n,free p.1 p.2 nch e n,ne,nf,d⟩
theorem Inv.un {t':Nat} (I:Inv X pins σ H s) (u:Un X.fs [] H H' s.heap h') (hok:HOk X.prog X.w H' h'):Inv X pins σ H' {s with heap:=h',toks:=t'}:=by
 obtain ⟨m,⟨o,es,ep,ho,r⟩,_⟩:=id I.loc
 obtain ⟨sl,hL⟩:=u.any ho I.free (by simp)
 exact I.step (g':=s.gens) (d':=s.drawn) (ch:=[]) (fun _ z=>nomatch z) (fun b o _ hb _ e n=>u.keep b o e n hb (by simp)) (fun b o _ hb _ e n=>u.slot b o e n hb (by simp)) (fun b o _ e n=>u.free b o e n (by simp)) (fun b o _ e=>u.there b o e (by simp)) u.tups u.frzs u.tbls (fun m' hm=>by
   obtain ⟨o',es',ep',ho',r'⟩:=hm
   rw [ho] at ho';cases ho'
   exact ⟨_,es',ep',hL,r'⟩) hok I.bare
theorem Inv.call {g':Array GenState} {t':Nat} {d':Drawn} {ch:List Addr} (I:Inv X pins σ H s) (u:Un (frs X.stack) ch H H' s.heap h') (hok:HOk X.prog X.w H' h') (hg:AllBare g')
  (hch: ∀ b∈ch,(b∈X.ex\/X.s₀.heap.objs.size<=b)/\b≠X.env.locals/\(∀ x c,X.env.cells.lookup x=some c->c≠b)/\ ∀ p∈X.pn++pins,p.1≠b):
  Inv X pins σ H' {s with heap:=h',gens:=g',drawn:=d',toks:=t'}:=by
 obtain ⟨m,⟨o,es,ep,ho,r⟩,_⟩:=id I.loc
 obtain ⟨sl,hL⟩:=u.any ho I.free fun z=>(hch _ z).2.1 rfl
 exact I.step (ch:=ch) hch (fun b o hL hb hc e n=>u.keep b o e n (fun z=>(qaP.mp (I.stkSub b z)).elim hL hb) hc) (fun b o _ _ hc e n=>u.any e n hc) (fun b o hc e n=>u.free b o e n hc) (fun b o hc e=>u.there b o e hc) u.tups u.frzs u.tbls (fun m' hm=>by
   obtain ⟨o',es',ep',ho',r'⟩:=hm
   rw [ho] at ho';cases ho'
   exact ⟨_,es',ep',hL,r'⟩) hok hg
theorem Inv.turned {t':Nat} {it:Addr} (I:Inv X pins σ H s) (k: ∀ b o,b≠it->s.heap.get? b=some o->h'.get? b=some o) (hn:H it=none) (hL:it≠X.env.locals)
  (h1:it∈X.ex\/X.s₀.heap.objs.size<=it) (h2: ∀ x c,X.env.cells.lookup x=some c->c≠it) (h3: ∀ p∈X.pn++pins,p.1≠it):Inv X pins σ H {s with heap:=h',toks:=t'}:=by
 have nit: ∀ b u,H b=some u->b≠it:=fun b u e z=>by rw [z,hn] at e;cases e
 refine I.step (g':=s.gens) (d':=s.drawn) (ch:=[it]) (fun b hb=> ?_) (fun b o _ _ hc e _=>k b o (fun z=>hc (by simp [z])) e) (fun b o _ _ hc e _=>⟨o.slots,k b o (fun z=>hc (by simp [z])) e⟩) (fun _ _ _ _ n=>n)
  (fun b o hc e=>⟨o,k b o (fun z=>hc (by simp [z])) e⟩) (fun _ _ e=>e) (fun _ _ _ e=>e) (fun b ps e=>⟨#[],by rw [e];simp⟩) (fun m hm=> ?_) (fun b u e=> ?_) I.bare
 ·have e:b=it:=by simpa using hb
  subst e
  exact ⟨h1,hL,h2,h3⟩
 ·obtain ⟨o,es,ep,ho,r⟩:=hm
  exact ⟨o,es,ep,k _ o (Ne.symm hL) ho,r⟩
 ·refine (I.hok b u e).stay (fun c v hc q=>k c v ?_ q) (fun _ q=>q) fun _ _ q=>q
  rcases hc with z | z
  ·rw [z];exact nit b u e
  ·exact nit c _ z
theorem Inv.tok (I:Inv X pins σ H s) (t:Nat):Inv X pins σ H {s with toks:=t}:=I.un (h':=s.heap) (t':=t) Un.refl I.hok
theorem Inv.kept {t':Nat} (I:Inv X pins σ H s) (k: ∀ b u,s.heap.get? b=some u->h'.get? b=some u):Inv X pins σ H {s with heap:=h',toks:=t'}:=I.un (Un.kept k) (I.hok.kept k)
theorem Inv.laid {a:Addr} {o:HO} {t':Nat} (I:Inv X pins σ H s) (k: ∀ b u,s.heap.get? b=some u->h'.get? b=some u) (hp:s.heap.objs.size<=a) (new:zbo X.prog X.w (upd H a o) h' a o):
  Inv X pins σ (upd H a o) {s with heap:=h',toks:=t'}:=I.un (Un.laid k hp (I.hok.fresh hp)) (I.hok.laid k hp new)
theorem Inv.write {x e:Addr} {o:HO} {t':Nat} (I:Inv X pins σ H s) (mu:Mut (H x)) (he:e=x\/H e=some (.own x)) (k: ∀ b u,b≠e->s.heap.get? b=some u->h'.get? b=some u) (heo: ∃ u,h'.get? e=some u)
  (new:zbo X.prog X.w (upd H x o) h' x o):Inv X pins σ (upd H x o) {s with heap:=h',toks:=t'}:=I.un (Un.write mu he k heo) (I.hok.write mu he k heo new)
theorem Inv.pins_of {pins':List (Addr×Obj)} (I:Inv X pins σ H s) (h: ∀ p∈pins',s.heap.get? p.1=some p.2/\H p.1=none/\p.1≠X.env.locals/\p.1∉X.fs/\ ∀ v,p.2.data≠ .cell v):Inv X pins' σ H s:=
 ⟨I.ok,I.os,I.bare,I.base,I.loc,I.cell,I.free,I.freeC,fun p hp=>(qaK.mp hp).elim (fun z=>I.pin p (List.mem_append_left _ z)) (h p),I.hok,I.len⟩
theorem zgn {N:List Str} (hN:N.Nodup) {i j:Nat} {x:Str} (a:N[i]? = some x) (b:N[j]? = some x):i=j:=by
 obtain ⟨h1,e1⟩:=qac.mp a
 obtain ⟨h2,e2⟩:=qac.mp b
 exact (List.getElem_inj hN).mp (e1.trans e2.symm)
theorem zhn {M:Model} {A:Around} {E:Value->Shared->Prop} {i:Nat} {x:Str} {v:V} {u:Value} {Q:Unit->Shared->Prop} (I:Inv X pins σ H s) (hN:X.N.Nodup) (hi:X.N[i]? = some x) (hx:Loc X.env.scope x) (r:zbl v u)
  (h: ∀ s',Inv X pins (σ.set i (some v)) H s'->(∃ a,Heap.SameBut a s.heap s'.heap/\(a=X.env.locals\/X.env.cells.lookup x=some a))->Q () s') (hf:X.fn x=true\/X.env.scope.names.lookup x=some .local:=by first | exact .inl rfl | exact .inr rfl | assumption):wpAny M A (storeName X.env x u) Q E s:=by
 obtain ⟨m,hn,hl⟩:=id I.loc
 have hcls:(X.env.scope.kind== .class || (X.env.scope.kind== .module && X.env.locals != X.env.globals))=false:=by rw [I.ok.kind];rfl
 have hiσ:i<σ.length:=by rw [I.len];exact (qac.mp hi).1
 have cne:=I.cne
 have tracked: ∀ {a:Addr} {h':Heap},(∃ o,s.heap.get? a=some o/\H a=none)->Heap.SameBut a s.heap h'->HOk X.prog X.w H h':=fun {a h'} ha hs b ob e=>by
  obtain ⟨_,_,hfree⟩:=ha
  refine (I.hok b ob e).stay (fun c w' hc q=>(hs.2 c ?_).trans q) (fun _ q=>q) fun _ _ q=>q
  rintro rfl
  rcases hc with rfl | hc
  ·rw [hfree] at e;cases e
  ·rw [hfree] at hc;cases hc
 rcases hx with hk | hk
 ·refine wpAny_storeName_local hk hn (fun h' hn' hs=> ?_) hcls
  obtain ⟨oL,_,_,hoL,_⟩:=id hn
  refine h _ ⟨I.ok,I.os,I.bare,⟨fun b o e n hb hx=> ?_,fun b o e n hb hx=> ?_,I.base.free,fun b o e hx=> ?_,I.base.tups,I.base.frzs,I.base.tbls⟩,⟨_,hn',fun j y v' e1 e2 e3=> ?_⟩,fun y c e=> ?_,I.free,I.freeC,fun p hp=> ?_,tracked ⟨oL,hoL,I.free⟩ hs,by simpa using I.len⟩ ⟨_,hs,.inl rfl⟩
  ·exact (hs.2 b (qaR (qaw (qaQ e) I.ok.above))).trans (I.base.keep b o e n hb hx)
  ·obtain ⟨sl,e1⟩:=I.base.slot b o e n hb hx
   exact ⟨sl,(hs.2 b (qaR (qaw (qaQ e) I.ok.above))).trans e1⟩
  ·obtain ⟨o',e1⟩:=I.base.there b o e hx
   exact ⟨o',(hs.2 b (qaR (qaw (qaQ e) I.ok.above))).trans e1⟩
  ·by_cases hj:j=i
   ·subst hj
    rw [hi] at e1;cases e1
    rw [qai hiσ] at e2
    cases e2
    exact ⟨u,r,.inl ⟨hk,by simp⟩⟩
   ·rw [qao (Ne.symm hj)] at e2
    obtain ⟨u',r',q⟩:=hl j y v' e1 e2 e3
    refine ⟨u',r',?_⟩
    rcases q with ⟨k,e⟩ | ⟨k,c,e,z⟩
    ·refine .inl ⟨k,?_⟩
     have:y≠x:=fun e=>hj (zgn hN e1 (e▸hi))
     simp [this,e]
    ·exact .inr ⟨k,c,e,z.sameBut hs (cne y c e)⟩
  ·obtain ⟨w',z⟩:=I.cell y c e
   exact ⟨w',z.sameBut hs (cne y c e)⟩
  ·obtain ⟨e,n,ne,nf,d⟩:=I.pin p hp
   exact ⟨(hs.2 p.1 ne).trans e,n,ne,nf,d⟩
 ·have hfn:X.fn x=true:=by
   rcases hf with z | z
   ·exact z
   ·rw [z] at hk;cases hk
  obtain ⟨c,hc⟩:=I.ok.has x (.inl hk)
  obtain ⟨w',z⟩:=I.cell x c hc
  refine wpAny_storeName_cell I.ok.kind hk hc z (fun h' hc' hs=> ?_)
  obtain ⟨oc,hoc,hocd⟩:=id z
  refine h {s with heap:=h'} ⟨I.ok,I.os,I.bare,⟨fun b o e n hb hx=> ?_,fun b o e n hb hx=> ?_,I.base.free,fun b o e hx=> ?_,I.base.tups,I.base.frzs,I.base.tbls⟩,⟨m,hn.sameBut hs (Ne.symm (cne x c hc)),fun j y v' e1 e2 e3=> ?_⟩,fun y c' e=> ?_,I.free,I.freeC,fun p hp=> ?_,tracked ⟨oc,hoc,I.freeC x c hc⟩ hs,by simpa using I.len⟩ ⟨c,hs,.inr hc⟩
  ·exact (hs.2 b (qaR (qaw (qaQ e) (I.ok.cab x c hfn hc)))).trans (I.base.keep b o e n hb hx)
  ·obtain ⟨sl,e1⟩:=I.base.slot b o e n hb hx
   exact ⟨sl,(hs.2 b (qaR (qaw (qaQ e) (I.ok.cab x c hfn hc)))).trans e1⟩
  ·obtain ⟨o',e1⟩:=I.base.there b o e hx
   exact ⟨o',(hs.2 b (qaR (qaw (qaQ e) (I.ok.cab x c hfn hc)))).trans e1⟩
  ·by_cases hj:j=i
   ·subst hj
    rw [hi] at e1;cases e1
    rw [qai hiσ] at e2
    cases e2
    exact ⟨u,r,.inr ⟨.inl hk,c,hc,hc'⟩⟩
   ·rw [qao (Ne.symm hj)] at e2
    obtain ⟨u',r',q⟩:=hl j y v' e1 e2 e3
    refine ⟨u',r',?_⟩
    rcases q with q | ⟨k,c',e,z'⟩
    ·exact .inl q
    ·refine .inr ⟨k,c',e,z'.sameBut hs ?_⟩
     rintro rfl
     exact hj (zgn hN e1 (I.ok.inj _ _ _ e hc▸hi))
  ·by_cases hcc:c'=c
   ·subst hcc;exact ⟨_,hc'⟩
   ·obtain ⟨w2,z2⟩:=I.cell y c' e
    exact ⟨w2,z2.sameBut hs hcc⟩
  ·obtain ⟨e,n,ne,nf,d⟩:=I.pin p hp
   refine ⟨(hs.2 p.1 ?_).trans e,n,ne,nf,d⟩
   intro q
   rw [q,hoc] at e
   have q':oc=p.2:=Option.some.inj e
   exact d w' (by rw [<- q'];exact hocd)
theorem zer {M:Model} {A:Around} {E:Value->Shared->Prop} {i:Nat} {x:Str} {v:V} {u:Value} {Q:Unit->Shared->Prop} (I:Inv X pins σ H s) (hN:X.N.Nodup) (hi:X.N[i]? = some x) (hx:Loc X.env.scope x) (r:zbl v u)
  (h: ∀ s',Inv X pins (σ.set i (some v)) H s'->Q () s') (hf:X.fn x=true\/X.env.scope.names.lookup x=some .local:=by first | exact .inl rfl | exact .inr rfl | assumption):wpAny M A (storeName X.env x u) Q E s:=
 zhn I hN hi hx r (fun s' I' _=>h s' I') hf
theorem Inv.call' {s':Shared} {ch:List Addr} (I:Inv X pins σ H s) (ho:s'.os=s.os) (u:Un (frs X.stack) ch H H' s.heap s'.heap) (hok:HOk X.prog X.w H' s'.heap) (hg:AllBare s'.gens)
  (hch: ∀ b∈ch,(b∈X.ex\/X.s₀.heap.objs.size<=b)/\b≠X.env.locals/\(∀ x c,X.env.cells.lookup x=some c->c≠b)/\ ∀ p∈X.pn++pins,p.1≠b):Inv X pins σ H' s':=by
 obtain ⟨h',g',d',t',o'⟩:=s'
 have e:o'=s.os:=ho
 subst e
 exact I.call (g':=g') (t':=t') (d':=d') u hok hg hch
end
noncomputable abbrev XK:=Value->Option Addr->Hp->Prop
noncomputable abbrev St:=List (Option V)
noncomputable abbrev VK:=V->Hp->Prop
noncomputable abbrev TE:=St->Hp->VK->Prop
noncomputable abbrev TT:=St->Hp->(Bool->Hp->Prop)->Prop
noncomputable abbrev TA:=St->Hp->(List V->Hp->Prop)->Prop
structure zoX where
 nx:St->Hp->Prop
 rt:VK
 bk:St->Hp->Prop:=fun _ _=>False
 ct:St->Hp->Prop:=fun _ _=>False
noncomputable abbrev TS:=zoX->St->Hp->Prop
def EP (X:Cx) (pins:List (Addr×Obj)) (σ:St) (Q:VK) (u:Value) (s':Shared):Prop:= ∃ v H',Inv X pins σ H' s'/\zbl v u/\Q v H'
def TP (X:Cx) (pins:List (Addr×Obj)) (σ:St) (Q:Bool->Hp->Prop) (b:Bool) (s':Shared):Prop:= ∃ H',Inv X pins σ H' s'/\Q b H'
def AP (X:Cx) (pins:List (Addr×Obj)) (σ:St) (Q:List V->Hp->Prop) (us:List Value) (s':Shared):Prop:= ∃ vs H',Inv X pins σ H' s'/\zaK vs us/\Q vs H'
def SP (X:Cx) (pins:List (Addr×Obj)) (D:zoX) (f:Flow) (s':Shared):Prop:=
 match f with
 | .next=> ∃ σ' H',Inv X pins σ' H' s'/\D.nx σ' H'
 | .brk=> ∃ σ' H',Inv X pins σ' H' s'/\D.bk σ' H'
 | .cont=> ∃ σ' H',Inv X pins σ' H' s'/\D.ct σ' H'
 | .ret u=> ∃ v σ' H',Inv X pins σ' H' s'/\zbl v u/\D.rt v H'
def PE (X:Cx) (e:Expr) (t:TE):Prop:=
 ∀ (pins:List (Addr×Obj)) (s:Shared) (σ:St) (H:Hp) (Q:VK),Inv X pins σ H s->t σ H Q->wpAny (model X.prog X.w) X.A (eval e X.env) (EP X pins σ Q) X.xe s
def PT (X:Cx) (e:Expr) (t:TT):Prop:=
 ∀ (pins:List (Addr×Obj)) (s:Shared) (σ:St) (H:Hp) (Q:Bool->Hp->Prop),Inv X pins σ H s->t σ H Q->wpAny (model X.prog X.w) X.A (isTrue e X.env (eval e X.env)) (TP X pins σ Q) X.xe s
def PW (X:Cx) (e:Expr) (t:TT):Prop:=
 ∀ (whole:Sem Value) (pins:List (Addr×Obj)) (s:Shared) (σ:St) (H:Hp) (Q:Bool->Hp->Prop),Inv X pins σ H s->t σ H Q->wpAny (model X.prog X.w) X.A (isTrue e X.env whole) (TP X pins σ Q) X.xe s
theorem PW.pt {X:Cx} {e:Expr} {t:TT} (h:PW X e t):PT X e t:=h _
def PA (X:Cx) (es:List Expr) (t:TA):Prop:=
 ∀ (pos:Pos) (pins:List (Addr×Obj)) (s:Shared) (σ:St) (H:Hp) (Q:List V->Hp->Prop),Inv X pins σ H s->t σ H Q->wpAny (model X.prog X.w) X.A (spliced (backTo pos (starEach es X.env))) (AP X pins σ Q) X.xe s
def PS (X:Cx) (st:Stmt) (t:TS):Prop:=
 ∀ (pins:List (Addr×Obj)) (s:Shared) (σ:St) (H:Hp) (D:zoX),Inv X pins σ H s->t D σ H->wpAny (model X.prog X.w) X.A (exec st X.env) (SP X pins D) X.xe s
def PSs (X:Cx) (st:List Stmt) (t:TS):Prop:=
 ∀ (pins:List (Addr×Obj)) (s:Shared) (σ:St) (H:Hp) (D:zoX),Inv X pins σ H s->t D σ H->wpAny (model X.prog X.w) X.A (execs st X.env) (SP X pins D) X.xe s
theorem thn {α:Type} {t:Sem α} {Q Q':α->Shared->Prop} {M:Model} {A:Around} {E:Value->Shared->Prop} {s:Shared} (h:wpAny M A t Q E s) (hQ: ∀ a s,Q a s->Q' a s):wpAny M A t Q' E s:=qaZ h hQ fun _ _ x=>x
section
variable {X:Cx}
noncomputable def zuZ (i:Nat):TE:=fun σ H Q=> ∃ v,σ[i]? = some (some v)/\Q v H
noncomputable def tC (v:V):TE:=fun _ H Q=>Q v H
theorem zoG {i:Nat} {x:Str} {pos:Pos} (hN:X.N[i]? = some x) (hv:Vis X.env.scope x) (hd:(x==("__debug__":Str))=false:=by decide) (hcd:(x==("__classdict__":Str))=false:=by decide):PE X (.Name x pos) (zuZ i):=by
 intro pins s σ H Q I h
 obtain ⟨v,e,h⟩:=h
 obtain ⟨m,hn,hl⟩:=I.loc
 obtain ⟨u,r,l⟩:=hl i x v hN e hv
 have fin:EP X pins σ Q u s:=⟨v,H,I,r,h⟩
 rcases l with ⟨hk,hm⟩ | ⟨hk,c,hc,hcell⟩
 ·exact wpAny_Name (wpAny_loadName_local I.ok.kind hk hn hm fin) hd
 ·rcases hk with hk | hk
  ·exact wpAny_Name (wpAny_loadName_cell I.ok.kind hk hc hcell fin) hd
  ·exact wpAny_Name (wpAny_loadName_free I.ok.kind hk hc hcell fin hcd) hd
theorem zol {i j pos}:PE X (.Constant (.int i) j pos) (tC (.int i)):=fun _ _ _ H _ I h=>wpAny_Constant_int ⟨.int i,H,I.tok _,⟨_,rfl⟩,h⟩
theorem ztc {b j pos}:PE X (.Constant (.bool b) j pos) (tC (.bl b)):=fun _ _ _ H _ I h=>Constant_bool ⟨.bl b,H,I,rfl,h⟩
theorem zrm {j pos}:PE X (.Constant .none j pos) (tC .non):=fun _ _ _ H _ I h=>Constant_none ⟨.non,H,I,rfl,h⟩
theorem zog {x j pos}:PE X (.Constant (.str x) j pos) (tC (.str x)):=fun _ _ _ H _ I h=>Calls.Constant_str ⟨.str x,H,I.tok _,⟨_,rfl⟩,h⟩
def Gl (X:Cx) (x:Str):Prop:=X.env.kindOf x=some .globalImplicit
theorem ziu {E:Value->Shared->Prop} {pins:List (Addr×Obj)} {s:Shared} {σ:St} {H:Hp} {x:Str} {u:Value} {pos:Pos} {Q:Value->Shared->Prop} (I:Inv X pins σ H s) (hg:Gl X x) (hm:X.mg x=some u) (h:Q u s)
  (hd:(x==("__debug__":Str))=false:=by decide):wpAny (model X.prog X.w) X.A (eval (.Name x pos) X.env) Q E s:=
 Calls.Name_function_global I.ok.kind hg (Calls.loadGlobal_global (by rw [I.ok.glob];exact I.mod.glob.keeps I.bk) hm h) hd
theorem zgG {E:Value->Shared->Prop} {pins:List (Addr×Obj)} {s:Shared} {σ:St} {H:Hp} {x:Str} {u:Value} {pos:Pos} {Q:Value->Shared->Prop} (I:Inv X pins σ H s) (hg:Gl X x) (hm:X.mg x=none) (hv:bootBuiltins x=some u) (h:Q u s)
  (hn:x≠"__name__":=by decide) (hd:(x==("__debug__":Str))=false:=by decide):wpAny (model X.prog X.w) X.A (eval (.Name x pos) X.env) Q E s:=by
 obtain ⟨mb,h1,h2⟩:=I.mod.blt
 exact Calls.Name_function_global I.ok.kind hg (Calls.loadGlobal_builtin (by rw [I.ok.glob];exact I.mod.glob.keeps I.bk) hm (by rw [I.ok.blt];exact h1.keeps I.bk) ((h2 x hn).trans hv) h) hd
theorem zl5 {x:Str} {v:V} {u:Value} {pos:Pos} (hg:Gl X x) (hm:X.mg x=some u) (r:zbl v u) (hd:(x==("__debug__":Str))=false:=by decide):PE X (.Name x pos) (tC v):=
 fun _ _ _ H _ I h=>ziu I hg hm ⟨v,H,I,r,h⟩ hd
theorem zpW {x:Str} {v:V} {u:Value} {pos:Pos} (hg:Gl X x) (hm:X.mg x=none) (hv:bootBuiltins x=some u) (r:zbl v u) (hn:x≠"__name__":=by decide) (hd:(x==("__debug__":Str))=false:=by decide):PE X (.Name x pos) (tC v):=
 fun _ _ _ H _ I h=>zgG I hg hm hv ⟨v,H,I,r,h⟩ hn hd
noncomputable def t2I (ta tb:TE) (k:Int->Int->Hp->Prop):St->Hp->Prop:=fun σ H=>ta σ H fun x H1=>tb σ H1 fun y H2=> ∃ i j,x= .int i/\y= .int j/\k i j H2
variable {a b:Expr} {ta tb:TE} {pos:Pos}
noncomputable def zeq (p:Int->Int->Bool) (ta tb:TE):TE:=fun σ H Q=>t2I ta tb (fun i j H2=>Q (.bl (p i j)) H2) σ H
noncomputable def tB (t:TE):TT:=fun σ H Q=>t σ H fun x H1=> ∃ c,x= .bl c/\Q c H1
theorem zrR {e:Expr} {t:TE} (h:PE X e t) (he: ∀ whole,isTrue e X.env whole=(do let v<-whole;standAt e.pos;holding [v] (truthy v)):=by intro _;rfl):PT X e (tB t):=by
 intro pins s σ H Q I hw
 refine isTrue_plain (thn (h pins s σ H _ I hw) fun v s1 ⟨x,H1,I1,r1,q1⟩=> ?_) (he _)
 obtain ⟨d,rfl,q⟩:=q1
 cases r1
 exact wpAny_truthy_bool ⟨H1,I1,q⟩
variable {tA tB':TT} {rest:List Expr}
noncomputable def zu1 (t u:TT):TT:=fun σ H Q=>t σ H fun c H1=>if c=true then u σ H1 Q else Q false H1
noncomputable def tOr (t u:TT):TT:=fun σ H Q=>t σ H fun c H1=>if c=true then Q true H1 else u σ H1 Q
noncomputable def zjT (t:TT):TT:=fun σ H Q=>t σ H fun c H1=>Q (!c) H1
theorem pw_or1 (ha:PT X a tA):PW X (.BoolOp .Or [a] pos) tA:=by
 intro wh pins s σ H Q I h
 refine isTrue_or (thn (ha pins s σ H Q I h) fun c s1 e=> ?_)
 cases c with
 | false=>exact isTrue_or_nil e
 | true=>exact e
theorem pw_or (ha:PT X a tA) (hb:PW X (.BoolOp .Or (b::rest) pos) tB'):PW X (.BoolOp .Or (a::b::rest) pos) (tOr tA tB'):=by
 intro wh pins s σ H Q I h
 refine isTrue_or (thn (ha pins s σ H _ I h) fun c s1 ⟨H1,I1,q1⟩=> ?_)
 cases c with
 | true=>exact ⟨H1,I1,q1⟩
 | false=>exact hb wh pins s1 σ H1 Q I1 q1
theorem zq5 (ha:PT X a tA):PT X (.UnaryOp .Not a pos) (zjT tA):=by
 intro pins s σ H Q I h
 exact isTrue_not (ha pins s σ H (fun c H1=>Q (!c) H1) I h)
noncomputable def ztI (ta tb:TE):TE:=fun σ H Q=>ta σ H fun x H1=> ∃ c,x= .bl c/\if c=true then tb σ H1 Q else Q (.bl false) H1
noncomputable def zui (ta:TE):TE:=fun σ H Q=>ta σ H fun x H1=> ∃ c,x= .bl c/\Q (.bl (!c)) H1
theorem zrC {op} {t:TE} (h:PE X a t):PE X (.BoolOp op [a] pos) t:=fun pins s σ H Q I hw=>BoolOp_one (h pins s σ H Q I hw)
theorem zrF (ha:PE X a ta) (hb:PE X (.BoolOp .And (b::rest) pos) tb):PE X (.BoolOp .And (a::b::rest) pos) (ztI ta tb):=by
 intro pins s σ H Q I h
 refine BoolOp_and (thn (ha pins s σ H _ I h) fun v s1 ⟨x,H1,I1,r1,q1⟩=> ?_)
 obtain ⟨c,rfl,q1⟩:=q1
 cases r1
 refine wpAny_truthy_bool ?_
 cases c with
 | true=>exact hb pins s1 σ H1 Q I1 q1
 | false=>exact ⟨.bl false,H1,I1,rfl,q1⟩
theorem zrW (ha:PE X a ta):PE X (.UnaryOp .Not a pos) (zui ta):=by
 intro pins s σ H Q I h
 refine UnaryOp_ (thn (ha pins s σ H _ I h) fun v s1 ⟨x,H1,I1,r1,q1⟩=> ?_)
 obtain ⟨c,rfl,q1⟩:=q1
 cases r1
 exact not_of (wpAny_truthy_bool ⟨.bl (!c),H1,I1,rfl,q1⟩)
noncomputable def tIf (t:TT) (ta tb:TE):TE:=fun σ H Q=>t σ H fun c H1=>if c=true then ta σ H1 Q else tb σ H1 Q
theorem znG {c:Expr} (hc:PT X c tA) (ha:PE X a ta) (hb:PE X b tb):PE X (.IfExp c a b pos) (tIf tA ta tb):=by
 intro pins s σ H Q I h
 refine wpAny_IfExp (thn (hc pins s σ H _ I h) fun d s1 ⟨H1,I1,q1⟩=> ?_)
 cases d with
 | true=>exact ha pins s1 σ H1 Q I1 q1
 | false=>exact hb pins s1 σ H1 Q I1 q1
end
def SqL (K:W.Frag) (H:Hp) (a:Addr) (xs:List V):Prop:=
 Rd H a (.lst xs)\/
  ∃ (o:Obj) (its:Array Value) (n:Nat),K.lookup a=some o/\o.cls= .type "list"/\o.dict=none/\o.data= .seq its n/\its.size<=sizeLine/\zaK xs its.toList
def SqT (K:W.Frag) (H:Hp) (a:Addr) (xs:List V):Prop:=
 Rd H a (.tup xs)\/
  ∃ (o:Obj) (its:Array Value) (n:Nat),K.lookup a=some o/\o.cls= .type "tuple"/\o.data= .seq its n/\its.size<=sizeLine/\zaK xs its.toList
noncomputable def zvA:Value->Option V
 | .none=>some .non
 | .bool b=>some (.bl b)
 | .int i _=>some (.int i)
 | .str x _=>some (.str x)
 | .bytes b _=>some (.byt b)
 | .float b _=>some (.flt b)
 | .ref a=>some (.ref a)
 | .type n=>some (.ty n)
 | _=>none
theorem zbl.abs {x:V} {u:Value} (r:zbl x u):zvA u=some x:=by
 cases x with
 | non=>cases r;rfl
 | bl _=>cases r;rfl
 | int _=>obtain ⟨t,rfl⟩:=r;rfl
 | str _=>obtain ⟨t,rfl⟩:=r;rfl
 | byt _=>obtain ⟨t,rfl⟩:=r;rfl
 | flt _=>obtain ⟨t,rfl⟩:=r;rfl
 | ref _=>cases r;rfl
 | ty _=>cases r;rfl
theorem zbl.inj {x y:V} {u:Value} (r:zbl x u) (q:zbl y u):x=y:=Option.some.inj (r.abs.symm.trans q.abs)
theorem zaK.inj: ∀ {xs ys:List V} {us:List Value},zaK xs us->zaK ys us->xs=ys
 | _,_,_,.nil,.nil=>rfl
 | _,_,_,.cons r t,.cons r' t'=>by rw [r.inj r',zaK.inj t t']
section
variable {X:Cx} {pins:List (Addr×Obj)} {σ:St} {H:Hp} {s:Shared} {a:Addr} {xs ys:List V}
theorem SqL.of {K:W.Frag} (h:H a=some (.lst xs)):SqL K H a xs:= .inl (.inl h)
theorem SqT.of {K:W.Frag} (h:H a=some (.tup xs)):SqT K H a xs:= .inl (.inl h)
theorem Inv.list (I:Inv X pins σ H s) (h:SqL X.K H a xs): ∃ its:List Value,zaK xs its/\PlainL s.heap a its.toArray/\xs.length<=sizeLine:=by
 rcases h with h | ⟨o,its,n,hk,hc,hd,hs,hz,r⟩
 ·obtain ⟨z,its,n,r,e⟩:=h.ok I.hok
  exact ⟨its,r,⟨_,n,e,rfl,rfl,rfl⟩,z⟩
 ·refine ⟨its.toList,r,⟨o,n,I.kIn a o hk,hc,hd,by simpa using hs⟩,?_⟩
  have e:=r.length
  simp only [qas] at e
  omega
theorem Inv.tuple (I:Inv X pins σ H s) (h:SqT X.K H a xs): ∃ its:List Value,zaK xs its/\IsTup s.heap a its.toArray/\xs.length<=sizeLine:=by
 rcases h with h | ⟨o,its,n,hk,hc,hs,hz,r⟩
 ·obtain ⟨z,its,r,p⟩:=h.ok I.hok
  exact ⟨its,r,p,z⟩
 ·refine ⟨its.toList,r,⟨o,I.kIn a o hk,hc,n,by simpa using hs⟩,?_⟩
  have e:=r.length
  simp only [qas] at e
  omega
theorem Inv.list_inj (I:Inv X pins σ H s) (h:SqL X.K H a xs) (h':SqL X.K H a ys):xs=ys:=by
 obtain ⟨its,r,⟨o,n,e,_,_,d⟩,_⟩:=I.list h
 obtain ⟨its',r',⟨o',n',e',_,_,d'⟩,_⟩:=I.list h'
 rw [e] at e';cases e'
 rw [d] at d'
 injection d' with d1 _
 have:its=its':=by simpa using congrArg Array.toList d1
 subst this
 exact r.inj r'
theorem Inv.tuple_inj (I:Inv X pins σ H s) (h:SqT X.K H a xs) (h':SqT X.K H a ys):xs=ys:=by
 obtain ⟨its,r,⟨o,e,_,n,d⟩,_⟩:=I.tuple h
 obtain ⟨its',r',⟨o',e',_,n',d'⟩,_⟩:=I.tuple h'
 rw [e] at e';cases e'
 rw [d] at d'
 injection d' with d1 _
 have:its=its':=by simpa using congrArg Array.toList d1
 subst this
 exact r.inj r'
end
noncomputable abbrev Cx.wish (X:Cx) (E:Value->Shared->Prop):Cx:={X with xe:=E}
noncomputable abbrev Cx.nox (X:Cx):Cx:=X.wish fun _ _=>False
theorem Cx.Ok.wish {X:Cx} (ok:X.Ok) (E:Value->Shared->Prop):(X.wish E).Ok:=
 ⟨ok.mod,ok.kind,ok.glob,ok.blt,ok.above,ok.inj,ok.has,ok.cab,ok.hd,ok.hx,ok.frames,ok.stk,ok.exf,ok.bs,ok.bsz,ok.noex,ok.exfs,ok.funs,ok.frf⟩
theorem Cx.Ok.unwish {X:Cx} {E:Value->Shared->Prop} (ok:(X.wish E).Ok):X.Ok:=
 ⟨ok.mod,ok.kind,ok.glob,ok.blt,ok.above,ok.inj,ok.has,ok.cab,ok.hd,ok.hx,ok.frames,ok.stk,ok.exf,ok.bs,ok.bsz,ok.noex,ok.exfs,ok.funs,ok.frf⟩
section
variable {X:Cx} {pins:List (Addr×Obj)} {σ:St} {H:Hp} {s:Shared} {E:Value->Shared->Prop}
theorem Inv.wish (I:Inv X pins σ H s) (E:Value->Shared->Prop):Inv (X.wish E) pins σ H s:=⟨I.ok.wish E,I.os,I.bare,I.base,I.loc,I.cell,I.free,I.freeC,I.pin,I.hok,I.len⟩
theorem Inv.unwish (I:Inv (X.wish E) pins σ H s):Inv X pins σ H s:=⟨I.ok.unwish,I.os,I.bare,I.base,I.loc,I.cell,I.free,I.freeC,I.pin,I.hok,I.len⟩
theorem SP.unwish {D:zoX} {f:Flow} {s':Shared} (h:SP (X.wish E) pins D f s'):SP X pins D f s':=by
 cases f with
 | next=>obtain ⟨σ',H',I,q⟩:=h;exact ⟨σ',H',I.unwish,q⟩
 | brk=>obtain ⟨σ',H',I,q⟩:=h;exact ⟨σ',H',I.unwish,q⟩
 | cont=>obtain ⟨σ',H',I,q⟩:=h;exact ⟨σ',H',I.unwish,q⟩
 | ret u=>obtain ⟨v,σ',H',I,r,q⟩:=h;exact ⟨v,σ',H',I.unwish,r,q⟩
theorem PE.nox {e:Expr} {t:TE} (h:PE X.nox e t):PE X e t:=fun pins s σ H Q I hw=>
 qaZ (h pins s σ H Q (I.wish _) hw) (fun _ _ ⟨v,H',I',r,q⟩=>⟨v,H',I'.unwish,r,q⟩) fun _ _ z=>qa0 z
theorem PT.nox {e:Expr} {t:TT} (h:PT X.nox e t):PT X e t:=fun pins s σ H Q I hw=>
 qaZ (h pins s σ H Q (I.wish _) hw) (fun _ _ ⟨H',I',q⟩=>⟨H',I'.unwish,q⟩) fun _ _ z=>qa0 z
theorem PSs.nox {st:List Stmt} {t:TS} (h:PSs X.nox st t):PSs X st t:=fun pins s σ H D I hw=>
 qaZ (h pins s σ H D (I.wish _) hw) (fun _ _ q=>q.unwish) fun _ _ z=>qa0 z
end
section
variable {X:Cx} {st:Stmt} {rest:List Stmt} {t u:TS} {e:Expr} {te:TE} {pos:Pos}
noncomputable def zuG:TS:=fun D σ H=>D.nx σ H
noncomputable def zvm (t u:TS):TS:=fun D σ H=>t {D with nx:=u D} σ H
theorem zqn:PSs X [] zuG:=fun _ _ σ H _ I h=>wpAny_execs_nil ⟨σ,H,I,h⟩
theorem znV (h1:PS X st t) (h2:PSs X rest u):PSs X (st::rest) (zvm t u):=by
 intro pins s σ H D I h
 refine wpAny_execs_cons (thn (h1 pins s σ H {D with nx:=u D} I h) fun f s1 q=> ?_)
 cases f with
 | next=>
  obtain ⟨σ',H',I',q⟩:=q
  exact h2 pins s1 σ' H' D I' q
 | ret v=>exact q
 | brk=>exact q
 | cont=>exact q
theorem zpE (h1:PS X st t):PSs X [st] t:=by
 intro pins s σ H D I h
 refine wpAny_execs_cons (thn (h1 pins s σ H D I h) fun f s1 q=> ?_)
 cases f with
 | next=>exact wpAny_execs_nil q
 | ret v=>exact q
 | brk=>exact q
 | cont=>exact q
theorem Inv.quiet {pins:List (Addr×Obj)} {σ:St} {H:Hp} {s:Shared} (I:Inv X pins σ H s):interactive X.env=false:=by simp [interactive,I.ok.kind]
noncomputable def ztR (te:TE):TS:=fun D σ H=>te σ H fun _ H1=>D.nx σ H1
theorem zph (he:PE X e te) (hs:swapsWith e none pos.line X.env=pure false:=by rfl):PS X (.Expr e pos) (ztR te):=by
 intro pins s σ H D I h
 exact wpAny_Expr_any (thn (he pins s σ H _ I h) fun v s1 ⟨x,H1,I1,r1,q1⟩=>⟨σ,H1,I1,q1⟩) I.quiet hs
noncomputable def zvF (te:TE):TS:=fun D σ H=>te σ H D.rt
theorem zrA (he:PE X e te):PS X (.Return (some e) pos) (zvF te):=by
 intro pins s σ H D I h
 exact wpAny_Return_some (thn (he pins s σ H _ I h) fun v s1 ⟨x,H1,I1,r1,q1⟩=>⟨x,σ,H1,I1,r1,q1⟩)
noncomputable def zvg (c:TT) (t u:TS):TS:=fun D σ H=>c σ H fun b H1=>if b=true then t D σ H1 else u D σ H1
theorem zue {c:Expr} {a b:List Stmt} {tc:TT} (hc:PT X c tc) (ha:PSs X a t) (hb:PSs X b u):PS X (.If c a b pos) (zvg tc t u):=by
 intro pins s σ H D I h
 refine wpAny_If (thn (hc pins s σ H _ I h) fun d s1 ⟨H1,I1,q1⟩=> ?_)
 cases d with
 | true=>exact ha pins s1 σ H1 D I1 q1
 | false=>exact hb pins s1 σ H1 D I1 q1
end
noncomputable abbrev TG:=V->St->Hp->(St->Hp->Prop)->Prop
noncomputable abbrev TGs:=List V->St->Hp->(St->Hp->Prop)->Prop
def PG (X:Cx) (target:Expr) (t:TG):Prop:=
 ∀ (pins:List (Addr×Obj)) (s:Shared) (σ:St) (H:Hp) (v:V) (u:Value) (Q:St->Hp->Prop),Inv X pins σ H s->zbl v u->t v σ H Q->
  wpAny (model X.prog X.w) X.A (assign target X.env u) (fun _ s'=> ∃ σ' H',Inv X pins σ' H' s'/\Q σ' H') X.xe s
def PGs (X:Cx) (ts:List Expr) (t:TGs):Prop:=
 ∀ (pins:List (Addr×Obj)) (s:Shared) (σ:St) (H:Hp) (vs:List V) (us:List Value) (Q:St->Hp->Prop),Inv X pins σ H s->zaK vs us->t vs σ H Q->
  wpAny (model X.prog X.w) X.A (assignInOrder ((assignEach ts X.env).map (·.2)) us) (fun _ s'=> ∃ σ' H',Inv X pins σ' H' s'/\Q σ' H') X.xe s
noncomputable abbrev zrg:=V->V->V->Hp->(Hp->Prop)->Prop
def zqx (X:Cx) (t:zrg):Prop:=
 ∀ (pins:List (Addr×Obj)) (s:Shared) (σ:St) (H:Hp) (o i v:V) (ov iv u:Value) (Q:Hp->Prop),Inv X pins σ H s->zbl o ov->zbl i iv->zbl v u->t o i v H Q->
  wpAny (model X.prog X.w) X.A (setItem ov iv u) (fun _ s'=> ∃ H',Inv X pins σ H' s'/\Q H') X.xe s
section
variable {X:Cx} {pos:Pos}
noncomputable def zp8 (i:Nat):TG:=fun v σ H Q=>Q (σ.set i (some v)) H
theorem zqk {i:Nat} {x:Str} (hN:X.N.Nodup) (hi:X.N[i]? = some x) (hx:Loc X.env.scope x) (hf:X.fn x=true\/X.env.scope.names.lookup x=some .local:=by first | exact .inl rfl | exact .inr rfl | assumption):PG X (.Name x pos) (zp8 i):=by
 intro pins s σ H v u Q I r h
 exact wpAny_assign_Name (zer I hN hi hx r (fun s' I'=>⟨_,H,I',h⟩) hf)
noncomputable def zvy:TGs:=fun vs σ H Q=>vs=[]/\Q σ H
noncomputable def ztL (t:TG) (u:TGs):TGs:=fun vs σ H Q=> ∃ v r,vs=v::r/\t v σ H fun σ' H'=>u r σ' H' Q
theorem zpH:PGs X [] zvy:=by
 intro pins s σ H vs us Q I r h
 obtain ⟨e,h⟩:=h
 subst e
 cases r
 exact assignInOrder_nil ⟨σ,H,I,h⟩
theorem znJ {e:Expr} {es:List Expr} {t:TG} {u:TGs} (h1:PG X e t) (h2:PGs X es u)
  (hs:(assignEach (e::es) X.env).map (·.2)=assign e X.env::(assignEach es X.env).map (·.2):=by rfl):PGs X (e::es) (ztL t u):=by
 intro pins s σ H vs us Q I r h
 obtain ⟨v,vr,e1,h⟩:=h
 subst e1
 cases r with
 | cons r rr=>
  rw [hs]
  refine assignInOrder_cons (thn (h1 pins s σ H _ _ _ I r h) fun _ s1 ⟨σ1,H1,I1,q1⟩=> ?_)
  exact h2 pins s1 σ1 H1 _ _ Q I1 rr q1
noncomputable def zvd (K:W.Frag) (n:Nat) (t:TGs):TG:=fun v σ H Q=> ∃ a xs,v= .ref a/\SqT K H a xs/\xs.length=n/\t xs σ H Q
theorem zte {es:List Expr} {k:Nat} {t:TGs} {n:Nat} (hc:X.calm=true) (h:PGs X es t)
  (hn:(assignEach es X.env).length=n:=by rfl) (hst:(assignEach es X.env).findIdx? (·.1)=none:=by rfl):PG X (.Tuple es k pos) (zvd X.K n t):=by
 intro pins s σ H v u Q I r hw
 obtain ⟨a,xs,e1,hq,hl,hw⟩:=hw
 subst e1
 cases r
 obtain ⟨its,rv,ht,hz⟩:=I.tuple hq
 refine assign_Tuple_tuple (I.ok.hd hc) ht (by simp [hn, <-hl,rv.length]) hst fun h' hx=> ?_
 have I1:Inv X pins σ H {s with heap:=h'}:=I.kept (t':=s.toks) fun b o e=>hx b o (qaR (qaQ e)) e
 exact h pins _ σ H xs _ Q I1 (by simpa using rv) hw
noncomputable def zu5 (to ti:TE) (t:zrg):TG:=fun v σ H Q=>to σ H fun o H1=>ti σ H1 fun i H2=>t o i v H2 fun H3=>Q σ H3
theorem zoE {o i:Expr} {to ti:TE} {t:zrg} (ho:PE X o to) (hi:PE X i ti) (hs:zqx X t)
  (ha: ∀ v,assign (.Subscript o i pos) X.env v=(do
    let ov<-holding [v] (eval o X.env)
    let iv<-holding [v,ov] (eval i X.env)
    standAt pos
    holding [v,ov,iv] (setItem ov iv v)
    release [v,ov,iv] []):=by intro _;rfl):PG X (.Subscript o i pos) (zu5 to ti t):=by
 intro pins s σ H v u Q I r h
 rw [ha]
 refine qaW (qaO (thn (ho pins s σ H _ I h) fun ov s1 ⟨x,H1,I1,r1,q1⟩=> ?_))
 refine qaW (qaO (thn (hi pins s1 σ H1 _ I1 q1) fun iv s2 ⟨y,H2,I2,r2,q2⟩=> ?_))
 refine qaW (wpAny_standAt (qaW (qaO (thn (hs pins s2 σ H2 x y v ov iv u _ I2 r1 r2 r q2) fun _ s3 ⟨H3,I3,q3⟩=> ?_))))
 exact wpAny_release ⟨σ,H3,I3,q3⟩
noncomputable def ztV (te:TE) (g:TG):TS:=fun D σ H=>te σ H fun x H1=>g x σ H1 D.nx
theorem zsU {tg e:Expr} {te:TE} {g:TG} (he:PE X e te) (hg:PG X tg g) (hs:swapsWithSole [tg] e pos.line X.env=pure false:=by rfl) (hw:swappedStores [tg] e X.env=pure none:=by rfl)
  (h1:(assignEach [tg] X.env).map (·.2)=[assign tg X.env]:=by rfl):PS X (.Assign [tg] e pos) (ztV te g):=by
 intro pins s σ H D I h
 refine wpAny_Assign_stores (thn (he pins s σ H _ I h) fun v s1 ⟨x,H1,I1,r1,q1⟩=> ?_) hs hw
 rw [h1]
 exact thn (hg pins s1 σ H1 x v _ I1 r1 q1) fun _ s2 q=>q
theorem zs3 {i:Nat} {x:Str} {e:Expr} {te:TE} {pos':Pos} (hN:X.N.Nodup) (hi:X.N[i]? = some x) (hx:Loc X.env.scope x) (he:PE X e te) (hs:swapsWith e (some (.Name x pos')) pos.line X.env=pure false:=by rfl) (hf:X.fn x=true\/X.env.scope.names.lookup x=some .local:=by first | exact .inl rfl | exact .inr rfl | assumption):
  PS X (.Assign [.Name x pos'] e pos) (ztV te (zp8 i)):=by
 intro pins s σ H D I h
 refine wpAny_Assign_Name (thn (he pins s σ H _ I h) fun v s1 ⟨y,H1,I1,r1,q1⟩=> ?_) hs
 exact zer I1 hN hi hx r1 (fun s2 I2=>⟨_,H1,I2,q1⟩) hf
end
section
variable {X:Cx} {pos:Pos}
end
structure It where
 go:Nat->Hp->Prop
 yld:Nat->Hp->V->Hp->Prop
 stop:Nat->Hp->Prop
def zms (X:Cx) (pins:List (Addr×Obj)) (H:Hp) (b:Addr):Prop:=
 H b=none/\b≠X.env.locals/\b∉X.fs/\(b∈X.ex\/X.s₀.heap.objs.size<=b)/\(∀ x c,X.env.cells.lookup x=some c->c≠b)/\ ∀ p∈X.pn++pins,p.1≠b
theorem Inv.fpOk {X:Cx} {pins:List (Addr×Obj)} {σ:St} {H H':Hp} {s:Shared} {b:Addr} (I:Inv X pins σ H s) (hb:s.heap.objs.size<=b) (hn:H' b=none):zms X pins H' b:=by
 refine ⟨hn,Nat.ne_of_gt (qaw I.lt hb),I.nofs hb,.inr (qaS I.sz hb),fun x c e z=> ?_,fun p hp z=> ?_⟩
 ·obtain ⟨v,q⟩:=I.cell x c e
  exact absurd (qaw q.lt (by rw [z];exact hb)) (qaN _)
 ·exact absurd (qaw (qaQ (I.pin p hp).1) (by rw [z];exact hb)) (qaN _)
structure zqJ (P:Program) (w:World) (K:W.Frag) (tg:Expr) (J:It) (fp:List Addr) (it:Addr) (tn:Nat->Heap->Prop):Prop where
 mem:it∈fp
 obj: ∀ i h,tn i h-> ∀ b∈fp, ∃ o,h.get? b=some o/\ ∀ v,o.data≠ .cell v
 keep: ∀ i h h',tn i h->(∀ b∈fp, ∀ o,h.get? b=some o->h'.get? b=some o)->tn i h'
 item: ∀ (X:Cx),X.prog=P->X.w=w->X.K=K-> ∀ (i:Nat) (pins:List (Addr×Obj)) (s:Shared) (σ:St) (H:Hp) (E:Value->Shared->Prop),Inv X pins σ H s->(∀ b∈fp,zms X pins H b)->tn i s.heap->J.go i H->
  wpAny (model P w) X.A (pyNext (.ref it)) (fun r s1=> ∃ u,r=some u/\
    wpAny (model P w) X.A (letOwnedTupleGo tg (.ref it) u) (fun _ s2=> ∃ x H',Inv X pins σ H' s2/\zbl x u/\J.yld i H x H'/\tn (i+1) s2.heap/\ ∀ b∈fp,H' b=none) E s1) E s
 done: ∀ (X:Cx),X.prog=P->X.w=w->X.K=K-> ∀ (i:Nat) (pins:List (Addr×Obj)) (s:Shared) (σ:St) (H:Hp) (E:Value->Shared->Prop),Inv X pins σ H s->(∀ b∈fp,zms X pins H b)->tn i s.heap->J.stop i H->
  wpAny (model P w) X.A (pyNext (.ref it)) (fun r s1=>r=none/\Inv X pins σ H s1) E s
 self: ∀ (A:Around) (i:Nat) (s:Shared) (Q:Value->Shared->Prop) (E:Value->Shared->Prop),tn i s.heap->Q (.ref it) s->wpAny (model P w) A (pyIter (.ref it)) Q E s
noncomputable abbrev TI:=St->Hp->(It->Hp->Prop)->Prop
def PIE (X:Cx) (pins:List (Addr×Obj)) (σ:St) (tg:Expr) (R:It->Hp->Prop) (itv:Value) (s2:Shared):Prop:=
 ∃ (it:Addr) (fp:List Addr) (tn:Nat->Heap->Prop) (J:It) (H':Hp),itv= .ref it/\Inv X pins σ H' s2/\zqJ X.prog X.w X.K tg J fp it tn/\tn 0 s2.heap/\(∀ b∈fp,zms X pins H' b)/\R J H'
def PI (X:Cx) (tg iter:Expr) (wi:TI):Prop:=
 ∀ (pins:List (Addr×Obj)) (s:Shared) (σ:St) (H:Hp) (R:It->Hp->Prop),Inv X pins σ H s->wi σ H R->
  wpAny (model X.prog X.w) X.A (eval iter X.env) (fun v s1=>wpAny (model X.prog X.w) X.A (pyIter v) (PIE X pins σ tg R) X.xe s1) X.xe s
theorem znm {M:Model} {A:Around} {E:Value->Shared->Prop} {s:Shared} {tg:Expr} {it:Addr} {u:Value} {o:Obj} {n:String} {vs:Array Value} {Q:Unit->Shared->Prop} (ho:s.heap.get? it=some o) (hc:o.cls= .type n) (hd:o.data= .fields vs)
  (hn:["enumerate","zip","dict_itemiterator","dict_reverseitemiterator","odict_iterator","itertools.zip_longest","itertools.pairwise"].contains n=false) (hQ:Q () s):wpAny M A (letOwnedTupleGo tg (.ref it) u) Q E s:=by
 unfold letOwnedTupleGo
 cases tg<;>first
  | exact qaX hQ
  | (cases u<;>first
      | exact qaX hQ
      | (refine qaW (wpAny_load ho ?_)
         rw [hc,hd]
         show wpAny M A (if (["enumerate","zip","dict_itemiterator","dict_reverseitemiterator","odict_iterator","itertools.zip_longest","itertools.pairwise"].contains n && vs[0]? == some (rawInt _))=true then _ else _) Q E s
         rw [qa5 (by intro h;rw [hn,Bool.false_and] at h;cases h)]
         exact qaX hQ))
noncomputable def Itl (K:W.Frag) (a:Addr):It:=
 ⟨fun i H=> ∃ xs x,SqL K H a xs/\xs[i]? = some x,fun i H x H'=>H'=H/\ ∀ xs,SqL K H a xs->xs[i]? = some x,fun i H=> ∃ xs,SqL K H a xs/\xs.length<=i⟩
noncomputable def Itt (K:W.Frag) (a:Addr):It:=
 ⟨fun i H=> ∃ xs x,SqT K H a xs/\xs[i]? = some x,fun i H x H'=>H'=H/\ ∀ xs,SqT K H a xs->xs[i]? = some x,fun i H=> ∃ xs,SqT K H a xs/\xs.length<=i⟩
noncomputable def Itr (lo:Int) (n:Nat):It:=⟨fun i _=>i<n,fun i H x H'=>H'=H/\x= .int (lo+i),fun i _=>n<=i⟩
theorem zhc.keep {A:Around} {H H':Hp} (x:zhc A H) (k: ∀ b o u,H b=some (.frz o u)->H' b=some (.frz o u)):zhc A H':=by
 rcases x with x | ⟨a,o,cls,head,vs,x1,x2,x3⟩
 ·exact .inl x
 ·exact .inr ⟨a,o,cls,head,vs,x1,k _ _ _ x2,x3⟩
theorem zhc.at_ {A:Around} {P:Program} {w:World} {H:Hp} {h:Heap} (x:zhc A H) (ok:HOk P w H h):L3.zne A h:=by
 rcases x with x | ⟨a,o,cls,head,vs,x1,x2,x3⟩
 ·exact .inl x
 ·exact .inr ⟨a,cls,head,x1,o,vs,(ok a _ x2).1,x3⟩
theorem Inv.handA {X:Cx} {pins:List (Addr×Obj)} {σ:St} {H:Hp} {s:Shared} (I:Inv X pins σ H s):zhc X.A H:=I.ok.hx.keep I.base.frzs
theorem Inv.hand {X:Cx} {pins:List (Addr×Obj)} {σ:St} {H:Hp} {s:Shared} (I:Inv X pins σ H s):L3.zne X.A s.heap:=I.handA.at_ I.hok
theorem zlJ {P:Program} {w:World} {K:W.Frag} {tg:Expr} (a it:Addr):zqJ P w K tg (Itl K a) [it] it (fun i h=>h.IsListIter it a i) where
 mem:=by simp
 obj:=fun i h st b hb=>by
  have e:b=it:=by simpa using hb
  subst e
  obtain ⟨o,e,c,d⟩:=st
  exact ⟨o,e,fun v z=>by rw [d] at z;cases z⟩
 keep:=fun i h h' st k=>st.at fun o e=>k it (by simp) o e
 item:=by
  intro X hP hw hK i pins s σ H E I hf st hg
  subst hP hw hK
  obtain ⟨xs,x,hq,hx⟩:=hg
  obtain ⟨its,rv,p,hz⟩:=I.list hq
  obtain ⟨u,hu,ru⟩:=rv.get hx
  obtain ⟨f0,f1,f2,f3,f4,f5⟩:=hf it (by simp)
  refine wpAny_pyNext_list_item st p.isList (x:=u) (by simpa using hu) fun h' st' sb=> ?_
  have I1:Inv X pins σ H {s with heap:=h'}:=I.turned (t':=s.toks) (fun b o hb e=>(sb.2 b hb).trans e) f0 f1 f3 f4 f5
  obtain ⟨o,e,c,d⟩:=id st'
  exact ⟨u,rfl,znm (s:={s with heap:=h'}) e c d (by decide) ⟨x,H,I1,ru,⟨rfl,fun ys hy=>by rw [I.list_inj hy hq];exact hx⟩,st',fun b hb=>(hf b hb).1⟩⟩
 done:=by
  intro X hP hw hK i pins s σ H E I hf st hg
  subst hP hw hK
  obtain ⟨xs,hq,hx⟩:=hg
  obtain ⟨its,rv,p,hz⟩:=I.list hq
  obtain ⟨f0,f1,f2,f3,f4,f5⟩:=hf it (by simp)
  have hl:=rv.length
  exact L3.zi0 I.hand st p.isList (by simp;omega) fun h' eb=>⟨rfl,I.turned (t':=s.toks) (fun b o hb e=>eb b o hb e) f0 f1 f3 f4 f5⟩
 self:=fun _ _ _ _ _ st h=>wpAny_pyIter_listiter st h
theorem zjw {P:Program} {w:World} {K:W.Frag} {tg:Expr} (a it:Addr):zqJ P w K tg (Itt K a) [it] it (fun i h=>h.IsTupleIter it a i) where
 mem:=by simp
 obj:=fun i h st b hb=>by
  have e:b=it:=by simpa using hb
  subst e
  obtain ⟨o,e,c,d⟩:=st
  exact ⟨o,e,fun v z=>by rw [d] at z;cases z⟩
 keep:=fun i h h' st k=>st.at fun o e=>k it (by simp) o e
 item:=by
  intro X hP hw hK i pins s σ H E I hf st hg
  subst hP hw hK
  obtain ⟨xs,x,hq,hx⟩:=hg
  obtain ⟨its,rv,p,hz⟩:=I.tuple hq
  obtain ⟨u,hu,ru⟩:=rv.get hx
  obtain ⟨f0,f1,f2,f3,f4,f5⟩:=hf it (by simp)
  refine wpAny_pyNext_tuple_item st (show s.heap.IsTuple a its.toArray from p) (x:=u) (by simpa using hu) fun h' st' sb=> ?_
  have I1:Inv X pins σ H {s with heap:=h'}:=I.turned (t':=s.toks) (fun b o hb e=>(sb.2 b hb).trans e) f0 f1 f3 f4 f5
  obtain ⟨o,e,c,d⟩:=id st'
  exact ⟨u,rfl,znm (s:={s with heap:=h'}) e c d (by decide) ⟨x,H,I1,ru,⟨rfl,fun ys hy=>by rw [I.tuple_inj hy hq];exact hx⟩,st',fun b hb=>(hf b hb).1⟩⟩
 done:=by
  intro X hP hw hK i pins s σ H E I hf st hg
  subst hP hw hK
  obtain ⟨xs,hq,hx⟩:=hg
  obtain ⟨its,rv,p,hz⟩:=I.tuple hq
  obtain ⟨f0,f1,f2,f3,f4,f5⟩:=hf it (by simp)
  have hl:=rv.length
  exact L3.zkh I.hand st (show s.heap.IsTuple a its.toArray from p) (by simp;omega) fun h' eb=>⟨rfl,I.turned (t':=s.toks) (fun b o hb e=>eb b o hb e) f0 f1 f3 f4 f5⟩
 self:=fun _ _ _ _ _ st h=>wpAny_pyIter_tupleiter st h
theorem zjB {P:Program} {w:World} {K:W.Frag} {tg:Expr} (it:Addr) (lo:Int) (n:Nat):zqJ P w K tg (Itr lo n) [it] it (fun i h=>IsRangeIter h it (lo+(i:Nat)*1) ((n:Int) - (i:Nat)) 1) where
 mem:=by simp
 obj:=fun i h st b hb=>by
  have e:b=it:=by simpa using hb
  subst e
  exact ⟨_,st,fun v z=>by
    have z':Data.fields _=Data.cell v:=z
    cases z'⟩
 keep:=fun i h h' st k=>k it (by simp) _ st
 item:=by
  intro X hP hw hK i pins s σ H E I hf st hg
  subst hP hw hK
  obtain ⟨f0,f1,f2,f3,f4,f5⟩:=hf it (by simp)
  refine wpAny_pyNext_range_item st (by have:i<n:=hg;omega) fun h' st' kk=> ?_
  have e1:lo+(i:Nat)*1+1=lo+((i+1:Nat):Int)*1:=by omega
  have e2:(n:Int) - (i:Nat) - 1=(n:Int) - ((i+1:Nat):Int):=by omega
  rw [e1,e2] at st'
  have I1:Inv X pins σ H {s with heap:=h',toks:=s.toks+1}:=I.turned (fun b o hb e=>(kk.2 b hb).trans e) f0 f1 f3 f4 f5
  refine ⟨_,rfl,znm (s:={s with heap:=h',toks:=s.toks+1}) (n:="range_iterator") st' rfl rfl (by decide) ⟨.int (lo+i),H,I1,⟨s.toks,?_⟩,⟨rfl,rfl⟩,st',fun b hb=>(hf b hb).1⟩⟩
  rw [Int.mul_one]
 done:=by
  intro X hP hw hK i pins s σ H E I hf st hg
  subst hP hw hK
  obtain ⟨f0,f1,f2,f3,f4,f5⟩:=hf it (by simp)
  exact L3.zhl I.hand st (by have:n<=i:=hg;omega) fun h' eb=>⟨rfl,I.turned (t':=s.toks) (fun b o hb e=>eb b o hb e) f0 f1 f3 f4 f5⟩
 self:=fun _ _ _ _ _ st h=>wpAny_pyIter_rangeiter st h
section
variable {X:Cx} {tg:Expr}
theorem znl {pins:List (Addr×Obj)} {σ:St} {H:Hp} {s:Shared} {R:It->Hp->Prop} {E:Value->Shared->Prop} {lo hi:Int} {t u v:Tok} {tk:Nat} (I:Inv X pins σ H s) (h1: -(2^62)<=lo) (h2:lo<2^62) (h3: -(2^62)<=hi) (h4:hi<2^62)
  (q:R (Itr lo (hi - lo).toNat) H):wpAny (model X.prog X.w) X.A (pyIter (.ref s.heap.objs.size)) (PIE X pins σ tg R) E {s with heap:=s.heap.push {cls:= .type "range",data:= .fields #[.int lo t,.int hi u,.int 1 v]},toks:=tk}:=by
 refine wpAny_pyIter_range (IsRange.new ..) (small_one h1 h2 h3 h4) ?_
 have I1:Inv X pins σ H {s with heap:=s.heap.push {cls:= .type "range",data:= .fields #[.int lo t,.int hi u,.int 1 v]},toks:=tk}:=I.kept fun b o e=>qag _ e
 refine ⟨(s.heap.push {cls:= .type "range",data:= .fields #[.int lo t,.int hi u,.int 1 v]}).objs.size,[(s.heap.push {cls:= .type "range",data:= .fields #[.int lo t,.int hi u,.int 1 v]}).objs.size],_,_,H,rfl,
   I1.kept (t':=tk) fun b o e=>qag _ e,zjB _ lo (hi - lo).toNat,?_,fun b hb=> ?_,q⟩
 ·have e1:lo+((0:Nat):Int)*1=lo:=by simp
  have e2:(((hi - lo).toNat:Nat):Int) - ((0:Nat):Int)=Builtin.Range.rangeSize lo hi 1:=by rw [rangeSize_one];split<;>omega
  show IsRangeIter _ _ (lo+((0:Nat):Int)*1) ((((hi - lo).toNat:Nat):Int) - ((0:Nat):Int)) 1
  rw [e1,e2]
  exact qar _ rfl
 ·have e:b=(s.heap.push {cls:= .type "range",data:= .fields #[.int lo t,.int hi u,.int 1 v]}).objs.size:=by simpa using hb
  subst e
  exact I1.fpOk (qaV _) (I1.hok.fresh (qaV _))
noncomputable def zud (ta:TA):TI:=fun σ H R=>ta σ H fun vs H1=> ∃ j:Int,vs=[.int j]/\ -(2^62)<=j/\j<2^62/\R (Itr 0 j.toNat) H1
theorem zkN {a:Expr} {ta:TA} {p pos:Pos} (hg:Gl X "range") (hm:X.mg "range"=none) (ha:PA X [a] ta) (hs:starEach [a] X.env=[(false,eval a X.env)]:=by rfl):PI X tg (.Call (.Name "range" p) [a] [] pos) (zud ta):=by
 intro pins s σ H R I h
 refine Call_ (zgG I hg hm boot_range (PyProof.Rows.callWith_type1 (thn (ha pos pins s σ H _ I h) fun us s1 ⟨vs,H1,I1,r1,q1⟩=> ?_) hs rfl))
 obtain ⟨j,e,q1,q2,q⟩:=q1
 subst e
 cases r1 with
 | cons r rr=>
  cases rr
  obtain ⟨t,rfl⟩:=r
  exact call_range_1 (znl I1 (by omega) (by omega) q1 q2 (by simpa using q))
noncomputable def zvn (wi:TI) (g:TG) (tb:TS):TS:=fun D σ H=>wi σ H fun J H1=> ∃ W:Nat->Nat->St->Hp->Prop,(∃ m,W 0 m σ H1)/\ ∀ i m σ H,W i m σ H->
 (J.stop i H/\D.nx σ H)\/(J.go i H/\ ∃ N:St->Hp->Prop,(∀ σ' H',N σ' H'-> ∃ m',m'<m/\W (i+1) m' σ' H')/\ ∀ x H',J.yld i H x H'->g x σ H' fun σ2 H2=>tb {D with nx:=N,ct:=N,bk:=D.nx} σ2 H2)
noncomputable def zhi (fp:List Addr) (h:Heap):List (Addr×Obj):=fp.filterMap fun b=>(h.get? b).map fun o=>(b,o)
theorem zc8 {fp:List Addr} {h:Heap} {b:Addr} {o:Obj} (hb:b∈fp) (e:h.get? b=some o):(b,o)∈zhi fp h:=List.mem_filterMap.mpr ⟨b,hb,by rw [e];rfl⟩
theorem zli {fp:List Addr} {h:Heap} {p:Addr×Obj} (hp:p∈zhi fp h):p.1∈fp/\h.get? p.1=some p.2:=by
 obtain ⟨b,hb,e⟩:=List.mem_filterMap.mp hp
 cases q:h.get? b with
 | none=>rw [q] at e;cases e
 | some o=>
  rw [q] at e
  have e':(b,o)=p:=Option.some.inj e
  subst e'
  exact ⟨hb,q⟩
theorem Inv.pinned {pins:List (Addr×Obj)} {σ:St} {H:Hp} {s:Shared} {fp:List Addr} (I:Inv X pins σ H s) (hf: ∀ b∈fp,zms X pins H b) (ho: ∀ b∈fp, ∃ o,s.heap.get? b=some o/\ ∀ v,o.data≠ .cell v):Inv X (pins++zhi fp s.heap) σ H s:=
 I.pins_of fun p hp=>(qaK.mp hp).elim (fun z=>I.pin p (qak _ z)) fun z=>by
  obtain ⟨hb,e⟩:=zli z
  obtain ⟨f0,f1,f2,_⟩:=hf p.1 hb
  obtain ⟨o,e',d⟩:=ho p.1 hb
  rw [e] at e';cases e'
  exact ⟨e,f0,f1,f2,d⟩
theorem Inv.unpinned {pins pl:List (Addr×Obj)} {σ:St} {H:Hp} {s:Shared} (I:Inv X (pins++pl) σ H s):Inv X pins σ H s:=I.pins_of fun p hp=>I.pin p (qak _ (List.mem_append_left _ hp))
theorem zsC {iter:Expr} {body:List Stmt} {wi:TI} {g:TG} {tb:TS} {pos:Pos} (hp:PassesOwn (model X.prog X.w) X.A X.env X.xe) (hc:X.calm=true) (hi:PI X tg iter wi) (hg:PG X tg g) (hb:PSs X body tb)
  (hs: ∀ x,foldedSetIterable iter X.env x=pure x:=by intro _;rfl):PS X (.For tg iter body [] pos) (zvn wi g tb):=by
 intro pins s σ H D I h
 refine wpAny_For (thn (hi pins s σ H _ I h) fun v s1 h1=>thn h1 fun itv s2 h2=> ?_) hs
 obtain ⟨it,fp,tn,J,H2,e,I2,T,st2,f2,W,⟨m0,w0⟩,turn⟩:=h2
 subst e
 have stat: ∀ {H':Hp},(∀ b∈fp,H' b=none)-> ∀ b∈fp,zms X pins H' b:=fun hn b hb=>⟨hn b hb,(f2 b hb).2⟩
 refine codeAny_forLoop_any (fun n s'=> ∃ i σ' H',Inv X pins σ' H' s'/\tn i s'.heap/\(∀ b∈fp,H' b=none)/\W i n σ' H') ?_ m0 ⟨0,σ,H2,I2,st2,fun b hb=>(f2 b hb).1,w0⟩
 rintro n s3 ⟨i,σ3,H3,I3,st3,fr3,w3⟩
 rcases turn i n σ3 H3 w3 with ⟨stop,qn⟩ | ⟨go,N,hN,step⟩
 ·refine wpAny_passesOwn hp (thn (T.done X rfl rfl rfl i pins s3 σ3 H3 X.xe I3 (stat fr3) st3 stop) fun r s4 ⟨hr,I4⟩=> ?_)
  subst hr
  exact wpAny_execs_nil ⟨σ3,H3,I4,qn⟩
 ·refine wpAny_passesOwn hp (thn (T.item X rfl rfl rfl i pins s3 σ3 H3 X.xe I3 (stat fr3) st3 go) fun r s4 ⟨u,hr,h4⟩=> ?_)
  subst hr
  refine wpAny_passesOwn hp (thn h4 fun _ s5 ⟨x,H5,I5,r5,y5,st5,fr5⟩=> ?_)
  have I5':=I5.pinned (stat fr5) (T.obj _ _ st5)
  refine wpAny_passesOwn hp (thn (hg _ s5 σ3 H5 x u _ I5' r5 (step x H5 y5)) fun _ s6 ⟨σ6,H6,I6,q6⟩=> ?_)
  refine wpAny_passesOwn hp (thn (hb _ s6 σ6 H6 _ I6 q6) fun f s7 q7=> ?_)
  have again: ∀ {σ7:St} {H7:Hp},Inv X (pins++zhi fp s5.heap) σ7 H7 s7->N σ7 H7-> ∃ m,m<n/\ ∃ i σ' H',Inv X pins σ' H' s7/\tn i s7.heap/\(∀ b∈fp,H' b=none)/\W i m σ' H':=fun {σ7 H7} I7 n7=>by
   obtain ⟨m',hm,w7⟩:=hN σ7 H7 n7
   refine ⟨m',hm,i+1,σ7,H7,I7.unpinned,T.keep _ _ _ st5 fun b hb o e=>(I7.pin (b,o) (qak _ (qak _ (zc8 hb e)))).1,fun b hb=> ?_,w7⟩
   obtain ⟨o,e,d⟩:=T.obj _ _ st5 b hb
   exact (I7.pin (b,o) (qak _ (qak _ (zc8 hb e)))).2.1
  cases f with
  | next=>obtain ⟨σ7,H7,I7,n7⟩:=q7;exact again I7 n7
  | cont=>obtain ⟨σ7,H7,I7,n7⟩:=q7;exact again I7 n7
  | brk=>obtain ⟨σ7,H7,I7,q7⟩:=q7;exact ⟨σ7,H7,I7.unpinned,q7⟩
  | ret v=>obtain ⟨x7,σ7,H7,I7,r7,q7⟩:=q7;exact ⟨x7,σ7,H7,I7.unpinned,r7,q7⟩
end
noncomputable abbrev R2:=V->V->Hp->VK->Prop
def OpR (X:Cx) (f:Value->Value->Sem Value) (r:R2):Prop:=
 ∀ (pins:List (Addr×Obj)) (s:Shared) (σ:St) (H:Hp) (x y:V) (v u:Value) (Q:VK),Inv X pins σ H s->zbl x v->zbl y u->r x y H Q->
  wpAny (model X.prog X.w) X.A (f v u) (EP X pins σ Q) X.xe s
def UnR (X:Cx) (f:Value->Sem Value) (r:V->Hp->VK->Prop):Prop:=
 ∀ (pins:List (Addr×Obj)) (s:Shared) (σ:St) (H:Hp) (x:V) (v:Value) (Q:VK),Inv X pins σ H s->zbl x v->r x H Q->
  wpAny (model X.prog X.w) X.A (f v) (EP X pins σ Q) X.xe s
def zay (X:Cx) (f:Value) (r:List V->Hp->VK->Prop):Prop:=
 ∀ (pins:List (Addr×Obj)) (s:Shared) (σ:St) (H:Hp) (xs:List V) (us:List Value) (Q:VK),Inv X pins σ H s->zaK xs us->r xs H Q->
  wpAny (model X.prog X.w) X.A (call f us) (EP X pins σ Q) X.xe s
def zvG (X:Cx) (r:V->Hp->(Bool->Hp->Prop)->Prop):Prop:=
 ∀ (pins:List (Addr×Obj)) (s:Shared) (σ:St) (H:Hp) (x:V) (v:Value) (Q:Bool->Hp->Prop),Inv X pins σ H s->zbl x v->r x H Q->
  wpAny (model X.prog X.w) X.A (truthy v) (TP X pins σ Q) X.xe s
noncomputable def tOp (r:R2) (ta tb:TE):TE:=fun σ H Q=>ta σ H fun x H1=>tb σ H1 fun y H2=>r x y H2 Q
noncomputable def tUn (r:V->Hp->VK->Prop) (ta:TE):TE:=fun σ H Q=>ta σ H fun x H1=>r x H1 Q
noncomputable def rI (C:Int->Int->Prop) (g:Int->Int->V):R2:=fun x y H Q=> ∃ i j,x= .int i/\y= .int j/\C i j/\Q (g i j) H
noncomputable def rI0 (g:Int->Int->V):R2:=fun x y H Q=> ∃ i j,x= .int i/\y= .int j/\Q (g i j) H
noncomputable def rU (g:Int->V):V->Hp->VK->Prop:=fun x H Q=> ∃ i,x= .int i/\Q (g i) H
section
variable {X:Cx} {a b c:Expr} {ta tb tc:TE} {pos:Pos}
theorem zul (ha:PE X a ta) (hb:PE X b tb) {pins:List (Addr×Obj)} {s:Shared} {σ:St} {H:Hp} {R:V->V->Hp->Prop} (I:Inv X pins σ H s)
  (h:ta σ H fun x H1=>tb σ H1 fun y H2=>R x y H2) {Q:Value->Shared->Prop} {f:Value->Value->Sem Value}
  (hf: ∀ v u s2 x y H2,Inv X pins σ H2 s2->zbl x v->zbl y u->R x y H2->wpAny (model X.prog X.w) X.A (f v u) Q X.xe s2):
  wpAny (model X.prog X.w) X.A (eval a X.env) (fun v s₁=>wpAny (model X.prog X.w) X.A (eval b X.env) (fun u s₂=>wpAny (model X.prog X.w) X.A (f v u) Q X.xe s₂) X.xe s₁) X.xe s:=by
 refine thn (ha pins s σ H _ I h) fun v s1 ⟨x,H1,I1,r1,q1⟩=> ?_
 refine thn (hb pins s1 σ H1 _ I1 q1) fun u s2 ⟨y,H2,I2,r2,q2⟩=> ?_
 exact hf v u s2 x y H2 I2 r1 r2 q2
theorem zua {op:Operator} {r:R2} (ho:OpR X (binaryOp op) r) (ha:PE X a ta) (hb:PE X b tb):PE X (.BinOp a op b pos) (tOp r ta tb):=by
 intro pins s σ H Q I h
 exact wpAny_BinOp (zul ha hb I h fun v u s2 x y H2 I2 rx ry q=>ho pins s2 σ H2 x y v u Q I2 rx ry q)
theorem zsZ {op:UnaryOp} {r:V->Hp->VK->Prop} (ho:UnR X (unaryOp op) r) (ha:PE X a ta):PE X (.UnaryOp op a pos) (tUn r ta):=by
 intro pins s σ H Q I h
 exact UnaryOp_ (thn (ha pins s σ H _ I h) fun v s1 ⟨x,H1,I1,r1,q1⟩=>ho pins s1 σ H1 x v Q I1 r1 q1)
theorem opI {f:Value->Value->Sem Value} {C:Int->Int->Prop} {g:Int->Int->Int}
  (rule: ∀ (i j:Int) (t u:Tok) (s:Shared) (Q:Value->Shared->Prop) (E:Value->Shared->Prop),C i j->Q (.int (g i j) s.toks) {s with toks:=s.toks+1}->wpAny (model X.prog X.w) X.A (f (.int i t) (.int j u)) Q E s):
  OpR X f (rI C fun i j=> .int (g i j)):=by
 intro pins s σ H x y v u Q I rx ry h
 obtain ⟨i,j,rfl,rfl,hc,q⟩:=h
 obtain ⟨t,rfl⟩:=rx
 obtain ⟨t',rfl⟩:=ry
 exact rule i j t t' s _ _ hc ⟨.int (g i j),H,I.tok _,⟨_,rfl⟩,q⟩
theorem zuv {f:Value->Value->Sem Value} {g:Int->Int->Int}
  (rule: ∀ (i j:Int) (t u:Tok) (s:Shared) (Q:Value->Shared->Prop) (E:Value->Shared->Prop),Q (.int (g i j) s.toks) {s with toks:=s.toks+1}->wpAny (model X.prog X.w) X.A (f (.int i t) (.int j u)) Q E s):
  OpR X f (rI0 fun i j=> .int (g i j)):=by
 intro pins s σ H x y v u Q I rx ry h
 obtain ⟨i,j,rfl,rfl,q⟩:=h
 obtain ⟨t,rfl⟩:=rx
 obtain ⟨t',rfl⟩:=ry
 exact rule i j t t' s _ _ ⟨.int (g i j),H,I.tok _,⟨_,rfl⟩,q⟩
theorem zux {f:Value->Value->Sem Value} {g:Int->Int->Bool}
  (rule: ∀ (i j:Int) (t u:Tok) (s:Shared) (Q:Value->Shared->Prop) (E:Value->Shared->Prop),Q (.bool (g i j)) s->wpAny (model X.prog X.w) X.A (f (.int i t) (.int j u)) Q E s):
  OpR X f (rI0 fun i j=> .bl (g i j)):=by
 intro pins s σ H x y v u Q I rx ry h
 obtain ⟨i,j,rfl,rfl,q⟩:=h
 obtain ⟨t,rfl⟩:=rx
 obtain ⟨t',rfl⟩:=ry
 exact rule i j t t' s _ _ ⟨.bl (g i j),H,I,rfl,q⟩
def zth (i j:Int):Prop:=0<=j/\j<=1000000/\i.natAbs<2^64
def ztQ (i j:Int):Prop:=(-(2^64)<i/\i<2^64)\/(-(2^64)<j/\j<2^64)
theorem ztQ.ok {i j:Int} (h:ztQ i j):IntMulOk i j:=by
 rcases h with ⟨h1,h2⟩ | ⟨h1,h2⟩
 ·exact .of_left (intBits_le_64 h1 h2)
 ·exact .of_right (intBits_le_64 h1 h2)
theorem two_pow_nn (k:Nat):(0:Int)<=2^k:=by
 rw [two_pow_cast]
 exact Int.natCast_nonneg _
theorem zsx:OpR X (binaryOp .Add) (rI0 fun i j=> .int (i+j)):=zuv fun _ _ _ _ _ _ _ q=>add_int q
theorem zrr:OpR X (binaryOp .Sub) (rI0 fun i j=> .int (i - j)):=zuv fun _ _ _ _ _ _ _ q=>sub_int q
theorem zsa:OpR X (binaryOp .Mult) (rI ztQ fun i j=> .int (i*j)):=opI fun _ _ _ _ _ _ _ hc q=>mul_int q hc.ok
theorem zq1:OpR X (binaryOp .Mod) (rI (fun _ j=>0<j) fun i j=> .int (i % j)):=opI fun i j _ _ _ _ _ hc q=>by
 have h1:(0:Int)<j:=hc
 exact mod_int' (by omega) (by rw [Int.fmod_eq_emod_of_nonneg i (by omega)];exact q)
theorem zsT:OpR X (binaryOp .Pow) (rI zth fun i j=> .int (i^j.toNat)):=opI fun _ _ _ _ _ _ _ hc q=>pow_int_small hc.1 hc.2.1 hc.2.2 q
theorem zrv:OpR X (binaryOp .LShift) (rI zth fun i j=> .int (i*2^j.toNat)):=opI fun _ _ _ _ _ _ _ hc q=>lshift_int_small hc.1 hc.2.1 hc.2.2 q
theorem zrS:OpR X (binaryOp .RShift) (rI (fun _ j=>0<=j) fun i j=> .int (i / 2^j.toNat)):=opI fun i j _ _ _ _ _ hc q=>
 rshift_int hc (by rw [Int.fdiv_eq_ediv_of_nonneg i (two_pow_nn _)];exact q)
theorem ztt:OpR X (binaryOp .BitOr) (rI0 fun i j=> .int (Builtin.bitOr i j)):=zuv fun _ _ _ _ _ _ _ q=>or_int q
theorem unI {f:Value->Sem Value} {g:Int->Int}
  (rule: ∀ (i:Int) (t:Tok) (s:Shared) (Q:Value->Shared->Prop) (E:Value->Shared->Prop),Q (.int (g i) s.toks) {s with toks:=s.toks+1}->wpAny (model X.prog X.w) X.A (f (.int i t)) Q E s):
  UnR X f (rU fun i=> .int (g i)):=by
 intro pins s σ H x v Q I rx h
 obtain ⟨i,rfl,q⟩:=h
 obtain ⟨t,rfl⟩:=rx
 exact rule i t s _ _ ⟨.int (g i),H,I.tok _,⟨_,rfl⟩,q⟩
theorem zoF:UnR X (unaryOp .USub) (rU fun i=> .int (-i)):=unI fun _ _ _ _ _ q=>neg_int q
end
section
variable {X:Cx} {a b c:Expr} {ta tb tc:TE} {pos:Pos}
theorem ztA:OpR X (compareOp .Lt) (rI0 fun i j=> .bl (decide (i<j))):=zux fun _ _ _ _ _ _ _ q=>lt_int q
theorem ztu:OpR X (compareOp .LtE) (rI0 fun i j=> .bl (decide (i<=j))):=zux fun _ _ _ _ _ _ _ q=>le_int q
theorem ztY:OpR X (compareOp .GtE) (rI0 fun i j=> .bl (decide (j<=i))):=zux fun _ _ _ _ _ _ _ q=>ge_int q
theorem OpR.or {f:Value->Value->Sem Value} {r r':R2} (h:OpR X f r) (h':OpR X f r'):OpR X f (fun x y H Q=>r x y H Q\/r' x y H Q):=by
 intro pins s σ H x y v u Q I rx ry q
 rcases q with q | q
 ·exact h pins s σ H x y v u Q I rx ry q
 ·exact h' pins s σ H x y v u Q I rx ry q
theorem zpq {op:CmpOp} {r:R2} (ho:OpR X (compareOp op) r) (ha:PE X a ta) (hb:PE X b tb) (hm:behindInMarks op b=false):PE X (.Compare a [op] [b] pos) (tOp r ta tb):=by
 intro pins s σ H Q I h
 exact wpAny_Compare1 (zul ha hb I h fun v u s2 x y H2 I2 rx ry q=>ho pins s2 σ H2 x y v u Q I2 rx ry q) hm
noncomputable def ztP (t:TE):TT:=fun σ H Q=>t σ H fun x H'=> ∃ k,x= .bl k/\Q k H'
theorem zpm {op:CmpOp} {r:R2} (ho:OpR X (compareOp op) r) (ha:PE X a ta) (hb:PE X b tb) (hm:behindInMarks op b=false):PT X (.Compare a [op] [b] pos) (ztP (tOp r ta tb)):=by
 intro pins s σ H Q I h
 refine wpAny_isTrue_Compare1 (thn (ha pins s σ H _ I h) fun v s1 ⟨x,H1,I1,r1,q1⟩=>thn (hb pins s1 σ H1 _ I1 q1) fun u s2 ⟨y,H2,I2,r2,q2⟩=>
   thn (ho pins s2 σ H2 x y v u _ I2 r1 r2 q2) fun c s3 ⟨z,H3,I3,r3,k,e,q3⟩=> ?_) hm
 subst e
 cases r3
 exact wpAny_truthy_bool ⟨H3,I3,q3⟩
noncomputable def zop (r r':R2) (ta tb tc:TE):TE:=fun σ H Q=>ta σ H fun x H1=>tb σ H1 fun y H2=>r x y H2 fun z H3=> ∃ k,z= .bl k/\
 (if k=true then tc σ H3 fun w' H4=>r' y w' H4 Q else Q (.bl false) H3)
theorem znN {op op':CmpOp} {r r':R2} (ho:OpR X (compareOp op) r) (ho':OpR X (compareOp op') r') (ha:PE X a ta) (hb:PE X b tb) (hc:PE X c tc)
  (hm:lastMarks [op,op'] [b,c]=false:=by with_unfolding_all rfl):PE X (.Compare a [op,op'] [b,c] pos) (zop r r' ta tb tc):=by
 intro pins s σ H Q I h
 refine Compare_chain (thn (ha pins s σ H _ I h) fun v s1 ⟨x,H1,I1,r1,q1⟩=>chain_link (thn (hb pins s1 σ H1 _ I1 q1) fun u s2 ⟨y,H2,I2,r2,q2⟩=>
   thn (ho pins s2 σ H2 x y v u _ I2 r1 r2 q2) fun d s3 ⟨z,H3,I3,r3,k,e,q3⟩=> ?_)) hm
 subst e
 cases r3
 refine wpAny_truthy_bool ?_
 cases k with
 | false=>exact ite_ff ⟨.bl false,H3,I3,rfl,q3⟩
 | true=>exact ite_tt (chain_last (thn (hc pins s3 σ H3 _ I3 q3) fun w' s4 ⟨z',H4,I4,r4,q4⟩=>ho' pins s4 σ H4 y z' u w' Q I4 r2 r4 q4))
def zu3 (K:W.Frag) (x:V) (H:Hp) (k:Bool):Prop:=
 match x with
 | .non=>k=false
 | .bl b=>k=b
 | .int i=>k=(i != 0)
 | .str y=>y.length<=sizeLine/\k=((y.length:Int) != 0)
 | .byt y=>y.size<=sizeLine/\k=((y.size:Int) != 0)
 | .ref p=>(∃ xs,SqL K H p xs/\k= !xs.isEmpty)\/(∃ xs,SqT K H p xs/\k= !xs.isEmpty)\/ ∃ kvs,H p=some (.dK kvs)/\k= !kvs.isEmpty
 | _=>False
theorem zj4 {κ:Type} {kvs:List (κ×V)} {vs:List (κ×Value)} (r:KV kvs vs):(!vs.isEmpty)= !kvs.isEmpty:=by
 cases r<;>rfl
theorem zfA {xs:List V} {its:List Value} (r:zaK xs its):(!its.toArray.isEmpty)= !xs.isEmpty:=by
 cases r<;>simp
theorem zho:(sizeLine:Nat)<2^63:=by rw [sizeLine_eq];decide
theorem zsk:zvG X (fun x H Q=> ∃ k,zu3 X.K x H k/\Q k H):=by
 intro pins s σ H x v Q I rx h
 obtain ⟨k,e,q⟩:=h
 have hl:=zho
 have hs:sizeLine=16777216:=sizeLine_eq
 cases x with
 | non=>
  cases rx
  have e':k=false:=e
  subst e'
  exact truthy_none ⟨H,I,q⟩
 | bl b=>
  cases rx
  have e':k=b:=e
  subst e'
  exact wpAny_truthy_bool ⟨H,I,q⟩
 | int i=>
  obtain ⟨t,rfl⟩:=rx
  have e':k=(i != 0):=e
  subst e'
  exact PySem.P.truthy_int ⟨H,I,q⟩
 | str y=>
  obtain ⟨t,rfl⟩:=rx
  obtain ⟨hy,e'⟩:y.length<=sizeLine/\k=((y.length:Int) != 0):=e
  subst e'
  exact PySem.P.truthy_str (by omega) ⟨H,I.tok _,q⟩
 | byt y=>
  obtain ⟨t,rfl⟩:=rx
  obtain ⟨hy,e'⟩:y.size<=sizeLine/\k=((y.size:Int) != 0):=e
  subst e'
  exact W.truthy_bytes (by omega) ⟨H,I.tok _,q⟩
 | ref p=>
  cases rx
  have e':(∃ xs,SqL X.K H p xs/\k= !xs.isEmpty)\/(∃ xs,SqT X.K H p xs/\k= !xs.isEmpty)\/ ∃ kvs,H p=some (.dK kvs)/\k= !kvs.isEmpty:=e
  rcases e' with ⟨xs,hx,e'⟩ | ⟨xs,hx,e'⟩ | ⟨kvs,hx,e'⟩
  ·subst e'
   obtain ⟨its,r,pl,hz⟩:=I.list hx
   have hlen:=r.length
   exact wpAny_truthy_list pl.isList (by simp only [qaA];omega) ⟨H,I.tok _,by rw [zfA r];exact q⟩
  ·subst e'
   obtain ⟨its,r,pl,hz⟩:=I.tuple hx
   have hlen:=r.length
   exact truthy_tuple pl (by simp only [qaA];omega) ⟨H,I.tok _,by rw [zfA r];exact q⟩
  ·subst e'
   obtain ⟨hz,hS,vs,r,m⟩:kvs.length<=sizeLine/\(p==sysModules)=false/\ ∃ vs,KV kvs vs/\s.heap.DictOf (zd3 X.prog X.w) p vs:=I.hok p _ hx
   have hlen:kvs.length=vs.length:=Paired.length r
   exact wpAny_truthy_dict hS m (by omega) ⟨H,I.tok _,by rw [zj4 r];exact q⟩
 | _=>exact (show False from e).elim
theorem zm0 (ha:PE X a ta) (he: ∀ whole,isTrue a X.env whole=(do let v<-whole;standAt a.pos;holding [v] (truthy v))):
  PT X a (fun σ H Q=>ta σ H fun x H'=> ∃ k,zu3 X.K x H' k/\Q k H'):=by
 intro pins s σ H Q I h
 exact isTrue_plain (thn (ha pins s σ H _ I h) fun v s1 ⟨x,H1,I1,r1,q1⟩=>zsk pins s1 σ H1 x v Q I1 r1 q1) (he _)
theorem zj3:OpR X (binaryOp .Add) (fun x y H Q=> ∃ i j,x= .str i/\y= .str j/\i.length+j.length<=sizeLine/\Q (.str (i++j)) H):=by
 intro pins s σ H x y v u Q I rx ry h
 obtain ⟨i,j,rfl,rfl,hz,q⟩:=h
 obtain ⟨t,rfl⟩:=rx
 obtain ⟨t',rfl⟩:=ry
 exact add_str (fun t' tk=>⟨.str (i++j),H,I.tok _,⟨_,rfl⟩,q⟩) hz
theorem zcR {x:V} {us:List Value} (r:zaK [x] us): ∃ u,us=[u]/\zbl x u:=by
 cases r with
 | cons r1 r2=>cases r2;exact ⟨_,rfl,r1⟩
theorem zqr {x y:V} {us:List Value} (r:zaK [x,y] us): ∃ u w',us=[u,w']/\zbl x u/\zbl y w':=by
 cases r with
 | cons r1 r2=>
  cases r2 with
  | cons r3 r4=>cases r4;exact ⟨_,_,rfl,r1,r3⟩
theorem zlh (hc:X.calm=true):zay X (.builtin "max") (fun xs H Q=> ∃ i j,xs=[.int i,.int j]/\Q (.int (if j>i then j else i)) H):=by
 intro pins s σ H xs us Q I r h
 obtain ⟨i,j,rfl,q⟩:=h
 obtain ⟨u,w',rfl,⟨t,rfl⟩,⟨t',rfl⟩⟩:=zqr r
 refine max_two_ints (I.ok.hd hc) fun h' tk k=>⟨_,H,I.kept k,?_,q⟩
 by_cases hj:j>i
 ·rw [qa4 hj,qa4 hj];exact ⟨_,rfl⟩
 ·rw [qa5 hj,qa5 hj];exact ⟨_,rfl⟩
theorem zl4 (hc:X.calm=true):zay X (.builtin "min") (fun xs H Q=> ∃ i j,xs=[.int i,.int j]/\Q (.int (if j<i then j else i)) H):=by
 intro pins s σ H xs us Q I r h
 obtain ⟨i,j,rfl,q⟩:=h
 obtain ⟨u,w',rfl,⟨t,rfl⟩,⟨t',rfl⟩⟩:=zqr r
 refine min_two_ints (I.ok.hd hc) fun h' tk k=>⟨_,H,I.kept k,?_,q⟩
 by_cases hj:j<i
 ·rw [qa4 hj,qa4 hj];exact ⟨_,rfl⟩
 ·rw [qa5 hj,qa5 hj];exact ⟨_,rfl⟩
theorem zl7:zay X (.type "int") (fun xs H Q=>(∃ i,xs=[.int i]/\Q (.int i) H)\/ ∃ k,xs=[.bl k]/\Q (.int (if k then 1 else 0)) H):=by
 intro pins s σ H xs us Q I r h
 rcases h with ⟨i,rfl,q⟩ | ⟨k,rfl,q⟩
 ·obtain ⟨u,rfl,t,rfl⟩:=zcR r
  exact call_int_int ⟨.int i,H,I,⟨_,rfl⟩,q⟩
 ·obtain ⟨u,rfl,r1⟩:=zcR r
  cases r1
  exact call_int_bool ⟨.int (if k then 1 else 0),H,I.tok _,⟨_,rfl⟩,q⟩
end
structure zus (h:Heap) (x dx C:Addr) (mA:Str->Option Value):Prop where
 obj:h.get? x=some (W.instObj C dx)
 ns:h.Ns1 dx mA
 ne:dx≠x
theorem zku {h:Heap} {dx:Addr} {mA:Str->Option Value} (n:h.Ns1 dx mA): ∃ od,h.get? dx=some od/\ ∀ name,W.lookIn name od=some (mA name):=by
 obtain ⟨o,es,ep,ho,hd,hk,_,hm⟩:=n
 refine ⟨o,ho,fun name=> ?_⟩
 have e:=hm name
 unfold nsFind findBy at e
 rw [<- Array.find?_toList] at e
 unfold W.lookIn
 rw [hd]
 dsimp only
 split
 ·rename_i y q
  rw [q] at e
  exact congrArg some e
 ·rename_i q
  rw [q] at e
  have a:es.toList.any (·.refKey)=false:=by
   rw [List.any_eq_false]
   intro y hy
   obtain ⟨z,t,hkey⟩:=hk y (Array.mem_toList_iff.mp hy)
   simp [DictEntry.refKey,hkey]
  have a': ¬es.toList.any (·.refKey)=true:=by rw [a];exact Bool.false_ne_true
  rw [qa5 a']
  exact congrArg some e
theorem zus.look {h:Heap} {x dx C:Addr} {mA:Str->Option Value} (I:zus h x dx C mA): ∃ od,W.InstAt h x (W.instObj C dx) C (some od)/\ ∀ name,W.lookIn name od=some (mA name):=
 let ⟨od,ho,hl⟩:=zku I.ns
 ⟨od,⟨I.obj,rfl,rfl,ho⟩,hl⟩
section
variable {prog:Program} {w:World} {A:Around} {E:Value->Shared->Prop} {s:Shared} {K:W.Frag} {x dx C f:Addr} {mA:Str->Option Value} {name:Str} {v:Value}
end
section
variable {P:Program} {w:World} {H H':Hp} {h h':Heap} {a C dx:Addr} {fs fs':List (Str×V)}
theorem zpK (hok:HOk P w H h) (e:H a=some (.ins C dx fs)): ∃ mA,zus h a dx C mA/\(∀ f,zuH (fs.lookup f) (mA f))/\PySem.Within mA (fs.map (·.1))/\fs.length<=1000/\H dx=some (.own a):=by
 obtain ⟨d,z,ne,ob,mA,n,r,q⟩:=(show zbo P w H h a (.ins C dx fs) from hok a _ e)
 exact ⟨mA,⟨ob,n,ne⟩,r,q,z,d⟩
end
structure Cls (K:W.Frag) (C:Addr):Prop where
 pg:W.plainGet K C Str.empty=true
 hd:W.hasDictIn K C=true
 po:W.plainOver K C=true
 sa:W.findIn K (.ref C) "__setattr__"=some (some (.builtin "object.__setattr__"))
theorem Cls.get {K:W.Frag} {C:Addr} (c:Cls K C) (f:Str):W.plainGet K C f=true:=c.pg
structure Con (K:W.Frag) (C:Addr) (f:Str) (v:V) (u:Value):Prop where
 at_:W.findIn K (.ref C) f=some (some u)
 rel:zbl v u
 get:W.specialIn K u "__get__"=some none
 cp:W.copiedNames.contains f=false
structure zvJ (K:W.Frag) (C:Addr) (m:Str) (f:Addr):Prop where
 at_:W.findIn K (.ref C) m=some (some (.ref f))
 fn:W.isFn K (.ref f)=true
 kp:W.keepIn K (.ref f)=true
section
variable {X:Cx} {pins:List (Addr×Obj)} {σ:St} {H:Hp} {s:Shared} {a C dx:Addr} {fs:List (Str×V)} {f:Str} {v:V} {A:Around} {E:Value->Shared->Prop}
theorem Inv.made (I:Inv X pins σ H s):Inv X pins σ (upd (upd H s.heap.objs.size (.own (s.heap.objs.size+1))) (s.heap.objs.size+1) (.ins C s.heap.objs.size []))
  {s with heap:=(s.heap.push W.emptyDict).push (W.instObj C s.heap.objs.size)}:=by
 have e1:(s.heap.push W.emptyDict).get? s.heap.objs.size=some W.emptyDict:=qar s.heap rfl
 have e2:((s.heap.push W.emptyDict).push (W.instObj C s.heap.objs.size)).get? (s.heap.objs.size+1)=some (W.instObj C s.heap.objs.size):=by
  have:=qar (s.heap.push W.emptyDict) (o:=W.instObj C s.heap.objs.size) rfl
  rwa [qaL] at this
 have e3:(s.heap.push W.emptyDict).Ns s.heap.objs.size (fun _=>none):=⟨W.emptyDict, #[],_,e1,rfl,(fun e he=>absurd he (by simp)),fun _=>rfl⟩
 have I1:=I.laid (a:=s.heap.objs.size) (o:= .own (s.heap.objs.size+1)) (h':=s.heap.push W.emptyDict) (t':=s.toks) (fun b u q=>qag _ q) (qaV _) ⟨_,e1⟩
 refine I1.laid (a:=s.heap.objs.size+1) (o:= .ins C s.heap.objs.size []) (t':=s.toks) (fun b u q=>qag _ q) (Nat.le_of_eq (qaL _ _)) ?_
 have ne:s.heap.objs.size≠s.heap.objs.size+1:=qaR (Nat.lt_succ_self _)
 refine ⟨by rw [zat ne,zaC],Nat.zero_le _,ne,e2,fun _=>none,(Heap.Ns1.of_empty e3).at fun o q=>qag _ q,fun _=>True.intro,fun y hy=>absurd rfl hy⟩
end
section
variable {X:Cx} {o e value:Expr} {f:Str} {pos pos' tpos:Pos} {ta tv:TE}
end
section
variable {X:Cx} {pins:List (Addr×Obj)} {σ:St} {H:Hp} {s:Shared} {A:Around} {E:Value->Shared->Prop} {Q:Value->Shared->Prop} {c:Value} {b:Bool}
inductive zi2 (K:W.Frag) (H:Hp):V->Value->Prop where
 | non:zi2 K H .non (.type "NoneType")
 | bl (x:Bool):zi2 K H (.bl x) (.type "bool")
 | int (i:Int):zi2 K H (.int i) (.type "int")
 | str (x:Str):zi2 K H (.str x) (.type "str")
 | flt (x:UInt64):zi2 K H (.flt x) (.type "float")
 | lst {a:Addr} {xs:List V} (e:H a=some (.lst xs)):zi2 K H (.ref a) (.type "list")
 | frz {a:Addr} {o:Obj} {xs:List V} (e:H a=some (.frz o (.lst xs))):zi2 K H (.ref a) (.type "list")
 | tup {a:Addr} {xs:List V} (e:H a=some (.tup xs)):zi2 K H (.ref a) (.type "tuple")
 | dK {a:Addr} {kvs:List (Key×V)} (e:H a=some (.dK kvs)):zi2 K H (.ref a) (.type "dict")
 | dT {a:Addr} {kvs:List (List Key×V)} (e:H a=some (.dT kvs)):zi2 K H (.ref a) (.type "dict")
 | ins {a C dx:Addr} {fs:List (Str×V)} (e:H a=some (.ins C dx fs)) (cl:Cls K C) (ha:W.findIn K (.ref C) "__class__"=some (some (.builtin "object.__class__")))
   (hn:W.specialIn K (.builtin "object.__class__") "__get__"=some (some (.builtin "getset_descriptor.__get__"))) (htk:W.takesIn K (.builtin "object.__class__")=some true)
   (hm:W.mroIn K C (.type "object")=some true):zi2 K H (.ref a) (.ref C)
theorem zla {x:V} {u t:Value} (I:Inv X pins σ H s) (rx:zbl x u) (ty:zi2 X.K H x t) (e:W.kitOne X.K t c=some b) (h: ∀ tk,Q (.bool b) {s with toks:=tk}):
  wpAny (model X.prog X.w) A (call (.builtin "isinstance") [u,c]) Q E s:=by
 cases ty with
 | non=>cases (show u=Value.none from rx);exact W.kia_one W.kitx_none I.kIn True.intro e (fun z=>nomatch z) h
 | bl y=>cases (show u=Value.bool y from rx);exact W.kia_one W.kitx_bool I.kIn True.intro e (fun z=>nomatch z) h
 | int i=>obtain ⟨t,q⟩:=(show ∃ t,u=Value.int i t from rx);cases q;exact W.kia_one W.kitx_int I.kIn True.intro e (fun z=>nomatch z) h
 | str y=>obtain ⟨t,q⟩:=(show ∃ t,u=Value.str y t from rx);cases q;exact W.kia_one W.kitx_str I.kIn True.intro e (fun z=>nomatch z) h
 | flt y=>obtain ⟨t,q⟩:=(show ∃ t,u=Value.float y t from rx);cases q;exact W.kia_one W.kitx_float I.kIn True.intro e (fun z=>nomatch z) h
 | @lst a xs ea=>
  cases (show u=Value.ref a from rx)
  obtain ⟨_,_,n,_,h1⟩:=(show zbo X.prog X.w H s.heap a (.lst xs) from I.hok a _ ea)
  exact W.kia_one W.kitx_list I.kIn ⟨_,h1,rfl⟩ e (fun z=>nomatch z) h
 | @frz a ob xs ea=>
  cases (show u=Value.ref a from rx)
  obtain ⟨_,_,_,n,_,h1⟩:=(show zbo X.prog X.w H s.heap a (.frz ob (.lst xs)) from I.hok a _ ea)
  exact W.kia_one W.kitx_list I.kIn ⟨_,h1,rfl⟩ e (fun z=>nomatch z) h
 | @tup a xs ea=>
  cases (show u=Value.ref a from rx)
  obtain ⟨_,_,_,p⟩:=(show zbo X.prog X.w H s.heap a (.tup xs) from I.hok a _ ea)
  obtain ⟨o,h1,h2,_⟩:=p
  exact W.kia_one W.kitx_tuple I.kIn ⟨o,h1,h2⟩ e (fun z=>nomatch z) h
 | @dK a kvs ea=>
  cases (show u=Value.ref a from rx)
  obtain ⟨_,_,vs,_,p⟩:=(show zbo X.prog X.w H s.heap a (.dK kvs) from I.hok a _ ea)
  obtain ⟨o,es,ep,h1,h2,_⟩:=p
  exact W.kia_one W.kitx_dict I.kIn ⟨o,h1,h2.1⟩ e (fun z=>nomatch z) h
 | @dT a kvs ea=>
  cases (show u=Value.ref a from rx)
  obtain ⟨_,_,xs,_,o,es,ep,h1,h2,_⟩:=(show zbo X.prog X.w H s.heap a (.dT kvs) from I.hok a _ ea)
  exact W.kia_one W.kitx_dict I.kIn ⟨o,h1,h2.1⟩ e (fun z=>nomatch z) h
 | @ins a C dx fs ea cl ha hn htk hm=>
  cases (show u=Value.ref a from rx)
  obtain ⟨mA,O,_⟩:=zpK I.hok ea
  obtain ⟨od,J,_⟩:=O.look
  exact W.kia_one (W.kitx_own (cl.get _) cl.hd ha hn htk hm) I.kIn J e (fun z=>nomatch z) h
end
structure zdg (k:Nat) (A:Around):Prop where
 hd:A.handled=none
 dp:A.depth+3*k+5<recursionLimit
 un:A.units+16*k+200<cLine
theorem zdg.mono {j k:Nat} {A:Around} (r:zdg k A) (h:j<=k):zdg j A:=⟨r.hd,by have:=r.dp;omega,by have:=r.un;omega⟩
theorem zdg.deeper {k:Nat} {A:Around} (r:zdg (k+1) A) (env:Env):zdg k (A.deeper env):=
 ⟨r.hd,by have:=r.dp;show A.depth+1+3*k+5<_;omega,by have:=r.un;show A.units+3+16*k+200<_;omega⟩
theorem zdg.in1 {k:Nat} {A:Around} (r:zdg (k+1) A):zdg k A.in1:=
 ⟨r.hd,by have:=r.dp;show A.depth+3*k+5<_;omega,by have:=r.un;show A.units+1+16*k+200<_;omega⟩
theorem zdg.depth {k:Nat} {A:Around} (r:zdg k A):A.depth<recursionLimit:=by have:=r.dp;omega
theorem zdg.units {k:Nat} {A:Around} (r:zdg k A):A.units+64<cLine:=by have:=r.un;omega
noncomputable def zvf:TA:=fun _ H Q=>Q [] H
noncomputable def zuK (ta:TE) (tr:TA):TA:=fun σ H Q=>ta σ H fun x H1=>tr σ H1 fun xs H2=>Q (x::xs) H2
section
variable {X:Cx} {e:Expr} {es:List Expr} {te:TE} {t:TA} {pos:Pos}
theorem zcn:PA X [] zvf:=fun _ _ _ _ H Q I h=>Calls.spliced_nil ⟨[],H,I,.nil,h⟩
theorem zba (ha:PE X e te) (hr:PA X es t) (hs:starEach (e::es) X.env=(false,eval e X.env)::starEach es X.env:=by rfl):PA X (e::es) (zuK te t):=by
 intro pos pins s σ H Q I h
 rw [hs]
 show wpAny _ _ (spliced ((false,eval e X.env)::backTo pos (starEach es X.env))) _ _ s
 refine Calls.spliced_cons (thn (ha pins s σ H _ I h) fun u s1 ⟨x,H1,I1,r1,q1⟩=> ?_)
 exact thn (hr pos pins s1 σ H1 _ I1 q1) fun us s2 ⟨xs,H2,I2,r2,q2⟩=>⟨x::xs,H2,I2,.cons r1 r2,q2⟩
noncomputable def zvx (t:TA):TE:=fun σ H Q=>t σ H fun xs H1=>xs.length<=sizeLine/\ ∀ p,H1 p=none->Q (.ref p) (upd H1 p (.tup xs))
noncomputable def zqO (t:TA):TE:=fun σ H Q=>t σ H fun xs H1=>xs.length<=sizeLine/\ ∀ p,H1 p=none->Q (.ref p) (upd H1 p (.lst xs))
theorem zsn {x1} (h:PA X es t):PE X (.Tuple es x1 pos) (zvx t):=by
 intro pins s σ H Q I hq
 refine wpAny_Tuple_spliced (thn (h pos pins s σ H _ I hq) fun us s1 ⟨xs,H1,I1,r,z,q⟩=>⟨by rw [<- r.length];exact z,?_⟩)
 have hf:H1 s1.heap.objs.size=none:=I1.hok.fresh (qaV _)
 refine ⟨.ref s1.heap.objs.size,upd H1 s1.heap.objs.size (.tup xs),I1.laid (t':=s1.toks) (fun b u e=>qag _ e) (qaV _) ?_,rfl,q _ hf⟩
 exact ⟨z,us,r,⟨_,qar _ rfl,rfl,_,rfl⟩⟩
theorem zmi (h:PA X es t):PE X (.List es pos) (zqO t):=by
 intro pins s σ H Q I hq
 refine wpAny_List_spliced (thn (h pos pins s σ H _ I hq) fun us s1 ⟨xs,H1,I1,r,z,q⟩=>⟨by rw [<- r.length];exact z,?_⟩)
 have hf:H1 s1.heap.objs.size=none:=I1.hok.fresh (qaV _)
 refine ⟨.ref s1.heap.objs.size,upd H1 s1.heap.objs.size (.lst xs),I1.laid (t':=s1.toks) (fun b u e=>qag _ e) (qaV _) ?_,rfl,q _ hf⟩
 exact ⟨z,us,0,r,qar _ rfl⟩
end
noncomputable abbrev Sp:=List V->Hp->VK->XK->Prop
noncomputable abbrev CXT:=List Env->Hp->Shared->XK->Value->Shared->Prop
structure zmS (P:Program) (w:World) (K:W.Frag) (mg:Str->Option Value) (base:Heap) (A:Around) (outer:List Env) (s:Shared) (H:Hp):Prop where
 frames:A.frames=some outer
 mod:Mod K mg base
 bs: ∀ b o,base.get? b=some o->s.heap.get? b=some o/\H b=none
 bsz:base.objs.size<=s.heap.objs.size
 funs:s.heap.FunFrames base outer
 frf: ∀ b∈frs outer,H b=none
 hok:HOk P w H s.heap
 bare:AllBare s.gens
 hand:zhc A H
def CE (outer:List Env) (P:Program) (w:World) (H:Hp) (s:Shared) (Q:VK) (u:Value) (s':Shared):Prop:=
 ∃ v H',s'.os=s.os/\AllBare s'.gens/\Un (frs outer) [] H H' s.heap s'.heap/\HOk P w H' s'.heap/\zbl v u/\Q v H'
def CR (CX:CXT) (outer:List Env) (P:Program) (w:World) (H:Hp) (s:Shared) (Q:VK) (E:XK) (r:Result) (s':Shared):Prop:=
 match r with
 | .ok (.ret u)=>CE outer P w H s Q u s'
 | .ok _=>False
 | .error e=>CX outer H s E e s'
structure zbw (P:Program) (w:World) (K:W.Frag) (mg:Str->Option Value) (base:Heap) (CX:CXT) (k:Nat) (f:Addr) (fd:FuncData) (ps:List Str) (sp:Sp):Prop where
 len: ∀ vs H Q E,sp vs H Q E->vs.length=ps.length
 run: ∀ (A:Around) (outer:List Env) (s:Shared) (H:Hp) (args:Args) (us:List Value) (vs:List V) (Q:VK) (E:XK),zdg k A->zmS P w K mg base A outer s H->BindsTo s fd args (ps.zip us)->zaK vs us->sp vs H Q E->
  codeAny (model P w) A (.call (.ref f) args) (CR CX outer P w H s Q E) s
theorem zbw.mono {P:Program} {w:World} {K:W.Frag} {mg:Str->Option Value} {base:Heap} {CX:CXT} {j k:Nat} {f:Addr} {fd:FuncData} {ps:List Str} {sp:Sp} (F:zbw P w K mg base CX j f fd ps sp) (h:j<=k):
  zbw P w K mg base CX k f fd ps sp:=⟨F.len,fun A outer s H args us vs Q E hr=>F.run A outer s H args us vs Q E (hr.mono h)⟩
theorem zbw.imp {P:Program} {w:World} {K:W.Frag} {mg:Str->Option Value} {base:Heap} {CX:CXT} {k:Nat} {f:Addr} {fd:FuncData} {ps:List Str} {sp sp':Sp} (F:zbw P w K mg base CX k f fd ps sp)
  (h: ∀ vs H Q E,sp' vs H Q E->sp vs H Q E):zbw P w K mg base CX k f fd ps sp':=
 ⟨fun vs H Q E q=>F.len vs H Q E (h _ _ _ _ q),fun A outer s H args us vs Q E hr he hb hv hs=>F.run A outer s H args us vs Q E hr he hb hv (h _ _ _ _ hs)⟩
theorem zmS.in1 {P:Program} {w:World} {K:W.Frag} {mg:Str->Option Value} {base:Heap} {A:Around} {outer:List Env} {s:Shared} {H:Hp} (e:zmS P w K mg base A outer s H):
  zmS P w K mg base A.in1 outer s H:=⟨e.frames,e.mod,e.bs,e.bsz,e.funs,e.frf,e.hok,e.bare,e.hand⟩
section
variable {X:Cx} {pins:List (Addr×Obj)} {σ:St} {H:Hp} {s s':Shared}
theorem Inv.env0 (I:Inv X pins σ H s):zmS X.prog X.w X.K X.mg X.base X.A X.stack s H:=
 ⟨I.ok.frames,I.ok.mod,I.bs,qaS I.ok.bsz I.sz,I.stack,I.stkFree,I.hok,I.bare,I.handA⟩
theorem Inv.after {Q:VK} {u:Value} (I:Inv X pins σ H s) (h:CE X.stack X.prog X.w H s Q u s'):EP X pins σ Q u s':=by
 obtain ⟨v,H',os,bare,un,hok,r,q⟩:=h
 obtain ⟨hh,g,d,t,os'⟩:=s'
 obtain rfl:os'=s.os:=os
 exact ⟨v,H',I.call (h':=hh) (g':=g) (d':=d) (t':=t) (ch:=[]) un hok bare (fun b z=>absurd z (by simp)),r,q⟩
end
noncomputable def zuo (sp:Sp) (dvs:List V) (E:XK) (t:TA):TE:=fun σ H Q=>t σ H fun vs H1=>sp (vs++dvs) H1 Q E
def zaG (K:W.Frag) (fd:FuncData) (ps:List Str) (ds:List Value):Prop:=
 ∀ (s:Shared) (us:List Value),K.In s.heap->(us++ds).length=ps.length->BindsTo s fd ⟨us,[]⟩ (ps.zip (us++ds))
theorem zaG.all {K:W.Frag} {fd:FuncData} {ps:List Str} (h: ∀ us:List Value,us.length=ps.length->bindArgs fd ⟨us,[]⟩=pure (ps.zip us)):zaG K fd ps []:=fun s us _ hl=>by
 rw [List.append_nil] at hl ⊢
 exact .of_eq (h us hl)
def zc0 (CX:CXT) (X:Cx) (E:XK):Prop:= ∀ (pins:List (Addr×Obj)) (σ:St) (H:Hp) (s:Shared) (e:Value) (s':Shared),Inv X pins σ H s->CX X.stack H s E e s'->X.xe e s'
section
variable {X:Cx} {CX:CXT} {k:Nat} {f C:Addr} {fd:FuncData} {ps:List Str} {sp:Sp} {dvs:List V} {ds:List Value} {E:XK} {x m:Str} {p pos apos:Pos} {e o:Expr} {es:List Expr} {ta:TE} {t:TA}
theorem zoT {pins:List (Addr×Obj)} {σ:St} {H:Hp} {s:Shared} {Q:VK} {us:List Value} {vs:List V} (F:zbw X.prog X.w X.K X.mg X.base CX k f fd ps sp) (hr:zdg k X.A) (hb:zaG X.K fd ps ds) (hd:zaK dvs ds) (hx:zc0 CX X E)
  (I:Inv X pins σ H s) (r:zaK vs us) (h:sp (vs++dvs) H Q E):wpAny (model X.prog X.w) X.A (call (.ref f) us) (EP X pins σ Q) X.xe s:=by
 have r2:zaK (vs++dvs) (us++ds):=r.append hd
 have hl:(us++ds).length=ps.length:=by rw [<- r2.length];exact F.len _ _ _ _ h
 refine wpAny_call (codeAny_mono (F.run X.A X.stack s H ⟨us,[]⟩ (us++ds) (vs++dvs) Q E hr I.env0 (hb s us I.kIn hl) r2 h) fun r s' hq=> ?_)
 cases r with
 | error e=>exact hx pins σ H s e s' I hq
 | ok fl=>
  cases fl with
  | ret u=>exact I.after hq
  | next=>exact qa0 hq
  | brk=>exact qa0 hq
  | cont=>exact qa0 hq
theorem zhS (F:zbw X.prog X.w X.K X.mg X.base CX k f fd ps sp) (hr:zdg k X.A) (hg:Gl X x) (hm:X.mg x=some (.ref f)) (hk:W.keepIn X.K (.ref f)=true) (hb:zaG X.K fd ps ds) (hd:zaK dvs ds) (hx:zc0 CX X E)
  (ha:PA X (e::es) t) (hdb:(x==("__debug__":Str))=false:=by decide) (he:starEach (e::es) X.env=(false,eval e X.env)::starEach es X.env:=by rfl) (hpl:(backTo pos (starEach es X.env)).any (·.1)=false:=by rfl):
  PE X (.Call (.Name x p) (e::es) [] pos) (zuo sp dvs E t):=by
 intro pins s σ H Q I h
 refine wpAny_Call_Name_kw (ziu I hg hm ?_ hdb)
 refine W.callWith_K (h₀:=X.base) I.ok.mod.kin hk (thn (ha pos pins s σ H _ I h) fun us s1 ⟨vs,H1,I1,r,q⟩=>⟨I1.kIn,?_⟩) he hpl
 exact zoT F hr hb hd hx I1 r q
structure Mk (K:W.Frag) (C f:Addr):Prop where
 makes:W.makesIn K C=true
 init:W.findIn K (.ref C) "__init__"=some (some (.ref f))
 fn:W.isFn K (.ref f)=true
 kp:W.keepIn K (.ref C)=true
end
section
variable {X:Cx} {CX:CXT} {k:Nat} {f C:Addr} {fd:FuncData} {ps ks:List Str} {sp:Sp} {E:XK} {x m:Str} {p pos apos kpos:Pos} {e o:Expr} {es:List Expr} {kws:List Keyword} {te ta:TE} {t tk:TA} {nm:Option Str}
structure zu0 (K:W.Frag) (fd:FuncData) (ps ks:List Str) (g:List Value->List Value->List Value) (gV:List V->List V->List V):Prop where
 to: ∀ (s:Shared) (us ws:List Value),K.In s.heap->(g us ws).length=ps.length->BindsTo s fd ⟨us,ks.zip ws⟩ (ps.zip (g us ws))
 rel: ∀ {vs:List V} {us:List Value} {zs:List V} {ws:List Value},zaK vs us->zaK zs ws->zaK (gV vs zs) (g us ws)
variable {g:List Value->List Value->List Value} {gV:List V->List V->List V}
end
structure zao (N P:List Str) (sc:Scope):Prop where
 kind:sc.kind= .function
 co:sc.isCoroutine=false
 gen:sc.isGenerator=false
 nd:N.Nodup
 pre:N.take P.length=P
 par: ∀ x∈P,sc.names.lookup x=some .local\/sc.names.lookup x=some .cell
 nofree: ∀ y∈sc.names,y.2≠ .free
theorem zgT {kindOf:Str->Option NameKind} {x:Str}: ∀ {binds:List (Str×Value)} {m:Str->Option Value},(∀ v,(x,v)∉binds)->bindL kindOf binds m x=m x
 | [],_,_=>rfl
 | (n,v)::r,m,h=>by
  unfold bindL
  rw [zgT fun w hw=>h w (qan _ hw)]
  split
  ·have:x≠n:=by rintro rfl;exact h v qau
   simp [this]
  ·rfl
theorem zhD {kindOf:Str->Option NameKind} {x:Str}: ∀ {binds:List (Str×Value)} {m:Str->Option Value},(∀ v,(x,v)∉binds)->bindC kindOf binds m x=m x
 | [],_,_=>rfl
 | (n,v)::r,m,h=>by
  unfold bindC
  rw [zhD fun w hw=>h w (qan _ hw)]
  split
  ·rfl
  ·have:x≠n:=by rintro rfl;exact h v qau
   simp [this]
theorem zg2 {kindOf:Str->Option NameKind} {x:Str} {v:Value}: ∀ {P:List Str} {vs:List Value} {i:Nat} {m:Str->Option Value},P.Nodup->P[i]? = some x->vs[i]? = some v->kindOf x=some .local->
  bindL kindOf (P.zip vs) m x=some v
 | [],_,_,_,_,h,_,_=>by simp at h
 | _::_,[],_,_,_,_,h,_=>by simp at h
 | p::P,w::vs,0,m,nd,h1,h2,hk=>by
  simp at h1 h2;subst h1;subst h2
  show bindL kindOf ((p,w)::P.zip vs) m p=_
  unfold bindL
  rw [zgT fun v hv=>(List.nodup_cons.mp nd).1 (List.of_mem_zip hv).1,qa4 hk]
  simp
 | p::P,w::vs,i+1,m,nd,h1,h2,hk=>by
  show bindL kindOf ((p,w)::P.zip vs) m x=_
  unfold bindL
  exact zg2 (i:=i) (List.nodup_cons.mp nd).2 (by simpa using h1) (by simpa using h2) hk
theorem zha {kindOf:Str->Option NameKind} {x:Str} {v:Value}: ∀ {P:List Str} {vs:List Value} {i:Nat} {m:Str->Option Value},P.Nodup->P[i]? = some x->vs[i]? = some v->kindOf x≠some .local->
  bindC kindOf (P.zip vs) m x=some v
 | [],_,_,_,_,h,_,_=>by simp at h
 | _::_,[],_,_,_,_,h,_=>by simp at h
 | p::P,w::vs,0,m,nd,h1,h2,hk=>by
  simp at h1 h2;subst h1;subst h2
  show bindC kindOf ((p,w)::P.zip vs) m p=_
  unfold bindC
  rw [zhD fun v hv=>(List.nodup_cons.mp nd).1 (List.of_mem_zip hv).1,qa5 hk]
  simp
 | p::P,w::vs,i+1,m,nd,h1,h2,hk=>by
  show bindC kindOf ((p,w)::P.zip vs) m x=_
  unfold bindC
  exact zha (i:=i) (List.nodup_cons.mp nd).2 (by simpa using h1) (by simpa using h2) hk
noncomputable def zea (N:List Str) (vs:List V):St:=vs.map some++List.replicate (N.length - vs.length) none
noncomputable def zhM (CX:CXT) (P:Program) (w:World) (K:W.Frag) (mg:Str->Option Value) (base:Heap) (N:List Str) (qual:Str) (scope:Scope) (f:Addr) (cd:Value) (A:Around) (outer:List Env) (s:Shared) (H:Hp) (E:XK):Cx where
 prog:=P
 w:=w
 K:=K
 mg:=mg
 base:=base
 A:=A.deeper (envOfC qual scope s.heap.objs.size f cd)
 N:=N
 s₀:=s
 H₀:=H
 env:=envOfC qual scope s.heap.objs.size f cd
 outer:=outer
 stack:=envOfC qual scope s.heap.objs.size f cd::outer
 ex:=[]
 calm:=true
 fn:=fun _=>true
 pn:=[]
 xe:=fun e s'=>wpAny (model P w) (A.deeper (envOfC qual scope s.heap.objs.size f cd)) (leaving (envOfC qual scope s.heap.objs.size f cd) e) (fun _ s''=>CX outer H s E e s'') (fun e' s''=>CX outer H s E e' s'') s'
theorem ziX {sc:Scope} {n:Nat} {x:Str} (h:sc.names.lookup x=some .cell): ∃ c,(cellsFrom n sc.names []).lookup x=some c:=by
 have q:=W.cellsFrom_some sc.names n [] (.inl h)
 exact Option.isSome_iff_exists.mp q
theorem zg4 {CX:CXT} {P:Program} {w:World} {K:W.Frag} {mg:Str->Option Value} {base:Heap} {N ps:List Str} {qual:Str} {scope:Scope} {f:Addr} {cd:Value} {A:Around} {outer:List Env} {s s1:Shared} {H:Hp} {E:XK} {us:List Value} {vs:List V}
  (S:zao N ps scope) {cm:Bool} (hd:cm=true->A.handled=none) (e0:zmS P w K mg base A outer s H) (hl:vs.length=ps.length) (r:zaK vs us)
  (x:InCallC s s.heap.objs.size (bindL (envOfC qual scope s.heap.objs.size f cd).kindOf (ps.zip us) fun _=>none) (cellsFrom (s.heap.objs.size+1) scope.names []) (bindC (envOfC qual scope s.heap.objs.size f cd).kindOf (ps.zip us) fun _=>none) s1):
  Inv {zhM CX P w K mg base N qual scope f cd A outer s H E with calm:=cm} [] (zea N vs) H s1:=by
 have hpl:ps.length<=N.length:=by have:=congrArg List.length S.pre;rw [List.length_take] at this;omega
 obtain ⟨h1,tk,rfl,hk⟩:=x.done
 have noA: ∀ b:Addr,b∉(zhM CX P w K mg base N qual scope f cd A outer s H E).ex:=fun b z=>absurd (show b∈([]:List Addr) from z) (by simp)
 refine ⟨⟨e0.mod,S.kind,rfl,rfl,qaV _,fun y z c h1 h2=> ?_,fun y hy=> ?_,fun y c _ h=> ?_,hd,e0.hand,Around.frames_deeper e0.frames,.inr ⟨rfl,rfl⟩,fun b z=>absurd z (noA b),e0.bs,e0.bsz,fun b _ _=>noA b,fun b z=>absurd z (noA b),e0.funs,e0.frf⟩,
   rfl,e0.bare,Un.kept hk,⟨_,x.toInCall.ns,fun i y v h1 h2 h3=> ?_⟩,fun y c h=>⟨_,x.cell y c h⟩,e0.hok.fresh (qaV _),fun y c h=> ?_,fun p hp=>absurd (show p∈([]:List (Addr×Obj)) from hp) (by simp),e0.hok.kept hk,?_⟩
 ·exact name_of_addr x.apart (PySem.mem_of_lookup h1) (PySem.mem_of_lookup h2)
 ·have hy:scope.names.lookup y=some .cell\/scope.names.lookup y=some .free:=hy
  rcases hy with hy | hy
  ·exact ziX hy
  ·exact absurd rfl (S.nofree _ (PySem.mem_of_lookup hy))
 ·exact Nat.le_of_lt (x.above y c (PySem.mem_of_lookup h))
 ·have hi:i<vs.length:=by
   unfold zea at h2
   by_cases hi:i<vs.length
   ·exact hi
   ·rw [qaa (by simpa using hi)] at h2
    rw [List.getElem?_replicate] at h2
    split at h2<;>cases h2
  have ha:vs[i]? = some v:=by
   unfold zea at h2
   rw [qad (by simpa using hi),List.getElem?_map] at h2
   cases e:vs[i]? with
   | none=>rw [e] at h2;cases h2
   | some a=>rw [e] at h2;cases h2;rfl
  obtain ⟨u,hu,rv⟩:=r.get ha
  have hp:ps[i]? = some y:=by
   rw [<- S.pre,List.getElem?_take_of_lt (by omega)];exact h1
  have ndP:ps.Nodup:=by rw [<- S.pre];exact S.nd.sublist (List.take_sublist _ _)
  refine ⟨u,rv,?_⟩
  rcases S.par y (List.mem_of_getElem? hp) with k | k
  ·exact .inl ⟨k,zg2 ndP hp hu k⟩
  ·obtain ⟨c,e⟩:=ziX (n:=s.heap.objs.size+1) k
   refine .inr ⟨.inl k,c,e,?_⟩
   have q:=x.cell y c e
   rw [zha ndP hp hu (by show scope.names.lookup y≠_;rw [k];decide)] at q
   exact q
 ·exact e0.hok.fresh (Nat.le_of_lt (x.above y c (PySem.mem_of_lookup h)))
 ·unfold zea
  show _=N.length
  rw [qav,qaH,List.length_replicate]
  omega
theorem zrj {CX:CXT} {P:Program} {w:World} {K:W.Frag} {mg:Str->Option Value} {base:Heap} {k:Nat} {f:Addr} {name qual:Str} {params:Arguments} {body:List Stmt} {scope:Scope} {dV kV doc pm cdv ct oc:Value} {an od:Option Addr}
  {osl:Array (Option Value)} {N ps:List Str} {sp:Sp} (lk:K.lookup f=some ⟨oc,od,.func (W.fnOf name qual params body scope dV kV doc pm an cdv ct),osl⟩) (hcd:W.codeIn K cdv qual=true) (S:zao N ps scope)
  (len: ∀ vs H Q E,sp vs H Q E->vs.length=ps.length)
  (hbody: ∀ (A:Around) (outer:List Env) (s:Shared) (H:Hp) (vs:List V) (Q:VK) (E:XK),zdg k (A.deeper (envOfC qual scope s.heap.objs.size f cdv))->sp vs H Q E->
    ∃ t,PSs (zhM CX P w K mg base N qual scope f cdv A outer s H E) body t/\t {nx:=fun _ H'=>Q .non H',rt:=Q} (zea N vs) H):
  zbw P w K mg base CX (k+1) f (W.fnOf name qual params body scope dV kV doc pm an cdv ct) ps sp:=by
 refine ⟨len,fun A outer s H args us vs Q E hr e0 hb r hsp=> ?_⟩
 have hl:=len _ _ _ _ hsp
 have KX:K.In s.heap:=e0.mod.kin.keeps fun b o e=>(e0.bs b o e).1
 have lim:s.heap.NoLimit:=e0.mod.nolimit.keeps fun b o e=>(e0.bs b o e).1
 have hkind: ∀ y∈ps.zip us,scope.names.lookup y.1=some .local\/(scope.names.lookup y.1=some .cell/\((cellsFrom (s.heap.objs.size+1) scope.names []).lookup y.1).isSome=true):=fun ⟨n,v⟩ hy=>by
  rcases S.par n (List.of_mem_zip hy).1 with q | q
  ·exact .inl q
  ·exact .inr ⟨q,W.cellsFrom_some _ _ _ (.inl q)⟩
 refine codeAny_call_function hr.depth (KX _ _ lk) rfl S.co S.gen rfl (W.codeRec_of KX hcd) (hb _ _ _ _ ?_)
 refine wpAny_newFunctionEnv_cells S.kind hkind fun env he s1 x=> ?_
 subst he
 refine ⟨lim.keeps x.toInCall.keep,codeAny_func ?_⟩
 obtain ⟨t,ht,hq⟩:=hbody A outer s H vs Q E (hr.deeper _) hsp
 have I:Inv (zhM CX P w K mg base N qual scope f cdv A outer s H E) [] (zea N vs) H s1:=zg4 (cm:=true) S (fun _=>hr.hd) e0 hl r x
 refine qaZ (ht [] s1 (zea N vs) H _ I hq) (fun fl s' hs=> ?_) fun e s' hs=>hs
 have fin: ∀ {σ':St} {H':Hp} {v:V} {u:Value},Inv (zhM CX P w K mg base N qual scope f cdv A outer s H E) [] σ' H' s'->zbl v u->Q v H'->CE outer P w H s Q u s':=
  fun {σ' H' v u} J rv q=>⟨v,H',J.os,J.bare,J.base,J.hok,rv,q⟩
 cases fl with
 | ret u=>
  obtain ⟨v,σ',H',J,rv,q⟩:=hs
  exact fin J rv q
 | next=>
  obtain ⟨σ',H',J,q⟩:=hs
  exact fin (v:=V.non) (u:=Value.none) J rfl q
 | brk=>
  obtain ⟨_,_,_,q⟩:=hs
  exact qa0 q
 | cont=>
  obtain ⟨_,_,_,q⟩:=hs
  exact qa0 q
section
variable {X:Cx} {x:Str} {p pos:Pos} {e:Expr} {es:List Expr} {t:TA} {id T:String} {r:List V->Hp->VK->Prop}
noncomputable def tCB (r:List V->Hp->VK->Prop) (t:TA):TE:=fun σ H Q=>t σ H fun vs H1=>r vs H1 Q
theorem zew (hc:zay X (.builtin id) r) (hg:Gl X x) (hm:X.mg x=none) (hv:bootBuiltins x=some (.builtin id)) (ha:PA X (e::es) t) (hn:x≠"__name__":=by decide) (hdb:(x==("__debug__":Str))=false:=by decide)
  (he:starEach (e::es) X.env=(false,eval e X.env)::starEach es X.env:=by rfl) (hpl:(backTo pos (starEach es X.env)).any (·.1)=false:=by rfl):PE X (.Call (.Name x p) (e::es) [] pos) (tCB r t):=by
 intro pins s σ H Q I h
 refine wpAny_Call_Name_kw (zgG I hg hm hv ?_ hn hdb)
 exact PyProof.Rows.callWith_builtin1 (thn (ha pos pins s σ H _ I h) fun us s1 ⟨vs,H1,I1,r1,q1⟩=>hc pins s1 σ H1 vs us Q I1 r1 q1) he hpl
theorem zcd (hc:zay X (.type T) r) (hg:Gl X x) (hm:X.mg x=none) (hv:bootBuiltins x=some (.type T)) (ha:PA X (e::es) t) (hn:x≠"__name__":=by decide) (hdb:(x==("__debug__":Str))=false:=by decide)
  (he:starEach (e::es) X.env=(false,eval e X.env)::starEach es X.env:=by rfl) (hpl:(backTo pos (starEach es X.env)).any (·.1)=false:=by rfl):PE X (.Call (.Name x p) (e::es) [] pos) (tCB r t):=by
 intro pins s σ H Q I h
 refine wpAny_Call_Name_kw (zgG I hg hm hv ?_ hn hdb)
 exact PyProof.Rows.callWith_type1 (thn (ha pos pins s σ H _ I h) fun us s1 ⟨vs,H1,I1,r1,q1⟩=>hc pins s1 σ H1 vs us Q I1 r1 q1) he hpl
end
end L2
namespace HT
open PySem PyProof.Rows
noncomputable def zaV:List Int->List Int->Bool
 | [],[]=>false
 | [],_::_=>true
 | _::_,[]=>false
 | x::xs,y::ys=>if x=y then zaV xs ys else decide (x<y)
theorem za2 (x y:Int) (xs ys:List Int):zaV (x::xs) (y::ys)=if x=y then zaV xs ys else decide (x<y):=rfl
theorem zdD:zaV [] []=false:=rfl
theorem zdk (y:Int) (ys:List Int):zaV [] (y::ys)=true:=rfl
theorem zdf (x:Int) (xs:List Int):zaV (x::xs) []=false:=rfl
theorem zjf (A:Around) (s:Shared) (a:Int) (t:Tok) (c:Int) (u:Tok): ∃ e,SeqAt.EqAt A s (.int a t) (.int c u) e/\(e=true↔a=c):=
 ⟨(a==c),SeqAt.EqAt.int_int a t c u,by simp⟩
theorem zi7 (A:Around) (s:Shared) (a:Int) (t:Tok) (c:Int) (u:Tok) (prog:Program) (w:World) (E:Value->Shared->Prop) (Q:Value->Shared->Prop) (h:Q (.bool (decide (a<c))) s):
  wpAny (model prog w) A (richCompare .Lt (.int a t) (.int c u)) Q E s:=
 (PyProof.Rows.lt_int h:wpAny (model prog w) A (compareOp .Lt (.int a t) (.int c u)) Q E s)
section
open PySem.SeqAt
open PySem.AutoSeq1 (wpAny_loadPart')
open PySem.MeetsSeq PySem.MeetsSeq2 PySem.MeetsSeq3
theorem zf6 (l b:Addr) (items items2:Array Value) (n n2:Nat) (dd dd2:Option Addr) (sl sl2:Array (Option Value)) (ns ms:List Int) (hi:IntsAre items.toList ns) (hj:IntsAre items2.toList ms):
  Meets (Builtin.«tuple.__lt__» ⟨[.ref l,.ref b],[]⟩)
   (fun _ R s=>s.heap.get? l=some {cls:= .type "tuple",dict:=dd,data:= .seq items n,slots:=sl}/\s.heap.get? b=some {cls:= .type "tuple",dict:=dd2,data:= .seq items2 n2,slots:=sl2}/\
     R (.ok (.ret (.bool (zaV ns ms)))) s):=
 .of_wp fun prog w A R s h=>by
  obtain ⟨hp,g,d,tk,os⟩:=s;obtain ⟨hl,hb,h⟩:=h
  have f2:=AutoSeq1.sub_tuple_tuple
  have z1:items.size=ns.length:=by rw [<- hi.length];simp
  have z2:items2.size=ms.length:=by rw [<- hj.length];simp
  wp_walk using wpAny_loadPart' hl,wpAny_loadPart' hb,wpAny_forIn_list _ (fun rest b s'=>b.1=none/\s'=⟨hp,g,d,tk,os⟩/\ ∃ (vs ws:List Value) (ns' ms':List Int),rest=vs.zip ws/\
    IntsAre vs ns'/\IntsAre ws ms'/\ns'.length+items2.size=ms'.length+items.size/\R (.ok (.ret (.bool (zaV ns' ms')))) ⟨hp,g,d,tk,os⟩) _
  case turn=>
   rintro ⟨y,x⟩ rest b s' ⟨hb',rfl,vs,ws,ns',ms',hz,hvi,hwi,hlen,hR⟩
   cases hvi with
   | nil=>rw [List.zip_nil_left] at hz;cases hz
   | cons a t hvi'=>
    cases hwi with
    | nil=>rw [List.zip_nil_right] at hz;cases hz
    | cons c u hwi'=>
     rw [List.zip_cons_cons] at hz
     injection hz with hyx hrest
     injection hyx with hy hx
     subst hy hx
     rw [za2] at hR
     simp only [qaE] at hlen
     obtain ⟨e,he,hiff⟩:=zjf A.in1 ⟨hp,g,d,tk,os⟩ a t c u
     refine qaW (he prog w _ _ ?_)
     cases e with
     | true=>
      rw [qa4 (hiff.mp rfl)] at hR
      wp_walk
      exact ⟨rfl,rfl,_,_,_,_,hrest,hvi',hwi',by omega,hR⟩
     | false=>
      rw [qa5 (fun q=>absurd (hiff.mpr q) Bool.false_ne_true)] at hR
      have hri:=zi7 A.in1 ⟨hp,g,d,tk,os⟩ a t c u prog w
      wp_walk using hri
      exact ⟨_,rfl,by simpa using hR⟩
  case fin=>
   rintro ⟨b1,b2⟩ s' ⟨hb',rfl,vs,ws,ns',ms',hz,hvi,hwi,hlen,hR⟩
   simp only at hb'
   subst hb'
   have hv:zaV ns' ms'=decide (items.size<items2.size):=by
    cases hvi with
    | nil=>
     cases hwi with
     | nil=>
      simp only [qaJ] at hlen
      rw [zdD]
      exact (decide_eq_false (by omega)).symm
     | cons c u hw=>
      simp only [qaJ,qaE] at hlen
      rw [zdk]
      exact (decide_eq_true (by omega)).symm
    | cons a t hv=>
     cases hwi with
     | nil=>
      simp only [qaJ,qaE] at hlen
      rw [zdf]
      exact (decide_eq_false (by omega)).symm
     | cons c u hw=>
      rw [List.zip_cons_cons] at hz
      cases hz
   rw [hv] at hR
   wp_walk
   exact ⟨_,rfl,by simpa [Builtin.Tuple.tupleCompareSizes] using hR⟩
  case h=>
   exact ⟨rfl,rfl,items.toList,items2.toList,ns,ms,rfl,hi,hj,by omega,h⟩
end
section
variable {prog:Program} {w:World} {A:Around} {E:Value->Shared->Prop} {s:Shared}
theorem zfz {l b:Addr} {items items2:Array Value} {ns ms:List Int} {Q:Value->Shared->Prop} (hl:IsTup s.heap l items) (hb:IsTup s.heap b items2) (hi:IntsAre items.toList ns) (hj:IntsAre items2.toList ms)
  (hu:A.units<cLine) (h:Q (.bool (zaV ns ms)) s):wpAny (model prog w) A (compareOp .Lt (.ref l) (.ref b)) Q E s:=by
 obtain ⟨⟨cls,dd,data,sl⟩,ho,hc,n,hd⟩:=id hl
 obtain ⟨⟨cls2,dd2,data2,sl2⟩,ho2,hc2,n2,hd2⟩:=id hb
 simp only at hc hd hc2 hd2
 subst hc hd hc2 hd2
 exact richCompare_meets_room (op:= .Lt) ⟨_,ho,rfl⟩ ⟨_,ho2,rfl⟩ PySem.F.slot_tuple_lt PySem.F.entry_tuple_lt (PySem.F.args_tuple_lt_2 _ _) (zf6 l b items items2 n n2 dd dd2 sl sl2 ns ms hi hj)
  ⟨ho,ho2,show Value.bool (zaV ns ms)≠Value.notImplemented/\Q (.bool (zaV ns ms)) s from ⟨(fun x=>nomatch x),h⟩⟩ hu
theorem zpX {t b:Addr} {vs ws:List Value} {Q:Value->Shared->Prop} (ht:IsTup s.heap t vs.toArray) (hb:IsTup s.heap b ws.toArray) (hv:vs≠[])
  (h1:ws=[]->Q (.ref t) s) (h2:ws≠[]->Q (.ref s.heap.objs.size) {s with heap:=s.heap.push {cls:= .type "tuple",data:= .seq (vs++ws).toArray}})
  (hsz:vs.length+ws.length<=sizeLine):wpAny (model prog w) A (binaryOp .Add (.ref t) (.ref b)) Q E s:=by
 obtain ⟨⟨cls,dd,data,sl⟩,ho,hc,n,hd⟩:=id ht
 obtain ⟨⟨cls2,dd2,data2,sl2⟩,ho2,hc2,n2,hd2⟩:=id hb
 simp only at hc hd hc2 hd2
 subst hc hd hc2 hd2
 have e:vs.toArray++ws.toArray=(vs++ws).toArray:=by simp
 by_cases hw:ws=[]
 ·exact concat_meets ⟨_,ho,rfl⟩ ⟨_,ho2,rfl⟩ noFill_tuple_add seq_tuple_add PySem.F.slot_tuple_add PySem.F.entry_tuple_add (PySem.F.args_tuple_add_2 _ _)
   (tuple_addW1 t b vs.toArray ws.toArray n n2 dd dd2 sl sl2 (by simpa using hv) (by simp [hw])) ⟨ho,ho2,h1 hw⟩
 ·refine concat_meets ⟨_,ho,rfl⟩ ⟨_,ho2,rfl⟩ noFill_tuple_add seq_tuple_add PySem.F.slot_tuple_add PySem.F.entry_tuple_add (PySem.F.args_tuple_add_2 _ _)
   (tuple_addW2 t b vs.toArray ws.toArray n n2 dd dd2 sl sl2 (by simpa using hv) (by simpa using hw) (by rw [qaA,qaA];exact hsz)) ⟨ho,ho2,?_⟩
  rw [e]
  exact h2 hw
noncomputable def sIx (n d:Nat):Option Int->Nat
 | none=>d
 | some v=>if v<0 then (v+(n:Int)).toNat else min v.toNat n
theorem zkP (n d k:Nat):sIx n d (some (k:Int))=min k n:=by
 show (if (k:Int)<0 then ((k:Int)+(n:Int)).toNat else min (k:Int).toNat n)=min k n
 rw [qa5 (by omega),qaB]
theorem zqU (n d:Nat) (hd:d<=n) (o:Option Int):sIx n d o<=n:=by
 cases o with
 | none=>exact hd
 | some v=>
  show (if v<0 then (v+(n:Int)).toNat else min v.toNat n)<=n
  by_cases hv:v<0
  ·rw [qa4 hv];omega
  ·rw [qa5 hv];exact Nat.min_le_right _ _
theorem zkF (v:Int) (n d:Nat):(if v<0 then max (v+(n:Int)) 0 else min v (n:Int))=((sIx n d (some v):Nat):Int):=by
 show (if v<0 then max (v+(n:Int)) 0 else min v (n:Int))=(((if v<0 then (v+(n:Int)).toNat else min v.toNat n):Nat):Int)
 by_cases hv:v<0
 ·simp only [qa4 hv];omega
 ·simp only [qa5 hv];omega
theorem zj8 (lo hi:Option Int) (n:Nat):Builtin.Slice.sliceAdjust lo hi 1 (n:Int)=(((sIx n 0 lo:Nat):Int),((sIx n n hi:Nat):Int)):=by
 have h1: ¬((1:Int)<0):=by omega
 unfold Builtin.Slice.sliceAdjust
 simp only [h1,if_false]
 refine Prod.ext ?_ ?_
 ·cases lo with
  | none=>rfl
  | some v=>exact zkF v n 0
 ·cases hi with
  | none=>rfl
  | some v=>exact zkF v n n
theorem zjP (i j:Nat):Builtin.Slice.slicePlaces (i:Int) (j:Int) 1=j - i:=by
 unfold Builtin.Slice.slicePlaces
 have h1:(1:Int)>0:=by omega
 simp only [h1,if_true,Int.ediv_one]
 split<;>omega
theorem zfq {v:Value} {o:Option Int} {Q:Option Int->Shared->Prop} (p:IsPart v o) (h:Q o s):wpAny (model prog w) A (Builtin.Slice.slicePartIndex v) Q E s:=by
 cases p with
 | none=>exact slicePart_none h
 | int i t=>exact slicePart_int h
theorem zcI {sl:Addr} {vl vu:Value} {lo hi:Option Int} {n:Nat} {Q:Int×Int×Nat->Shared->Prop} (hs:s.heap.IsSliceOf sl vl vu .none) (pl:IsPart vl lo) (pu:IsPart vu hi)
  (h:Q (((sIx n 0 lo:Nat):Int),1,sIx n n hi - sIx n 0 lo) s):wpAny (model prog w) A (Builtin.Slice.sliceApplied (.ref sl) (pure (n:Int))) Q E s:=by
 obtain ⟨os,hos,hcs,hds⟩:=id hs
 unfold Builtin.Slice.sliceApplied Builtin.Slice.sliceFields
 refine qaW (qaW (wpAny_field hos hds (x:=vl) rfl (qaW (wpAny_field hos hds (x:=vu) rfl (qaW (wpAny_field hos hds (x:= .none) rfl (qaX ?_)))))))
 refine qaW (slicePart_none ?_)
 show wpAny _ _ (if ((1:Int)==0)=true then _ else _) _ _ s
 rw [qa5 (by decide)]
 refine qaW (zfq pl (qaW (zfq pu (qaW (qaX ?_)))))
 show wpAny _ _ (match Builtin.Slice.sliceAdjust lo hi 1 (n:Int) with | (lo,hi)=>pure (lo,(1:Int),Builtin.Slice.slicePlaces lo hi 1)) _ _ s
 rw [zj8 lo hi n]
 show wpAny _ _ (pure (((sIx n 0 lo:Nat):Int),(1:Int),Builtin.Slice.slicePlaces ((sIx n 0 lo:Nat):Int) ((sIx n n hi:Nat):Int) 1)) _ _ s
 rw [zjP]
 exact qaX h
theorem znO (xs:Array Value) (i k:Nat):((List.range k).filterMap fun (m:Nat)=>xs[((i:Int)+(m:Int)*1).toNat]?).toArray=((xs.toList.drop i).take k).toArray:=by
 have e:(fun (m:Nat)=>xs[((i:Int)+(m:Int)*1).toNat]?)=fun m=>xs[i+m]? := by
  funext m
  have:((i:Int)+(m:Int)*1).toNat=i+m:=by omega
  rw [this]
 rw [e]
 have:=pick_run xs i k
 rw [List.filterMap_map] at this
 have e2:((fun x=>xs[x]?)∘fun x=>i+x)=fun m=>xs[i+m]? := rfl
 rw [e2] at this
 rw [this]
theorem zd7 {t sl:Addr} {items:Array Value} {vl vu:Value} {lo hi:Option Int} {Q:Value->Shared->Prop} (ht:IsTup s.heap t items) (hs:s.heap.IsSliceOf sl vl vu .none) (pl:IsPart vl lo) (pu:IsPart vu hi)
  (hw: ¬(sIx items.size 0 lo=0/\sIx items.size items.size hi=items.size))
  (h:Q (.ref s.heap.objs.size) {s with heap:=s.heap.push {cls:= .type "tuple",data:= .seq ((items.toList.drop (sIx items.size 0 lo)).take (sIx items.size items.size hi - sIx items.size 0 lo)).toArray}})
  (hsz:items.size<=sizeLine):wpAny (model prog w) A (getItem (.ref t) (.ref sl)) Q E s:=by
 have htake:sizeOk (.seq ((items.toList.drop (sIx items.size 0 lo)).take (sIx items.size items.size hi - sIx items.size 0 lo)).toArray):=by
  show ((items.toList.drop (sIx items.size 0 lo)).take (sIx items.size items.size hi - sIx items.size 0 lo)).toArray.size<=sizeLine
  rw [qaA,List.length_take,List.length_drop,qas]
  omega
 have hj:sIx items.size items.size hi<=items.size:=zqU _ _ (qaV _) hi
 obtain ⟨os,hos,hcs,hds⟩:=id hs
 have hTs:s.TypeIs (.ref sl) "slice":=⟨os,hos,hcs⟩
 unfold getItem
 try with_reducible refine qaO ?_
 first | refine qaW (qaX ?_) | skip
 refine qaW (wpAny_sequenceKey ht.typeIs (by decide) ?_)
 refine qaW (wpAny_callSpecial?_slot (name:=Str.ofString "__getitem__") ht.typeIs PyProof.Rows.slot_tuple_getitem
   (wpAny_call_entry PyProof.Rows.slot_tuple_getitem ht.typeIs entry_tuple_getitem ?_ (args_tuple_getitem _ _)))
 show wpAny _ _ (Builtin.Tuple.tupleItemsOf (.ref t)>>=_) _ _ s
 refine qaW (tupleItemsOf_ ht ?_)
 refine qaW (wpAny_typeOf hTs ?_)
 rw [qa4 (by decide)]
 refine qaW (zcI hs pl pu ?_)
 have hno: ¬((((sIx items.size 0 lo:Nat):Int)==0 && (1:Int)==1 && (sIx items.size items.size hi - sIx items.size 0 lo)==items.size)=true):=by
  intro q
  rw [qaG,qaG] at q
  have q1:((sIx items.size 0 lo:Nat):Int)=0:=eq_of_beq q.1.1
  have q2:sIx items.size items.size hi - sIx items.size 0 lo=items.size:=eq_of_beq q.2
  exact hw ⟨by omega,by omega⟩
 show wpAny _ _ (if (((sIx items.size 0 lo:Nat):Int)==0 && (1:Int)==1 && (sIx items.size items.size hi - sIx items.size 0 lo)==items.size)=true then _ else _) _ _ s
 rw [qa5 hno,znO]
 first
  | exact qaW (m:=Builtin.Tuple.tupleExact _) (qaC (qaX ⟨_,rfl,qaX h⟩) htake)
  | exact qaW (m:=Builtin.Tuple.tupleExact _) (qaC (qaW (qaX (qaX ⟨_,rfl,qaX h⟩))) htake)
  | exact qaW (qaW (m:=Builtin.Tuple.tupleExact _) (qaC (qaX (qaX ⟨_,rfl,qaX h⟩)) htake))
  | exact qaW (qaW (m:=Builtin.Tuple.tupleExact _) (qaC (qaX ⟨_,rfl,qaX h⟩) htake))
end
end HT
namespace L2
open PySem PySem.Spec PyProof.Rows
noncomputable abbrev TO:=St->Hp->(Option Int->Hp->Prop)->Prop
def PO (X:Cx) (e:Option Expr) (t:TO):Prop:=
 ∀ (pins:List (Addr×Obj)) (s:Shared) (σ:St) (H:Hp) (Q:Option Int->Hp->Prop),Inv X pins σ H s->t σ H Q->
  wpAny (model X.prog X.w) X.A (evalPart e X.env) (fun u s'=> ∃ o H',Inv X pins σ H' s'/\IsPart u o/\Q o H') X.xe s
noncomputable def zpA:TO:=fun _ H Q=>Q none H
noncomputable def zuV (t:TE):TO:=fun σ H Q=>t σ H fun x H1=> ∃ i,x= .int i/\Q (some i) H1
theorem zbM {ns:List Int}: ∀ {us:List Value},zaK (ns.map V.int) us->IntsAre us ns:=by
 induction ns with
 | nil=>intro us r;rw [List.map_nil] at r;cases r;exact .nil
 | cons n ns ih=>
  intro us r
  rw [qaM] at r
  cases r with
  | cons r1 r2=>
   obtain ⟨t,e⟩:=r1
   subst e
   exact .cons n t (ih r2)
section
variable {X:Cx} {e:Expr} {te:TE} {lo hi:Option Expr} {tl th:TO} {pos p2:Pos}
theorem zqd:PO X none zpA:=by
 intro pins s σ H Q I h
 rw [evalPart_none]
 exact qaX ⟨none,H,I,.none,h⟩
theorem zo8 (h:PE X e te):PO X (some e) (zuV te):=by
 intro pins s σ H Q I hw
 rw [evalPart_some]
 refine thn (h pins s σ H _ I hw) fun u s1 ⟨x,H1,I1,r1,q1⟩=> ?_
 obtain ⟨i,rfl,q⟩:=q1
 obtain ⟨t,rfl⟩:=r1
 exact ⟨some i,H1,I1,.int i t,q⟩
def SlR (X:Cx) (r:V->Option Int->Option Int->Hp->VK->Prop):Prop:=
 ∀ (pins:List (Addr×Obj)) (s:Shared) (σ:St) (H:Hp) (x:V) (v vl vu:Value) (lo hi:Option Int) (sl:Addr) (Q:VK),Inv X pins σ H s->zbl x v->s.heap.IsSliceOf sl vl vu .none->IsPart vl lo->IsPart vu hi->r x lo hi H Q->
  ∃ T id,typeLookup (.type T) "__getitem__"=pure (some (.builtin id))/\s.TypeIs v T/\wpAny (model X.prog X.w) X.A (getItem v (.ref sl)) (EP X pins σ Q) X.xe s
theorem SlR.or {r r':V->Option Int->Option Int->Hp->VK->Prop} (h:SlR X r) (h':SlR X r'):SlR X (fun x lo hi H Q=>r x lo hi H Q\/r' x lo hi H Q):=by
 intro pins s σ H x v vl vu lo hi sl Q I rx hs pl pu q
 rcases q with q | q
 ·exact h pins s σ H x v vl vu lo hi sl Q I rx hs pl pu q
 ·exact h' pins s σ H x v vl vu lo hi sl Q I rx hs pl pu q
noncomputable def tSl (r:V->Option Int->Option Int->Hp->VK->Prop) (te:TE) (tl th:TO):TE:=fun σ H Q=>te σ H fun x H1=>tl σ H1 fun l H2=>th σ H2 fun u H3=>r x l u H3 Q
theorem zm7 {r:V->Option Int->Option Int->Hp->VK->Prop} (hr:SlR X r) (he:PE X e te) (hl:PO X lo tl) (hu:PO X hi th):PE X (.Subscript e (.Slice lo hi none p2) pos) (tSl r te tl th):=by
 intro pins s σ H Q I h
 refine Subscript_ (thn (he pins s σ H _ I h) fun v s1 ⟨x,H1,I1,r1,q1⟩=> ?_)
 refine wpAny_Slice (thn (hl pins s1 σ H1 _ I1 q1) fun vl s2 ⟨l,H2,I2,pl,q2⟩=>thn (hu pins s2 σ H2 _ I2 q2) fun vu s3 ⟨u,H3,I3,pu,q3⟩=> ?_)
 rw [evalPart_none]
 refine qaX ?_
 have I4:Inv X pins σ H3 {s3 with heap:=s3.heap.push {cls:= .type "slice",data:= .fields #[vl,vu,.none]}}:=I3.kept (t':=s3.toks) fun b ob q=>qag _ q
 obtain ⟨T,id,hT,ht,hg⟩:=hr pins {s3 with heap:=s3.heap.push {cls:= .type "slice",data:= .fields #[vl,vu,.none]}} σ H3 x v vl vu l u s3.heap.objs.size Q I4 r1 (Heap.IsSliceOf.new ..) pl pu q3
 show wpAny (model X.prog X.w) X.A (subscriptTail e (.Slice lo hi none p2) v (.ref s3.heap.objs.size)) (EP X pins σ Q) X.xe {s3 with heap:=s3.heap.push {cls:= .type "slice",data:= .fields #[vl,vu,.none]}}
 exact tail_any (ops:=[.ref s3.heap.objs.size,v]) ht hT hg (by with_unfolding_all rfl)
noncomputable def zov (xs:List V) (lo hi:Option Int):List V:=(xs.drop (HT.sIx xs.length 0 lo)).take (HT.sIx xs.length xs.length hi - HT.sIx xs.length 0 lo)
theorem zeW (xs:List V) (lo hi:Option Int):(zov xs lo hi).length<=xs.length:=by
 unfold zov
 rw [List.length_take,List.length_drop]
 omega
noncomputable def zvt (K:W.Frag):V->Option Int->Option Int->Hp->VK->Prop:=fun x lo hi H Q=> ∃ a xs,x= .ref a/\SqT K H a xs/\
 ¬ (HT.sIx xs.length 0 lo=0/\HT.sIx xs.length xs.length hi=xs.length)/\ ∀ p,H p=none->Q (.ref p) (upd H p (.tup (zov xs lo hi)))
theorem zrM:SlR X (zvt X.K):=by
 intro pins s σ H x v vl vu lo hi sl Q I rx hs pl pu h
 obtain ⟨a,xs,rfl,hx,hw,q⟩:=h
 cases rx
 obtain ⟨its,r,ht,hz⟩:=I.tuple hx
 have hlen:its.toArray.size=xs.length:=by rw [qaA];exact r.length.symm
 refine ⟨"tuple",_,PyProof.Rows.slot_tuple_getitem.lookup,ht.typeIs,?_⟩
 refine HT.zd7 ht hs pl pu (by rw [hlen];exact hw) ?_ (by rw [hlen];exact hz)
 rw [hlen]
 refine ⟨.ref s.heap.objs.size,_,I.laid (t':=s.toks) (o:= .tup (zov xs lo hi)) (fun b ob q=>qag _ q) (qaV _) ?_,rfl,q _ (I.hok.fresh (qaV _))⟩
 exact ⟨qaS (zeW xs lo hi) hz,_,(r.drop (HT.sIx xs.length 0 lo)).take (HT.sIx xs.length xs.length hi - HT.sIx xs.length 0 lo),IsTup.new _ _⟩
noncomputable def ztO (K:W.Frag):R2:=fun x y H Q=> ∃ a b xs ys,x= .ref a/\y= .ref b/\SqT K H a xs/\SqT K H b ys/\xs≠[]/\xs.length+ys.length<=sizeLine/\
 (ys=[]->Q (.ref a) H)/\(ys≠[]-> ∀ p,H p=none->Q (.ref p) (upd H p (.tup (xs++ys))))
theorem zaK.nil_iff {xs:List V} {us:List Value} (r:zaK xs us):us=[]↔xs=[]:=by
 cases r with
 | nil=>simp
 | cons _ _=>simp
theorem zqw:OpR X (binaryOp .Add) (ztO X.K):=by
 intro pins s σ H x y v u Q I rx ry h
 obtain ⟨a,b,xs,ys,rfl,rfl,ha,hb,hx,hz,q1,q2⟩:=h
 cases rx
 cases ry
 obtain ⟨its,r1,p1,_⟩:=I.tuple ha
 obtain ⟨its2,r2,p2,_⟩:=I.tuple hb
 refine HT.zpX p1 p2 (fun z=>hx (r1.nil_iff.mp z)) (fun z=>⟨.ref a,H,I,rfl,q1 (r2.nil_iff.mp z)⟩) (fun z=> ?_) (by rw [<- r1.length, <-r2.length];exact hz)
 refine ⟨.ref s.heap.objs.size,_,I.laid (t':=s.toks) (o:= .tup (xs++ys)) (fun b ob q=>qag _ q) (qaV _) ?_,rfl,q2 (fun w=>z (r2.nil_iff.mpr w)) _ (I.hok.fresh (qaV _))⟩
 exact ⟨by rw [qav];exact hz,_,r1.append r2,IsTup.new _ _⟩
end
noncomputable def ixN (n:Nat) (i:Int):Option Nat:=if 0<=i then (if i<n then some i.toNat else none) else if -(n:Int)<=i then some (i+n).toNat else none
noncomputable def atI {α:Type} (xs:List α) (i:Int):Option α:=(ixN xs.length i).bind fun j=>xs[j]?
theorem zkz {n:Nat} {i:Int} {j:Nat} (h:ixN n i=some j):seqIndex? i n=some j/\j<n/\ -(n:Int)<=i/\i<n:=by
 unfold ixN at h
 by_cases h0:0<=i
 ·rw [qa4 h0] at h
  by_cases h1:i<n
  ·rw [qa4 h1] at h
   have e:i.toNat=j:=Option.some.inj h
   exact ⟨by rw [seqIndex_of h0 h1,e],by omega,by omega,h1⟩
  ·rw [qa5 h1] at h;cases h
 ·rw [qa5 h0] at h
  by_cases h1: -(n:Int)<=i
  ·rw [qa4 h1] at h
   have e:(i+n).toNat=j:=Option.some.inj h
   exact ⟨by rw [seqIndex_neg (by omega) h1,e],by omega,h1,by omega⟩
  ·rw [qa5 h1] at h;cases h
theorem zkf {α:Type} {xs:List α} {i:Int} {v:α} (h:atI xs i=some v): ∃ j,seqIndex? i xs.length=some j/\xs[j]? = some v/\j<xs.length/\ -(xs.length:Int)<=i/\i<xs.length:=by
 unfold atI at h
 cases e:ixN xs.length i with
 | none=>rw [e] at h;cases h
 | some j=>
  rw [e] at h
  obtain ⟨h1,h2,h3,h4⟩:=zkz e
  exact ⟨j,h1,h,h2,h3,h4⟩
theorem zdr {α:Type} {xs:List α} {j:Nat} {v:α} (h:xs[j]? = some v):atI xs (j:Int)=some v:=by
 have hj:j<xs.length:=(qac.mp h).1
 have e:ixN xs.length (j:Int)=some j:=by
  unfold ixN
  rw [qa4 (by omega),qa4 (by omega)];simp
 unfold atI;rw [e];exact h
def zfX (b:Expr):Prop:= ∀ o i,subscripted b false o i=operate [o,i] (getItem o i)
def IxR (X:Cx) (r:R2):Prop:=
 ∀ (value slice:Expr) (pins:List (Addr×Obj)) (s:Shared) (σ:St) (H:Hp) (x y:V) (v u:Value) (Q:VK),Inv X pins σ H s->zbl x v->zbl y u->r x y H Q->
  subscripted slice false v u=operate [v,u] (getItem v u)->wpAny (model X.prog X.w) X.A (subscriptTail value slice v u) (EP X pins σ Q) X.xe s
def MtR (X:Cx) (id:String) (r:V->List V->Hp->VK->Prop):Prop:=
 ∀ (pins:List (Addr×Obj)) (s:Shared) (σ:St) (H:Hp) (x:V) (xs:List V) (v:Value) (us:List Value) (Q:VK),Inv X pins σ H s->zbl x v->zaK xs us->r x xs H Q->
  wpAny (model X.prog X.w) X.A (call (.builtin id) (v::us)) (EP X pins σ Q) X.xe s
section
variable {X:Cx} {a b:Expr} {ta tb:TE} {pos:Pos}
theorem IxR.or {r r':R2} (h:IxR X r) (h':IxR X r'):IxR X (fun x y H Q=>r x y H Q\/r' x y H Q):=by
 intro value slice pins s σ H x y v u Q I rx ry q hs
 rcases q with q | q
 ·exact h value slice pins s σ H x y v u Q I rx ry q hs
 ·exact h' value slice pins s σ H x y v u Q I rx ry q hs
theorem MtR.or {id:String} {r r':V->List V->Hp->VK->Prop} (h:MtR X id r) (h':MtR X id r'):MtR X id (fun x xs H Q=>r x xs H Q\/r' x xs H Q):=by
 intro pins s σ H x xs v us Q I rx rs q
 rcases q with q | q
 ·exact h pins s σ H x xs v us Q I rx rs q
 ·exact h' pins s σ H x xs v us Q I rx rs q
theorem zrl {r:R2} (hr:IxR X r) (ha:PE X a ta) (hb:PE X b tb) (hs:zfX b):PE X (.Subscript a b pos) (tOp r ta tb):=by
 intro pins s σ H Q I h
 exact Subscript_ (zul ha hb I h fun v u s2 x y H2 I2 rx ry q=>hr a b pins s2 σ H2 x y v u Q I2 rx ry q (hs _ _))
noncomputable def zvz (K:W.Frag):R2:=fun x y H Q=> ∃ p xs i v,x= .ref p/\y= .int i/\SqL K H p xs/\atI xs i=some v/\Q v H
noncomputable def zvw (K:W.Frag):R2:=fun x y H Q=> ∃ p xs i v,x= .ref p/\y= .int i/\SqT K H p xs/\atI xs i=some v/\Q v H
theorem zkp:IxR X (zvz X.K):=by
 intro value slice pins s σ H x y v u Q I rx ry h hs
 obtain ⟨p,xs,i,z,rfl,rfl,hq,he,q⟩:=h
 cases rx
 obtain ⟨t,rfl⟩:=ry
 obtain ⟨its,r,pl,hz⟩:=I.list hq
 obtain ⟨j,h1,h2,h3,h4,h5⟩:=zkf he
 obtain ⟨w,ew,rw'⟩:=r.get h2
 have hl:=r.length
 have hn:=zho
 have fin:EP X pins σ Q w s:=⟨z,H,I,rw',q⟩
 by_cases h0:0<=i
 ·have hj:i.toNat=j:=by
   rw [seqIndex_of h0 h5] at h1
   exact Option.some.inj h1
  exact item_listR pl.isList h0 (by omega) (by rw [hj];simpa using ew) fin hs
 ·have hj:(i+(its.toArray.size:Int)).toNat=j:=by
   rw [seqIndex_neg (by omega) h4] at h1
   rw [qaA, <-hl]
   exact Option.some.inj h1
  exact subscriptTail_builtinR (x:=w) pl.isList.typeIs slot_list_getitem.lookup
   (wpAny_getItem_list_neg (Q:=fun r s'=>r=w/\EP X pins σ Q r s') pl.isList (by omega) (by rw [qaA]<;>omega) (by omega) (by rw [hj];simpa using ew) ⟨rfl,fin⟩) hs
theorem zrx:IxR X (zvw X.K):=by
 intro value slice pins s σ H x y v u Q I rx ry h hs
 obtain ⟨p,xs,i,z,rfl,rfl,hq,he,q⟩:=h
 cases rx
 obtain ⟨t,rfl⟩:=ry
 obtain ⟨its,r,pl,hz⟩:=I.tuple hq
 obtain ⟨j,h1,h2,h3,h4,h5⟩:=zkf he
 obtain ⟨w,ew,rw'⟩:=r.get h2
 have hl:=r.length
 have hn:=zho
 have fin:EP X pins σ Q w s:=⟨z,H,I,rw',q⟩
 exact subscriptTail_builtinR (x:=w) pl.typeIs slot_tuple_getitem.lookup
  (getItem_tuple (j:=j) (Q:=fun r s'=>r=w/\EP X pins σ Q r s') pl (by omega) (by omega) (by rw [qaA, <-hl];exact h1) (by simpa using ew) ⟨rfl,fin⟩) hs
theorem zjO (its:List Value) (n j:Nat) (u:Value):Obj.mapSeq (·.setIfInBounds j u) {cls:= .type "list",data:= .seq its.toArray n}={cls:= .type "list",data:= .seq (its.set j u).toArray n}:=by
 simp [Obj.mapSeq]
theorem Inv.lst {pins:List (Addr×Obj)} {σ:St} {H:Hp} {s:Shared} {p:Addr} {xs:List V} (I:Inv X pins σ H s) (h:H p=some (.lst xs)):
  ∃ (its:List Value) (n:Nat),zaK xs its/\s.heap.get? p=some {cls:= .type "list",data:= .seq its.toArray n}/\xs.length<=sizeLine:=by
 obtain ⟨z,its,n,r,e⟩:=I.hok p _ h
 exact ⟨its,n,r,e,z⟩
theorem Inv.lstUpd {pins:List (Addr×Obj)} {σ:St} {H:Hp} {s:Shared} {p:Addr} {xs ys:List V} {its its':List Value} {n n':Nat} {f:Obj->Obj} (I:Inv X pins σ H s) (h:H p=some (.lst xs))
  (ho:s.heap.get? p=some {cls:= .type "list",data:= .seq its.toArray n}) (hf:f {cls:= .type "list",data:= .seq its.toArray n}={cls:= .type "list",data:= .seq its'.toArray n'}) (r:zaK ys its') (hz:ys.length<=sizeLine) (t:Nat):
  Inv X pins σ (upd H p (.lst ys)) {s with heap:=s.heap.update p f,toks:=t}:=by
 have e:(s.heap.update p f).get? p=some {cls:= .type "list",data:= .seq its'.toArray n'}:=by
  rw [qal f ho (by rw [hf]<;>rfl),hf]
 refine I.write (x:=p) (e:=p) (by rw [h];trivial) (.inl rfl) (fun b u hb q=>(qah _ _ (Ne.symm hb)).trans q) ⟨_,e⟩ ?_
 exact ⟨hz,its',n',r,e⟩
noncomputable def zt2:V->V->V->Hp->(Hp->Prop)->Prop:=fun o i v H Q=> ∃ p xs k j,o= .ref p/\i= .int k/\H p=some (.lst xs)/\ixN xs.length k=some j/\Q (upd H p (.lst (xs.set j v)))
theorem znh:zqx X zt2:=by
 intro pins s σ H o i v ov iv u Q I ro ri rv h
 obtain ⟨p,xs,k,j,rfl,rfl,hp,hj,q⟩:=h
 cases ro
 obtain ⟨t,rfl⟩:=ri
 obtain ⟨its,n,r,ho,hz⟩:=I.lst hp
 obtain ⟨h1,h2,h3,h4⟩:=zkz hj
 have hl:=r.length
 have hn:=zho
 have I':Inv X pins σ (upd H p (.lst (xs.set j v))) {s with heap:=s.heap.update p (Obj.mapSeq (·.setIfInBounds j u))}:=
  I.lstUpd hp ho (zjO its n j u) (r.set rv j) (by rw [qaI];exact hz) s.toks
 by_cases h0:0<=k
 ·have hk:k.toNat=j:=by
   rw [seqIndex_of h0 h4] at h1
   exact Option.some.inj h1
  exact W.ki_setAt ho h0 (by omega) (by rw [qaA, <-hl];exact h4) (by rw [hk];exact ⟨_,I',q⟩)
 ·have hk:(k+(its.toArray.size:Int)).toNat=j:=by
   rw [seqIndex_neg (by omega) h3] at h1
   rw [qaA, <-hl]
   exact Option.some.inj h1
  exact W.ki_setBack ho (by omega) (by rw [qaA, <-hl];exact h3) (by omega) (by rw [hk];exact ⟨_,I',q⟩)
theorem zhb (lo hi:Option Int) (n:Nat):(sliceBounds lo hi none n).1=((HT.sIx n 0 lo:Nat):Int)/\(sliceBounds lo hi none n).2.1=((HT.sIx n n hi:Nat):Int)/\(sliceBounds lo hi none n).2.2=1:=by
 refine ⟨?_,?_,rfl⟩
 ·cases lo with
  | none=>simp [sliceBounds,HT.sIx]
  | some i=>
   simp only [sliceBounds,HT.sIx,Option.getD_none,show (1:Int)>0 by decide,if_true]
   by_cases h:i<0
   ·simp only [h,if_true]<;>omega
   ·simp only [h,if_false]<;>omega
 ·cases hi with
  | none=>simp [sliceBounds,HT.sIx]
  | some i=>
   simp only [sliceBounds,HT.sIx,Option.getD_none,show (1:Int)>0 by decide,if_true]
   by_cases h:i<0
   ·simp only [h,if_true]<;>omega
   ·simp only [h,if_false]<;>omega
theorem zfZ (its:List Value) (lo hi:Option Int):slicePick its.toArray lo hi none=((its.drop (HT.sIx its.length 0 lo)).take (HT.sIx its.length its.length hi - HT.sIx its.length 0 lo)).toArray:=by
 obtain ⟨h1,h2,h3⟩:=zhb lo hi its.toArray.size
 unfold slicePick
 rw [h1,h2,h3]
 simp only [sliceRange_one,pick_run,qaA]<;>rfl
noncomputable def zvq (K:W.Frag):V->Option Int->Option Int->Hp->VK->Prop:=fun x lo hi H Q=> ∃ a xs,x= .ref a/\SqL K H a xs/\ ∀ p,H p=none->Q (.ref p) (upd H p (.lst (zov xs lo hi)))
theorem zpU:SlR X (zvq X.K):=by
 intro pins s σ H x v vl vu lo hi sl Q I rx hs pl pu h
 obtain ⟨a,xs,rfl,hx,q⟩:=h
 cases rx
 obtain ⟨its,r,ht,hz⟩:=I.list hx
 have hlen:=r.length
 refine ⟨"list",_,slot_list_getitem.lookup,ht.isList.typeIs,?_⟩
 refine wpAny_getItem_list_slice ht.isList hs pl pu .none (by simp) ?_ (by rw [qaA]<;>omega)
 rw [zfZ, <-hlen]
 refine ⟨.ref s.heap.objs.size,_,I.laid (t':=s.toks) (o:= .lst (zov xs lo hi)) (fun b ob q=>qag _ q) (qaV _) ?_,rfl,q _ (I.hok.fresh (qaV _))⟩
 exact ⟨qaS (zeW xs lo hi) hz,_,0,(r.drop (HT.sIx xs.length 0 lo)).take (HT.sIx xs.length xs.length hi - HT.sIx xs.length 0 lo),qar _ rfl⟩
theorem zhJ:zay X (.builtin "len") (fun xs H Q=> ∃ p ys,xs=[.ref p]/\(SqL X.K H p ys\/SqT X.K H p ys)/\Q (.int ys.length) H):=by
 intro pins s σ H xs us Q I r h
 obtain ⟨p,ys,rfl,hq,q⟩:=h
 obtain ⟨u,rfl,rx⟩:=zcR r
 cases rx
 have hn:=zho
 rcases hq with hq | hq
 ·obtain ⟨its,r',pl,hz⟩:=I.list hq
  have hlen:=r'.length
  exact Calls.call_len_list pl.isList (by simp only [qaA]<;>omega) ⟨.int ys.length,H,I.tok _,⟨s.toks+1,by rw [qaA,hlen]⟩,q⟩
 ·obtain ⟨its,r',pl,hz⟩:=I.tuple hq
  have hlen:=r'.length
  exact len_tuple pl (by simp only [qaA]<;>omega) ⟨.int ys.length,H,I.tok _,⟨s.toks+1,by rw [qaA,hlen]⟩,q⟩
theorem zay.or {f:Value} {r r':List V->Hp->VK->Prop} (h:zay X f r) (h':zay X f r'):zay X f (fun xs H Q=>r xs H Q\/r' xs H Q):=by
 intro pins s σ H xs us Q I rs q
 rcases q with q | q
 ·exact h pins s σ H xs us Q I rs q
 ·exact h' pins s σ H xs us Q I rs q
theorem zg3:zay X (.type "list") (fun xs H Q=> ∃ p ys,xs=[.ref p]/\(SqL X.K H p ys\/SqT X.K H p ys)/\ ∀ l,H l=none->Q (.ref l) (upd H l (.lst ys))):=by
 intro pins s σ H xs us Q I r h
 obtain ⟨p,ys,rfl,hq,q⟩:=h
 obtain ⟨u,rfl,rx⟩:=zcR r
 cases rx
 have fin: ∀ (its:List Value),zaK ys its->ys.length<=sizeLine-> ∀ (h':Heap) (c':Nat),(∀ b o',s.heap.get? b=some o'->h'.get? b=some o')->
   h'.get? s.heap.objs.size=some {cls:= .type "list",dict:=none,data:= .seq its.toArray c',slots:= #[]}->EP X pins σ Q (.ref s.heap.objs.size) {s with heap:=h'}:=fun its r' hz h' c' kp e=>
  ⟨.ref s.heap.objs.size,_,I.laid (t':=s.toks) kp (qaV _) (show zbo X.prog X.w _ h' _ (.lst ys) from ⟨hz,its,c',r',e⟩),rfl,q _ (I.hok.fresh (qaV _))⟩
 rcases hq with hq | hq
 ·obtain ⟨its,r',pl,hz⟩:=I.list hq
  have hlen:=r'.length
  obtain ⟨o,ho,hc,n,hd⟩:=pl.isList
  exact call_list_seq p (.inl rfl) ho hc hd (fun h' c' kp e=>fin its r' hz h' c' kp e) (by simp only [qaA]<;>omega)
 ·obtain ⟨its,r',pl,hz⟩:=I.tuple hq
  have hlen:=r'.length
  obtain ⟨o,ho,hc,n,hd⟩:=pl
  exact call_list_seq p (.inr rfl) ho hc hd (fun h' c' kp e=>fin its r' hz h' c' kp e) (by simp only [qaA]<;>omega)
theorem zgx:zay X (.type "tuple") (fun xs H Q=> ∃ p ys,xs=[.ref p]/\((SqL X.K H p ys/\ ∀ l,H l=none->Q (.ref l) (upd H l (.tup ys)))\/(SqT X.K H p ys/\Q (.ref p) H))):=by
 intro pins s σ H xs us Q I r h
 obtain ⟨p,ys,rfl,h⟩:=h
 obtain ⟨u,rfl,rx⟩:=zcR r
 cases rx
 rcases h with ⟨hq,q⟩ | ⟨hq,q⟩
 ·obtain ⟨its,r',pl,hz⟩:=I.list hq
  have hlen:=r'.length
  refine call_tuple_list pl.isList (fun h' kp=> ?_) (by simp only [qaA]<;>omega)
  have I1:Inv X pins σ H {s with heap:=h'}:=I.kept (t':=s.toks) kp
  have I2:Inv X pins σ (upd H h'.objs.size (.tup ys)) {s with heap:=h'.push {cls:= .type "tuple",data:= .seq its.toArray}}:=
   I1.laid (t':=s.toks) (fun b o e=>qag _ e) (qaV _) (show zbo X.prog X.w _ _ _ (.tup ys) from ⟨hz,its,r',IsTup.new _ _⟩)
  exact ⟨.ref h'.objs.size,_,I2,rfl,q _ (I1.hok.fresh (qaV _))⟩
 ·obtain ⟨its,r',pl,hz⟩:=I.tuple hq
  exact call_tuple_same pl ⟨.ref p,H,I,rfl,q⟩
def tyV (K:W.Frag) (T:String) (x:V) (H:Hp):Prop:=match x with
 | .str _=>T="str"
 | .int _=>T="int"
 | .ref p=>(T="list"/\ ∃ xs,SqL K H p xs)\/(T="tuple"/\ ∃ o,K.lookup p=some o/\o.cls= .type "tuple"/\o.dict=none)\/
   (T="dict"/\((∃ kvs,H p=some (.dK kvs))\/ ∃ kvs,H p=some (.dT kvs)))\/(T="set"/\ ∃ S n,H p=some (.set S n))
 | _=>False
theorem zqX {pins:List (Addr×Obj)} {σ:St} {H:Hp} {s:Shared} {T:String} {x:V} {v:Value} (I:Inv X pins σ H s) (r:zbl x v) (ty:tyV X.K T x H):
  s.TypeIs v T/\ ∀ a,v= .ref a-> ∃ ob,s.heap.get? a=some ob/\ob.dict=none:=by
 cases x with
 | str z=>
  obtain ⟨t,rfl⟩:=r
  cases (show T="str" from ty)
  exact ⟨typeIs_str s z t,fun _ e=>nomatch e⟩
 | int i=>
  obtain ⟨t,rfl⟩:=r
  cases (show T="int" from ty)
  exact ⟨typeIs_int s i t,fun _ e=>nomatch e⟩
 | ref p=>
  cases r
  rcases ty with ⟨rfl,xs,hq⟩ | ⟨rfl,o,hk,hc,hd⟩ | ⟨rfl,hk⟩ | ⟨rfl,S,n,hk⟩
  ·obtain ⟨its,_,pl,_⟩:=I.list hq
   refine ⟨pl.isList.typeIs,fun a e=> ?_⟩
   cases e
   obtain ⟨o,n,e,c,hd,_⟩:=pl
   exact ⟨o,e,hd⟩
  ·refine ⟨⟨o,I.kIn p o hk,hc⟩,fun a e=> ?_⟩
   cases e
   exact ⟨o,I.kIn _ o hk,hd⟩
  ·have z: ∃ o,s.heap.get? p=some o/\o.ExactDict:=by
    rcases hk with ⟨kvs,hk⟩ | ⟨kvs,hk⟩
    ·obtain ⟨_,_,_,_,o,_,_,e,ex,_⟩:=I.hok p _ hk
     exact ⟨o,e,ex⟩
    ·obtain ⟨_,_,_,_,o,_,_,e,ex,_⟩:=I.hok p _ hk
     exact ⟨o,e,ex⟩
   obtain ⟨o,e,ex⟩:=z
   refine ⟨⟨o,e,ex.1⟩,fun a e2=> ?_⟩
   cases e2
   exact ⟨o,e,ex.2.1⟩
  ·obtain ⟨o,_,_,_,e,ex,_⟩:=I.hok p _ hk
   refine ⟨⟨o,e,ex.1⟩,fun a e2=> ?_⟩
   cases e2
   exact ⟨o,e,ex.2.1⟩
 | _=>exact qa0 ty
noncomputable def tBM (K:W.Frag) (T:String) (r:V->List V->Hp->VK->Prop) (to:TE) (t:TA):TE:=fun σ H Q=>to σ H fun x H1=>tyV K T x H1/\t σ H1 fun xs H2=>r x xs H2 Q
variable {o e:Expr} {es:List Expr} {to:TE} {t:TA} {name:Str} {apos cpos:Pos} {T id:String} {r:V->List V->Hp->VK->Prop}
theorem zpT (pa:PlainAttrs T) (slot:Slot T name id) (hty:typeOf (.builtin id)=pure (.type "method_descriptor")) (hm:MtR X id r) (ho:PE X o to) (ha:PA X (e::es) t)
  (hbase:attributeBase o name X.env (eval o X.env)=eval o X.env:=by rfl)
  (hfew:((backTo cpos (starEach (e::es) X.env)).all (fun x=> !x.1) && (backToKw cpos (keywordEach [] X.env)).all (fun x=>x.1.isSome)
    && decide ((e::es).length+([]:List Keyword).length+(if ([]:List Keyword).isEmpty then 0 else 1)<30))=true:=by rfl)
  (hline:(apos.endLine==cpos.line)=true:=by rfl) (hs:starEach (e::es) X.env=(false,eval e X.env)::starEach es X.env:=by rfl) (hplain:(backTo cpos (starEach es X.env)).any (·.1)=false:=by rfl):
  PE X (.Call (.Attribute o name apos) (e::es) [] cpos) (tBM X.K T r to t):=by
 intro pins s σ H Q I h
 refine wpAny_Call_method_late hbase hfew hline rfl (thn (ho pins s σ H _ I h) fun v s1 ⟨x,H1,I1,r1,ty,q1⟩=> ?_)
 obtain ⟨h1,h2⟩:=zqX I1 r1 ty
 refine ⟨T,id,pa,slot,hty,h1,h2,?_⟩
 have hA:=ha cpos pins s1 σ H1 _ I1 q1
 rw [hs] at hA ⊢
 refine Calls.callWith_builtin (by show (false || (backTo cpos (starEach es X.env)).any (·.1))=false;rw [hplain]<;>rfl) (Calls.evalArgs_plain ?_)
 exact thn hA fun us s2 ⟨vs,H2,I2,r2,q2⟩=>hm pins s2 σ H2 x vs v us Q I2 r1 r2 q2
end
def MtM (X:Cx) (id:String) (r:V->List V->Hp->VK->Prop):Prop:=
 ∀ (pins:List (Addr×Obj)) (s:Shared) (σ:St) (H:Hp) (x:V) (xs:List V) (v:Value) (us:List Value) (Q:VK),Inv X pins σ H s->zbl x v->zaK xs us->r x xs H Q->
  wpAny (model X.prog X.w) X.A (call (.builtin id) (v::us)) (EP X pins σ Q) X.xe s
theorem zaK.one: ∀ {x:V} {us:List Value},zaK [x] us-> ∃ u,us=[u]/\zbl x u
 | _,_,.cons r .nil=>⟨_,rfl,r⟩
theorem zaK.zero: ∀ {us:List Value},zaK [] us->us=[]
 | _,.nil=>rfl
theorem zaK.eraseIdx: ∀ {xs:List V} {us:List Value} (i:Nat),zaK xs us->zaK (xs.eraseIdx i) (us.eraseIdx i)
 | _,_,_,.nil=> .nil
 | _,_,0,.cons _ t=>t
 | _,_,i+1,.cons r t=> .cons r (zaK.eraseIdx i t)
theorem zaK.reverse {xs:List V} {us:List Value} (h:zaK xs us):zaK xs.reverse us.reverse:=by
 induction h with
 | nil=>exact .nil
 | cons r t ih=>rw [List.reverse_cons,List.reverse_cons];exact zaK.append ih (.cons r .nil)
theorem zaK.rep {xs:List V} {us:List Value} (h:zaK xs us): ∀ k:Nat,zaK (List.replicate k xs).flatten (List.replicate k us).flatten
 | 0=> .nil
 | k+1=>by
  rw [List.replicate_succ,List.replicate_succ,List.flatten_cons,List.flatten_cons]
  exact zaK.append h (zaK.rep h k)
theorem zgK (its:List Value): ∀ (k:Nat) (acc:List Value),
  List.foldl (fun x1 x2=>x1++x2) acc.toArray (List.replicate k its.toArray)=(acc++(List.replicate k its).flatten).toArray
 | 0,acc=>by simp
 | k+1,acc=>by
  have e:acc.toArray++its.toArray=(acc++its).toArray:=by simp
  have e2:(acc++its)++(List.replicate k its).flatten=acc++(List.replicate (k+1) its).flatten:=by
   rw [List.replicate_succ,List.flatten_cons,List.append_assoc]
  rw [<- e2, <-zgK its k (acc++its), <-e,List.replicate_succ,List.foldl_cons]
section
variable {X:Cx} {pins:List (Addr×Obj)} {σ:St} {H:Hp} {s:Shared} {l b:Addr} {xs ys zs:List V}
theorem Inv.lset {its its':List Value} {n:Nat} {f:Array Value->Array Value} {t':Nat} (I:Inv X pins σ H s) (hH:H l=some (.lst xs))
  (e:s.heap.get? l=some {cls:= .type "list",data:= .seq its.toArray n}) (hf:f its.toArray=its'.toArray) (hv:zaK ys its') (hz:ys.length<=sizeLine):
  Inv X pins σ (upd H l (.lst ys)) {s with heap:=s.heap.update l (Obj.mapSeq f),toks:=t'}:=by
 have q:=PySem.IsL.update e f
 rw [hf] at q
 refine I.write (x:=l) (e:=l) (by rw [hH];exact trivial) (.inl rfl) (fun b' u hb hu=>(qah s.heap (Obj.mapSeq f) (Ne.symm hb)).trans hu) ⟨_,q⟩ ?_
 exact ⟨hz,its',_,hv,q⟩
theorem Inv.lnew {its:List Value} {t':Nat} (I:Inv X pins σ H s) (hv:zaK ys its) (hz:ys.length<=sizeLine):
  Inv X pins σ (upd H s.heap.objs.size (.lst ys)) {s with heap:=s.heap.push {cls:= .type "list",data:= .seq its.toArray},toks:=t'}:=
 I.laid (fun _ _ q=>qag _ q) (qaV _) ⟨hz,its,0,hv,qar _ rfl⟩
theorem Inv.fresh (I:Inv X pins σ H s):H s.heap.objs.size=none:=I.hok.fresh (qaV _)
theorem Inv.lstM (I:Inv X pins σ H s) (hH:H l=some (.lst xs)):xs.length<=sizeLine/\ ∃ (its:List Value) (n:Nat),zaK xs its/\xs.length=its.length/\s.heap.get? l=some {cls:= .type "list",data:= .seq its.toArray n}:=by
 obtain ⟨z,its,n,r,e⟩:=I.hok l _ hH
 exact ⟨z,its,n,r,r.length,e⟩
theorem zmV {n:Nat} (h:n<=sizeLine):Builtin.List.listTooLong n=false:=by
 unfold Builtin.List.listTooLong
 exact decide_eq_false (by omega)
end
section
variable {X:Cx}
noncomputable def zqb:V->List V->Hp->VK->Prop:=fun x vs H Q=> ∃ l xs y,x= .ref l/\vs=[y]/\H l=some (.lst xs)/\xs.length<sizeLine/\Q .non (upd H l (.lst (xs++[y])))
theorem zg6:MtM X "list.append" zqb:=by
 intro pins s σ H x vs v us Q I rx rv h
 obtain ⟨l,xs,y,rfl,rfl,hH,hz,q⟩:=h
 cases rx
 obtain ⟨u,rfl,ru⟩:=rv.one
 obtain ⟨z,its,n,r,hl,e⟩:=I.lstM hH
 refine call_meets F.slot_list_append ⟨_,e,rfl⟩ F.entry_list_append (F.args_list_append_2 _ _) (PySem.list_append l its.toArray n u (by rw [qaA];omega)) ⟨e,?_⟩
 refine ⟨.non,_,I.lset (its':=its++[u]) hH e (by simp) (r.append (.cons ru .nil)) ?_,rfl,q⟩
 rw [qav,List.length_singleton]
 omega
noncomputable def zvc:R2:=fun x y H Q=> ∃ l b xs zs,x= .ref l/\y= .ref b/\H l=some (.lst xs)/\H b=some (.lst zs)/\xs.length+zs.length<=sizeLine/\ ∀ p,H p=none->Q (.ref p) (upd H p (.lst (xs++zs)))
theorem zr0:OpR X (binaryOp .Add) zvc:=by
 intro pins s σ H x y v u Q I rx ry h
 obtain ⟨l,b,xs,zs,rfl,rfl,hH,hB,hz,q⟩:=h
 cases rx
 cases ry
 obtain ⟨z,its,n,r,hl,e⟩:=I.lstM hH
 obtain ⟨z2,its2,n2,r2,hl2,e2⟩:=I.lstM hB
 refine PySem.P.add_list e e2 ?_ (by rw [qaA,qaA];omega)
 have ea:its.toArray++its2.toArray=(its++its2).toArray:=by simp
 rw [ea]
 exact ⟨.ref _,_,I.lnew (t':=s.toks) (r.append r2) (by rw [qav];omega),rfl,q _ I.fresh⟩
theorem zp7 {α:Type} (xs:List α) (k:Nat):(List.replicate k xs).flatten.length=k*xs.length:=by
 induction k with
 | zero=>simp
 | succ k ih=>rw [List.replicate_succ,List.flatten_cons,qav,ih,Nat.succ_mul,Nat.add_comm]
end
section
variable {prog:Program} {w:World} {A:Around} {E:Value->Shared->Prop} {s:Shared}
end
section
variable {X:Cx}
end
end L2
namespace Att
open PySem PySem.W PySem.Calls PyProof.Rows
theorem zfa {P:Params} {h:Heap}: ∀ (ns:List Int) (vs:List Value),WellAll P h vs (ns.map WData.int)->IntsAre vs ns:=by
 intro ns
 induction ns with
 | nil=>
  intro vs w
  rw [List.map_nil] at w
  cases w
  exact .nil
 | cons n ns ih=>
  intro vs w
  rw [qaM] at w
  cases w with
  | cons a b=>
   cases a
   exact .cons _ _ (ih _ b)
theorem zlG {l:OpenLaw} {n:Nat} (hn:l.most=some n) {P:Params} {h:Heap} {args:List WData} {vals:List Value}
  (hpre:l.row.toRowW.claim.pre args=true) (hwl:WellAll P h vals args):
  ∃ a vs ns,vals=[Value.ref a]/\args=[WData.list (ns.map WData.int)]/\h.get? a=some {cls:= .type "list",data:= .seq vs.toArray}/\IntsAre vs ns/\ns.length<=n:=by
 have hsh:WShape.hasAll [] args [.list .int]=true:=(pre_splitW hpre).1
 have hc:l.pre.holds [] {args:=args}=true:=(pre_splitW hpre).2
 obtain ⟨d,r,rfl,h1,h2⟩:=hasAllW_cons hsh
 obtain rfl:=hasAllW_nil h2
 obtain ⟨xs,rfl,h3⟩:=hasW_list h1
 obtain ⟨ns,rfl⟩:=items_int h3
 have hlen:ns.length<=n:=by
  unfold OpenLaw.pre at hc
  have h4:(WTm.not (.lt (.lit (.int (n:Int))) (.len (.arg 0)))).holds [] {args:=[.list (ns.map .int)]}=true:=by
   have h4:=(holds_andW hc).1
   rw [hn] at h4
   exact h4
  have h5:=condW_of h4 (w_not (w_lt w_lit (w_len_list (w_arg rfl))))
  rw [qaH] at h5
  refine Nat.le_of_not_lt fun q=> ?_
  have q':(n:Int)<((ns.length:Nat):Int):=by omega
  first
   | (rw [decide_eq_true q'] at h5;exact absurd h5 (by decide))
   | (simp at h5;omega)
 cases hwl with
 | cons w1 w2=>
  cases w2
  cases w1 with
  | list ho hall=>exact ⟨_,_,ns,rfl,rfl,ho,zfa ns _ hall,hlen⟩
theorem zmj (l:OpenLaw) (args:List WData):l.row.toRowW.claim.post args (.bool true) args=true:=
 postW_of (r:=l.row.toRowW) (X:=(true==true))
  (show WShape.has [] (.bool true) .bool=true by first | rfl | decide | simp [WShape.has,WShape.arms,WShape.armsAll])
  (show (WTm.eq .res (.lit (.bool true))).value [] {args:=args,res:=some (.bool true),after:=args}=some (.bool (true==true)) from w_eq_bool (w_res rfl) w_lit) rfl
section
variable {prog:Program} {w:World} {A:Around} {E:Value->Shared->Prop} {s:Shared} {K:Frag}
end
end Att
namespace L2
open PySem PySem.Spec PyProof.Rows
theorem zeY: ∀ {vs:List Value} {ns:List Int},IntsAre vs ns->zaK (ns.map V.int) vs
 | _,_,.nil=> .nil
 | _,_,.cons n t h=> .cons ⟨t,rfl⟩ (zeY h)
def zu9 (H:Hp):Prop:= ∀ b,H b=none\/ ∃ o xs,H b=some (.frz o (.lst xs))
theorem znj {P:Program} {w:World} {K:W.Frag} {mg mb:Str->Option Value} {CX:CXT} {k:Nat} {fa a:Addr} {fd:FuncData} {x:Str} {sp:Sp} {s₁:Shared} {vs:List Value} {ns:List Int}
  (KX:K.In s₁.heap) (hns:s₁.heap.Ns mainGlobals mg) (hb:s₁.heap.Ns builtinsNs mb) (hbb: ∀ x:Str,x≠"__name__"->mb x=bootBuiltins x) (hlim:s₁.heap.NoLimit) (hg:s₁.gens= #[])
  (ha:s₁.heap.get? a=some {cls:= .type "list",data:= .seq vs.toArray}) (hi:IntsAre vs ns) (hl:ns.length<=sizeLine) (hr:zdg k callerA)
  (F: ∀ base:Heap,K.In base->base.Ns mainGlobals mg->zbw P w K mg base CX k fa fd [x] sp) (hbind: ∀ (s:Shared) (u:Value),BindsTo s fd ⟨[u],[]⟩ [(x,u)])
  (hsp: ∀ H:Hp,zu9 H->SqL K H a (ns.map V.int)->sp [.ref a] H (fun v _=>v= .bl true) fun _ _ _=>False)
  (hCX: ∀ H e s',CX [] H s₁ (fun _ _ _=>False) e s'->False):
  codeAny (model P w) callerA (.call (.ref fa) ⟨[.ref a],[]⟩) (fun r s'=>r= .ok (.ret (.bool true))/\OldK s₁.heap s'.heap/\s'.os=s₁.os/\AllBare s'.gens) s₁:=by
 have rv:=zeY hi
 have lenV:=hi.length
 have core: ∀ H:Hp,zu9 H->SqL K H a (ns.map V.int)->HOk P w H s₁.heap->(∀ b,H b≠none->b=a)->(H a≠none->K.lookup a=none)->
   codeAny (model P w) callerA (.call (.ref fa) ⟨[.ref a],[]⟩) (fun r s'=>r= .ok (.ret (.bool true))/\OldK s₁.heap s'.heap/\s'.os=s₁.os/\AllBare s'.gens) s₁:=by
  intro H hO hS hok hA hK
  have base_of: ∀ {b:Addr} {o:Obj},s₁.heap.get? b=some o->H b=none->(zm6 s₁.heap H).get? b=some o:=fun e n=>zmA e n
  have noA: ∀ {b:Addr} {o:Obj} {es:Array DictEntry} {ep:Nat},s₁.heap.get? b=some o->o.data= .dict es ep->H b=none:=fun {b o es ep} e d=>by
   cases q:H b with
   | none=>rfl
   | some u=>
    have e':b=a:=hA b (by rw [q];simp)
    subst e'
    rw [ha] at e;cases e
    have d':Data.seq vs.toArray _=Data.dict es ep:=d
    cases d'
  have nsK: ∀ {b:Addr} {m:Str->Option Value},s₁.heap.Ns b m->(zm6 s₁.heap H).Ns b m:=fun {b m} ⟨o,es,ep,e,d,r⟩=>⟨o,es,ep,base_of e (noA e d),d,r⟩
  have hKb:K.In (zm6 s₁.heap H):=fun b o e=>base_of (KX b o e) (by
    cases q:H b with
    | none=>rfl
    | some u=>
      have e':b=a:=hA b (by rw [q];simp)
      subst e'
      rw [hK (by rw [q];simp)] at e;cases e)
  have hM:Mod K mg (zm6 s₁.heap H):=⟨hKb,nsK hns,⟨mb,nsK hb,hbb⟩,let ⟨mc,h1,h2⟩:=hlim;⟨mc,nsK h1,h2⟩⟩
  have e0:zmS P w K mg (zm6 s₁.heap H) callerA [] s₁ H:=⟨rfl,hM,fun b o e=>zqy e,Nat.le_of_eq (zkV _ _),trivial,fun b hb=>absurd (show b∈([]:List Addr) from hb) (by simp),hok,.of_eq hg,.inl rfl⟩
  refine codeAny_mono ((F _ hKb (nsK hns)).run callerA [] s₁ H ⟨[.ref a],[]⟩ [.ref a] [.ref a] _ _ hr e0 (hbind s₁ (.ref a)) (.cons rfl .nil) (hsp H hO hS)) fun r s' h=> ?_
  cases r with
  | error e=>exact (hCX H e s' h).elim
  | ok fl=>
   cases fl with
   | next=>exact qa0 h
   | brk=>exact qa0 h
   | cont=>exact qa0 h
   | ret u=>
    obtain ⟨v,H',os,bare,un,hok',r',q⟩:=h
    have q':v= .bl true:=q
    subst q'
    obtain rfl:u=Value.bool true:=r'
    refine ⟨rfl,OldK.of_keep fun b o e=> ?_,os,bare⟩
    cases q:H b with
    | none=>exact un.keep b o e q (by intro z;exact absurd (show b∈([]:List Addr) from z) (by simp)) (by simp)
    | some u=>
     rcases hO b with z | ⟨ob,xs,z⟩
     ·rw [q] at z;cases z
     ·have z2:=un.frzs b ob _ z
      obtain ⟨e1,_⟩:=hok b _ z
      obtain ⟨e2,_⟩:=hok' b _ z2
      rw [e] at e1;cases e1
      exact e2
 cases hk:K.lookup a with
 | some o=>
  have e:=KX a o hk
  rw [ha] at e
  cases e
  refine core (fun _=>none) (fun _=> .inl rfl) (.inr ⟨_,vs.toArray,_,hk,rfl,rfl,rfl,by rw [qaA,lenV];exact hl,by simpa using rv⟩) (fun b u z=>by have z':(none:Option HO)=some u:=z;cases z') (fun b z=>absurd rfl z) fun z=>absurd rfl z
 | none=>
  refine core (fun b=>if b=a then some (.frz {cls:= .type "list",data:= .seq vs.toArray} (.lst (ns.map V.int))) else none) (fun b=> ?_) (.inl (.inr ⟨{cls:= .type "list",data:= .seq vs.toArray},qa4 rfl⟩)) (fun b u z=> ?_) (fun b z=> ?_) fun _=>hk
  ·by_cases hb:b=a
   ·exact .inr ⟨_,_,qa4 hb⟩
   ·exact .inl (qa5 hb)
  ·by_cases hb:b=a
   ·have z':=(qa4 hb).symm.trans z
    cases z'
    subst hb
    exact ⟨ha,by rw [qaH];exact hl,vs,_,rv,ha⟩
   ·have z':=(qa5 hb).symm.trans z
    cases z'
  ·by_cases hb:b=a
   ·exact hb
   ·exact absurd (qa5 hb) z
noncomputable def zd4 (s:Stmt):Arguments:=match s with
 | .FunctionDef _ a _ _ _ _ _ _ _ _=>a
 | _=>{posonlyargs:=[],args:=[],vararg:=none,kwonlyargs:=[],kw_defaults:=[],kwarg:=none,defaults:=[]}
noncomputable def zb2 (s:Stmt):List Stmt:=match s with
 | .FunctionDef _ _ b _ _ _ _ _ _ _=>b
 | _=>[]
noncomputable def zae (s:Stmt):Scope:=match s with
 | .FunctionDef _ _ _ _ _ _ sc _ _ _=>sc
 | _=>{kind:= .function,names:=[],isGenerator:=false,isCoroutine:=false}
noncomputable abbrev CX0:CXT:=fun _ _ _ _ _ _=>False
noncomputable abbrev E0:XK:=fun _ _ _=>False
theorem zsw {X:Cx}:zc0 CX0 X E0:=fun _ _ _ _ _ _ _ h=>h.elim
structure Fun (K:W.Frag) (x qual:Str) (st:Stmt) (f:Addr) (fd:FuncData):Prop where
 ex: ∃ (oc:Value) (od:Option Addr) (kV doc pm:Value) (an:Option Addr) (cdv ct:Value) (osl:Array (Option Value)),
  fd=W.fnOf x qual (zd4 st) (zb2 st) (zae st) .none kV doc pm an cdv ct/\K.lookup f=some ⟨oc,od,.func fd,osl⟩/\W.codeIn K cdv qual=true
 kp:W.keepIn K (.ref f)=true
section
variable {P:Program} {w:World} {K:W.Frag} {mg:Str->Option Value} {base:Heap}
theorem Fun.ok {x qual:Str} {st:Stmt} {f:Addr} {fd:FuncData} {N ps:List Str} {k:Nat} {sp:Sp} (F:Fun K x qual st f fd) (S:zao N ps (zae st)) (len: ∀ vs H Q E,sp vs H Q E->vs.length=ps.length)
  (hbody: ∀ (cdv:Value) (A:Around) (outer:List Env) (s:Shared) (H:Hp) (vs:List V) (Q:VK) (E:XK),zdg k (A.deeper (envOfC qual (zae st) s.heap.objs.size f cdv))->sp vs H Q E->
    ∃ t,PSs (zhM CX0 P w K mg base N qual (zae st) f cdv A outer s H E).nox (zb2 st) t/\t {nx:=fun _ H'=>Q .non H',rt:=Q} (zea N vs) H):zbw P w K mg base CX0 (k+1) f fd ps sp:=by
 obtain ⟨oc,od,kV,doc,pm,an,cdv,ct,osl,rfl,lk,hcd⟩:=F.ex
 refine zrj lk hcd S len fun A outer s H vs Q E hr hsp=> ?_
 obtain ⟨t,h,q⟩:=hbody cdv A outer s H vs Q E hr hsp
 exact ⟨t,h.nox,q⟩
theorem Fun.binds {x qual:Str} {st:Stmt} {f:Addr} {fd:FuncData} {ps:List Str} (F:Fun K x qual st f fd)
  (h: ∀ (kV doc pm:Value) (an:Option Addr) (cdv ct:Value) (us:List Value),us.length=ps.length->bindArgs (W.fnOf x qual (zd4 st) (zb2 st) (zae st) .none kV doc pm an cdv ct) ⟨us,[]⟩=pure (ps.zip us)):zaG K fd ps []:=by
 obtain ⟨oc,od,kV,doc,pm,an,cdv,ct,osl,rfl,lk,hcd⟩:=F.ex
 exact .all (h kV doc pm an cdv ct)
theorem zaH {x qual:Str} {st:Stmt} {f:Addr} {oc:Value} {od an:Option Addr} {osl:Array (Option Value)} {kV doc pm cdv ct:Value} (l:K.lookup f=some ⟨oc,od,.func (W.fnOf x qual (zd4 st) (zb2 st) (zae st) .none kV doc pm an cdv ct),osl⟩)
  (c:W.codeIn K cdv qual=true) (k:W.keepIn K (.ref f)=true):Fun K x qual st f (W.fnOf x qual (zd4 st) (zb2 st) (zae st) .none kV doc pm an cdv ct):=⟨⟨oc,od,kV,doc,pm,an,cdv,ct,osl,rfl,l,c⟩,k⟩
end
section
variable {X:Cx}
theorem pv (i:Nat) {x:Str} {pos:Pos} (hN:X.N[i]? = some x:=by rfl) (hv:Vis X.env.scope x:=by first | exact Or.inl rfl | exact Or.inr (Or.inl rfl) | exact Or.inr (Or.inr rfl)) (hd:(x==("__debug__":Str))=false:=by decide)
  (hcd:(x==("__classdict__":Str))=false:=by decide):PE X (.Name x pos) (zuZ i):=zoG hN hv hd hcd
end
theorem zqR {A B:Prop} (h:B):if false=true then A else B:=by
 rw [qa5 Bool.false_ne_true]
 exact h
theorem zqS {A B:Prop} (h:A):if true=true then A else B:=by
 rw [qa4 rfl]
 exact h
def zmr (H H':Hp):Prop:= ∀ b o,H b=some o->H' b=some o
theorem zmr.refl (H:Hp):zmr H H:=fun _ _ h=>h
theorem zmr.trans {H H1 H2:Hp} (a:zmr H H1) (b:zmr H1 H2):zmr H H2:=fun c o h=>b c o (a c o h)
theorem zmr.free {H H':Hp} (e:zmr H H') {l:Addr} (h:H' l=Option.none):H l=Option.none:=by
 cases q:H l with
 | none=>rfl
 | some o=>
  rw [e l o q] at h
  cases h
theorem zmr.seq {K:W.Frag} {H H':Hp} {a:Addr} {xs:List V} (e:zmr H H') (h:SqL K H a xs):SqL K H' a xs:=by
 rcases h with (h | ⟨o,h⟩) | h
 ·exact .inl (.inl (e _ _ h))
 ·exact .inl (.inr ⟨o,e _ _ h⟩)
 ·exact .inr h
noncomputable def zbf (cells:List (Str×Addr)):List (Str×NameKind)->List (Str×Addr)->List (Str×Addr)
 | [],acc=>acc
 | (n,k)::r,acc=>if k== .free then zbf cells r ((n,(cells.lookup n).getD 0)::acc) else zbf cells r acc
theorem zdw {scope:Scope} {env:Env} (h: ∀ x∈scope.names,x.2= .free-> ∃ c,env.cells.lookup x.1=some c):closureFor scope env=pure (zbf env.cells scope.names []):=by
 simp only [closureFor]
 generalize hn:scope.names=names at h
 clear hn
 generalize hacc:([]:List (Str×Addr))=acc
 clear hacc
 have key: ∀ (names:List (Str×NameKind)) (acc:List (Str×Addr)),(∀ x∈names,x.2= .free-> ∃ c,env.cells.lookup x.1=some c)->
   (forIn (m:=Sem) names acc fun (x:Str×NameKind) (r:List (Str×Addr))=>(match x with
     | (name,kind)=>if (kind==NameKind.free)=true then do
         let a<-cellOf env name
         pure (ForInStep.yield ((name,a)::r))
       else pure (ForInStep.yield r)))=pure (zbf env.cells names acc):=by
  intro names
  induction names with
  | nil=>intro acc _;rfl
  | cons x r ih=>
   intro acc h
   obtain ⟨n,k⟩:=x
   rw [List.forIn_cons]
   unfold zbf
   by_cases hk:(k==NameKind.free)=true
   ·simp only [hk,if_true]
    obtain ⟨c,hc⟩:=h (n,k) qau (by simpa using hk)
    have e:cellOf env n=pure c:=by unfold cellOf;rw [show env.cells.lookup n=some c from hc]
    rw [e,show (env.cells.lookup n).getD 0=c by rw [show env.cells.lookup n=some c from hc];rfl]
    exact ih _ fun y hy=>h y (qan _ hy)
   ·simp only [hk,if_false]
    exact ih _ fun y hy=>h y (qan _ hy)
 have k:=key names acc h
 refine Eq.trans (congrArg (fun (z:Sem (List (Str×Addr)))=>z>>=fun r=>pure r) k) ?_
 rfl
theorem zdY {cells:List (Str×Addr)}: ∀ {names:List (Str×NameKind)} {acc:List (Str×Addr)} {n:Str} {c:Addr},(n,c)∈zbf cells names acc->
  (n,c)∈acc\/((n,NameKind.free)∈names/\c=(cells.lookup n).getD 0)
 | [],_,_,_,h=> .inl h
 | (y,k)::r,acc,n,c,h=>by
  unfold zbf at h
  by_cases hk:(k==NameKind.free)=true
  ·rw [qa4 hk] at h
   have ek:k= .free:=by simpa using hk
   subst ek
   rcases zdY h with h | ⟨h1,h2⟩
   ·rcases qaP.mp h with e | h
    ·cases e
     exact .inr ⟨qau,rfl⟩
    ·exact .inl h
   ·exact .inr ⟨qan _ h1,h2⟩
  ·rw [qa5 hk] at h
   rcases zdY h with h | ⟨h1,h2⟩
   ·exact .inl h
   ·exact .inr ⟨qan _ h1,h2⟩
theorem zdm {cells:List (Str×Addr)} {x:Str} {c:Addr} (hc:cells.lookup x=some c): ∀ (names:List (Str×NameKind)) (acc:List (Str×Addr)),((x,NameKind.free)∈names\/acc.lookup x=some c)->(zbf cells names acc).lookup x=some c
 | [],acc,h=>h.elim (fun z=>nomatch z) id
 | (y,k)::r,acc,h=>by
  unfold zbf
  by_cases hk:(k==NameKind.free)=true
  ·rw [qa4 hk]
   refine zdm hc r _ ?_
   by_cases hy:x=y
   ·subst hy
    exact .inr (by rw [List.lookup_cons,beq_self_eq_true,hc];rfl)
   ·rcases h with h | h
    ·rcases qaP.mp h with e | h
     ·cases e;exact absurd rfl hy
     ·exact .inl h
    ·refine .inr ?_
     rw [List.lookup_cons,show (x==y)=false by simpa using hy]
     exact h
  ·rw [qa5 hk]
   refine zdm hc r _ ?_
   rcases h with h | h
   ·rcases qaP.mp h with e | h
    ·cases e;exact absurd rfl hk
    ·exact .inl h
   ·exact .inr h
theorem zcu: ∀ {names:List (Str×NameKind)} {n:Nat} {acc:List (Str×Addr)} {x:Str} {c:Addr},(x,c)∈cellsFrom n names acc->(x,c)∈acc\/(n<=c/\(x,NameKind.cell)∈names)
 | [],_,_,_,_,h=> .inl h
 | (y,k)::r,n,acc,x,c,h=>by
  unfold cellsFrom at h
  by_cases hk:(k==NameKind.cell)=true
  ·rw [qa4 hk] at h
   have ek:k= .cell:=by simpa using hk
   subst ek
   rcases zcu h with h | ⟨h,h'⟩
   ·rcases qaP.mp h with e | h
    ·cases e;exact .inr ⟨qaV _,qau⟩
    ·exact .inl h
   ·exact .inr ⟨Nat.le_of_succ_le h,qan _ h'⟩
  ·rw [qa5 hk] at h
   rcases zcu h with h | ⟨h,h'⟩
   ·exact .inl h
   ·exact .inr ⟨h,qan _ h'⟩
theorem zbR {x:Str} {c:Addr}: ∀ (names:List (Str×NameKind)) (n:Nat) (acc:List (Str×Addr)),(x,NameKind.cell)∉names->acc.lookup x=some c->(cellsFrom n names acc).lookup x=some c
 | [],_,_,_,h=>h
 | (y,k)::r,n,acc,hn,h=>by
  unfold cellsFrom
  by_cases hk:(k==NameKind.cell)=true
  ·rw [qa4 hk]
   have ek:k= .cell:=by simpa using hk
   subst ek
   refine zbR r _ _ (fun z=>hn (qan _ z)) ?_
   have hy:x≠y:=fun e=>hn (by rw [e];exact qau)
   rw [List.lookup_cons,show (x==y)=false by simpa using hy]
   exact h
  ·rw [qa5 hk]
   exact zbR r _ _ (fun z=>hn (qan _ z)) h
theorem zbU: ∀ (names:List (Str×NameKind)) (n:Nat) (acc:List (Str×Addr)),(∀ x c,(x,c)∈acc->c<n)->(acc.Pairwise fun x y=>x.2≠y.2)->(cellsFrom n names acc).Pairwise fun x y=>x.2≠y.2
 | [],_,_,_,h=>h
 | (y,k)::r,n,acc,hlt,h=>by
  unfold cellsFrom
  by_cases hk:(k==NameKind.cell)=true
  ·rw [qa4 hk]
   refine zbU r (n+1) _ (fun x c hm=> ?_) (qay.mpr ⟨fun z hz e=> ?_,h⟩)
   ·rcases qaP.mp hm with e | hm
    ·cases e;exact Nat.lt_succ_self _
    ·exact Nat.lt_succ_of_lt (hlt x c hm)
   ·have:=hlt z.1 z.2 hz
    have e':n=z.2:=e
    exact qaN _ (e'▸this)
  ·rw [qa5 hk]
   exact zbU r n acc hlt h
noncomputable def zqf (env:Env) (scope:Scope) (C:Addr):Env:=
 {scope:=relabel scope env,locals:=C,globals:=env.globals,cells:=cellsFrom (C+1) scope.names (zbf env.cells scope.names []),qual:=env.qual,func:=none,code:=env.code,frame:=env.frame,builtins:=env.builtins}
section
variable {M:Model} {A:Around} {E:Value->Shared->Prop} {s:Shared}
theorem zfi {scope:Scope} {env:Env} {cl:List (Str×Addr)} {Q:Env->Shared->Prop}
  (hQ: ∀ h',(∀ b o,s.heap.get? b=some o->h'.get? b=some o)->h'.Ns s.heap.objs.size (fun _=>none)->(∀ x c,(x,NameKind.cell)∈scope.names->(x,c)∈cellsFrom (s.heap.objs.size+1) scope.names cl->(x,c)∉cl->h'.IsCell c none)->
    Q {scope,locals:=s.heap.objs.size,globals:=env.globals,cells:=cellsFrom (s.heap.objs.size+1) scope.names cl,qual:=env.qual,func:=none,code:=env.code,frame:=env.frame,builtins:=env.builtins} {s with heap:=h'}):
  wpAny M A (newFunctionEnv scope env.globals cl [] env.qual none .none (some env)) Q E s:=by
 simp only [newFunctionEnv,Option.isSome_some,if_true]
 refine qaW (wpAny_alloc ?_)
 refine qaW (wpAny_layCells _ (fun name kind cells=>by cases hkc:kind==NameKind.cell<;>simp [hkc]) _ _ _ _ ?_)
 simp only [List.forIn_nil]
 refine qaW (qaX (qaX ?_))
 rw [show ({s with heap:=s.heap.push {cls:= .type "dict",data:= .dict #[]}}:Shared).heap.objs.size=s.heap.objs.size+1 from qaL ..]
 have key: ∀ (names:List (Str×NameKind)) (h:Heap) (acc:List (Str×Addr)) (x:Str) (c:Addr),(x,c)∈cellsFrom h.objs.size names acc->(x,c)∉acc->(pushCells h names).IsCell c none:=by
  intro names
  induction names with
  | nil=>intro h acc x c hm hn;exact absurd hm hn
  | cons y r ih=>
   intro h acc x c hm hn
   obtain ⟨n,k⟩:=y
   unfold cellsFrom at hm
   unfold pushCells
   by_cases hk:(k==NameKind.cell)=true
   ·rw [qa4 hk] at hm ⊢
    by_cases hin:(x,c)∈((n,h.objs.size)::acc)
    ·rcases qaP.mp hin with e | e
     ·cases e
      exact ⟨_,pushCells_keeps _ _ _ _ (qar _ rfl),rfl⟩
     ·exact absurd e hn
    ·refine ih (h.push {cls:= .type "cell",data:= .cell none}) ((n,h.objs.size)::acc) x c ?_ hin
     rw [qaL]
     exact hm
   ·rw [qa5 hk] at hm ⊢
    exact ih h acc x c hm hn
 refine hQ _ (fun b o e=>pushCells_keeps _ _ b o (qag _ e)) ((Heap.Ns.new s.heap (.type "dict")).keeps (pushCells_keeps _ _)) fun x c _ hm hn=> ?_
 refine key scope.names _ cl x c ?_ hn
 rw [qaL]
 exact hm
end
section
variable {prog:Program} {w:World} {A:Around} {E:Value->Shared->Prop} {R:Result->Shared->Prop} {s:Shared}
theorem zg0 {elt target iter:Expr} {ifs:List Expr} {scope:Scope} {pos:Pos} {it acc:Value} {env:Env} (I:Nat->Shared->Prop)
  (turn: ∀ n s,I n s->wpAny (model prog w) A (pyNext it) (fun r s₁=>match r with
    | none=>R (.ok .next) s₁
    | some v=>wpAny (model prog w) A (letOwnedTupleGo target it v) (fun _ s₁'=>wpAny (model prog w) A (assign target env v) (fun _ s₂=>
        wpAny (model prog w) A (forIn ifs true fun c r=>if r=true then do let ok<-isTrue c env (eval c env);pure (ForInStep.yield ok) else pure (ForInStep.yield r)) (fun ok s₃=>
          if ok=true then wpAny (model prog w) A (eval elt env) (fun x s₄=>
            wpAny (model prog w) A (call (.builtin "list.append") [acc,x]) (fun _ s₅=> ∃ m,m<n/\I m s₅) (fun _ _=>False) s₄) (fun _ _=>False) s₃
          else ∃ m,m<n/\I m s₃) (fun _ _=>False) s₂) (fun _ _=>False) s₁') (fun _ _=>False) s₁) (fun _ _=>False) s)
  (n:Nat) (h:I n s):
  codeAny (model prog w) A (.compLoop (.ListComp elt [⟨target,iter,ifs,0⟩] scope pos) 0 it acc env) R s:=by
 refine codeAny_loop rfl I (fun n s hI=> ?_) n h
 show wpAny _ A ((compTurn (.ListComp elt [⟨target,iter,ifs,0⟩] scope pos) 0 it acc env).onRaise (fun x=>do noteFrame x env;theTreesLotGoes x)) _ _ s
 refine wpAny_noted ?_
 rw [compTurn_list]
 refine qaW (wpAny_standAt (qaW (qaZ (turn n s hI) (fun r s₁ h₁=> ?_) fun _ _ h'=>h'.elim)))
 cases r with
 | none=>exact qaX h₁
 | some v=>
  refine qaW (qaZ h₁ (fun _ s₁' h₁'=> ?_) fun _ _ h'=>h'.elim)
  refine qaW (qaZ h₁' (fun _ s₂ h₂=>qaW (qaZ h₂ (fun ok s₃ h₃=> ?_) fun _ _ h'=>h'.elim)) fun _ _ h'=>h'.elim)
  cases ok with
  | false=>exact qaX ⟨rfl,h₃⟩
  | true=>
   exact qaW (qaW (qaZ h₃ (fun x s₄ h₄=>qaW (qaZ h₄ (fun _ s₅ h₅=>qaX (qaX ⟨rfl,h₅⟩)) fun _ _ h'=>h'.elim)) fun _ _ h'=>h'.elim))
end
noncomputable abbrev cxB (X:Cx) (scope:Scope) (N:List Str) (s:Shared) (H:Hp) (fp:List Addr):Cx:=
 {prog:=X.prog,w:=X.w,K:=X.K,mg:=X.mg,base:=X.base,A:=X.A,N:=N,s₀:=s,H₀:=H,env:=zqf X.env scope s.heap.objs.size,outer:=X.stack,stack:=X.stack,ex:=fp,
   fn:=fun x=>scope.names.lookup x==some .cell,calm:=X.calm,pn:=[],xe:=fun _ _=>False}
noncomputable def zof (Xn:List (Str×NameKind)) (XN:List Str) (names:List (Str×NameKind)) (N:List Str) (src:List (Option Nat)):Bool:=
 decide N.Nodup && decide (names.map (·.1)).Nodup && (src.length==N.length) &&
 names.all (fun x=>x.2 != .local || names.lookup x.1==some .local) &&
 names.all (fun x=>x.2 != .cell || names.lookup x.1==some .cell) &&
 names.all (fun x=>x.2 != .free || Xn.lookup x.1==some .cell || Xn.lookup x.1==some .free) &&
 (N.zip src).all (fun p=>match p.2 with
   | none=>true
   | some i=>XN[i]? == some p.1 && names.lookup p.1==some .free)
structure BOk (X:Cx) (scope:Scope) (N:List Str) (src:List (Option Nat)):Prop where
 kind:scope.kind= .function
 nd:N.Nodup
 keys:(scope.names.map (·.1)).Nodup
 len:src.length=N.length
 locs: ∀ x∈scope.names,x.2= .local->scope.names.lookup x.1=some .local
 cels: ∀ x∈scope.names,x.2= .cell->scope.names.lookup x.1=some .cell
 free: ∀ x∈scope.names,x.2= .free->X.env.kindOf x.1=some .cell\/X.env.kindOf x.1=some .free
 src: ∀ (k i:Nat) (x:Str),src[k]? = some (some i)->N[k]? = some x->X.N[i]? = some x/\scope.names.lookup x=some .free
theorem BOk.of {X:Cx} {scope:Scope} {N:List Str} {src:List (Option Nat)} {Xn:List (Str×NameKind)} {XN:List Str} (hk:scope.kind= .function) (hX:X.env.scope.names=Xn) (hN:X.N=XN)
  (h:zof Xn XN scope.names N src=true):BOk X scope N src:=by
 unfold zof at h
 simp only [qaG,qaD,List.all_eq_true,beq_iff_eq] at h
 obtain ⟨⟨⟨⟨⟨⟨h1,h2⟩,h3⟩,h4⟩,h4'⟩,h5⟩,h6⟩:=h
 refine ⟨hk,h1,h2,h3,fun x hx e=> ?_,fun x hx e=> ?_,fun x hx e=> ?_,fun k i x e1 e2=> ?_⟩
 ·have:=h4 x hx
  rw [e] at this
  simpa using this
 ·have:=h4' x hx
  rw [e] at this
  simpa using this
 ·have:=h5 x hx
  rw [e] at this
  unfold Env.kindOf
  rw [hX]
  simpa using this
 ·have hm:(x,some i)∈N.zip src:=by
   refine List.mem_iff_getElem?.mpr ⟨k,?_⟩
   rw [List.getElem?_zip_eq_some]
   exact ⟨e2,e1⟩
  have:=h6 _ hm
  dsimp only at this
  simp only [qaG,beq_iff_eq] at this
  rw [hN]
  exact this
noncomputable def bStart (src:List (Option Nat)) (σ:St):St:=src.map fun o=>o.bind fun i=>(σ[i]?).join
theorem zff {scope:Scope} {env:Env} {x:Str}:(relabel scope env).names.lookup x=(scope.names.lookup x).map fun k=>if (k== .free && env.scope.kind== .function && env.kindOf x==some .cell) then .cell else k:=by
 show List.lookup x (scope.names.map _)=_
 induction scope.names with
 | nil=>rfl
 | cons y r ih=>
  obtain ⟨n,k⟩:=y
  rw [qaM]
  dsimp only
  by_cases hx:x=n
  ·subst hx
   by_cases hc:(k==NameKind.free && env.scope.kind== .function && env.kindOf x==some .cell)=true
   ·rw [qa4 hc,List.lookup_cons,List.lookup_cons,beq_self_eq_true]
    dsimp only [Option.map]
    rw [qa4 hc]
   ·rw [qa5 hc,List.lookup_cons,List.lookup_cons,beq_self_eq_true]
    dsimp only [Option.map]
    rw [qa5 hc]
  ·have hb:(x==n)=false:=by simpa using hx
   by_cases hc:(k==NameKind.free && env.scope.kind== .function && env.kindOf n==some .cell)=true
   ·rw [qa4 hc,List.lookup_cons,List.lookup_cons,hb]
    exact ih
   ·rw [qa5 hc,List.lookup_cons,List.lookup_cons,hb]
    exact ih
section
variable {X:Cx} {pins:List (Addr×Obj)} {σ:St} {H:Hp} {s:Shared} {scope:Scope} {N:List Str} {src:List (Option Nat)} {fp:List Addr}
theorem zp1 (I:Inv X pins σ H s) (B:BOk X scope N src) {x:Str} {c:Addr} (h:(x,c)∈zbf X.env.cells scope.names []):X.env.cells.lookup x=some c/\(x,NameKind.free)∈scope.names:=by
 rcases zdY h with z | ⟨z,e⟩
 ·exact nomatch z
 ·obtain ⟨c',hc⟩:=I.ok.has x (B.free _ z rfl)
  rw [hc] at e
  exact ⟨by rw [hc,e];rfl,z⟩
theorem zgM {l:List (Str×NameKind)} (h:(l.map (·.1)).Nodup) {x:Str} {j k:NameKind} (a:(x,j)∈l) (b:(x,k)∈l):j=k:=by
 induction l with
 | nil=>exact nomatch a
 | cons y r ih=>
  obtain ⟨h1,h2⟩:=List.nodup_cons.mp (show (y.1::r.map (·.1)).Nodup from h)
  rcases qaP.mp a with e | a<;>rcases qaP.mp b with e' | b
  ·rw [<- e] at e';cases e';rfl
  ·exact absurd (qaU.mpr ⟨_,b,by rw [<- e]⟩) h1
  ·exact absurd (qaU.mpr ⟨_,a,by rw [<- e']⟩) h1
  ·exact ih h2 a b
theorem zdT (I:Inv X pins σ H s): ∀ (names:List (Str×NameKind)) (acc:List (Str×Addr)),(∀ x∈names,x.2= .free-> ∃ c,X.env.cells.lookup x.1=some c)->(names.map (·.1)).Nodup->(∀ x c,(x,c)∈acc->X.env.cells.lookup x=some c/\x∉names.map (·.1))->
  (acc.Pairwise fun x y=>x.2≠y.2)->(zbf X.env.cells names acc).Pairwise fun x y=>x.2≠y.2
 | [],_,_,_,_,h=>h
 | (n,k)::r,acc,hf,nd,ha,h=>by
  unfold zbf
  obtain ⟨h1,h2⟩:=List.nodup_cons.mp (show (n::r.map (·.1)).Nodup from nd)
  by_cases hk:(k==NameKind.free)=true
  ·rw [qa4 hk]
   obtain ⟨c,hc⟩:=hf (n,k) qau (by simpa using hk)
   have hc:X.env.cells.lookup n=some c:=hc
   rw [show (X.env.cells.lookup n).getD 0=c by rw [hc];rfl]
   refine zdT I r _ (fun x hx=>hf x (qan _ hx)) h2 (fun x c' hm=> ?_) (qay.mpr ⟨fun y hy e=> ?_,h⟩)
   ·rcases qaP.mp hm with e | hm
    ·cases e;exact ⟨hc,h1⟩
    ·exact ⟨(ha x c' hm).1,fun z=>(ha x c' hm).2 (qan _ z)⟩
   ·obtain ⟨q1,q2⟩:=ha y.1 y.2 hy
    have e':c=y.2:=e
    rw [<- e'] at q1
    have:=I.ok.inj _ _ _ hc q1
    exact q2 (by rw [<- this];exact qau)
  ·rw [qa5 hk]
   exact zdT I r acc (fun x hx=>hf x (qan _ hx)) h2 (fun x c' hm=>⟨(ha x c' hm).1,fun z=>(ha x c' hm).2 (qan _ z)⟩) h
theorem zlP (I:Inv X pins σ H s) (B:BOk X scope N src) (hf: ∀ b∈fp,zms X pins H b) (hfo: ∀ b∈fp, ∃ o,s.heap.get? b=some o) {h':Heap} (hk: ∀ b o,s.heap.get? b=some o->h'.get? b=some o) (hns:h'.Ns s.heap.objs.size (fun _=>none))
  (hce: ∀ x c,(x,NameKind.cell)∈scope.names->(x,c)∈cellsFrom (s.heap.objs.size+1) scope.names (zbf X.env.cells scope.names [])->(x,c)∉zbf X.env.cells scope.names []->h'.IsCell c none):
  Inv (cxB X scope N s H fp) [] (bStart src σ) H {s with heap:=h'}:=by
 have cin: ∀ {x:Str} {c:Addr},(x,c)∈zbf X.env.cells scope.names []->X.env.cells.lookup x=some c/\(x,NameKind.free)∈scope.names:=fun h=>zp1 I B h
 have old: ∀ {x:Str} {c:Addr},X.env.cells.lookup x=some c->c<s.heap.objs.size:=fun {x c} h=>(let ⟨_,q⟩:=I.cell x c h;q.lt)
 have all: ∀ {x:Str} {c:Addr},(x,c)∈cellsFrom (s.heap.objs.size+1) scope.names (zbf X.env.cells scope.names [])->(X.env.cells.lookup x=some c/\(x,NameKind.free)∈scope.names)\/(s.heap.objs.size<c/\(x,NameKind.cell)∈scope.names):=fun {x c} h=>by
  rcases zcu h with z | ⟨z,z'⟩
  ·exact .inl (cin z)
  ·exact .inr ⟨z,z'⟩
 have lk: ∀ {x:Str} {c:Addr},(zqf X.env scope s.heap.objs.size).cells.lookup x=some c->(x,c)∈cellsFrom (s.heap.objs.size+1) scope.names (zbf X.env.cells scope.names []):=fun h=>PySem.mem_of_lookup h
 have hasF: ∀ x∈scope.names,x.2= .free-> ∃ c,X.env.cells.lookup x.1=some c:=fun x hx e=>I.ok.has x.1 (B.free x hx e)
 have ap:(cellsFrom (s.heap.objs.size+1) scope.names (zbf X.env.cells scope.names [])).Pairwise fun x y=>x.2≠y.2:=
  zbU _ _ _ (fun x c hm=>Nat.lt_succ_of_lt (old (cin hm).1)) (zdT I scope.names [] hasF B.keys (fun _ _ z=>nomatch z) .nil)
 have outer: ∀ {x:Str} {c:Addr},(x,NameKind.free)∈scope.names->X.env.cells.lookup x=some c->(zqf X.env scope s.heap.objs.size).cells.lookup x=some c:=fun {x c} h1 h2=>
  zbR _ _ _ (fun z=>nomatch zgM B.keys h1 z) (zdm h2 scope.names [] (.inl h1))
 have kinds: ∀ x,(zqf X.env scope s.heap.objs.size).kindOf x=(scope.names.lookup x).map fun k=>if (k== .free && X.env.scope.kind== .function && X.env.kindOf x==some .cell) then .cell else k:=fun x=>zff
 have ckind: ∀ x,((zqf X.env scope s.heap.objs.size).kindOf x=some .cell\/(zqf X.env scope s.heap.objs.size).kindOf x=some .free)->scope.names.lookup x=some .cell\/scope.names.lookup x=some .free:=fun x h=>by
  rw [kinds x] at h
  cases e:scope.names.lookup x with
  | none=>rw [e] at h;simp at h
  | some k=>
   rw [e] at h
   cases k<;>simp at h ⊢
 refine ⟨⟨I.ok.mod,B.kind,I.ok.glob,I.ok.blt,qaV _,fun x y c h1 h2=>name_of_addr ap (lk h1) (lk h2),fun x hx=> ?_,fun x c hfn hx=> ?_,I.ok.hd,I.handA,I.ok.frames,.inl rfl,fun b hb=> ?_,I.bs,qaS I.ok.bsz I.sz,fun b o e hb=> ?_,fun b hb hb'=> ?_,I.stack,I.stkFree⟩,
   rfl,I.bare,Un.kept hk,⟨_,hns,fun i x v h1 h2 h3=> ?_⟩,fun x c h=> ?_,I.hok.fresh (qaV _),fun x c h=> ?_,fun p hp=>absurd (show p∈([]:List (Addr×Obj)) from hp) (by simp),I.hok.kept hk,?_⟩
 ·-- has
  rcases ckind x hx with h | h
  ·exact Option.isSome_iff_exists.mp (W.cellsFrom_some scope.names _ _ (.inl h))
  ·have hm:=PySem.mem_of_lookup h
   obtain ⟨c,hc⟩:=hasF _ hm rfl
   exact ⟨c,outer hm hc⟩
 ·-- cab
  have hfn:scope.names.lookup x=some .cell:=by simpa using hfn
  rcases all (lk hx) with ⟨_,z⟩ | ⟨z,_⟩
  ·exact absurd (zgM B.keys z (PySem.mem_of_lookup hfn)) (by decide)
  ·exact Nat.le_of_lt z
 ·-- exf
  obtain ⟨o,ho⟩:=hfo b hb
  refine ⟨qaR (qaQ ho),fun x c hx z=> ?_⟩
  rcases all (lk hx) with ⟨q,_⟩ | ⟨q,_⟩
  ·exact (hf b hb).2.2.2.2.1 x c q z
  ·have:=qaQ ho
   rw [<- z] at this
   exact qaN _ (Nat.lt_trans q this)
 ·-- noex
  rcases (hf b hb).2.2.2.1 with z | z
  ·exact I.ok.noex b o e z
  ·exact qaN _ (qaw (qaw (qaQ e) I.ok.bsz) z)
 ·-- exfs
  rcases qaP.mp (I.stkSub b hb') with z | z
  ·exact (hf b hb).2.1 z
  ·exact (hf b hb).2.2.1 z
 ·-- loc
  unfold bStart at h2
  rw [List.getElem?_map] at h2
  cases e:src[i]? with
  | none=>rw [e] at h2;cases h2
  | some o=>
   rw [e] at h2
   cases o with
   | none=>cases h2
   | some j=>
    have h2:(σ[j]?).join=some v:=by simpa using h2
    have e3:σ[j]? = some (some v):=by
     cases q:σ[j]? with
     | none=>rw [q] at h2;cases h2
     | some z=>rw [q] at h2;simp at h2;rw [h2]
    obtain ⟨b1,b2⟩:=B.src i j x e h1
    have hm:=PySem.mem_of_lookup b2
    obtain ⟨m,hn,hl⟩:=I.loc
    have hfr:=B.free _ hm rfl
    obtain ⟨u,r,l⟩:=hl j x v b1 e3 (.inr hfr)
    rcases l with ⟨k,_⟩ | ⟨k,c,hc,q⟩
    ·rcases hfr with z | z<;>(have z':=k.symm.trans z;cases z')
    ·refine ⟨u,r,.inr ⟨?_,c,outer hm hc,q.keeps hk⟩⟩
     rw [kinds x,b2]
     dsimp only [Option.map]
     split
     ·exact .inl rfl
     ·exact .inr rfl
 ·-- cell
  rcases all (lk h) with ⟨q,_⟩ | ⟨q,q'⟩
  ·obtain ⟨v,z⟩:=I.cell x c q
   exact ⟨v,z.keeps hk⟩
  ·exact ⟨none,hce x c q' (lk h) fun z=>absurd (Nat.lt_trans q (old (cin z).1)) (qaN _)⟩
 ·-- freeC
  rcases all (lk h) with ⟨q,_⟩ | ⟨q,q'⟩
  ·exact I.freeC x c q
  ·exact I.hok.fresh (Nat.le_of_lt q)
 ·unfold bStart
  rw [qaH]
  exact B.len
end
def PCs (X:Cx) (ifs:List Expr) (t:TT):Prop:=
 ∀ (pins:List (Addr×Obj)) (s:Shared) (σ:St) (H:Hp) (Q:Bool->Hp->Prop),Inv X pins σ H s->t σ H Q->
  wpAny (model X.prog X.w) X.A (forIn ifs true fun c r=>if r=true then do let ok<-isTrue c X.env (eval c X.env);pure (ForInStep.yield ok) else pure (ForInStep.yield r)) (TP X pins σ Q) X.xe s
noncomputable def zvI:TT:=fun _ H Q=>Q true H
theorem zpt {X:Cx}:PCs X [] zvI:=fun pins s σ H Q I h=>wpAny_tests_nil ⟨H,I,h⟩
theorem zpb {X:Cx} {c:Expr} {t:TT} (h:PT X c t):PCs X [c] t:=fun pins s σ H Q I hw=>wpAny_tests_one (h pins s σ H Q I hw)
def zut (J:It) (g:TG) (tc:TT) (te:TE) (σ0:St) (H1:Hp) (D:Addr) (Q:Hp->Prop):Prop:=
 ∃ W:Nat->Nat->St->Hp->Prop,(∃ m,W 0 m σ0 (upd H1 D (.lst [])))/\ ∀ i m σ' H',W i m σ' H'->
  (J.stop i H'/\Q H')\/(J.go i H'/\ ∃ Nn:St->Hp->Prop,(∀ σ2 H2,Nn σ2 H2-> ∃ m',m'<m/\W (i+1) m' σ2 H2)/\ ∀ x H2,J.yld i H' x H2->g x σ' H2 fun σ2 H3=>tc σ2 H3 fun b H4=>
    if b=true then te σ2 H4 fun y H5=> ∃ xs,H5 D=some (.lst xs)/\xs.length<sizeLine/\Nn σ2 (upd H5 D (.lst (xs++[y]))) else Nn σ2 H4)
section
variable {X:Cx} {scope:Scope} {N:List Str} {src:List (Option Nat)} {tg iter elt:Expr} {ifs:List Expr} {pos:Pos}
theorem zi5 {pins:List (Addr×Obj)} {σ:St} {H:Hp} {s₂:Shared} {it:Addr} {fp:List Addr} {tn:Nat->Heap->Prop} {J:It} {g:TG} {tc:TT} {te:TE} {Q:Addr->Hp->Prop} {E:Value->Shared->Prop} {RR:Value->Addr->Result->Shared->Prop}
  (B:BOk X scope N src)
  (hg: ∀ s H fp,PG (cxB X scope N s H fp) tg g) (ht: ∀ s H fp,PCs (cxB X scope N s H fp) ifs tc) (he: ∀ s H fp,PE (cxB X scope N s H fp) elt te)
  (I2:Inv X pins σ H s₂) (T:zqJ X.prog X.w X.K tg J fp it tn) (st2:tn 0 s₂.heap) (f2: ∀ b∈fp,zms X pins H b) (hw: ∀ D,H D=none->zut J g tc te (bStart src σ) H D (Q D))
  (hRR: ∀ D C H' s' m,Inv X pins σ H' s'->s'.heap.Ns C m->s₂.heap.objs.size<=C->C<s'.heap.objs.size->H' C=none->Q D H'->RR (.ref D) C (.ok .next) s'):
  wpAny (model X.prog X.w) X.A (newList []) (fun acc s₃=>wpAny (model X.prog X.w) X.A (newFunctionEnv scope X.env.globals (zbf X.env.cells scope.names []) [] X.env.qual none .none (some X.env)) (fun cenv s₄=>
    codeAny (model X.prog X.w) X.A (.compStart (.ListComp elt [⟨tg,iter,ifs,0⟩] scope pos) 0 (.ref it) acc {cenv with scope:=relabel scope X.env}) (RR acc cenv.locals) s₄) E s₃) E s₂:=by
 refine qaC (zfi fun h₁ hk₁ hns₁ hce₁=> ?_)
 dsimp only at hk₁ hns₁ hce₁ ⊢
 have hfresh:H s₂.heap.objs.size=none:=I2.hok.fresh (qaV _)
 have I3:Inv X pins σ (upd H s₂.heap.objs.size (.lst [])) {s₂ with heap:=s₂.heap.push {cls:= .type "list",dict:=none,data:= .seq ([]:List Value).toArray}}:=by
  have:=I2.lnew (its:=[]) (ys:=[]) (t':=s₂.toks) .nil (Nat.zero_le _)
  exact this
 obtain ⟨W,⟨m0,w0⟩,turn⟩:=hw _ hfresh
 generalize hD:s₂.heap.objs.size=D at*
 generalize hs3:({s₂ with heap:=s₂.heap.push {cls:= .type "list",dict:=none,data:= .seq ([]:List Value).toArray}}:Shared)=s₃ at*
 have hh3:s₂.heap.push {cls:= .type "list",dict:=none,data:= .seq ([]:List Value).toArray}=s₃.heap:=by rw [<- hs3]
 rw [hh3] at hk₁ hns₁ hce₁ ⊢
 have push3: ∀ b o,s₂.heap.get? b=some o->s₃.heap.get? b=some o:=fun b o e=>by rw [<- hs3];exact qag _ e
 have sz3:s₃.heap.objs.size=D+1:=by rw [<- hs3, <-hD];exact qaL ..
 have fpo: ∀ b∈fp, ∃ o,s₂.heap.get? b=some o/\ ∀ v,o.data≠ .cell v:=T.obj _ _ st2
 have fpD: ∀ b∈fp,b≠D:=fun b hb z=>by
  obtain ⟨o,e,_⟩:=fpo b hb
  have:=qaQ e
  rw [z, <-hD] at this
  exact qaN _ this
 have f3: ∀ b∈fp,zms X pins (upd H D (.lst [])) b:=fun b hb=>⟨by rw [zat (fpD b hb)];exact (f2 b hb).1,(f2 b hb).2⟩
 have I4:Inv (cxB X scope N s₃ (upd H D (.lst [])) fp) [] (bStart src σ) (upd H D (.lst [])) {s₃ with heap:=h₁}:=
  zlP I3 B f3 (fun b hb=>let ⟨o,e,_⟩:=fpo b hb;⟨o,push3 b o e⟩) hk₁ hns₁ hce₁
 have fB: ∀ {H':Hp},(∀ b∈fp,H' b=none)-> ∀ b∈fp,zms (cxB X scope N s₃ (upd H D (.lst [])) fp) [] H' b:=fun {H'} hn b hb=>
  ⟨hn b hb,(I4.ok.exf b hb).1,I4.ok.exfs b hb,.inl hb,fun x c e=>(I4.ok.exf b hb).2 x c e,fun p hp=>absurd (show p∈([]:List (Addr×Obj)) from hp) (by simp)⟩
 have stat4: ∀ s',s'=({s₃ with heap:=h₁}:Shared)->codeAny (model X.prog X.w) X.A (.compLoop (.ListComp elt [⟨tg,iter,ifs,0⟩] scope pos) 0 (.ref it) (.ref D) (zqf X.env scope s₃.heap.objs.size)) (RR (.ref D) s₃.heap.objs.size) s':=by
  intro s' es
  refine zg0 (fun n s'=> ∃ i σ' H',Inv (cxB X scope N s₃ (upd H D (.lst [])) fp) [] σ' H' s'/\tn i s'.heap/\(∀ b∈fp,H' b=none)/\W i n σ' H') ?_ m0 ⟨0,_,_,by rw [es];exact I4,by rw [es];exact T.keep _ _ _ st2 fun b hb o e=>hk₁ b o (push3 b o e),fun b hb=>(f3 b hb).1,w0⟩
  rintro n s5 ⟨i,σ5,H5,I5,st5,fr5,w5⟩
  rcases turn i n σ5 H5 w5 with ⟨stop,qn⟩ | ⟨go,Nn,hN,step⟩
  ·refine thn (T.done (cxB X scope N s₃ (upd H D (.lst [])) fp) rfl rfl rfl i [] s5 σ5 H5 _ I5 (fB fr5) st5 stop) fun r s6 ⟨hr,I6⟩=> ?_
   subst hr
   obtain ⟨m,hnC,_⟩:=I6.loc
   have un:=I6.base
   have u2:Un (frs X.stack) fp H H5 s₂.heap s6.heap:=by
    refine Un.trans ?_ un
    have:=Un.laid (fs:=frs X.stack) (ex:=fp) (H:=H) (h:=s₂.heap) (h':=s₃.heap) (a:=D) (o:= .lst []) push3 (Nat.le_of_eq hD) hfresh
    exact this
   refine hRR D _ H5 s6 m (I2.call' (ch:=fp) (by rw [I6.os, <-hs3]) u2 I6.hok I6.bare fun b hb=> ?_) hnC (by rw [sz3];exact Nat.le_succ _) hnC.lt I6.free qn
   obtain ⟨q0,q1,q2,q3,q4,q5⟩:=f2 b hb
   exact ⟨q3,q1,q4,q5⟩
  ·refine thn (T.item (cxB X scope N s₃ (upd H D (.lst [])) fp) rfl rfl rfl i [] s5 σ5 H5 _ I5 (fB fr5) st5 go) fun r s6 ⟨u,hr,h6⟩=> ?_
   subst hr
   refine thn h6 fun _ s7 ⟨x,H7,I7,r7,y7,st7,fr7⟩=> ?_
   have I7':=I7.pinned (fB fr7) (T.obj _ _ st7)
   refine thn (hg _ _ _ _ s7 σ5 H7 x u _ I7' r7 (step x H7 y7)) fun _ s8 ⟨σ8,H8,I8,q8⟩=> ?_
   refine thn (ht _ _ _ _ s8 σ8 H8 _ I8 q8) fun ok s9 ⟨H9,I9,q9⟩=> ?_
   have again: ∀ {σ7:St} {Hz:Hp} {sz:Shared},Inv (cxB X scope N s₃ (upd H D (.lst [])) fp) ([]++zhi fp s7.heap) σ7 Hz sz->Nn σ7 Hz-> ∃ m,m<n/\ ∃ i σ' H',Inv (cxB X scope N s₃ (upd H D (.lst [])) fp) [] σ' H' sz/\tn i sz.heap/\(∀ b∈fp,H' b=none)/\W i m σ' H':=fun {σz Hz sz} Iz nz=>by
    obtain ⟨m',hm,wz⟩:=hN _ _ nz
    refine ⟨m',hm,i+1,_,_,Iz.unpinned,T.keep _ _ _ st7 fun b hb o e=>(Iz.pin (b,o) (qak _ (qak _ (zc8 hb e)))).1,fun b hb=> ?_,wz⟩
    obtain ⟨o,e,d⟩:=T.obj _ _ st7 b hb
    exact (Iz.pin (b,o) (qak _ (qak _ (zc8 hb e)))).2.1
   cases ok with
   | false=>
    rw [qa5 (by decide)] at q9
    rw [qa5 (by decide)]
    exact again I9 q9
   | true=>
    rw [qa4 rfl] at q9
    rw [qa4 rfl]
    refine thn (he _ _ _ _ s9 σ8 H9 _ I9 q9) fun y s10 ⟨yv,H10,I10,ry,xs,e10,z10,q10⟩=> ?_
    refine thn (zg6 (X:=cxB X scope N s₃ (upd H D (.lst [])) fp) _ s10 σ8 H10 (.ref D) [yv] (.ref D) [y] (fun _ Hf=>Nn σ8 Hf) I10 rfl (.cons ry .nil) ⟨D,xs,yv,rfl,rfl,e10,z10,q10⟩) fun _ s11 ⟨_,H11,I11,_,q11⟩=> ?_
    exact again I11 q11
 exact codeAny_compStart_list (stat4 _ (by rw [<- hs3])) (T.self _ 0 _ _ _ (T.keep _ _ _ st2 fun b hb o e=>hk₁ b o (push3 b o e)) (stat4 _ (by rw [<- hs3])))
noncomputable def zpe (wi:TI) (g:TG) (tc:TT) (te:TE) (src:List (Option Nat)):TE:=fun σ H Q=>wi σ H fun J H1=> ∀ D,H1 D=none->zut J g tc te (bStart src σ) H1 D fun H'=>Q (.ref D) H'
theorem Inv.letGo {pins:List (Addr×Obj)} {σ:St} {H:Hp} {s:Shared} {C:Addr} {m:Str->Option Value} {h':Heap} (I:Inv X pins σ H s) (hn:s.heap.Ns C m) (hn':H C=none) (hC:X.s₀.heap.objs.size<=C) (hL:C≠X.env.locals) (hp: ∀ p∈X.pn++pins,p.1≠C) (hs:Heap.SameBut C s.heap h'):Inv X pins σ H {s with heap:=h'}:=by
 refine I.turned (t':=s.toks) (it:=C) (fun b o hb e=>(hs.2 b hb).trans e) hn' hL (.inr hC) (fun x c e z=> ?_) hp
 obtain ⟨v,o,ho,hd⟩:=I.cell x c e
 obtain ⟨o',es,ep,ho',hd',_⟩:=hn
 rw [z,ho'] at ho
 cases ho
 rw [hd'] at hd
 cases hd
theorem zpj {wi:TI} {g:TG} {tc:TT} {te:TE} (B:BOk X scope N src) (hi:PI X tg iter wi)
  (hg: ∀ s H fp,PG (cxB X scope N s H fp) tg g) (ht: ∀ s H fp,PCs (cxB X scope N s H fp) ifs tc) (he: ∀ s H fp,PE (cxB X scope N s H fp) elt te)
  (hs: ∀ x,foldedSetIterable iter X.env x=pure x:=by intro _;rfl):PE X (.ListComp elt [⟨tg,iter,ifs,0⟩] scope pos) (zpe wi g tc te src):=by
 intro pins s σ H Q I h
 rw [eval_ListComp]
 refine wpAny_comprehension_free (use:=none) rfl hs (zdw fun x hx e=>I.ok.has x.1 (B.free x hx e)) B.kind B.locs ?_
 refine thn (hi pins s σ H _ I h) fun v s1 h1=>thn h1 fun itv s2 h2=> ?_
 obtain ⟨it,fp,tn,J,H2,e,I2,T,st2,f2,hw⟩:=h2
 subst e
 refine zi5 (RR:=fun acc C=>compPost (model X.prog X.w) X.A X.xe none (EP X pins σ Q) acc C) (Q:=fun D H'=>Q (.ref D) H') B hg ht he I2 T st2 f2 hw ?_
 intro D C H' s' m I' hn hC hCs hf q
 refine ⟨m,hn,fun h' hs'=>⟨.ref D,H',I'.letGo hn hf (qaS I2.sz hC) (fun z=> ?_) (fun p hp z=> ?_) hs',rfl,q⟩⟩
 ·exact qaN _ (qaw (z▸I2.lt) hC)
 ·have:=qaQ (I2.pin p hp).1
  rw [z] at this
  exact qaN _ (qaw this hC)
theorem zjF {wi:TI} {g:TG} {tc:TT} {te:TE} {i:Nat} {y:Str} {py spos:Pos} (B:BOk X scope N src) (hi:PI X tg iter wi)
  (hg: ∀ s H fp,PG (cxB X scope N s H fp) tg g) (ht: ∀ s H fp,PCs (cxB X scope N s H fp) ifs tc) (he: ∀ s H fp,PE (cxB X scope N s H fp) elt te)
  (hN:X.N.Nodup) (hy:X.N[i]? = some y) (hx:Loc X.env.scope y) (hsw:swapsWith (.ListComp elt [⟨tg,iter,ifs,0⟩] scope pos) (some (.Name y py)) spos.line X.env=pure true)
  (hf:X.fn y=true\/X.env.scope.names.lookup y=some .local:=by first | exact .inl rfl | exact .inr rfl | assumption)
  (hs: ∀ x,foldedSetIterable iter X.env x=pure x:=by intro _;rfl):PS X (.Assign [.Name y py] (.ListComp elt [⟨tg,iter,ifs,0⟩] scope pos) spos) (ztV (zpe wi g tc te src) (zp8 i)):=by
 intro pins s σ H D0 I h
 rw [exec_Assign_Name_used _ _ _ _ hsw]
 refine qaW (wpAny_standAt (qaW ?_))
 show wpAny _ X.A (do let _<-comprehension (.ListComp elt [⟨tg,iter,ifs,0⟩] scope pos) scope X.env _ (newList []) false (eval iter X.env) (some (assign (.Name y py) X.env))) _ _ s
 refine qaW (qaZ (wpAny_comprehension_free (use:=some (assign (.Name y py) X.env)) (Q:=fun _ s'=>SP X pins D0 .next s') rfl hs (zdw fun x hx e=>I.ok.has x.1 (B.free x hx e)) B.kind B.locs ?_)
   (fun _ s' hq=>qaX (qaX hq)) fun _ _ e=>e)
 refine thn (hi pins s σ H _ I h) fun v s1 h1=>thn h1 fun itv s2 h2=> ?_
 obtain ⟨it,fp,tn,J,H2,e,I2,T,st2,f2,hw⟩:=h2
 subst e
 refine zi5 (RR:=fun acc C=>compPost (model X.prog X.w) X.A X.xe (some (assign (.Name y py) X.env)) (fun _ s'=>SP X pins D0 .next s') acc C) (Q:=fun D H'=>D0.nx (σ.set i (some (.ref D))) H') B hg ht he I2 T st2 f2 hw ?_
 intro D C H' s' m I' hn hC hCs hf' q
 show wpAny _ X.A (assign (.Name y py) X.env (.ref D)) _ _ _
 have hCL:C≠X.env.locals:=fun z=>qaN _ (qaw (z▸I2.lt) hC)
 have hCp: ∀ p∈X.pn++pins,p.1≠C:=fun p hp z=>by
  have:=qaQ (I2.pin p hp).1
  rw [z] at this
  exact qaN _ (qaw this hC)
 have hCc: ∀ x c,X.env.cells.lookup x=some c->c≠C:=fun x c e z=>by
  obtain ⟨v,hv⟩:=I2.cell x c e
  exact qaN _ (qaw (z▸hv.lt) hC)
 obtain ⟨oC,es,ep,hoC,hdC,hrest⟩:=hn
 have hCfs:C∉X.fs:=I2.nofs hC
 have Ip:Inv X (pins++[(C,oC)]) σ H' s':=I'.pins_of fun p hp=>by
  rcases qaK.mp hp with z | z
  ·exact I'.pin p (qak _ z)
  ·obtain rfl:p=(C,oC):=by simpa using z
   exact ⟨hoC,hf',hCL,hCfs,fun v z=>by have z':=hdC.symm.trans z;cases z'⟩
 refine wpAny_assign_Name (zer Ip hN hy hx (v:= .ref D) rfl (fun s3 I3=> ?_) hf)
 have hC3:=(I3.pin (C,oC) (by simp)).1
 refine ⟨m,⟨oC,es,ep,hC3,hdC,hrest⟩,fun h' hs'=> ?_⟩
 exact ⟨_,H',(I3.unpinned).letGo ⟨oC,es,ep,hC3,hdC,hrest⟩ hf' (qaS I2.sz hC) hCL hCp hs',q⟩
end
end L2
namespace L3
open PySem PySem.Spec PyProof.Rows L2
inductive D where
 | non | bl (b:Bool) | int (i:Int) | str (x:Str) | tup (xs:List D) | lst (xs:List D) | cel (n:Nat) | set (xs:List Int) | dct | fn (a:Addr) | scr (xs:List D) | exn (c:String)
inductive C where
 | lst (xs:List D) | dic (kvs:List (Int×D)) | dead
noncomputable abbrev Hh:=List C
structure Io where
 c:List (Option Addr)
 x:List Addr
def Io.Has (ι:Io) (a:Addr):Prop:=some a∈ι.c\/a∈ι.x
inductive R (α:Type) where
 | ok (a:α) (h:Hh) | exc (c:String) (h:Hh) | bad
noncomputable def M (α:Type):=Hh->R α
@[inline] noncomputable def M.bind {α β:Type} (m:M α) (f:α->M β):M β:=fun h=>match m h with
 | .ok a h'=>f a h'
 | .exc c h'=> .exc c h'
 | .bad=> .bad
@[inline] noncomputable def M.pure {α:Type} (a:α):M α:=fun h=> .ok a h
noncomputable instance:Monad M where
 pure:=M.pure
 bind:=M.bind
noncomputable def M.bad {α:Type}:M α:=fun _=> .bad
def KL (K:W.Frag) (a:Addr) (xs:List V):Prop:=SqL K (fun _=>none) a xs
mutual
noncomputable def Rel (K:W.Frag) (ι:Io) (H:Hp):D->V->Prop
 | .non,v=>v= .non
 | .bl b,v=>v= .bl b
 | .int i,v=>v= .int i
 | .str x,v=>v= .str x
 | .tup ds,v=> ∃ a vs,v= .ref a/\(H a=some (.tup vs)/\ ¬ι.Has a)/\zal K ι H ds vs
 | .lst ds,v=> ∃ a vs,v= .ref a/\(H a=some (.lst vs)/\ ¬ι.Has a)/\zal K ι H ds vs
 | .scr ds,v=> ∃ a vs,v= .ref a/\((Rd H a (.lst vs)/\ ¬ι.Has a)\/KL K a vs)/\zal K ι H ds vs
 | .cel n,v=> ∃ a,v= .ref a/\(ι.c[n]? = some (some a)\/ι.c[n]? = some none)
 | .set xs,v=> ∃ a,v= .ref a/\H a=some (.set (fun k=>xs.any (· == k)) xs.length)/\ ¬ι.Has a
 | .dct,v=> ∃ a,v= .ref a/\H a=some (.dK [])/\ ¬ι.Has a
 | .fn a,v=>v= .ref a
 | .exn c,v=> ∃ a o C head vs,v= .ref a/\(H a=some (.frz o (.own 0))/\ ¬ι.Has a)/\W.nsIn K mainGlobals (c:Str)=some (some (.ref C))/\o.cls= .ref C/\o.dict=none/\o.data= .fields vs/\vs[2]? = some .none/\vs[1]? = some head
noncomputable def zal (K:W.Frag) (ι:Io) (H:Hp):List D->List V->Prop
 | [],vs=>vs=[]
 | d::ds,vs=> ∃ v r,vs=v::r/\Rel K ι H d v/\zal K ι H ds r
end
structure zbO (ι:Io) (H:Hp) (ι':Io) (H':Hp):Prop where
 old: ∀ (n:Nat) (o:Option Addr),ι.c[n]? = some o->ι'.c[n]? = some o\/ι'.c[n]? = some none
 new: ∀ a,some a∈ι'.c->some a∈ι.c\/H a=none
 hid:ι'.x=ι.x
 hidk: ∀ a∈ι.x,H' a=H a
 keep: ∀ b o,H b=some o-> ¬ι.Has b->H' b=some o
theorem zbO.refl (ι:Io) (H:Hp):zbO ι H ι H:=⟨fun _ _ h=> .inl h,fun _ h=> .inl h,rfl,fun _ _=>rfl,fun _ _ h _=>h⟩
theorem zbO.nin {ι ι':Io} {H H':Hp} (s:zbO ι H ι' H') {a:Addr} {o:HO} (h:H a=some o) (n: ¬ι.Has a): ¬ι'.Has a:=fun z=>by
 rcases z with z | z
 ·rcases s.new a z with z | z
  ·exact n (.inl z)
  ·rw [h] at z;cases z
 ·rw [s.hid] at z;exact n (.inr z)
theorem zbO.trans {ι ι1 ι2:Io} {H H1 H2:Hp} (s:zbO ι H ι1 H1) (t:zbO ι1 H1 ι2 H2):zbO ι H ι2 H2 where
 old:=fun n o h=>by
  rcases s.old n o h with h | h
  ·exact t.old n o h
  ·rcases t.old n _ h with h | h<;>exact .inr h
 new:=fun a h=>by
  rcases t.new a h with h | h
  ·exact s.new a h
  ·by_cases z:some a∈ι.c
   ·exact .inl z
   ·refine .inr ?_
    cases q:H a with
    | none=>rfl
    | some o=>
     by_cases z':a∈ι.x
     ·rw [s.hidk a z',q] at h;cases h
     ·rw [s.keep a o q (fun w=>w.elim z z')] at h;cases h
 hid:=t.hid.trans s.hid
 hidk:=fun a h=>(t.hidk a (by rw [s.hid];exact h)).trans (s.hidk a h)
 keep:=fun b o h n=>t.keep b o (s.keep b o h n) (s.nin h n)
theorem zbO.rd {ι ι':Io} {H H':Hp} (s:zbO ι H ι' H') {a:Addr} {u:HO} (h:Rd H a u) (n: ¬ι.Has a):Rd H' a u/\ ¬ι'.Has a:=by
 rcases h with h | ⟨o,h⟩
 ·exact ⟨.inl (s.keep _ _ h n),s.nin h n⟩
 ·exact ⟨.inr ⟨o,s.keep _ _ h n⟩,s.nin h n⟩
structure Pass (ι:Io) (H:Hp) (ι':Io) (H':Hp):Prop where
 old: ∀ (n:Nat) (o:Option Addr),ι.c[n]? = some o->ι'.c[n]? = some o\/ι'.c[n]? = some none
 keep: ∀ b o,H b=some o-> ¬ι.Has b->H' b=some o/\ ¬ι'.Has b
theorem zbO.pass {ι ι':Io} {H H':Hp} (s:zbO ι H ι' H'):Pass ι H ι' H':=⟨s.old,fun b o h n=>⟨s.keep b o h n,s.nin h n⟩⟩
theorem Pass.rd {ι ι':Io} {H H':Hp} (s:Pass ι H ι' H') {a:Addr} {u:HO} (h:Rd H a u) (n: ¬ι.Has a):Rd H' a u/\ ¬ι'.Has a:=by
 rcases h with h | ⟨o,h⟩
 ·exact ⟨.inl (s.keep _ _ h n).1,(s.keep _ _ h n).2⟩
 ·exact ⟨.inr ⟨o,(s.keep _ _ h n).1⟩,(s.keep _ _ h n).2⟩
section
variable {K:W.Frag} {ι ι':Io} {H H':Hp}
mutual
theorem Rel.pass (s:Pass ι H ι' H'): ∀ {d:D} {v:V},Rel K ι H d v->Rel K ι' H' d v
 | .non,_,h=>by simpa [Rel] using h
 | .bl _,_,h=>by simpa [Rel] using h
 | .int _,_,h=>by simpa [Rel] using h
 | .str _,_,h=>by simpa [Rel] using h
 | .tup ds,v,h=>by
  simp only [Rel] at h ⊢
  obtain ⟨a,vs,e,h1,h2⟩:=h
  exact ⟨a,vs,e,s.keep _ _ h1.1 h1.2,zal.pass s h2⟩
 | .lst ds,v,h=>by
  simp only [Rel] at h ⊢
  obtain ⟨a,vs,e,h1,h2⟩:=h
  exact ⟨a,vs,e,s.keep _ _ h1.1 h1.2,zal.pass s h2⟩
 | .scr ds,v,h=>by
  simp only [Rel] at h ⊢
  obtain ⟨a,vs,e,h1,h2⟩:=h
  exact ⟨a,vs,e,h1.imp (fun z=>s.rd z.1 z.2) id,zal.pass s h2⟩
 | .cel n,v,h=>by
  simp only [Rel] at h ⊢
  obtain ⟨a,e,h⟩:=h
  refine ⟨a,e,?_⟩
  rcases h with h | h
  ·exact s.old n _ h
  ·rcases s.old n _ h with h | h<;>exact .inr h
 | .set xs,v,h=>by
  simp only [Rel] at h ⊢
  obtain ⟨a,e,h,n⟩:=h
  exact ⟨a,e,(s.keep _ _ h n).1,(s.keep _ _ h n).2⟩
 | .dct,v,h=>by
  simp only [Rel] at h ⊢
  obtain ⟨a,e,h,n⟩:=h
  exact ⟨a,e,(s.keep _ _ h n).1,(s.keep _ _ h n).2⟩
 | .fn _,_,h=>by simpa [Rel] using h
 | .exn _,_,h=>by
  simp only [Rel] at h ⊢
  obtain ⟨a,o,C,head,vs,e,h1,h2⟩:=h
  exact ⟨a,o,C,head,vs,e,s.keep _ _ h1.1 h1.2,h2⟩
theorem zal.pass (s:Pass ι H ι' H'): ∀ {ds:List D} {vs:List V},zal K ι H ds vs->zal K ι' H' ds vs
 | [],_,h=>by simpa [zal] using h
 | d::ds,_,h=>by
  simp only [zal] at h ⊢
  obtain ⟨v,r,e,h1,h2⟩:=h
  exact ⟨v,r,e,Rel.pass s h1,zal.pass s h2⟩
end
theorem Rel.step (s:zbO ι H ι' H') {d:D} {v:V} (h:Rel K ι H d v):Rel K ι' H' d v:=h.pass s.pass
theorem zal.step (s:zbO ι H ι' H') {ds:List D} {vs:List V} (h:zal K ι H ds vs):zal K ι' H' ds vs:=h.pass s.pass
theorem zal.nil:zal K ι H [] []:=by simp [zal]
theorem zal.cons {d:D} {ds:List D} {v:V} {vs:List V} (h:Rel K ι H d v) (t:zal K ι H ds vs):zal K ι H (d::ds) (v::vs):=by simp only [zal];exact ⟨v,vs,rfl,h,t⟩
theorem zal.length: ∀ {ds:List D} {vs:List V},zal K ι H ds vs->ds.length=vs.length
 | [],_,h=>by simp only [zal] at h;subst h;rfl
 | d::ds,_,h=>by
  simp only [zal] at h
  obtain ⟨v,r,rfl,_,h⟩:=h
  simp [zal.length h]
theorem zal.get: ∀ {ds:List D} {vs:List V} {i:Nat} {d:D},zal K ι H ds vs->ds[i]? = some d-> ∃ v,vs[i]? = some v/\Rel K ι H d v
 | [],_,_,_,_,e=>by simp at e
 | d::ds,_,i,x,h,e=>by
  simp only [zal] at h
  obtain ⟨v,r,rfl,h1,h2⟩:=h
  cases i with
  | zero=>simp at e;subst e;exact ⟨v,rfl,h1⟩
  | succ i=>simp at e;simpa using zal.get h2 e
theorem zal.getV: ∀ {ds:List D} {vs:List V} {i:Nat} {v:V},zal K ι H ds vs->vs[i]? = some v-> ∃ d,ds[i]? = some d/\Rel K ι H d v
 | [],_,_,_,h,e=>by simp only [zal] at h;subst h;simp at e
 | d::ds,_,i,x,h,e=>by
  simp only [zal] at h
  obtain ⟨v,r,rfl,h1,h2⟩:=h
  cases i with
  | zero=>simp at e;subst e;exact ⟨d,rfl,h1⟩
  | succ i=>simp at e;simpa using zal.getV h2 e
theorem zal.append: ∀ {ds es:List D} {vs ws:List V},zal K ι H ds vs->zal K ι H es ws->zal K ι H (ds++es) (vs++ws)
 | [],_,_,_,h,t=>by simp only [zal] at h;subst h;exact t
 | d::ds,es,_,ws,h,t=>by
  simp only [zal] at h
  obtain ⟨v,r,rfl,h1,h2⟩:=h
  exact zal.cons h1 (zal.append h2 t)
theorem zal.take: ∀ {ds:List D} {vs:List V} (n:Nat),zal K ι H ds vs->zal K ι H (ds.take n) (vs.take n)
 | _,_,0,_=>by simpa using zal.nil
 | [],_,n+1,h=>by simp only [zal] at h;subst h;exact zal.nil
 | d::ds,_,n+1,h=>by
  simp only [zal] at h
  obtain ⟨v,r,rfl,h1,h2⟩:=h
  exact zal.cons h1 (zal.take n h2)
theorem zal.drop: ∀ {ds:List D} {vs:List V} (n:Nat),zal K ι H ds vs->zal K ι H (ds.drop n) (vs.drop n)
 | _,_,0,h=>h
 | [],_,n+1,h=>by simp only [zal] at h;subst h;exact zal.nil
 | d::ds,_,n+1,h=>by
  simp only [zal] at h
  obtain ⟨v,r,rfl,h1,h2⟩:=h
  exact zal.drop n h2
theorem zal.reverse {ds:List D} {vs:List V} (h:zal K ι H ds vs):zal K ι H ds.reverse vs.reverse:=by
 induction ds generalizing vs with
 | nil=>simp only [zal] at h;subst h;exact zal.nil
 | cons d ds ih=>
  simp only [zal] at h
  obtain ⟨v,r,rfl,h1,h2⟩:=h
  rw [List.reverse_cons,List.reverse_cons]
  exact zal.append (ih h2) (zal.cons h1 zal.nil)
theorem zal.set {d:D} {v:V} (hd:Rel K ι H d v): ∀ {ds:List D} {vs:List V} (i:Nat),zal K ι H ds vs->zal K ι H (ds.set i d) (vs.set i v)
 | [],_,_,h=>by simp only [zal] at h;subst h;exact zal.nil
 | x::ds,_,i,h=>by
  simp only [zal] at h
  obtain ⟨w,r,rfl,h1,h2⟩:=h
  cases i with
  | zero=>exact zal.cons hd h2
  | succ i=>exact zal.cons h1 (zal.set hd i h2)
theorem zcY: ∀ {is:List Int} {vs:List V},zal K ι H (is.map D.int) vs↔vs=is.map V.int
 | [],vs=>by simp [zal]
 | i::is,vs=>by
  simp only [qaM,zal]
  constructor
  ·rintro ⟨v,r,rfl,h1,h2⟩
   simp only [Rel] at h1
   rw [h1,zcY.mp h2]
  ·rintro rfl
   exact ⟨_,_,rfl,by simp [Rel],zcY.mpr rfl⟩
noncomputable def CO (K:W.Frag) (ι:Io) (H:Hp):C->HO->Prop
 | .lst ds,o=> ∃ vs,o= .lst vs/\zal K ι H ds vs
 | .dic kvs,o=> ∃ vs,o= .dK vs/\Paired (fun (p:Int×D) (q:Key×V)=>q.1= .inl p.1/\Rel K ι H p.2 q.2) kvs vs
 | .dead,_=>False
theorem CO.pass {c:C} {o:HO} (s:Pass ι H ι' H') (h:CO K ι H c o):CO K ι' H' c o:=by
 cases c with
 | lst ds=>obtain ⟨vs,e,r⟩:=h;exact ⟨vs,e,r.pass s⟩
 | dic kvs=>
  obtain ⟨vs,e,r⟩:=h
  refine ⟨vs,e,?_⟩
  clear e
  induction r with
  | nil=>exact .nil
  | cons a t ih=>exact .cons ⟨a.1,a.2.pass s⟩ ih
 | dead=>exact h
structure zaW (K:W.Frag) (ι:Io) (H:Hp) (h:Hh):Prop where
 len:h.length=ι.c.length
 inj: ∀ (m n:Nat) (a:Addr),ι.c[m]? = some (some a)->ι.c[n]? = some (some a)->m=n
 at_: ∀ (n:Nat) (a:Addr) (c:C),ι.c[n]? = some (some a)->h[n]? = some c-> ∃ o,H a=some o/\CO K ι H c o
 dead: ∀ (n:Nat),ι.c[n]? = some none->h[n]? = some .dead
 hidt: ∀ a∈ι.x,(∃ o,H a=some o)/\some a∉ι.c
noncomputable abbrev Sd:=List (Option D)
def zco (K:W.Frag) (ι:Io) (H:Hp) (sd:Sd) (σ:L2.St):Prop:=sd.length=σ.length/\ ∀ (i:Nat) (d:D),sd[i]? = some (some d)-> ∃ v,σ[i]? = some (some v)/\Rel K ι H d v
theorem zco.pass {sd:Sd} {σ:L2.St} (s:Pass ι H ι' H') (h:zco K ι H sd σ):zco K ι' H' sd σ:=⟨h.1,fun i d e=>let ⟨v,h1,h2⟩:=h.2 i d e;⟨v,h1,h2.pass s⟩⟩
theorem zco.step {sd:Sd} {σ:L2.St} (s:zbO ι H ι' H') (h:zco K ι H sd σ):zco K ι' H' sd σ:=⟨h.1,fun i d e=>let ⟨v,h1,h2⟩:=h.2 i d e;⟨v,h1,h2.step s⟩⟩
theorem zco.set {sd:Sd} {σ:L2.St} {d:D} {v:V} (h:zco K ι H sd σ) (r:Rel K ι H d v) (i:Nat):zco K ι H (sd.set i (some d)) (σ.set i (some v)):=by
 refine ⟨by rw [qaI,qaI];exact h.1,fun j d' e=> ?_⟩
 by_cases hij:i=j
 ·subst hij
  by_cases hl:i<sd.length
  ·rw [qai hl] at e
   cases e
   exact ⟨v,by rw [qai (by rw [<- h.1];exact hl)],r⟩
  ·rw [List.getElem?_eq_none (by rw [qaI];omega)] at e
   cases e
 ·rw [qao hij] at e ⊢
  exact h.2 j d' e
theorem zco.skip {sd:Sd} {σ:L2.St} {o:Option V} (h:zco K ι H sd σ) (i:Nat) (hn:sd[i]? = some none):zco K ι H sd (σ.set i o):=by
 refine ⟨by rw [qaI];exact h.1,fun j d' e=> ?_⟩
 by_cases hij:i=j
 ·subst hij;rw [hn] at e;cases e
 ·rw [qao hij];exact h.2 j d' e
end
noncomputable abbrev St:=L2.St
noncomputable abbrev XE:=String->Hp->Prop
def Fin {α:Type} (K:W.Frag) (E:XE) (ι:Io) (H:Hp) (r:R α) (P:α->Io->Hp->Prop):Prop:=match r with
 | .ok a h'=> ∀ ι' H',zbO ι H ι' H'->zaW K ι' H' h'->P a ι' H'
 | .exc c h'=> ∀ ι' H',zbO ι H ι' H'->zaW K ι' H' h'->E c H'
 | .bad=>False
section
variable {α β:Type} {K:W.Frag} {E:XE} {ι ι':Io} {H H':Hp}
theorem Fin.step {r:R α} {P:α->Io->Hp->Prop} (s:zbO ι H ι' H') (h:Fin K E ι H r P):Fin K E ι' H' r P:=by
 cases r with
 | ok a h'=>exact fun ι2 H2 t hr=>h ι2 H2 (s.trans t) hr
 | exc c h'=>exact fun ι2 H2 t hr=>h ι2 H2 (s.trans t) hr
 | bad=>exact h
theorem Fin.mono {r:R α} {P P':α->Io->Hp->Prop} (h:Fin K E ι H r P) (m: ∀ a ι' H',P a ι' H'->P' a ι' H'):Fin K E ι H r P':=by
 cases r with
 | ok a h'=>exact fun ι2 H2 t hr=>m _ _ _ (h ι2 H2 t hr)
 | exc c h'=>exact h
 | bad=>exact h
theorem Fin.bind {m:M α} {f:α->M β} {h:Hh} {P:β->Io->Hp->Prop} {P':α->Io->Hp->Prop} (q:Fin K E ι H ((m>>=f) h) P)
  (k: ∀ a h' ι' H',m h= .ok a h'->zbO ι H ι' H'->zaW K ι' H' h'->Fin K E ι' H' (f a h') P->P' a ι' H'):Fin K E ι H (m h) P':=by
 have q':Fin K E ι H (M.bind m f h) P:=q
 unfold M.bind at q'
 cases e:m h with
 | ok a h'=>
  rw [e] at q'
  intro ι' H' s hr
  exact k a h' ι' H' e s hr (Fin.step s q')
 | exc c h'=>rw [e] at q';exact q'
 | bad=>rw [e] at q';exact q'
theorem Fin.out {a:α} {h:Hh} {P:α->Io->Hp->Prop} (hr:zaW K ι H h) (q:Fin K E ι H ((pure a:M α) h) P):P a ι H:=q ι H (zbO.refl _ _) hr
end
noncomputable def zhN (K:W.Frag) (E:XE) (f:Sd->M D):TE:=fun σ H Q=> ∃ ι h sd,zco K ι H sd σ/\zaW K ι H h/\Fin K E ι H (f sd h) fun d ι' H'=> ∀ v,Rel K ι' H' d v->Q v H'
noncomputable def zjM (K:W.Frag) (E:XE) (f:Sd->M Bool):TT:=fun σ H Q=> ∃ ι h sd,zco K ι H sd σ/\zaW K ι H h/\Fin K E ι H (f sd h) fun b ι' H'=>Q b H'
noncomputable def zvr (K:W.Frag) (E:XE) (f:Sd->M (List D)):TA:=fun σ H Q=> ∃ ι h sd,zco K ι H sd σ/\zaW K ι H h/\Fin K E ι H (f sd h) fun ds ι' H'=> ∀ vs,zal K ι' H' ds vs->Q vs H'
noncomputable abbrev SE (X:Cx) (E:XE) (e:Expr) (f:Sd->M D):Prop:=PE X e (zhN X.K E f)
noncomputable abbrev ST (X:Cx) (E:XE) (e:Expr) (f:Sd->M Bool):Prop:=PT X e (zjM X.K E f)
noncomputable abbrev SA (X:Cx) (E:XE) (es:List Expr) (f:Sd->M (List D)):Prop:=PA X es (zvr X.K E f)
noncomputable def zda (K:W.Frag) (E:XE) (F:D->D->M D):R2:=fun x y H Q=> ∃ ι h d1 d2,Rel K ι H d1 x/\Rel K ι H d2 y/\zaW K ι H h/\Fin K E ι H (F d1 d2 h) fun d ι' H'=> ∀ v,Rel K ι' H' d v->Q v H'
noncomputable def zgH (K:W.Frag) (E:XE) (F:List D->M D):List V->Hp->VK->Prop:=fun xs H Q=> ∃ ι h ds,zal K ι H ds xs/\zaW K ι H h/\Fin K E ι H (F ds h) fun d ι' H'=> ∀ v,Rel K ι' H' d v->Q v H'
theorem PE.imp {X:Cx} {e:Expr} {t t':TE} (h:PE X e t) (m: ∀ σ H Q,t' σ H Q->t σ H Q):PE X e t':=fun pins s σ H Q I q=>h pins s σ H Q I (m _ _ _ q)
theorem PT.imp {X:Cx} {e:Expr} {t t':TT} (h:PT X e t) (m: ∀ σ H Q,t' σ H Q->t σ H Q):PT X e t':=fun pins s σ H Q I q=>h pins s σ H Q I (m _ _ _ q)
theorem PA.imp {X:Cx} {e:List Expr} {t t':TA} (h:PA X e t) (m: ∀ σ H Q,t' σ H Q->t σ H Q):PA X e t':=fun pos pins s σ H Q I q=>h pos pins s σ H Q I (m _ _ _ q)
theorem OpR.imp {X:Cx} {f:Value->Value->Sem Value} {r r':R2} (h:OpR X f r) (m: ∀ x y H Q,r' x y H Q->r x y H Q):OpR X f r':=fun pins s σ H x y v u Q I rx ry q=>h pins s σ H x y v u Q I rx ry (m _ _ _ _ q)
theorem zay.imp {X:Cx} {f:Value} {r r':List V->Hp->VK->Prop} (h:zay X f r) (m: ∀ xs H Q,r' xs H Q->r xs H Q):zay X f r':=by
 intro pins s σ H xs us Q I rx q
 exact h pins s σ H xs us Q I rx (m _ _ _ q)
theorem IxR.imp {X:Cx} {r r':R2} (h:IxR X r) (m: ∀ x y H Q,r' x y H Q->r x y H Q):IxR X r':=by
 intro value slice pins s σ H x y v u Q I rx ry q hs
 exact h value slice pins s σ H x y v u Q I rx ry (m _ _ _ _ q) hs
theorem MtM.imp {X:Cx} {id:String} {r r':V->List V->Hp->VK->Prop} (h:MtM X id r) (m: ∀ x xs H Q,r' x xs H Q->r x xs H Q):MtM X id r':=fun pins s σ H x xs v us Q I rx rs q=>h pins s σ H x xs v us Q I rx rs (m _ _ _ _ q)
theorem SlR.imp {X:Cx} {r r':V->Option Int->Option Int->Hp->VK->Prop} (h:SlR X r) (m: ∀ x l u H Q,r' x l u H Q->r x l u H Q):SlR X r':=fun pins s σ H x v vl vu lo hi sl Q I rx hs pl pu q=>h pins s σ H x v vl vu lo hi sl Q I rx hs pl pu (m _ _ _ _ _ q)
theorem zqx.imp {X:Cx} {r r':zrg} (h:zqx X r) (m: ∀ o i v H Q,r' o i v H Q->r o i v H Q):zqx X r':=fun pins s σ H o i v ov iv u Q I ro ri rv q=>h pins s σ H o i v ov iv u Q I ro ri rv (m _ _ _ _ _ q)
theorem PI.imp {X:Cx} {tg iter:Expr} {t t':TI} (h:PI X tg iter t) (m: ∀ σ H Q,t' σ H Q->t σ H Q):PI X tg iter t':=fun pins s σ H Q I q=>h pins s σ H Q I (m _ _ _ q)
theorem PG.imp {X:Cx} {tg:Expr} {t t':TG} (h:PG X tg t) (m: ∀ v σ H Q,t' v σ H Q->t v σ H Q):PG X tg t':=fun pins s σ H v u Q I r q=>h pins s σ H v u Q I r (m _ _ _ _ q)
theorem PS.imp {X:Cx} {st:Stmt} {t t':TS} (h:PS X st t) (m: ∀ D σ H,t' D σ H->t D σ H):PS X st t':=fun pins s σ H D I q=>h pins s σ H D I (m _ _ _ q)
theorem PSs.imp {X:Cx} {st:List Stmt} {t t':TS} (h:PSs X st t) (m: ∀ D σ H,t' D σ H->t D σ H):PSs X st t':=fun pins s σ H D I q=>h pins s σ H D I (m _ _ _ q)
section
variable {X:Cx} {E:XE} {a b e:Expr} {es:List Expr} {pos:Pos} {fa fb:Sd->M D}
theorem te2 {K:W.Frag} {F:D->D->M D} {r:R2} (hr: ∀ x y H Q,zda K E F x y H Q->r x y H Q) (σ:St) (H:Hp) (Q:VK) (q:zhN K E (fun sd=>do let x<-fa sd;let y<-fb sd;F x y) σ H Q):tOp r (zhN K E fa) (zhN K E fb) σ H Q:=by
 obtain ⟨ι,h,sd,L,hh,q⟩:=q
 refine ⟨ι,h,sd,L,hh,Fin.bind q fun d1 h1 ι1 H1 e1 s1 hr1 q1 v r1=> ?_⟩
 refine ⟨ι1,h1,sd,L.step s1,hr1,Fin.bind q1 fun d2 h2 ι2 H2 e2 s2 hr2 q2 w r2=> ?_⟩
 exact hr _ _ _ _ ⟨ι2,h2,d1,d2,r1.step s2,r2,hr2,q2⟩
theorem zty {op:Operator} {F:D->D->M D} (ho:OpR X (binaryOp op) (zda X.K E F)) (ha:SE X E a fa) (hb:SE X E b fb):SE X E (.BinOp a op b pos) (fun sd=>do let x<-fa sd;let y<-fb sd;F x y):=
 PE.imp (zua ho ha hb) (te2 fun _ _ _ _ q=>q)
theorem zqW {op:CmpOp} {F:D->D->M D} (ho:OpR X (compareOp op) (zda X.K E F)) (ha:SE X E a fa) (hb:SE X E b fb) (hm:behindInMarks op b=false):SE X E (.Compare a [op] [b] pos) (fun sd=>do let x<-fa sd;let y<-fb sd;F x y):=
 PE.imp (zpq ho ha hb hm) (te2 fun _ _ _ _ q=>q)
theorem zuj {F:D->D->M D} (ho:IxR X (zda X.K E F)) (ha:SE X E a fa) (hb:SE X E b fb) (hs:zfX b):SE X E (.Subscript a b pos) (fun sd=>do let x<-fa sd;let y<-fb sd;F x y):=
 PE.imp (zrl ho ha hb hs) (te2 fun _ _ _ _ q=>q)
noncomputable def zcX:D->M Bool
 | .bl b=>pure b
 | _=>M.bad
theorem zgt {K:W.Frag} {f:Sd->M D} (σ:St) (H:Hp) (Q:Bool->Hp->Prop) (q:zjM K E (fun sd=>do let x<-f sd;zcX x) σ H Q):(zhN K E f) σ H fun x H1=> ∃ c,x= .bl c/\Q c H1:=by
 obtain ⟨ι,h,sd,L,hh,q⟩:=q
 refine ⟨ι,h,sd,L,hh,Fin.bind q fun d1 h1 ι1 H1 e1 s1 hr1 q2 v r1=> ?_⟩
 cases d1 with
 | bl b=>simp only [Rel] at r1;exact ⟨b,r1,Fin.out hr1 q2⟩
 | _=>exact qa0 q2
theorem zsf {op:CmpOp} {F:D->D->M D} (ho:OpR X (compareOp op) (zda X.K E F)) (ha:SE X E a fa) (hb:SE X E b fb) (hm:behindInMarks op b=false):
  ST X E (.Compare a [op] [b] pos) (fun sd=>do let z<-(do let x<-fa sd;let y<-fb sd;F x y);zcX z):=by
 refine PT.imp (zpm ho ha hb hm) fun σ H Q q=> ?_
 have q1:=zgt (f:=fun sd=>do let x<-fa sd;let y<-fb sd;F x y) σ H Q q
 exact te2 (fun _ _ _ _ q=>q) σ H _ q1
theorem zrs {f:Sd->M D} (h:SE X E e f) (he: ∀ whole,isTrue e X.env whole=(do let v<-whole;standAt e.pos;holding [v] (truthy v)):=by intro _;rfl):ST X E e (fun sd=>do let x<-f sd;zcX x):=
 PT.imp (zrR h he) fun σ H Q q=>zgt σ H Q q
theorem zsu {t:Sd->M Bool} (ha:ST X E a t):ST X E (.UnaryOp .Not a pos) (fun sd=>do let c<-t sd;pure (!c)):=by
 refine PT.imp (zq5 ha) fun σ H Q ⟨ι,h,sd,L,hh,q⟩=>⟨ι,h,sd,L,hh,Fin.bind q fun c h1 ι1 H1 e1 s1 hr1 q1=> ?_⟩
 exact Fin.out hr1 q1
theorem zs1 {t:Sd->M Bool} (ha:ST X E a t):PW X (.BoolOp .Or [a] pos) (zjM X.K E t):=pw_or1 ha
theorem PW.imp {t t':TT} (h:PW X e t) (m: ∀ σ H Q,t' σ H Q->t σ H Q):PW X e t':=fun whole pins s σ H Q I q=>h whole pins s σ H Q I (m _ _ _ q)
theorem ztx {rest:List Expr} {t u:Sd->M Bool} (ha:ST X E a t) (hb:PW X (.BoolOp .Or (b::rest) pos) (zjM X.K E u)):PW X (.BoolOp .Or (a::b::rest) pos) (zjM X.K E fun sd=>do let c<-t sd;if c=true then pure true else u sd):=by
 refine PW.imp (pw_or ha hb) fun σ H Q ⟨ι,h,sd,L,hh,q⟩=>⟨ι,h,sd,L,hh,Fin.bind q fun c h1 ι1 H1 e1 s1 hr1 q1=> ?_⟩
 cases c with
 | false=>exact zqR ⟨ι1,h1,sd,L.step s1,hr1,q1⟩
 | true=>exact zqS (Fin.out hr1 q1)
theorem zqA {op:BoolOp} {vs:List Expr} {t:Sd->M Bool} (h:PW X (.BoolOp op vs pos) (zjM X.K E t)):ST X E (.BoolOp op vs pos) t:=h.pt
theorem zsR {op:BoolOp} (h:SE X E a fa):SE X E (.BoolOp op [a] pos) fa:=zrC h
theorem zrX {rest:List Expr} (ha:SE X E a fa) (hb:SE X E (.BoolOp .And (b::rest) pos) fb):SE X E (.BoolOp .And (a::b::rest) pos) (fun sd=>do let c<-(do let x<-fa sd;zcX x);if c=true then fb sd else pure (.bl false)):=by
 refine PE.imp (zrF ha hb) fun σ H Q ⟨ι,h,sd,L,hh,q⟩=> ?_
 have q1:=zgt (K:=X.K) (E:=E) (f:=fa) σ H (fun c H1=>if c=true then zhN X.K E fb σ H1 Q else Q (.bl false) H1) ⟨ι,h,sd,L,hh,Fin.bind q fun c h1 ι1 H1 e1 s1 hr1 q1=> ?_⟩
 ·exact q1
 ·cases c with
  | true=>exact zqS ⟨ι1,h1,sd,L.step s1,hr1,q1⟩
  | false=>exact zqR (Fin.out hr1 q1 _ (by simp [Rel]))
theorem zrt (ha:SE X E a fa):SE X E (.UnaryOp .Not a pos) (fun sd=>do let c<-(do let x<-fa sd;zcX x);pure (.bl (!c))):=by
 refine PE.imp (zrW ha) fun σ H Q ⟨ι,h,sd,L,hh,q⟩=> ?_
 have q1:=zgt (K:=X.K) (E:=E) (f:=fa) σ H (fun c H1=>Q (.bl (!c)) H1) ⟨ι,h,sd,L,hh,Fin.bind q fun c h1 ι1 H1 e1 s1 hr1 q1=> ?_⟩
 ·exact q1
 ·exact Fin.out hr1 q1 _ (by simp [Rel])
theorem znY {c:Expr} {t:Sd->M Bool} (hc:ST X E c t) (ha:SE X E a fa) (hb:SE X E b fb):SE X E (.IfExp c a b pos) (fun sd=>do let c<-t sd;if c=true then fa sd else fb sd):=by
 refine PE.imp (znG hc ha hb) fun σ H Q ⟨ι,h,sd,L,hh,q⟩=>⟨ι,h,sd,L,hh,Fin.bind q fun c h1 ι1 H1 e1 s1 hr1 q1=> ?_⟩
 cases c with
 | true=>exact zqS ⟨ι1,h1,sd,L.step s1,hr1,q1⟩
 | false=>exact zqR ⟨ι1,h1,sd,L.step s1,hr1,q1⟩
noncomputable def zaf (i:Nat):Sd->M D:=fun sd=>match sd[i]? with
 | some (some d)=>pure d
 | _=>M.bad
theorem zq7 (i:Nat) {x:Str} (hN:X.N[i]? = some x) (hv:Vis X.env.scope x) (hd:(x==("__debug__":Str))=false:=by decide) (hcd:(x==("__classdict__":Str))=false:=by decide):SE X E (.Name x pos) (zaf i):=by
 refine PE.imp (zoG hN hv hd hcd) fun σ H Q ⟨ι,h,sd,L,hh,q⟩=> ?_
 unfold zaf at q
 cases e:sd[i]? with
 | none=>rw [e] at q;exact qa0 q
 | some o=>
  rw [e] at q
  cases o with
  | none=>exact qa0 q
  | some d=>
   obtain ⟨v,e1,r⟩:=L.2 i d e
   exact ⟨v,e1,Fin.out hh q v r⟩
theorem zex {K:W.Frag} {d:D} {v:V} (r: ∀ ι H,Rel K ι H d v) (σ:St) (H:Hp) (Q:VK) (q:zhN K E (fun _=>pure d) σ H Q):tC v σ H Q:=by
 obtain ⟨ι,h,sd,L,hh,q⟩:=q
 exact Fin.out hh q v (r _ _)
theorem zsS {i:Int} {j:Nat}:SE X E (.Constant (.int i) j pos) (fun _=>pure (.int i)):=PE.imp zol (zex fun _ _=>by simp [Rel])
theorem ztW {i:Bool} {j:Nat}:SE X E (.Constant (.bool i) j pos) (fun _=>pure (.bl i)):=PE.imp ztc (zex fun _ _=>by simp [Rel])
theorem zsy {j:Nat}:SE X E (.Constant .none j pos) (fun _=>pure .non):=PE.imp zrm (zex fun _ _=>by simp [Rel])
theorem zse {i:Str} {j:Nat}:SE X E (.Constant (.str i) j pos) (fun _=>pure (.str i)):=PE.imp zog (zex fun _ _=>by simp [Rel])
theorem zr3:SA X E [] (fun _=>pure []):=PA.imp zcn fun σ H Q ⟨ι,h,sd,L,hh,q⟩=>Fin.out hh q [] zal.nil
theorem zpw {fs:Sd->M (List D)} (ha:SE X E e fa) (hr:SA X E es fs) (hs:starEach (e::es) X.env=(false,eval e X.env)::starEach es X.env:=by rfl):SA X E (e::es) (fun sd=>do let x<-fa sd;let r<-fs sd;pure (x::r)):=by
 refine PA.imp (zba ha hr hs) fun σ H Q ⟨ι,h,sd,L,hh,q⟩=>⟨ι,h,sd,L,hh,Fin.bind q fun d h1 ι1 H1 e1 s1 hr1 q1 v rv=> ?_⟩
 refine ⟨ι1,h1,sd,L.step s1,hr1,Fin.bind q1 fun ds h2 ι2 H2 e2 s2 hr2 q2 vs rvs=> ?_⟩
 exact Fin.out hr2 q2 _ (zal.cons (rv.step s2) rvs)
end
theorem zaW.nin {K:W.Frag} {ι:Io} {H:Hp} {h:Hh} (hr:zaW K ι H h) {p:Addr} (hp:H p=none): ¬ι.Has p:=fun z=>by
 rcases z with z | z
 ·obtain ⟨n,hn⟩:=List.mem_iff_getElem?.mp z
  have hl:n<h.length:=by rw [hr.len];exact (qac.mp hn).1
  obtain ⟨o,e,_⟩:=hr.at_ n p h[n] hn (by simp [hl])
  rw [hp] at e
  cases e
 ·obtain ⟨⟨o,e⟩,_⟩:=hr.hidt p z
  rw [hp] at e
  cases e
theorem zaW.laidS {K:W.Frag} {ι:Io} {H:Hp} {h:Hh} (hr:zaW K ι H h) {p:Addr} {o:HO} (hp:H p=none):zbO ι H ι (upd H p o):=
 ⟨fun _ _ h=> .inl h,fun _ h=> .inl h,rfl,fun a ha=>zat fun z=>hr.nin hp (.inr (z▸ha)),fun b o' h _=>by rw [zat (zaE h hp)];exact h⟩
theorem zaW.laid {K:W.Frag} {ι:Io} {H:Hp} {h:Hh} {p:Addr} {o:HO} (hr:zaW K ι H h) (hp:H p=none):zaW K ι (upd H p o) h:=
 ⟨hr.len,hr.inj,fun n a c hn hc=>by
   obtain ⟨o',e2,e3⟩:=hr.at_ n a c hn hc
   exact ⟨o',by rw [zat (zaE e2 hp)];exact e2,e3.pass (hr.laidS hp).pass⟩,hr.dead,fun a ha=>⟨by rw [zat (show a≠p from fun z=>hr.nin hp (.inr (z▸ha)))];exact (hr.hidt a ha).1,(hr.hidt a ha).2⟩⟩
noncomputable def fits (n:Nat):M Unit:=if n<=sizeLine then pure () else M.bad
theorem Fin.fits {α:Type} {K:W.Frag} {E:XE} {ι:Io} {H:Hp} {n:Nat} {f:M α} {h:Hh} {P:α->Io->Hp->Prop} (q:Fin K E ι H ((do L3.fits n;f) h) P):n<=sizeLine/\Fin K E ι H (f h) P:=by
 have q':Fin K E ι H (M.bind (L3.fits n) (fun _=>f) h) P:=q
 unfold M.bind L3.fits at q'
 by_cases hn:n<=sizeLine
 ·rw [qa4 hn] at q'
  exact ⟨hn,q'⟩
 ·rw [qa5 hn] at q'
  exact qa0 q'
section
variable {X:Cx} {E:XE} {es:List Expr} {pos:Pos} {fs:Sd->M (List D)}
theorem zon {K:W.Frag} {ι:Io} {H:Hp} {h:Hh} {ds:List D} {vs:List V} {Q:VK} (hr:zaW K ι H h) (rl:zal K ι H ds vs) (q:Fin K E ι H ((pure (.tup ds):M D) h) fun d ι' H'=> ∀ v,Rel K ι' H' d v->Q v H') {p:Addr} (hp:H p=none):Q (.ref p) (upd H p (.tup vs)):=
 q ι _ (hr.laidS hp) (hr.laid hp) _ (by
   simp only [Rel]
   exact ⟨p,vs,rfl,⟨zaC,hr.nin hp⟩,rl.step (hr.laidS hp)⟩)
theorem zqc {K:W.Frag} {ι:Io} {H:Hp} {h:Hh} {ds:List D} {vs:List V} {Q:VK} (hr:zaW K ι H h) (rl:zal K ι H ds vs) (q:Fin K E ι H ((pure (.lst ds):M D) h) fun d ι' H'=> ∀ v,Rel K ι' H' d v->Q v H') {p:Addr} (hp:H p=none):Q (.ref p) (upd H p (.lst vs)):=
 q ι _ (hr.laidS hp) (hr.laid hp) _ (by
   simp only [Rel]
   exact ⟨p,vs,rfl,⟨zaC,hr.nin hp⟩,rl.step (hr.laidS hp)⟩)
noncomputable def zd9 (ds:List D):M D:=fun h=> .ok (.cel h.length) (h++[.lst ds])
theorem zsI {K:W.Frag} {ι:Io} {H:Hp} {h:Hh} {c0:C} {o0:HO} {Q:VK} (hr:zaW K ι H h) (co:CO K ι H c0 o0) (q:Fin K E ι H (.ok (.cel h.length) (h++[c0])) fun d ι' H'=> ∀ v,Rel K ι' H' d v->Q v H') {p:Addr} (hp:H p=none):Q (.ref p) (upd H p o0):=by
 have hlen:=hr.len
 have nh:=hr.nin hp
 have st:zbO ι H ⟨ι.c++[some p],ι.x⟩ (upd H p o0):=by
  refine ⟨fun n o h=> .inl ?_,fun a h=> ?_,rfl,fun a ha=>zat fun z=>nh (.inr (z▸ha)),fun b o' h _=>by rw [zat (zaE h hp)];exact h⟩
  ·show (ι.c++[some p])[n]? = _
   rw [qad (qac.mp h).1];exact h
  ·rcases qaK.mp h with h | h
   ·exact .inl h
   ·simp at h;subst h;exact .inr hp
 have at_: ∀ (n:Nat) (a:Addr),(ι.c++[some p])[n]? = some (some a)->(ι.c[n]? = some (some a))\/(n=ι.c.length/\a=p):=fun n a h=>by
  by_cases hl:n<ι.c.length
  ·rw [qad hl] at h;exact .inl h
  ·rw [qaa (by omega)] at h
   have:n - ι.c.length=0:=by
    cases z:n - ι.c.length with
    | zero=>rfl
    | succ k=>rw [z] at h;simp at h
   rw [this] at h
   simp at h
   exact .inr ⟨by omega,h.symm⟩
 refine q _ _ st ⟨?_,fun m n a h1 h2=> ?_,fun n a c h1 h2=> ?_,fun n h1=> ?_,fun a ha=>⟨?_,fun z=> ?_⟩⟩ _ ?_
 ·show (h++[c0]).length=(ι.c++[some p]).length
  rw [qav,qav,hlen];rfl
 ·rcases at_ m a h1 with z1 | ⟨z1,z1'⟩<;>rcases at_ n a h2 with z2 | ⟨z2,z2'⟩
  ·exact hr.inj m n a z1 z2
  ·subst z2';exact absurd (.inl (List.mem_of_getElem? z1)) nh
  ·subst z1';exact absurd (.inl (List.mem_of_getElem? z2)) nh
  ·rw [z1,z2]
 ·rcases at_ n a h1 with z1 | ⟨z1,z1'⟩
  ·rw [qad (by rw [hlen];exact (qac.mp z1).1)] at h2
   obtain ⟨o',e2,e3⟩:=hr.at_ n a c z1 h2
   exact ⟨o',by rw [zat (zaE e2 hp)];exact e2,e3.pass st.pass⟩
  ·subst z1 z1'
   rw [<- hlen,qaa (qaV _)] at h2
   simp at h2
   subst h2
   exact ⟨o0,zaC,co.pass st.pass⟩
 ·have h1:(ι.c++[some p])[n]? = some none:=h1
  by_cases hl:n<ι.c.length
  ·rw [qad hl] at h1
   rw [qad (by rw [hlen];exact hl)]
   exact hr.dead n h1
  ·rw [qaa (by omega)] at h1
   cases z:n - ι.c.length with
   | zero=>rw [z] at h1;simp at h1
   | succ k=>rw [z] at h1;simp at h1
 ·rw [zat (show a≠p from fun z=>nh (.inr (z▸ha)))]
  exact (hr.hidt a ha).1
 ·rcases qaK.mp z with z | z
  ·exact (hr.hidt a ha).2 z
  ·simp at z;subst z;exact nh (.inr ha)
 ·simp only [Rel]
  refine ⟨p,rfl,.inl ?_⟩
  show (ι.c++[some p])[h.length]? = _
  rw [hlen,qaa (qaV _)]
  simp
theorem zvu {K:W.Frag} {ι:Io} {H:Hp} {h:Hh} {ds:List D} {vs:List V} {Q:VK} (hr:zaW K ι H h) (rl:zal K ι H ds vs) (q:Fin K E ι H (zd9 ds h) fun d ι' H'=> ∀ v,Rel K ι' H' d v->Q v H') {p:Addr} (hp:H p=none):Q (.ref p) (upd H p (.lst vs)):=
 zsI hr (c0:= .lst ds) ⟨vs,rfl,rl⟩ q hp
theorem zrY {x1} (h:SA X E es fs):SE X E (.Tuple es x1 pos) (fun sd=>do let ds<-fs sd;fits ds.length;pure (.tup ds)):=by
 refine PE.imp (zsn h) fun σ H Q ⟨ι,h,sd,L,hh,q⟩=>⟨ι,h,sd,L,hh,Fin.bind q fun ds h1 ι1 H1 e1 s1 hr1 q1 vs rvs=> ?_⟩
 obtain ⟨z,q2⟩:=Fin.fits q1
 exact ⟨by rw [<- rvs.length];exact z,fun p hp=>zon hr1 rvs q2 hp⟩
theorem zq8 (h:SA X E es fs):SE X E (.List es pos) (fun sd=>do let ds<-fs sd;fits ds.length;pure (.lst ds)):=by
 refine PE.imp (zmi h) fun σ H Q ⟨ι,h,sd,L,hh,q⟩=>⟨ι,h,sd,L,hh,Fin.bind q fun ds h1 ι1 H1 e1 s1 hr1 q1 vs rvs=> ?_⟩
 obtain ⟨z,q2⟩:=Fin.fits q1
 exact ⟨by rw [<- rvs.length];exact z,fun p hp=>zqc hr1 rvs q2 hp⟩
theorem zpV (h:SA X E es fs):SE X E (.List es pos) (fun sd=>do let ds<-fs sd;fits ds.length;zd9 ds):=by
 refine PE.imp (zmi h) fun σ H Q ⟨ι,h,sd,L,hh,q⟩=>⟨ι,h,sd,L,hh,Fin.bind q fun ds h1 ι1 H1 e1 s1 hr1 q1 vs rvs=> ?_⟩
 obtain ⟨z,q2⟩:=Fin.fits q1
 exact ⟨by rw [<- rvs.length];exact z,fun p hp=>zvu hr1 rvs q2 hp⟩
end
inductive Out where
 | nx (sd:Sd) | rt (d:D) | bk (sd:Sd) | ct (sd:Sd)
noncomputable def zjK (K:W.Frag) (D0:zoX):Out->Io->Hp->Prop
 | .nx sd',ι',H'=> ∀ σ',zco K ι' H' sd' σ'->D0.nx σ' H'
 | .rt d,ι',H'=> ∀ v,Rel K ι' H' d v->D0.rt v H'
 | .bk sd',ι',H'=> ∀ σ',zco K ι' H' sd' σ'->D0.bk σ' H'
 | .ct sd',ι',H'=> ∀ σ',zco K ι' H' sd' σ'->D0.ct σ' H'
noncomputable def zva (K:W.Frag) (E:XE) (G:Sd->M Out):TS:=fun D0 σ H=> ∃ ι h sd,zco K ι H sd σ/\zaW K ι H h/\Fin K E ι H (G sd h) (zjK K D0)
noncomputable abbrev SS (X:Cx) (E:XE) (st:Stmt) (G:Sd->M Out):Prop:=PS X st (zva X.K E G)
noncomputable abbrev SSs (X:Cx) (E:XE) (st:List Stmt) (G:Sd->M Out):Prop:=PSs X st (zva X.K E G)
noncomputable def andThen (o:Out) (g:Sd->M Out):M Out:=match o with
 | .nx sd=>g sd
 | o=>pure o
section
variable {X:Cx} {E:XE} {pos:Pos}
theorem zsq:SSs X E [] (fun sd=>pure (.nx sd)):=PSs.imp zqn fun D0 σ H ⟨ι,h,sd,L,hh,q⟩=>Fin.out hh q σ L
theorem zqp {st:Stmt} {rest:List Stmt} {g g':Sd->M Out} (h1:SS X E st g) (h2:SSs X E rest g'):SSs X E (st::rest) (fun sd=>do let o<-g sd;andThen o g'):=by
 refine PSs.imp (znV h1 h2) fun D0 σ H ⟨ι,h,sd,L,hh,q⟩=>⟨ι,h,sd,L,hh,Fin.bind q fun o h1 ι1 H1 e1 s1 hr1 q1=> ?_⟩
 cases o with
 | nx sd'=>exact fun σ' L'=>⟨ι1,h1,sd',L',hr1,q1⟩
 | rt d=>exact Fin.out (E:=E) (P:=zjK X.K D0) hr1 q1
 | bk sd'=>exact Fin.out (E:=E) (P:=zjK X.K D0) hr1 q1
 | ct sd'=>exact Fin.out (E:=E) (P:=zjK X.K D0) hr1 q1
theorem zq4 {st:Stmt} {g:Sd->M Out} (h1:SS X E st g):SSs X E [st] g:=zpE h1
theorem zs8 {e:Expr} {f:Sd->M D} (he:SE X E e f) (hs:swapsWith e none pos.line X.env=pure false:=by rfl):SS X E (.Expr e pos) (fun sd=>do let _<-f sd;pure (.nx sd)):=by
 refine PS.imp (zph he hs) fun D0 σ H ⟨ι,h,sd,L,hh,q⟩=>⟨ι,h,sd,L,hh,Fin.bind q fun d h1 ι1 H1 e1 s1 hr1 q1 v rv=> ?_⟩
 exact Fin.out hr1 q1 σ (L.step s1)
theorem ztM {e:Expr} {f:Sd->M D} (he:SE X E e f):SS X E (.Return (some e) pos) (fun sd=>do let d<-f sd;pure (.rt d)):=by
 refine PS.imp (zrA he) fun D0 σ H ⟨ι,h,sd,L,hh,q⟩=>⟨ι,h,sd,L,hh,Fin.bind q fun d h1 ι1 H1 e1 s1 hr1 q1 v rv=> ?_⟩
 exact Fin.out hr1 q1 v rv
theorem zvE {c:Expr} {a b:List Stmt} {t:Sd->M Bool} {g g':Sd->M Out} (hc:ST X E c t) (ha:SSs X E a g) (hb:SSs X E b g'):SS X E (.If c a b pos) (fun sd=>do let c<-t sd;if c=true then g sd else g' sd):=by
 refine PS.imp (zue hc ha hb) fun D0 σ H ⟨ι,h,sd,L,hh,q⟩=>⟨ι,h,sd,L,hh,Fin.bind q fun c h1 ι1 H1 e1 s1 hr1 q1=> ?_⟩
 cases c with
 | true=>exact zqS ⟨ι1,h1,sd,L.step s1,hr1,q1⟩
 | false=>exact zqR ⟨ι1,h1,sd,L.step s1,hr1,q1⟩
noncomputable def zuR (K:W.Frag) (E:XE) (g:D->Sd->M Sd):TG:=fun v σ H Q=> ∃ ι h sd d,zco K ι H sd σ/\zaW K ι H h/\Rel K ι H d v/\Fin K E ι H (g d sd h) fun sd' ι' H'=> ∀ σ',zco K ι' H' sd' σ'->Q σ' H'
noncomputable def ztT (K:W.Frag) (E:XE) (g:List D->Sd->M Sd):TGs:=fun vs σ H Q=> ∃ ι h sd ds,zco K ι H sd σ/\zaW K ι H h/\zal K ι H ds vs/\Fin K E ι H (g ds sd h) fun sd' ι' H'=> ∀ σ',zco K ι' H' sd' σ'->Q σ' H'
noncomputable abbrev SG (X:Cx) (E:XE) (tg:Expr) (g:D->Sd->M Sd):Prop:=PG X tg (zuR X.K E g)
noncomputable abbrev SGs (X:Cx) (E:XE) (tgs:List Expr) (g:List D->Sd->M Sd):Prop:=PGs X tgs (ztT X.K E g)
noncomputable def zaX (i:Nat):D->Sd->M Sd:=fun d sd=>pure (sd.set i (some d))
theorem zo1 (i:Nat) {x:Str} (hN:X.N.Nodup) (hi:X.N[i]? = some x) (hx:Loc X.env.scope x) (hf:X.fn x=true\/X.env.scope.names.lookup x=some .local):SG X E (.Name x pos) (zaX i):=by
 refine PG.imp (zqk hN hi hx hf) fun v σ H Q ⟨ι,h,sd,d,L,hh,r,q⟩=> ?_
 exact Fin.out hh q _ (L.set r i)
theorem PGs.imp {tgs:List Expr} {t t':TGs} (h:PGs X tgs t) (m: ∀ v σ H Q,t' v σ H Q->t v σ H Q):PGs X tgs t':=fun pins s σ H v u Q I r q=>h pins s σ H v u Q I r (m _ _ _ _ q)
noncomputable def zgD:List D->Sd->M Sd:=fun ds sd=>match ds with | []=>pure sd | _=>M.bad
noncomputable def zcG (g:D->Sd->M Sd) (gs:List D->Sd->M Sd):List D->Sd->M Sd:=fun ds sd=>match ds with
 | []=>M.bad
 | d::r=>do let sd1<-g d sd;gs r sd1
theorem zpO:SGs X E [] zgD:=by
 refine PGs.imp zpH fun v σ H Q ⟨ι,h,sd,ds,L,hh,r,q⟩=> ?_
 cases ds with
 | nil=>simp only [zal] at r;exact ⟨r,Fin.out hh q _ L⟩
 | cons d r=>exact qa0 q
theorem znS {e:Expr} {es:List Expr} {g:D->Sd->M Sd} {gs:List D->Sd->M Sd} (h1:SG X E e g) (h2:SGs X E es gs)
  (hs:(assignEach (e::es) X.env).map (·.2)=assign e X.env::(assignEach es X.env).map (·.2):=by rfl):SGs X E (e::es) (zcG g gs):=by
 refine PGs.imp (znJ h1 h2 hs) fun v σ H Q ⟨ι,h,sd,ds,L,hh,r,q⟩=> ?_
 cases ds with
 | nil=>exact qa0 q
 | cons d ds=>
  simp only [zal] at r
  obtain ⟨v1,vr,rfl,r1,r2⟩:=r
  refine ⟨v1,vr,rfl,ι,h,sd,d,L,hh,r1,Fin.bind q fun sd1 h1 ι1 H1 e1 s1 hr1 q1 σ1 L1=> ?_⟩
  exact ⟨ι1,h1,sd1,ds,L1,hr1,r2.step s1,q1⟩
noncomputable def zhF (n:Nat) (gs:List D->Sd->M Sd):D->Sd->M Sd:=fun d sd=>match d with
 | .tup ds=>if ds.length=n then gs ds sd else M.bad
 | _=>M.bad
theorem zcm {K:W.Frag} {ι:Io} {H:Hp} {ds:List D} {v:V} (h:Rel K ι H (.tup ds) v): ∃ a vs,v= .ref a/\SqT K H a vs/\zal K ι H ds vs:=by
 simp only [Rel] at h
 obtain ⟨a,vs,e,h1,h2⟩:=h
 exact ⟨a,vs,e,.inl (.inl h1.1),h2⟩
theorem zlf {K:W.Frag} {ι:Io} {H:Hp} {ds:List D} {v:V} (h:Rel K ι H (.scr ds) v): ∃ a vs,v= .ref a/\SqL K H a vs/\zal K ι H ds vs:=by
 simp only [Rel] at h
 obtain ⟨a,vs,e,h1,h2⟩:=h
 refine ⟨a,vs,e,?_,h2⟩
 rcases h1 with h1 | h1
 ·exact .inl h1.1
 ·rcases h1 with h1 | h1
  ·rcases h1 with h1 | ⟨o,h1⟩<;>cases h1
  ·exact .inr h1
theorem zeg {K:W.Frag} {ι:Io} {H:Hp} {ds:List D} {v:V} (h:Rel K ι H (.lst ds) v): ∃ a vs,v= .ref a/\SqL K H a vs/\zal K ι H ds vs:=by
 simp only [Rel] at h
 obtain ⟨a,vs,e,h1,h2⟩:=h
 exact ⟨a,vs,e,.inl (.inl h1.1),h2⟩
theorem zsB {es:List Expr} {k:Nat} {gs:List D->Sd->M Sd} {n:Nat} (hc:X.calm=true) (h:SGs X E es gs)
  (hn:(assignEach es X.env).length=n:=by rfl) (hst:(assignEach es X.env).findIdx? (·.1)=none:=by rfl):SG X E (.Tuple es k pos) (zhF n gs):=by
 refine PG.imp (zte hc h hn hst) fun v σ H Q ⟨ι,h,sd,d,L,hh,r,q⟩=> ?_
 cases d with
 | tup ds=>
  obtain ⟨a,vs,e,h1,h2⟩:=zcm r
  have q:Fin X.K E ι H ((if ds.length=n then gs ds sd else M.bad) h) _:=q
  by_cases hl:ds.length=n
  ·rw [qa4 hl] at q
   exact ⟨a,vs,e,h1,by rw [<- h2.length];exact hl,ι,h,sd,ds,L,hh,h2,q⟩
  ·rw [qa5 hl] at q
   exact qa0 q
 | _=>exact qa0 q
theorem zuF {tg e:Expr} {f:Sd->M D} {g:D->Sd->M Sd} (he:SE X E e f) (hg:SG X E tg g) (hs:swapsWithSole [tg] e pos.line X.env=pure false:=by rfl) (hw:swappedStores [tg] e X.env=pure none:=by rfl)
  (h1:(assignEach [tg] X.env).map (·.2)=[assign tg X.env]:=by rfl):SS X E (.Assign [tg] e pos) (fun sd=>do let d<-f sd;let sd'<-g d sd;pure (.nx sd')):=by
 refine PS.imp (zsU he hg hs hw h1) fun D0 σ H ⟨ι,h,sd,L,hh,q⟩=>⟨ι,h,sd,L,hh,Fin.bind q fun d h1 ι1 H1 e1 s1 hr1 q1 v rv=> ?_⟩
 exact ⟨ι1,h1,sd,d,L.step s1,hr1,rv,Fin.bind q1 fun sd' h2 ι2 H2 e2 s2 hr2 q2=>Fin.out hr2 q2⟩
theorem zuh (i:Nat) {x:Str} {e:Expr} {f:Sd->M D} {pos':Pos} (hN:X.N.Nodup) (hi:X.N[i]? = some x) (hx:Loc X.env.scope x) (hf:X.fn x=true\/X.env.scope.names.lookup x=some .local) (he:SE X E e f) (hs:swapsWith e (some (.Name x pos')) pos.line X.env=pure false:=by rfl):
  SS X E (.Assign [.Name x pos'] e pos) (fun sd=>do let d<-f sd;pure (.nx (sd.set i (some d)))):=by
 refine PS.imp (zs3 hN hi hx he hs hf) fun D0 σ H ⟨ι,h,sd,L,hh,q⟩=>⟨ι,h,sd,L,hh,Fin.bind q fun d h1 ι1 H1 e1 s1 hr1 q1 v rv=> ?_⟩
 exact Fin.out hr1 q1 _ ((L.step s1).set rv i)
def zt7 (H H2:Hp):Prop:=H2=H\/ ∃ q vs,H q=none/\H2=upd H q (.tup vs)
theorem zt7.step {K:W.Frag} {ι:Io} {H H2:Hp} {h:Hh} (g:zt7 H H2) (hr:zaW K ι H h):zbO ι H ι H2/\zaW K ι H2 h:=by
 rcases g with e | ⟨q,vs,hq,e⟩
 ·subst e;exact ⟨zbO.refl _ _,hr⟩
 ·subst e;exact ⟨hr.laidS hq,hr.laid hq⟩
structure zqM (K:W.Frag) (ι:Io) (H:Hp) (J:It) (ds:List D):Prop where
 go: ∀ ι' H' (i:Nat),Pass ι H ι' H'->i<ds.length->J.go i H'
 yld: ∀ ι' H' h (i:Nat) x H2,Pass ι H ι' H'->zaW K ι' H' h->i<ds.length->J.yld i H' x H2->zt7 H' H2/\ ∃ d,ds[i]? = some d/\Rel K ι' H2 d x
 stop: ∀ ι' H',Pass ι H ι' H'->J.stop ds.length H'
noncomputable def zuY (K:W.Frag) (E:XE) (f:Sd->M (List D)):TI:=fun σ H Q=> ∃ ι h sd,zco K ι H sd σ/\zaW K ι H h/\Fin K E ι H (f sd h) fun ds ι' H'=> ∀ J,zqM K ι' H' J ds->Q J H'
noncomputable abbrev SI (X:Cx) (E:XE) (tg iter:Expr) (f:Sd->M (List D)):Prop:=PI X tg iter (zuY X.K E f)
noncomputable def zeG:D->M (List D)
 | .tup ds=>pure ds
 | .lst ds=>pure ds
 | _=>M.bad
theorem znR {K:W.Frag} {ι:Io} {H:Hp} {a:Addr} {vs:List V} {ds:List D} (h: ∀ ι' H',Pass ι H ι' H'->SqT K H' a vs) (rl:zal K ι H ds vs):zqM K ι H (Itt K a) ds where
 go:=fun ι' H' i s hi=>⟨vs,vs[i]'(by rw [<- rl.length];exact hi),h ι' H' s,by simp⟩
 yld:=fun ι' H' _ i x H2 s _ hi ⟨e,y⟩=>by
  subst e
  have hx:=y vs (h ι' _ s)
  obtain ⟨d,e1,e2⟩:=rl.getV hx
  exact ⟨.inl rfl,d,e1,e2.pass s⟩
 stop:=fun ι' H' s=>⟨vs,h ι' H' s,by rw [rl.length];exact qaV _⟩
theorem zmx {K:W.Frag} {ι:Io} {H:Hp} {a:Addr} {vs:List V} {ds:List D} (h: ∀ ι' H',Pass ι H ι' H'->SqL K H' a vs) (rl:zal K ι H ds vs):zqM K ι H (Itl K a) ds where
 go:=fun ι' H' i s hi=>⟨vs,vs[i]'(by rw [<- rl.length];exact hi),h ι' H' s,by simp⟩
 yld:=fun ι' H' _ i x H2 s _ hi ⟨e,y⟩=>by
  subst e
  have hx:=y vs (h ι' _ s)
  obtain ⟨d,e1,e2⟩:=rl.getV hx
  exact ⟨.inl rfl,d,e1,e2.pass s⟩
 stop:=fun ι' H' s=>⟨vs,h ι' H' s,by rw [rl.length];exact qaV _⟩
theorem Pass.refl (ι:Io) (H:Hp):Pass ι H ι H:=(zbO.refl ι H).pass
theorem zpu {K:W.Frag} {ι:Io} {H:Hp} {ds:List D} {v:V} (h:Rel K ι H (.tup ds) v): ∃ a vs,v= .ref a/\(∀ ι' H',Pass ι H ι' H'->SqT K H' a vs)/\zal K ι H ds vs:=by
 simp only [Rel] at h
 obtain ⟨a,vs,e,h1,h2⟩:=h
 exact ⟨a,vs,e,fun ι' H' s=> .inl (.inl (s.keep _ _ h1.1 h1.2).1),h2⟩
theorem zpf {K:W.Frag} {ι:Io} {H:Hp} {ds:List D} {v:V} (h:Rel K ι H (.lst ds) v): ∃ a vs,v= .ref a/\(∀ ι' H',Pass ι H ι' H'->SqL K H' a vs)/\zal K ι H ds vs:=by
 simp only [Rel] at h
 obtain ⟨a,vs,e,h1,h2⟩:=h
 exact ⟨a,vs,e,fun ι' H' s=> .inl (.inl (s.keep _ _ h1.1 h1.2).1),h2⟩
end
end L3
namespace L2
open PySem PySem.Spec PyProof.Rows
noncomputable def zvj (K:W.Frag) (tl:TE):TI:=fun σ H R=>tl σ H fun x H1=> ∃ a,x= .ref a/\(((∃ xs,SqL K H1 a xs)/\R (Itl K a) H1)\/((∃ xs,SqT K H1 a xs)/\R (Itt K a) H1))
theorem zr7 {X:Cx} {tg:Expr} {l:Expr} {tl:TE} (hl:PE X l tl):PI X tg l (zvj X.K tl):=by
 intro pins s σ H R I h
 refine thn (hl pins s σ H _ I h) fun v s1 ⟨x,H1,I1,r1,q1⟩=> ?_
 obtain ⟨a,e,⟨⟨xs,hq⟩,q⟩ | ⟨⟨xs,hq⟩,q⟩⟩:=q1
 ·subst e
  cases r1
  obtain ⟨its,rv,p,hz⟩:=I1.list hq
  refine wpAny_pyIter_list p.isList ?_
  refine ⟨s1.heap.objs.size,[s1.heap.objs.size],_,_,H1,rfl,I1.kept (t':=s1.toks) fun b o e=>qag _ e,zlJ a _,⟨_,qar _ rfl,rfl,rfl⟩,fun b hb=> ?_,q⟩
  have e:b=s1.heap.objs.size:=by simpa using hb
  subst e
  exact I1.fpOk (qaV _) (I1.hok.fresh (qaV _))
 ·subst e
  cases r1
  obtain ⟨its,rv,p,hz⟩:=I1.tuple hq
  refine wpAny_pyIter_tuple (show s1.heap.IsTuple a its.toArray from p) ?_
  refine ⟨s1.heap.objs.size,[s1.heap.objs.size],_,_,H1,rfl,I1.kept (t':=s1.toks) fun b o e=>qag _ e,zjw a _,⟨_,qar _ rfl,rfl,rfl⟩,fun b hb=> ?_,q⟩
  have e:b=s1.heap.objs.size:=by simpa using hb
  subst e
  exact I1.fpOk (qaV _) (I1.hok.fresh (qaV _))
end L2
namespace L3
open PySem PySem.Spec PyProof.Rows L2
section
variable {X:Cx} {E:XE} {pos:Pos}
theorem zq6 {tg e:Expr} {f:Sd->M D} (he:SE X E e f):SI X E tg e (fun sd=>do let d<-f sd;zeG d):=by
 refine PI.imp (zr7 he) fun σ H Q ⟨ι,h,sd,L,hh,q⟩=>⟨ι,h,sd,L,hh,Fin.bind q fun d h1 ι1 H1 e1 s1 hr1 q1 v rv=> ?_⟩
 cases d with
 | lst ds=>
  obtain ⟨a,vs,e,h1',h2⟩:=zpf rv
  exact ⟨a,e,.inl ⟨⟨vs,h1' _ _ (Pass.refl _ _)⟩,Fin.out hr1 q1 _ (zmx h1' h2)⟩⟩
 | tup ds=>
  obtain ⟨a,vs,e,h1',h2⟩:=zpu rv
  exact ⟨a,e,.inr ⟨⟨vs,h1' _ _ (Pass.refl _ _)⟩,Fin.out hr1 q1 _ (znR h1' h2)⟩⟩
 | _=>exact qa0 q1
noncomputable def zdh (lo:Int) (n:Nat):List D:=(List.range n).map fun (k:Nat)=>D.int (lo+(k:Int))
theorem zmD {K:W.Frag} {ι:Io} {H:Hp} {lo:Int} {n:Nat}:zqM K ι H (Itr lo n) (zdh lo n) where
 go:=fun ι' H' i s hi=>by show i<n;simpa [zdh] using hi
 yld:=fun ι' H' _ i x H2 s _ hi ⟨e,y⟩=>by
  subst e y
  have hi:i<n:=by simpa [zdh] using hi
  refine ⟨.inl rfl,.int (lo+i),?_,by simp [Rel]⟩
  simp [zdh,hi]
 stop:=fun ι' H' s=>by
  show n<=(zdh lo n).length
  simp [zdh]
noncomputable def zds (j:Int):Bool:=decide (-(2^62)<=j) && decide (j<2^62)
noncomputable def zj9:List D->M (List D)
 | [.int j]=>if zds j=true then pure (zdh 0 j.toNat) else M.bad
 | _=>M.bad
theorem ze7 {j:Int} (h:zds j=true): -(2^62)<=j/\j<2^62:=by
 unfold zds at h
 simpa using h
theorem zqB {tg a:Expr} {p:Pos} {fs:Sd->M (List D)} (hg:Gl X "range") (hm:X.mg "range"=none) (ha:SA X E [a] fs) (hs:starEach [a] X.env=[(false,eval a X.env)]:=by rfl):
  SI X E tg (.Call (.Name "range" p) [a] [] pos) (fun sd=>do let ds<-fs sd;zj9 ds):=by
 refine PI.imp (zkN hg hm ha hs) fun σ H Q ⟨ι,h,sd,L,hh,q⟩=>⟨ι,h,sd,L,hh,Fin.bind q fun ds h1 ι1 H1 e1 s1 hr1 q1 vs rv=> ?_⟩
 match ds,rv,q1 with
 | [.int j],rv,q1=>
  simp only [zal,Rel] at rv
  obtain ⟨v,r,rfl,rfl,rfl⟩:=rv
  have q1:Fin X.K E ι1 H1 ((if zds j=true then (pure (zdh 0 j.toNat):M (List D)) else M.bad) h1) _:=q1
  by_cases hj:zds j=true
  ·rw [qa4 hj] at q1
   exact ⟨j,rfl,(ze7 hj).1,(ze7 hj).2,Fin.out hr1 q1 _ zmD⟩
  ·rw [qa5 hj] at q1
   exact qa0 q1
 | [],_,q1=>exact qa0 q1
 | .non::_,_,q1=>exact qa0 q1
 | .bl _::_,_,q1=>exact qa0 q1
 | .str _::_,_,q1=>exact qa0 q1
 | .tup _::_,_,q1=>exact qa0 q1
 | .lst _::_,_,q1=>exact qa0 q1
 | .cel _::_,_,q1=>exact qa0 q1
 | .set _::_,_,q1=>exact qa0 q1
 | .dct::_,_,q1=>exact qa0 q1
 | .fn _::_,_,q1=>exact qa0 q1
 | .scr _::_,_,q1=>exact qa0 q1
 | .exn _::_,_,q1=>exact qa0 q1
 | .int _::_::_,_,q1=>exact qa0 q1
noncomputable def zaJ (body:D->Sd->M Out):List D->Sd->M Out
 | [],sd=>pure (.nx sd)
 | x::r,sd=>do
  let o<-body x sd
  match o with
  | .nx sd'=>zaJ body r sd'
  | .ct sd'=>zaJ body r sd'
  | .bk sd'=>pure (.nx sd')
  | .rt d=>pure (.rt d)
theorem zts {tg iter:Expr} {body:List Stmt} {fi:Sd->M (List D)} {g:D->Sd->M Sd} {gb:Sd->M Out} (hc:X.calm=true) (hp:PassesOwn (model X.prog X.w) X.A X.env X.xe) (hi:SI X E tg iter fi) (hg:SG X E tg g) (hb:SSs X E body gb)
  (hs: ∀ x,foldedSetIterable iter X.env x=pure x:=by intro _;rfl):SS X E (.For tg iter body [] pos) (fun sd=>do let ds<-fi sd;zaJ (fun x sd=>do let sd1<-g x sd;gb sd1) ds sd):=by
 refine PS.imp (zsC hp hc hi hg hb hs) fun D0 σ H ⟨ι,h,sd,L,hh,q⟩=>⟨ι,h,sd,L,hh,Fin.bind q fun ds h1 ι1 H1 e1 s1 hr1 q1 J ok=> ?_⟩
 refine ⟨fun i m σ' H'=>m=ds.length - i/\i<=ds.length/\ ∃ ι' h' sd',zbO ι1 H1 ι' H'/\zco X.K ι' H' sd' σ'/\zaW X.K ι' H' h'/\Fin X.K E ι' H' (zaJ (fun x sd=>do let sd1<-g x sd;gb sd1) (ds.drop i) sd' h') (zjK X.K D0),
   ⟨_,rfl,Nat.zero_le _,ι1,h1,sd,zbO.refl _ _,L.step s1,hr1,by simpa using q1⟩,?_⟩
 rintro i m σ2 H2 ⟨rfl,hi2,ι2,h2,sd2,s2,L2,hr2,q2⟩
 by_cases hlt:i<ds.length
 ·right
  refine ⟨ok.go ι2 H2 i s2.pass hlt,fun σ' H'=>i+1<=ds.length/\ ∃ ι' h' sd',zbO ι1 H1 ι' H'/\zco X.K ι' H' sd' σ'/\zaW X.K ι' H' h'/\Fin X.K E ι' H' (zaJ (fun x sd=>do let sd1<-g x sd;gb sd1) (ds.drop (i+1)) sd' h') (zjK X.K D0),
    fun σ' H' p=>⟨ds.length - (i+1),by omega,rfl,p.1,p.2⟩,fun x H3 y=> ?_⟩
  obtain ⟨gr,d,ed,rd⟩:=ok.yld ι2 H2 h2 i x H3 s2.pass hr2 hlt y
  obtain ⟨s3,hr3⟩:=gr.step hr2
  have edr:ds.drop i=d::ds.drop (i+1):=by
   rw [qae hlt]
   rw [qaf hlt] at ed
   rw [Option.some.inj ed]
  rw [edr] at q2
  have q3:Fin X.K E ι2 H3 (zaJ (fun x sd=>do let sd1<-g x sd;gb sd1) (d::ds.drop (i+1)) sd2 h2) (zjK X.K D0):=Fin.step s3 q2
  refine ⟨ι2,h2,sd2,d,L2.step s3,hr3,rd,?_⟩
  have q5:Fin X.K E ι2 H3 ((g d sd2>>=fun sd1=>(gb sd1>>=fun o=>(match o with
    | .nx sd'=>zaJ (fun x sd=>do let sd1<-g x sd;gb sd1) (ds.drop (i+1)) sd'
    | .ct sd'=>zaJ (fun x sd=>do let sd1<-g x sd;gb sd1) (ds.drop (i+1)) sd'
    | .bk sd'=>pure (.nx sd')
    | .rt d=>pure (.rt d):M Out))) h2) (zjK X.K D0):=by
   have e:(zaJ (fun x sd=>do let sd1<-g x sd;gb sd1) (d::ds.drop (i+1)) sd2 h2)=((g d sd2>>=fun sd1=>(gb sd1>>=fun o=>(match o with
     | .nx sd'=>zaJ (fun x sd=>do let sd1<-g x sd;gb sd1) (ds.drop (i+1)) sd'
     | .ct sd'=>zaJ (fun x sd=>do let sd1<-g x sd;gb sd1) (ds.drop (i+1)) sd'
     | .bk sd'=>pure (.nx sd')
     | .rt d=>pure (.rt d):M Out))) h2):=by
    show M.bind (M.bind (g d sd2) gb) _ h2=M.bind (g d sd2) _ h2
    unfold M.bind
    cases g d sd2 h2<;>rfl
   rw [<- e]
   exact q3
  refine Fin.bind q5 fun sd6 h6 ι6 H6 e6 s6 hr6 q6 σ6 L6=> ?_
  refine ⟨ι6,h6,sd6,L6,hr6,Fin.bind q6 fun o h7 ι7 H7 e7 s7 hr7 q7=> ?_⟩
  have st7:zbO ι1 H1 ι7 H7:=((s2.trans s3).trans s6).trans s7
  cases o with
  | nx sd'=>exact fun σ' L'=>⟨hlt,ι7,h7,sd',st7,L',hr7,q7⟩
  | ct sd'=>exact fun σ' L'=>⟨hlt,ι7,h7,sd',st7,L',hr7,q7⟩
  | bk sd'=>exact fun σ' L'=>Fin.out (E:=E) (P:=zjK X.K D0) hr7 q7 σ' L'
  | rt d=>exact fun v rv=>Fin.out (E:=E) (P:=zjK X.K D0) hr7 q7 v rv
 ·left
  have e:i=ds.length:=by omega
  subst e
  refine ⟨ok.stop ι2 H2 s2.pass,?_⟩
  rw [List.drop_length] at q2
  exact Fin.out (E:=E) (P:=zjK X.K D0) hr2 q2 σ2 L2
noncomputable def zdb (f:D->M (Option D)):List D->M (List D)
 | []=>pure []
 | x::r=>do
  let o<-f x
  let ys<-zdb f r
  pure (match o with | some y=>y::ys | none=>ys)
noncomputable def zbE (g:D->Sd->M Sd) (tc:Sd->M Bool) (te:Sd->M D) (sd:Sd) (x:D):M (Option D):=do
 let sd1<-g x sd
 let c<-tc sd1
 if c=true then do
  let y<-te sd1
  pure (some y)
 else pure none
end
noncomputable def Io.hide (ι:Io) (p:Addr):Io:=⟨ι.c,p::ι.x⟩
noncomputable def Io.show (ι:Io):Io:=⟨ι.c,ι.x.tail⟩
theorem zna {ι:Io} {a:Addr} (h:ι.show.Has a):ι.Has a:=h.imp id List.mem_of_mem_tail
section
variable {K:W.Frag} {ι ι':Io} {H H':Hp} {p:Addr} {o:HO} {h:Hh}
theorem zgQ (hp:H p=none):Pass ι H (ι.hide p) (upd H p o):=⟨fun _ _ z=> .inl z,fun b o' hb n=>⟨by rw [zat (zaE hb hp)];exact hb,fun z=>by
  rcases z with z | z
  · exact n (.inl z)
  · rcases qaP.mp z with z | z
    · rw [z,hp] at hb;cases hb
    · exact n (.inr z)⟩⟩
theorem zhh:Pass ι H ι.show H:=⟨fun _ _ z=> .inl z,fun b o' hb n=>⟨hb,fun z=>n (zna z)⟩⟩
theorem zfO (hp:p∈ι.x):Pass ι H ι (upd H p o):=⟨fun _ _ z=> .inl z,fun b o' hb n=>⟨by rw [zat (show b≠p from fun z=>n (.inr (z▸hp)))];exact hb,n⟩⟩
theorem zaW.hide (hr:zaW K ι H h) (hp:H p=none):zaW K (ι.hide p) (upd H p o) h:=
 ⟨hr.len,hr.inj,fun n a c h1 h2=>by
   obtain ⟨o',e2,e3⟩:=hr.at_ n a c h1 h2
   exact ⟨o',by rw [zat (zaE e2 hp)];exact e2,e3.pass (zgQ hp)⟩,hr.dead,fun a ha=>by
   rcases qaP.mp ha with z | z
   · subst z;exact ⟨⟨o,zaC⟩,fun z=>hr.nin hp (.inl z)⟩
   · refine ⟨?_,(hr.hidt a z).2⟩
     rw [zat (show a≠p from fun w=>hr.nin hp (.inr (w▸z)))]
     exact (hr.hidt a z).1⟩
theorem zaW.hid (hr:zaW K ι H h) (hp:p∈ι.x):zaW K ι (upd H p o) h:=
 ⟨hr.len,hr.inj,fun n a c h1 h2=>by
   obtain ⟨o',e2,e3⟩:=hr.at_ n a c h1 h2
   have ne:a≠p:=fun z=>(hr.hidt p hp).2 (z▸List.mem_of_getElem? h1)
   exact ⟨o',by rw [zat ne];exact e2,e3.pass (zfO hp)⟩,hr.dead,fun a ha=>by
   refine ⟨?_,(hr.hidt a ha).2⟩
   by_cases z:a=p
   · subst z;exact ⟨o,zaC⟩
   · rw [zat z];exact (hr.hidt a ha).1⟩
theorem zaW.show (hr:zaW K ι H h):zaW K ι.show H h:=
 ⟨hr.len,hr.inj,fun n a c h1 h2=>by
   obtain ⟨o',e2,e3⟩:=hr.at_ n a c h1 h2
   exact ⟨o',e2,e3.pass zhh⟩,hr.dead,fun a ha=>hr.hidt a (List.mem_of_mem_tail ha)⟩
theorem zlR {ι1 ι2:Io} {H1 H2:Hp} (hp:H p=none) (hpx:p∉ι.x) (hx:ι1.x=p::ι.x) (s:zbO ι H ι1.show H1) (t:zbO ι1 H1 ι2 H2):zbO ι H ι2.show (upd H2 p o) where
 old:=fun n q h=>by
  rcases s.old n q h with h | h
  ·exact t.old n q h
  ·rcases t.old n _ h with h | h<;>exact .inr h
 new:=fun a h=>by
  rcases t.new a h with h | h
  ·exact s.new a h
  ·by_cases z:some a∈ι.c
   ·exact .inl z
   ·refine .inr ?_
    cases q:H a with
    | none=>rfl
    | some o=>
     by_cases z':a∈ι.x
     ·rw [s.hidk a z',q] at h;cases h
     ·rw [s.keep a o q (fun w=>w.elim z z')] at h;cases h
 hid:=by
  show ι2.x.tail=ι.x
  rw [t.hid,hx]
  rfl
 hidk:=fun a ha=>by
  have z:a≠p:=fun z=>hpx (z▸ha)
  rw [zat z,t.hidk a (by rw [hx];exact qan _ ha)]
  exact s.hidk a ha
 keep:=fun b q hb n=>by
  have ne:b≠p:=zaE hb hp
  rw [zat ne]
  refine t.keep b q (s.keep b q hb n) fun z=> ?_
  rcases z with z | z
  ·rcases s.new b z with z | z
   ·exact n (.inl z)
   ·rw [hb] at z;cases z
  ·rw [hx] at z
   rcases qaP.mp z with z | z
   ·exact ne z
   ·exact n (.inr z)
theorem zbO.shown {ι2:Io} {H2:Hp} {r:List Addr} (hx:ι.x=p::r) (t:zbO ι H ι2 H2):zbO ι.show H ι2.show H2 where
 old:=t.old
 new:=t.new
 hid:=by show ι2.x.tail=ι.x.tail;rw [t.hid]
 hidk:=fun a ha=>t.hidk a (List.mem_of_mem_tail ha)
 keep:=fun b q hb n=>by
  by_cases z:b=p
  ·subst z
   rw [t.hidk b (by rw [hx];exact qau)]
   exact hb
  ·refine t.keep b q hb fun w=> ?_
   rcases w with w | w
   ·exact n (.inl w)
   ·rw [hx] at w
    rcases qaP.mp w with w | w
    ·exact z w
    ·exact n (.inr (by show b∈ι.x.tail;rw [hx];exact w))
theorem Fin.bindB {α β:Type} {E:XE} {m:M α} {f:α->M β} {P:β->Io->Hp->Prop} {P':α->Io->Hp->Prop} {ιb:Io} {Hb:Hp} (q:Fin K E ιb Hb ((m>>=f) h) P)
  (conv: ∀ ι' H' h',zbO ι H ι' H'->zaW K ι' H' h'-> ∃ ι'',zbO ιb Hb ι'' H'/\zaW K ι'' H' h')
  (k: ∀ a h' ι' H',m h= .ok a h'->zbO ι H ι' H'->zaW K ι' H' h'->Fin K E ιb Hb (f a h') P->P' a ι' H'):Fin K E ι H (m h) P':=by
 have q':Fin K E ιb Hb (M.bind m f h) P:=q
 unfold M.bind at q'
 cases e:m h with
 | ok a h'=>
  rw [e] at q'
  intro ι' H' s hr
  exact k a h' ι' H' e s hr q'
 | exc c h'=>
  rw [e] at q'
  intro ι' H' s hr
  obtain ⟨ι'',s2,hr2⟩:=conv ι' H' h' s hr
  exact q' _ _ s2 hr2
 | bad=>rw [e] at q';exact q'
end
noncomputable instance:LawfulMonad M:=LawfulMonad.mk' M
 (id_map:=fun x=>by
   funext h
   show M.bind x (fun a=>M.pure (id a)) h=x h
   unfold M.bind M.pure
   cases x h<;>rfl)
 (pure_bind:=fun x f=>rfl)
 (bind_assoc:=fun x f g=>by
   funext h
   show M.bind (M.bind x f) g h=M.bind x (fun a=>M.bind (f a) g) h
   unfold M.bind
   cases x h<;>rfl)
noncomputable def zas (src:List (Option Nat)) (sd:Sd):Sd:=src.map fun o=>o.bind fun i=>(sd[i]?).join
theorem zco.bStart {K:W.Frag} {ι:Io} {H:Hp} {sd:Sd} {σ:L2.St} {src:List (Option Nat)} (h:zco K ι H sd σ):zco K ι H (zas src sd) (bStart src σ):=by
 refine ⟨by unfold zas L2.bStart;rw [qaH,qaH],fun i d e=> ?_⟩
 unfold zas at e
 unfold L2.bStart
 rw [List.getElem?_map] at e ⊢
 cases z:src[i]? with
 | none=>rw [z] at e;cases e
 | some o=>
  rw [z] at e
  cases o with
  | none=>cases e
  | some j=>
   have e:(sd[j]?).join=some d:=by simpa using e
   cases w:sd[j]? with
   | none=>rw [w] at e;cases e
   | some q=>
    rw [w] at e
    have e:q=some d:=by simpa using e
    subst e
    obtain ⟨v,h1,h2⟩:=h.2 j d w
    exact ⟨v,by simp [h1],h2⟩
def zaZ (g:D->Sd->M Sd) (src:List (Option Nat)):Prop:= ∀ x sd h sd1 h1,sd.length=src.length->(∀ (i:Nat),src[i]? = some none->sd[i]? = some none)->g x sd h= .ok sd1 h1->sd1.length=sd.length/\ ∀ (i:Nat) d,src[i]? ≠ some none->sd[i]? = some (some d)->sd1[i]? = some (some d)
def zcx (g:List D->Sd->M Sd) (src:List (Option Nat)):Prop:= ∀ x sd h sd1 h1,g x sd h= .ok sd1 h1->sd1.length=sd.length/\ ∀ (i:Nat) d,src[i]? ≠ some none->sd[i]? = some (some d)->sd1[i]? = some (some d)
theorem zmf {i:Nat} {src:List (Option Nat)} (h:src[i]? = some none): ∀ x sd h sd1 h1,zaX i x sd h= .ok sd1 h1->sd1.length=sd.length/\ ∀ (j:Nat) d,src[j]? ≠ some none->sd[j]? = some (some d)->sd1[j]? = some (some d):=fun x sd h0 sd1 h1 e=>by
 have e:R.ok (sd.set i (some x)) h0= .ok sd1 h1:=e
 cases e
 refine ⟨qaI,fun j d hj e=> ?_⟩
 rw [qao (show i≠j from fun z=>hj (z▸h))]
 exact e
theorem zaZ.name {i:Nat} {src:List (Option Nat)} (h:src[i]? = some none):zaZ (zaX i) src:=fun x sd h0 sd1 h1 _ _ e=>zmf h x sd h0 sd1 h1 e
theorem zcx.nil {src:List (Option Nat)}:zcx zgD src:=fun x sd h sd1 h1 e=>by
 cases x with
 | nil=>
  have e:R.ok sd h= .ok sd1 h1:=e
  cases e
  exact ⟨rfl,fun _ _ _ z=>z⟩
 | cons _ _=>cases (show R.bad=R.ok sd1 h1 from e)
theorem zcx.cons {i:Nat} {gs:List D->Sd->M Sd} {src:List (Option Nat)} (h:src[i]? = some none) (t:zcx gs src):zcx (zcG (zaX i) gs) src:=fun x sd h0 sd1 h1 e=>by
 cases x with
 | nil=>cases (show R.bad=R.ok sd1 h1 from e)
 | cons d r=>
  have e:gs r (sd.set i (some d)) h0= .ok sd1 h1:=e
  obtain ⟨e1,e2⟩:=t r _ h0 sd1 h1 e
  refine ⟨by rw [e1,qaI],fun j d' hj z=>e2 j d' hj ?_⟩
  rw [qao (show i≠j from fun z=>hj (z▸h))]
  exact z
theorem zaZ.tup {n:Nat} {gs:List D->Sd->M Sd} {src:List (Option Nat)} (t:zcx gs src):zaZ (zhF n gs) src:=fun x sd h0 sd1 h1 _ _ e=>by
 cases x with
 | tup ds=>
  have e:(if ds.length=n then gs ds sd else M.bad) h0= .ok sd1 h1:=e
  by_cases hl:ds.length=n
  ·rw [qa4 hl] at e;exact t _ _ _ _ _ e
  ·rw [qa5 hl] at e;cases (show R.bad=R.ok sd1 h1 from e)
 | _=>cases (show R.bad=R.ok sd1 h1 from e)
section
variable {X:Cx} {E:XE} {scope:Scope} {N:List Str} {src:List (Option Nat)} {tg iter elt:Expr} {ifs:List Expr} {pos:Pos}
noncomputable abbrev SCs (X:Cx) (E:XE) (ifs:List Expr) (t:Sd->M Bool):Prop:=PCs X ifs (zjM X.K E t)
theorem zrN:SCs X E [] (fun _=>pure true):=fun pins s σ H Q I ⟨ι,h,sd,L,hh,q⟩=>zpt pins s σ H Q I (Fin.out hh q)
theorem zrZ {c:Expr} {t:Sd->M Bool} (h:ST X E c t):SCs X E [c] t:=zpb h
theorem blk {K:W.Frag} {g:D->Sd->M Sd} {tc:Sd->M Bool} {te:Sd->M D} {J:It} {ds:List D} {ι:Io} {H:Hp} {h:Hh} {sd:Sd} {σ:L2.St} {Q:VK} {p:Addr} (hk:zaZ g src) (L:zco K ι H sd σ) (hr:zaW K ι H h) (ok:zqM K ι H J ds) (hz:ds.length<=sizeLine)
  (q:Fin K E ι H ((do let ys<-zdb (zbE g tc te (zas src sd)) ds;pure (D.lst ys)) h) fun d ι' H'=> ∀ v,Rel K ι' H' d v->Q v H') (hp:H p=none):
  zut J (zuR K E g) (zjM K E tc) (zhN K E te) (bStart src σ) H p fun H'=>Q (.ref p) H':=by
 generalize hP:(fun (d:D) (ι':Io) (H':Hp)=> ∀ v,Rel K ι' H' d v->Q v H')=P at q
 generalize hf:zbE g tc te (zas src sd)=f at q
 have hpx:p∉ι.x:=fun z=>hr.nin hp (.inr z)
 have h0len:(zas src sd).length=src.length:=by unfold zas;rw [qaH]
 have h0non: ∀ (i:Nat),src[i]? = some none->(zas src sd)[i]? = some none:=fun i e=>by unfold zas;rw [List.getElem?_map,e];rfl
 refine ⟨fun i m σ' H'=>m=ds.length - i/\i<=ds.length/\ ∃ ι' h' done vs,ι'.x=p::ι.x/\zbO ι H ι'.show H'/\zco K ι' H' (zas src sd) σ'/\zaW K ι' H' h'/\H' p=some (.lst vs)/\zal K ι' H' done vs/\done.length<=i/\
     Fin K E ι H ((do let ys<-zdb f (ds.drop i);pure (D.lst (done++ys))) h') P,
   ⟨_,rfl,Nat.zero_le _,ι.hide p,h,[],[],rfl,?_,L.bStart.pass (zgQ hp),hr.hide hp,zaC,zal.nil,qaV _,?_⟩,?_⟩
 ·have:=hr.laidS (o:= .lst []) hp
  exact ⟨this.old,this.new,this.hid,this.hidk,this.keep⟩
 ·simpa using q
 rintro i m σ2 H2 ⟨rfl,hi2,ι2,h2,done,vs,hx2,s2,L2,hr2,e2,rl2,dl2,q2⟩
 have ps2:Pass ι H ι2 H2:=⟨s2.old,fun b o hb n=>⟨s2.keep b o hb n,fun z=>by
   rcases z with z | z
   · exact s2.nin hb n (.inl z)
   · rw [hx2] at z
     rcases qaP.mp z with z | z
     · rw [z,hp] at hb;cases hb
     · exact n (.inr z)⟩⟩
 have hp2:p∈ι2.x:=by rw [hx2];exact qau
 have base: ∀ {ι':Io} {H':Hp},zbO ι2 H2 ι' H'->zbO ι H ι'.show H':=fun t=>s2.trans (t.shown hx2)
 by_cases hlt:i<ds.length
 ·right
  refine ⟨ok.go ι2 H2 i ps2 hlt,fun σ' H'=>i+1<=ds.length/\ ∃ ι' h' done vs,ι'.x=p::ι.x/\zbO ι H ι'.show H'/\zco K ι' H' (zas src sd) σ'/\zaW K ι' H' h'/\H' p=some (.lst vs)/\zal K ι' H' done vs/\done.length<=i+1/\
    Fin K E ι H ((do let ys<-zdb f (ds.drop (i+1));pure (D.lst (done++ys))) h') P,fun σ' H' z=>⟨ds.length - (i+1),by omega,rfl,z.1,z.2⟩,fun x H3 y=> ?_⟩
  obtain ⟨gr,d,ed,rd⟩:=ok.yld ι2 H2 h2 i x H3 ps2 hr2 hlt y
  obtain ⟨s3,hr3⟩:=gr.step hr2
  have edr:ds.drop i=d::ds.drop (i+1):=by
   rw [qae hlt]
   rw [qaf hlt] at ed
   rw [Option.some.inj ed]
  rw [edr] at q2
  have q3:=q2
  have st3:zbO ι2 H2 ι2 H3:=s3
  have e3:H3 p=some (.lst vs):=by rw [s3.hidk p hp2];exact e2
  have eq1:(do let ys<-zdb f (d::ds.drop (i+1));pure (D.lst (done++ys)):M D)=(g d (zas src sd)>>=fun sd1=>tc sd1>>=fun c=>if c=true then (te sd1>>=fun y=>zdb f (ds.drop (i+1))>>=fun ys=>pure (D.lst (done++[y]++ys))) else (zdb f (ds.drop (i+1))>>=fun ys=>pure (D.lst (done++ys)))):=by
   rw [zdb]
   rw [<- hf]
   simp only [zbE,bind_assoc]
   refine congrArg _ (funext fun sd1=> ?_)
   refine congrArg _ (funext fun c=> ?_)
   cases c with
   | true=>simp only [if_true,bind_assoc,pure_bind,List.append_assoc,List.cons_append,List.nil_append]
   | false=>simp only [qax,if_false,pure_bind]
  rw [eq1] at q3
  refine ⟨ι2,h2,zas src sd,d,L2.step s3,hr3,rd,?_⟩
  refine Fin.bindB q3 (fun ι' H' h' s hr'=>⟨ι'.show,base (s3.trans s),hr'.show⟩) fun sd4 h4 ι4 H4 e4 s4 hr4 q4 σ4 L4=> ?_
  have hx4:ι4.x=p::ι.x:=by rw [s4.hid];exact hx2
  obtain ⟨k1,k2⟩:=hk d _ h2 sd4 h4 h0len h0non e4
  refine ⟨ι4,h4,sd4,L4,hr4,Fin.bindB q4 (fun ι' H' h' s hr'=>⟨ι'.show,base ((s3.trans s4).trans s),hr'.show⟩) fun c h5 ι5 H5 e5 s5 hr5 q5=> ?_⟩
  have hx5:ι5.x=p::ι.x:=by rw [s5.hid];exact hx4
  have sub: ∀ {ι':Io} {H':Hp},zco K ι' H' sd4 σ4->zco K ι' H' (zas src sd) σ4:=fun {ι' H'} z=>⟨by rw [<- k1];exact z.1,fun j d' e=>z.2 j d' (k2 j d' (fun w=>by rw [h0non j w] at e;cases e) e)⟩
  have st5:zbO ι2 H2 ι5 H5:=(s3.trans s4).trans s5
  cases c with
  | false=>
   exact zqR ⟨hlt,ι5,h5,done,vs,hx5,base st5,sub (L4.step s5),hr5,by rw [st5.hidk p hp2];exact e2,rl2.step st5,Nat.le_succ_of_le dl2,q5⟩
  | true=>
   refine zqS ⟨ι5,h5,sd4,L4.step s5,hr5,Fin.bindB q5 (fun ι' H' h' s hr'=>⟨ι'.show,base (st5.trans s),hr'.show⟩) fun yd h6 ι6 H6 e6 s6 hr6 q6 y ry=> ?_⟩
   have st6:zbO ι2 H2 ι6 H6:=st5.trans s6
   have hx6:ι6.x=p::ι.x:=by rw [s6.hid];exact hx5
   have hp6:p∈ι6.x:=by rw [hx6];exact qau
   have e6':H6 p=some (.lst vs):=by rw [st6.hidk p hp2];exact e2
   refine ⟨vs,e6',by rw [<- rl2.length];omega,hlt,ι6,h6,done++[yd],vs++[y],hx6,zlR hp hpx hx2 s2 st6,?_,hr6.hid hp6,zaC,?_,?_,?_⟩
   ·exact ((sub (L4.step s5)).step s6).pass (zfO hp6)
   ·exact ((rl2.step st6).append (zal.cons ry zal.nil)).pass (zfO hp6)
   ·rw [qav,List.length_singleton];omega
   ·exact q6
 ·left
  have e:i=ds.length:=by omega
  subst e
  refine ⟨ok.stop ι2 H2 ps2,?_⟩
  rw [List.drop_length] at q2
  have q3:P (.lst done) ι2.show H2:=by
   have:Fin K E ι H ((pure (D.lst (done++[])):M D) h2) P:=q2
   rw [List.append_nil] at this
   exact this _ _ s2 hr2.show
  rw [<- hP] at q3
  refine q3 (.ref p) ?_
  simp only [Rel]
  refine ⟨p,vs,rfl,⟨e2,fun z=> ?_⟩,rl2.pass zhh⟩
  rcases z with z | z
  ·exact (hr2.hidt p (by rw [hx2];exact qau)).2 z
  ·exact hpx (by have z:p∈ι2.x.tail:=z;rw [hx2] at z;exact z)
noncomputable def zaP (fi:Sd->M (List D)) (g:D->Sd->M Sd) (tc:Sd->M Bool) (te:Sd->M D) (src:List (Option Nat)):Sd->M D:=fun sd=>do
 let ds<-fi sd
 fits ds.length
 let ys<-zdb (zbE g tc te (zas src sd)) ds
 pure (D.lst ys)
theorem zl3 {K:W.Frag} {fi:Sd->M (List D)} {g:D->Sd->M Sd} {tc:Sd->M Bool} {te:Sd->M D} (hk:zaZ g src) (σ:L2.St) (H:Hp) (Q:VK) (q:zhN K E (zaP fi g tc te src) σ H Q):
  zpe (zuY K E fi) (zuR K E g) (zjM K E tc) (zhN K E te) src σ H Q:=by
 obtain ⟨ι,h,sd,L,hh,q⟩:=q
 refine ⟨ι,h,sd,L,hh,Fin.bind q fun ds h1 ι1 H1 e1 s1 hr1 q1 J ok p hp=> ?_⟩
 obtain ⟨z,q2⟩:=Fin.fits q1
 exact blk hk (L.step s1) hr1 ok z q2 hp
theorem zp4 {fi:Sd->M (List D)} {g:D->Sd->M Sd} {tc:Sd->M Bool} {te:Sd->M D} (B:BOk X scope N src) (hk:zaZ g src) (hi:SI X E tg iter fi)
  (hg: ∀ s H fp,SG (cxB X scope N s H fp) E tg g) (ht: ∀ s H fp,SCs (cxB X scope N s H fp) E ifs tc) (he: ∀ s H fp,SE (cxB X scope N s H fp) E elt te)
  (hs: ∀ x,foldedSetIterable iter X.env x=pure x:=by intro _;rfl):SE X E (.ListComp elt [⟨tg,iter,ifs,0⟩] scope pos) (zaP fi g tc te src):=
 PE.imp (zpj B hi hg ht he hs) (zl3 hk)
theorem zlU {fi:Sd->M (List D)} {g:D->Sd->M Sd} {tc:Sd->M Bool} {te:Sd->M D} (i:Nat) {y:Str} {py spos:Pos} (B:BOk X scope N src) (hk:zaZ g src) (hi:SI X E tg iter fi)
  (hg: ∀ s H fp,SG (cxB X scope N s H fp) E tg g) (ht: ∀ s H fp,SCs (cxB X scope N s H fp) E ifs tc) (he: ∀ s H fp,SE (cxB X scope N s H fp) E elt te)
  (hN:X.N.Nodup) (hy:X.N[i]? = some y) (hx:Loc X.env.scope y) (hf:X.fn y=true\/X.env.scope.names.lookup y=some .local) (hsw:swapsWith (.ListComp elt [⟨tg,iter,ifs,0⟩] scope pos) (some (.Name y py)) spos.line X.env=pure true)
  (hs: ∀ x,foldedSetIterable iter X.env x=pure x:=by intro _;rfl):SS X E (.Assign [.Name y py] (.ListComp elt [⟨tg,iter,ifs,0⟩] scope pos) spos) (fun sd=>do let d<-zaP fi g tc te src sd;pure (.nx (sd.set i (some d)))):=by
 refine PS.imp (zjF B hi hg ht he hN hy hx hsw hf hs) fun D0 σ H ⟨ι,h,sd,L,hh,q⟩=>zl3 hk σ H _ ⟨ι,h,sd,L,hh,Fin.bind q fun d h1 ι1 H1 e1 s1 hr1 q1 v rv=> ?_⟩
 exact Fin.out (E:=E) (P:=zjK X.K D0) hr1 q1 _ ((L.step s1).set rv i)
end
section
variable {K:W.Frag} {ι:Io} {H:Hp} {h:Hh} {n:Nat} {a:Addr}
theorem zfb {o:HO} (hn:ι.c[n]? = some (some a)):Pass ι H ι (upd H a o):=⟨fun _ _ z=> .inl z,fun b o' hb nb=>⟨by rw [zat (show b≠a from fun z=>nb (.inl (z▸List.mem_of_getElem? hn)))];exact hb,nb⟩⟩
theorem zaW.cellS {o:HO} (hr:zaW K ι H h) (hn:ι.c[n]? = some (some a)):zbO ι H ι (upd H a o):=
 ⟨fun _ _ z=> .inl z,fun _ z=> .inl z,rfl,fun b hb=>zat fun z=>(hr.hidt b hb).2 (z▸List.mem_of_getElem? hn),fun b o' hb nb=>((zfb hn).keep b o' hb nb).1⟩
theorem zaW.cellO {c':C} {o':HO} (hr:zaW K ι H h) (hn:ι.c[n]? = some (some a)) (co:CO K ι H c' o'):zaW K ι (upd H a o') (h.set n c'):=by
 refine ⟨by rw [qaI];exact hr.len,hr.inj,fun m b c hm hc=> ?_,fun m hm=> ?_,fun b hb=>⟨?_,(hr.hidt b hb).2⟩⟩
 ·by_cases e:n=m
  ·subst e
   rw [hn] at hm
   cases hm
   rw [qai (by rw [hr.len];exact (qac.mp hn).1)] at hc
   cases hc
   exact ⟨o',zaC,co.pass (zfb hn)⟩
  ·rw [qao e] at hc
   obtain ⟨o2,e2,e3⟩:=hr.at_ m b c hm hc
   have ne:b≠a:=fun z=>by subst z;exact e (hr.inj n m b hn hm)
   exact ⟨o2,by rw [zat ne];exact e2,e3.pass (zfb hn)⟩
 ·have e:n≠m:=fun z=>by subst z;rw [hn] at hm;cases hm
  rw [qao e]
  exact hr.dead m hm
 ·rw [zat (show b≠a from fun z=>(hr.hidt b hb).2 (z▸List.mem_of_getElem? hn))]
  exact (hr.hidt b hb).1
theorem zaW.cell {ds':List D} {vs':List V} (hr:zaW K ι H h) (hn:ι.c[n]? = some (some a)) (rl:zal K ι H ds' vs'):zaW K ι (upd H a (.lst vs')) (h.set n (.lst ds')):=hr.cellO hn ⟨vs',rfl,rl⟩
theorem zaW.read {ds:List D} {v:V} (hr:zaW K ι H h) (r:Rel K ι H (.cel n) v) (e:h[n]? = some (.lst ds)): ∃ a vs,v= .ref a/\ι.c[n]? = some (some a)/\H a=some (.lst vs)/\zal K ι H ds vs:=by
 simp only [Rel] at r
 obtain ⟨a,e1,r | r⟩:=r
 ·obtain ⟨o,e3,vs,rfl,e4⟩:=hr.at_ n a _ r e
  exact ⟨a,vs,e1,r,e3,e4⟩
 ·rw [hr.dead n r] at e
  cases e
end
noncomputable def zai (n:Nat):M (List D):=fun h=>match h[n]? with
 | some (.lst ds)=> .ok ds h
 | _=> .bad
noncomputable def zbu (n:Nat) (ds:List D):M Unit:=fun h=> .ok () (h.set n (.lst ds))
theorem zcb {n:Nat} {h h':Hh} {ds:List D} (e:zai n h= .ok ds h'):h'=h/\h[n]? = some (.lst ds):=by
 unfold zai at e
 cases z:h[n]? with
 | none=>rw [z] at e;cases e
 | some c=>
  rw [z] at e
  cases c with
  | lst xs=>cases e;exact ⟨rfl,rfl⟩
  | dic _=>cases e
  | dead=>cases e
noncomputable def ofO {α:Type}:Option α->M α
 | some a=>pure a
 | none=>M.bad
noncomputable def dIx:D->D->M D:=fun x y=>match x,y with
 | .tup ds,.int i=>ofO (atI ds i)
 | .lst ds,.int i=>ofO (atI ds i)
 | .scr ds,.int i=>ofO (atI ds i)
 | .cel n,.int i=>do let ds<-zai n;ofO (atI ds i)
 | _,_=>M.bad
theorem zgl {K:W.Frag} {ι:Io} {H:Hp} {ds:List D} {vs:List V} {i:Int} {d:D} (rl:zal K ι H ds vs) (e:atI ds i=some d): ∃ v,atI vs i=some v/\Rel K ι H d v:=by
 unfold atI at e ⊢
 rw [<- rl.length]
 cases z:ixN ds.length i with
 | none=>rw [z] at e;cases e
 | some j=>
  rw [z] at e
  have e:ds[j]? = some d:=e
  exact rl.get e
section
variable {X:Cx} {E:XE}
theorem Fin.ofO {α:Type} {K:W.Frag} {ι:Io} {H:Hp} {h:Hh} {o:Option α} {P:α->Io->Hp->Prop} (hr:zaW K ι H h) (q:Fin K E ι H (L3.ofO o h) P): ∃ a,o=some a/\P a ι H:=by
 cases o with
 | none=>exact qa0 q
 | some a=>exact ⟨a,rfl,Fin.out hr q⟩
theorem zvk:IxR X (zda X.K E dIx):=by
 refine IxR.imp (zkp.or zrx) fun x y H Q ⟨ι,h,d1,d2,r1,r2,hr,q⟩=> ?_
 cases d2 with
 | int i=>
  simp only [Rel] at r2
  cases d1 with
  | tup ds=>
   obtain ⟨a,vs,e,h1,h2⟩:=zcm r1
   obtain ⟨d,e1,q⟩:=Fin.ofO hr q
   obtain ⟨v,e2,rv⟩:=zgl h2 e1
   exact .inr ⟨a,vs,i,v,e,r2,h1,e2,q v rv⟩
  | lst ds=>
   obtain ⟨a,vs,e,h1,h2⟩:=zeg r1
   obtain ⟨d,e1,q⟩:=Fin.ofO hr q
   obtain ⟨v,e2,rv⟩:=zgl h2 e1
   exact .inl ⟨a,vs,i,v,e,r2,h1,e2,q v rv⟩
  | scr ds=>
   obtain ⟨a,vs,e,h1,h2⟩:=zlf r1
   obtain ⟨d,e1,q⟩:=Fin.ofO hr q
   obtain ⟨v,e2,rv⟩:=zgl h2 e1
   exact .inl ⟨a,vs,i,v,e,r2,h1,e2,q v rv⟩
  | cel n=>
   have q:Fin X.K E ι H ((zai n>>=fun ds=>L3.ofO (atI ds i)) h) _:=q
   have q':Fin X.K E ι H (M.bind (zai n) (fun ds=>L3.ofO (atI ds i)) h) _:=q
   unfold M.bind at q'
   cases z:zai n h with
   | bad=>rw [z] at q';exact qa0 q'
   | exc c h'=>unfold zai at z;split at z<;>cases z
   | ok ds h'=>
    rw [z] at q'
    obtain ⟨rfl,z2⟩:=zcb z
    obtain ⟨a,vs,e,hn,hH,rl⟩:=hr.read r1 z2
    obtain ⟨d,e1,q⟩:=Fin.ofO hr q'
    obtain ⟨v,e2,rv⟩:=zgl rl e1
    exact .inl ⟨a,vs,i,v,e,r2,SqL.of hH,e2,q v rv⟩
  | _=>exact qa0 q
 | _=>cases d1<;>exact qa0 q
noncomputable def zl8 (o i d:D):M Unit:=match o,i with
 | .cel n,.int k=>do
  let ds<-zai n
  let j<-ofO (ixN ds.length k)
  zbu n (ds.set j d)
 | _,_=>M.bad
theorem zs4 {o i:Expr} {pos:Pos} {fo fi:Sd->M D} (hp: ∀ {t:zrg},zqx X t->PG X (.Subscript o i pos) (zu5 (zhN X.K E fo) (zhN X.K E fi) t)):
  SG X E (.Subscript o i pos) (fun d sd=>do let x<-fo sd;let y<-fi sd;zl8 x y d;pure sd):=by
 refine PG.imp (hp znh) fun v σ H Q ⟨ι,h,sd,d,L,hr,rd,q⟩=>⟨ι,h,sd,L,hr,Fin.bind q fun x h1 ι1 H1 e1 s1 hr1 q1 xv rx=> ?_⟩
 refine ⟨ι1,h1,sd,L.step s1,hr1,Fin.bind q1 fun y h2 ι2 H2 e2 s2 hr2 q2 yv ry=> ?_⟩
 cases x with
 | cel n=>
  cases y with
  | int k=>
   have rx2:=rx.step s2
   have q3:Fin X.K E ι2 H2 ((zai n>>=fun ds=>(ofO (ixN ds.length k)>>=fun j=>zbu n (ds.set j d)>>=fun _=>pure sd)) h2) (fun sd' ι' H'=> ∀ σ',zco X.K ι' H' sd' σ'->Q σ' H'):=by
    have e:(do zl8 (.cel n) (.int k) d;pure sd:M Sd)=(zai n>>=fun ds=>(ofO (ixN ds.length k)>>=fun j=>zbu n (ds.set j d)>>=fun _=>pure sd)):=by
     show ((zai n>>=fun ds=>(ofO (ixN ds.length k)>>=fun j=>zbu n (ds.set j d)))>>=fun _=>pure sd)=_
     simp only [bind_assoc]
    rw [<- e]
    exact q2
   have q':Fin X.K E ι2 H2 (M.bind (zai n) (fun ds=>(ofO (ixN ds.length k)>>=fun j=>zbu n (ds.set j d)>>=fun _=>pure sd)) h2) _:=q3
   unfold M.bind at q'
   cases z:zai n h2 with
   | bad=>rw [z] at q';exact qa0 q'
   | exc c h'=>unfold zai at z;split at z<;>cases z
   | ok ds h'=>
    rw [z] at q'
    obtain ⟨rfl,z2⟩:=zcb z
    obtain ⟨a,vs,e,hn,hH,rl⟩:=hr2.read rx2 z2
    simp only [Rel] at ry
    have q4:Fin X.K E ι2 H2 (M.bind (ofO (ixN ds.length k)) (fun j=>zbu n (ds.set j d)>>=fun _=>pure sd) h') _:=q'
    unfold M.bind at q4
    cases z3:ixN ds.length k with
    | none=>rw [z3] at q4;exact qa0 q4
    | some j=>
     rw [z3] at q4
     have q5:Fin X.K E ι2 H2 (R.ok sd (h'.set n (.lst (ds.set j d)))) (fun sd' ι' H'=> ∀ σ',zco X.K ι' H' sd' σ'->Q σ' H'):=q4
     refine ⟨a,vs,k,j,e,ry,hH,by rw [<- rl.length];exact z3,?_⟩
     have rd2:=(rd.step s1).step s2
     exact q5 ι2 _ (hr2.cellS hn) (hr2.cell hn (rl.set rd2 j)) σ (((L.step s1).step s2).step (hr2.cellS hn))
  | _=>exact qa0 q2
 | _=>cases y<;>exact qa0 q2
end
noncomputable abbrev E0x:XE:=fun _ _=>False
noncomputable def zcp (K:W.Frag) (n:Nat) (F:List D->M D):Sp:=fun vs H Q _=>vs.length=n/\ ∃ ι h ds,zal K ι H ds vs/\zaW K ι H h/\Fin K E0x ι H (F ds h) fun d ι' H'=> ∀ v,Rel K ι' H' d v->Q v H'
noncomputable def zfm (n:Nat) (ds:List D):Sd:=ds.map some++List.replicate (n - ds.length) none
noncomputable def zc2:Out->M D
 | .nx _=>pure .non
 | .rt d=>pure d
 | _=>M.bad
noncomputable def zc6 (n:Nat) (G:Sd->M Out) (ds:List D):M D:=do let o<-G (zfm n ds);zc2 o
theorem zdV {K:W.Frag} {ι:Io} {H:Hp} {ds:List D} {vs:List V} {N:List Str} (h:zal K ι H ds vs):zco K ι H (zfm N.length ds) (L2.zea N vs):=by
 have hl:=h.length
 unfold zfm L2.zea
 refine ⟨by simp [hl],fun i d e=> ?_⟩
 by_cases hi:i<ds.length
 ·rw [qad (by simpa using hi),List.getElem?_map] at e
  cases z:ds[i]? with
  | none=>rw [z] at e;cases e
  | some d'=>
   rw [z] at e
   cases e
   obtain ⟨v,h1,h2⟩:=h.get z
   exact ⟨v,by rw [qad (by rw [qaH, <-hl];exact hi),List.getElem?_map,h1];rfl,h2⟩
 ·rw [qaa (by simpa using hi),List.getElem?_replicate] at e
  split at e<;>cases e
section
variable {P:Program} {w:World} {K:W.Frag} {mg:Str->Option Value} {base:Heap}
theorem zbX {x qual:Str} {st:Stmt} {f:Addr} {fd:FuncData} {N ps:List Str} {k:Nat} {G:Sd->M Out} (F:Fun K x qual st f fd) (S:zao N ps (zae st))
  (hb: ∀ (cdv:Value) (A:Around) (outer:List Env) (s:Shared) (H:Hp) (E:XK),zdg k (A.deeper (envOfC qual (zae st) s.heap.objs.size f cdv))->SSs (zhM CX0 P w K mg base N qual (zae st) f cdv A outer s H E).nox E0x (zb2 st) G):
  zbw P w K mg base CX0 (k+1) f fd ps (zcp K ps.length (zc6 N.length G)):=by
 refine F.ok S (fun vs H Q E h=>h.1) fun cdv A outer s H vs Q E hr ⟨hl,ι,h,ds,rl,hh,q⟩=>⟨_,hb cdv A outer s H E hr,ι,h,zfm N.length ds,zdV rl,hh,?_⟩
 refine Fin.bind q fun o h1 ι1 H1 e1 s1 hr1 q1=> ?_
 cases o with
 | nx sd=>exact fun σ' _=>Fin.out hr1 q1 _ (by simp [Rel])
 | rt d=>exact fun v rv=>Fin.out hr1 q1 v rv
 | bk sd=>exact qa0 q1
 | ct sd=>exact qa0 q1
end
section
variable {X:Cx} {e:Expr} {es:List Expr} {pos p:Pos}
noncomputable def zam (n:Nat) (F:List D->M D) (ds:List D):M D:=if ds.length=n then F ds else M.bad
theorem zpv {k:Nat} {f:Addr} {fd:FuncData} {ps:List Str} {n:Nat} {F:List D->M D} {fs:Sd->M (List D)} {x:Str} (G:zbw X.prog X.w X.K X.mg X.base CX0 k f fd ps (zcp X.K n F)) (hr:zdg k X.A) (hg:Gl X x) (hm:X.mg x=some (.ref f)) (hk:W.keepIn X.K (.ref f)=true) (hb:zaG X.K fd ps [])
  (ha:SA X E0x (e::es) fs) (hdb:(x==("__debug__":Str))=false:=by decide) (he:starEach (e::es) X.env=(false,eval e X.env)::starEach es X.env:=by rfl) (hpl:(backTo pos (starEach es X.env)).any (·.1)=false:=by rfl):
  SE X E0x (.Call (.Name x p) (e::es) [] pos) (fun sd=>do let ds<-fs sd;zam n F ds):=by
 refine PE.imp (zhS G hr hg hm hk hb (dvs:=[]) .nil (E:=fun _ _ _=>False) zsw ha hdb he hpl) fun σ H Q ⟨ι,h,sd,L,hh,q⟩=>⟨ι,h,sd,L,hh,Fin.bind q fun ds h1 ι1 H1 e1 s1 hr1 q1 vs rv=> ?_⟩
 show zcp X.K n F (vs++[]) H1 Q _
 rw [List.append_nil]
 unfold zam at q1
 by_cases hl:ds.length=n
 ·rw [qa4 hl] at q1
  exact ⟨by rw [<- rv.length];exact hl,ι1,h1,ds,rv,hr1,q1⟩
 ·rw [qa5 hl] at q1
  exact qa0 q1
end
section
variable {X:Cx} {E:XE}
theorem Fin.guard {α:Type} {K:W.Frag} {ι:Io} {H:Hp} {h:Hh} {c:Prop} [Decidable c] {f:M α} {P:α->Io->Hp->Prop} (q:Fin K E ι H ((if c then f else M.bad) h) P):c/\Fin K E ι H (f h) P:=by
 by_cases hc:c
 ·rw [qa4 hc] at q;exact ⟨hc,q⟩
 ·rw [qa5 hc] at q;exact qa0 q
theorem znb:OpR X (binaryOp .Add) (fun x y H Q=> ∃ a b ys,x= .ref a/\y= .ref b/\SqT X.K H a []/\SqT X.K H b ys/\Q (.ref b) H):=by
 intro pins s σ H x y v u Q I rx ry h
 obtain ⟨a,b,ys,rfl,rfl,ha,hb,q⟩:=h
 cases rx
 cases ry
 obtain ⟨its,r1,p1,_⟩:=I.tuple ha
 obtain ⟨its2,r2,p2,_⟩:=I.tuple hb
 cases r1
 obtain ⟨⟨cls,dd,data,sl⟩,ho,hc,n,hd⟩:=id p1
 obtain ⟨⟨cls2,dd2,data2,sl2⟩,ho2,hc2,n2,hd2⟩:=id p2
 simp only at hc hd hc2 hd2
 subst hc hd hc2 hd2
 exact concat_meets ⟨_,ho,rfl⟩ ⟨_,ho2,rfl⟩ noFill_tuple_add seq_tuple_add PySem.F.slot_tuple_add PySem.F.entry_tuple_add (PySem.F.args_tuple_add_2 _ _)
   (tuple_addW0 a b _ _ n n2 dd dd2 sl sl2 (by simp)) ⟨ho,ho2,⟨.ref b,H,I,rfl,q⟩⟩
noncomputable def zcq (x y:D):M D:=match x,y with
 | .int i,.int j=>pure (.int (i+j))
 | .tup xs,.tup ys=>do fits (xs.length+ys.length);pure (.tup (xs++ys))
 | .lst xs,.lst ys=>do fits (xs.length+ys.length);pure (.lst (xs++ys))
 | .str x,.str y=>do fits (x.length+y.length);pure (.str (x++y))
 | _,_=>M.bad
theorem zar:OpR X (binaryOp .Add) (zda X.K E zcq):=by
 refine OpR.imp (zsx.or (znb.or (zqw.or (zr0.or zj3)))) fun x y H Q ⟨ι,h,d1,d2,r1,r2,hr,q⟩=> ?_
 unfold zcq at q
 split at q
 ·simp only [Rel] at r1 r2
  exact .inl ⟨_,_,r1,r2,Fin.out hr q _ (by simp [Rel])⟩
 ·rename_i xs ys
  right
  obtain ⟨a,vs,e,h1,h2⟩:=zcm r1
  obtain ⟨b,ws,e',h1',h2'⟩:=zcm r2
  obtain ⟨z,q⟩:=Fin.fits q
  cases xs with
  | nil=>
   simp only [zal] at h2
   subst h2
   exact .inl ⟨a,b,ws,e,e',h1,h1',Fin.out hr q _ (by rw [<- e'];exact r2)⟩
  | cons x0 xr=>
   refine .inr (.inl ⟨a,b,vs,ws,e,e',h1,h1',fun z=> ?_,by rw [<- h2.length, <-h2'.length];exact z,fun z=> ?_,fun z p hp=>zon hr (h2.append h2') q hp⟩)
   ·subst z
    have:=h2.length
    cases this
   ·subst z
    have:=h2'.length
    cases ys with
    | nil=>rw [List.append_nil] at q;exact Fin.out hr q _ (by rw [<- e];exact r1)
    | cons _ _=>cases this
 ·rename_i xs ys
  right;right;right;left
  simp only [Rel] at r1 r2
  obtain ⟨a,vs,e,h1,h2⟩:=r1
  obtain ⟨b,ws,e',h1',h2'⟩:=r2
  obtain ⟨z,q⟩:=Fin.fits q
  exact ⟨a,b,vs,ws,e,e',h1.1,h1'.1,by rw [<- h2.length, <-h2'.length];exact z,fun p hp=>zqc hr (h2.append h2') q hp⟩
 ·simp only [Rel] at r1 r2
  obtain ⟨z,q⟩:=Fin.fits q
  exact .inr (.inr (.inr (.inr ⟨_,_,r1,r2,z,Fin.out hr q _ (by simp [Rel])⟩)))
 ·exact qa0 q
noncomputable def dII (C:Int->Int->Bool) (g:Int->Int->D) (x y:D):M D:=match x,y with
 | .int i,.int j=>if C i j=true then pure (g i j) else M.bad
 | _,_=>M.bad
theorem zjY {f:Value->Value->Sem Value} {C:Int->Int->Bool} {C':Int->Int->Prop} {g:Int->Int->V} {g':Int->Int->D} (ho:OpR X f (rI C' g)) (hc: ∀ i j,C i j=true->C' i j) (hg: ∀ i j ι H,Rel X.K ι H (g' i j) (g i j)):OpR X f (zda X.K E (dII C g')):=by
 refine OpR.imp ho fun x y H Q ⟨ι,h,d1,d2,r1,r2,hr,q⟩=> ?_
 unfold dII at q
 split at q
 ·simp only [Rel] at r1 r2
  obtain ⟨c,q⟩:=Fin.guard q
  exact ⟨_,_,r1,r2,hc _ _ c,Fin.out hr q _ (hg _ _ _ _)⟩
 ·exact qa0 q
theorem zgU {f:Value->Value->Sem Value} {g:Int->Int->V} {g':Int->Int->D} (ho:OpR X f (rI0 g)) (hg: ∀ i j ι H,Rel X.K ι H (g' i j) (g i j)):OpR X f (zda X.K E (dII (fun _ _=>true) g')):=by
 refine OpR.imp ho fun x y H Q ⟨ι,h,d1,d2,r1,r2,hr,q⟩=> ?_
 unfold dII at q
 split at q
 ·simp only [Rel] at r1 r2
  obtain ⟨c,q⟩:=Fin.guard q
  exact ⟨_,_,r1,r2,Fin.out hr q _ (hg _ _ _ _)⟩
 ·exact qa0 q
noncomputable def ztb:=dII (fun _ _=>true) fun i j=> .int (i - j)
theorem zir:OpR X (binaryOp .Sub) (zda X.K E ztb):=zgU zrr fun _ _ _ _=>by simp [Rel]
noncomputable def zaU (i:Int):Bool:=decide (-(2^64)<i) && decide (i<2^64)
theorem zcB {i:Int} (h:zaU i=true): -(2^64)<i/\i<2^64:=by unfold zaU at h;simpa using h
theorem zmE:OpR X (binaryOp .FloorDiv) (rI (fun _ j=>0<j/\j<2^64) fun i j=> .int (i / j)):=opI fun i j _ _ _ _ _ hc q=>by
 refine floordiv_int (by omega) (by rw [Int.fdiv_eq_ediv_of_nonneg _ (by omega)];exact q) (.inl (PyProof.noPylong_of_log2 ?_))
 have h1:j.natAbs<2^64:=by omega
 have h0:j.natAbs≠0:=by omega
 exact Nat.lt_trans ((Nat.log2_lt h0).mpr h1) (by decide)
noncomputable def zp6:=dII (fun _ j=>decide (0<j) && decide (j<2^64)) fun i j=> .int (i / j)
theorem zm9:OpR X (binaryOp .FloorDiv) (zda X.K E zp6):=zjY zmE (fun i j h=>by simpa using h) fun _ _ _ _=>by simp [Rel]
noncomputable def zqP:=dII (fun _ j=>decide (0<j)) fun i j=> .int (i % j)
theorem zgk:OpR X (binaryOp .Mod) (zda X.K E zqP):=zjY zq1 (fun i j h=>by simpa using h) fun _ _ _ _=>by simp [Rel]
noncomputable def zqK (i j:Int):Bool:=decide (0<=j) && decide (j<=1000000) && decide (i.natAbs<2^64)
noncomputable def zor:=dII zqK fun i j=> .int (i^j.toNat)
theorem zi3 {i j:Int} (h:zqK i j=true):zth i j:=by unfold zqK at h;simpa [zth,and_assoc] using h
theorem zhR:OpR X (binaryOp .Pow) (zda X.K E zor):=zjY zsT (fun _ _=>zi3) fun _ _ _ _=>by simp [Rel]
noncomputable def zuX:=dII zqK fun i j=> .int (i*2^j.toNat)
theorem zqH:OpR X (binaryOp .LShift) (zda X.K E zuX):=zjY zrv (fun _ _=>zi3) fun _ _ _ _=>by simp [Rel]
noncomputable def zur:=dII (fun _ j=>decide (0<=j)) fun i j=> .int (i / 2^j.toNat)
theorem zqF:OpR X (binaryOp .RShift) (zda X.K E zur):=zjY zrS (fun i j h=>by simpa using h) fun _ _ _ _=>by simp [Rel]
noncomputable def zvB:=dII (fun _ _=>true) fun i j=> .int (Builtin.bitAnd i j)
noncomputable def dOr:=dII (fun _ _=>true) fun i j=> .int (Builtin.bitOr i j)
theorem zqT:OpR X (binaryOp .BitOr) (zda X.K E dOr):=zgU ztt fun _ _ _ _=>by simp [Rel]
noncomputable def dLt:=dII (fun _ _=>true) fun i j=> .bl (decide (i<j))
theorem ziA:OpR X (compareOp .Lt) (zda X.K E dLt):=zgU ztA fun _ _ _ _=>by simp [Rel]
noncomputable def dLe:=dII (fun _ _=>true) fun i j=> .bl (decide (i<=j))
theorem zoi:OpR X (compareOp .LtE) (zda X.K E dLe):=zgU ztu fun _ _ _ _=>by simp [Rel]
noncomputable def dGt:=dII (fun _ _=>true) fun i j=> .bl (decide (j<i))
noncomputable def dGe:=dII (fun _ _=>true) fun i j=> .bl (decide (j<=i))
theorem zoQ:OpR X (compareOp .GtE) (zda X.K E dGe):=zgU ztY fun _ _ _ _=>by simp [Rel]
noncomputable def zm3:D->M D
 | .int i=>pure (.int (-i))
 | _=>M.bad
theorem zq0 {a:Expr} {pos:Pos} {fa:Sd->M D} (ha:SE X E a fa):SE X E (.UnaryOp .USub a pos) (fun sd=>do let x<-fa sd;zm3 x):=by
 refine PE.imp (zsZ zoF ha) fun σ H Q ⟨ι,h,sd,L,hh,q⟩=>⟨ι,h,sd,L,hh,Fin.bind q fun d h1 ι1 H1 e1 s1 hr1 q1 v rv=> ?_⟩
 cases d with
 | int i=>simp only [Rel] at rv;exact ⟨i,rv,Fin.out hr1 q1 _ (by simp [Rel])⟩
 | _=>exact qa0 q1
mutual
noncomputable def pd:D->Option PyData
 | .non=>some .none
 | .bl b=>some (.bool b)
 | .int i=>some (.int i)
 | .str x=>some (.str x)
 | .tup xs=>(pdL xs).map .tuple
 | .lst xs=>(pdL xs).map .list
 | .scr xs=>(pdL xs).map .list
 | _=>none
noncomputable def pdL:List D->Option (List PyData)
 | []=>some []
 | x::xs=>match pd x,pdL xs with
  | some a,some r=>some (a::r)
  | _,_=>none
end
mutual
theorem zhf {pins:List (Addr×Obj)} {σ:L2.St} {H:Hp} {s:Shared} {ι:Io} (I:Inv X pins σ H s): ∀ {d:D} {v:V} {u:Value} {p:PyData},Rel X.K ι H d v->zbl v u->pd d=some p-> ∃ as,Reads s.heap u p as
 | .non,v,u,p,r,ru,e=>by simp only [Rel] at r;subst r;cases ru;cases e;exact ⟨_,.none⟩
 | .bl b,v,u,p,r,ru,e=>by simp only [Rel] at r;subst r;cases ru;cases e;exact ⟨_,.bool _⟩
 | .int i,v,u,p,r,ru,e=>by simp only [Rel] at r;subst r;obtain ⟨t,rfl⟩:=ru;cases e;exact ⟨_,.int _ _⟩
 | .str i,v,u,p,r,ru,e=>by simp only [Rel] at r;subst r;obtain ⟨t,rfl⟩:=ru;cases e;exact ⟨_,.str _ _⟩
 | .tup ds,v,u,p,r,ru,e=>by
  obtain ⟨a,vs,rfl,h1,h2⟩:=zcm r
  cases ru
  obtain ⟨its,rv,pl,_⟩:=I.tuple h1
  obtain ⟨o,ho,hc,n,hd⟩:=pl
  unfold pd at e
  cases z:pdL ds with
  | none=>rw [z] at e;cases e
  | some ps=>
   rw [z] at e;cases e
   obtain ⟨as,q⟩:=zhG I h2 rv z
   exact ⟨_,.tuple ho hc hd (by simpa using q)⟩
 | .lst ds,v,u,p,r,ru,e=>by
  obtain ⟨a,vs,rfl,h1,h2⟩:=zeg r
  cases ru
  obtain ⟨its,rv,pl,_⟩:=I.list h1
  obtain ⟨o,ho,hc,n,hd⟩:=pl.isList
  unfold pd at e
  cases z:pdL ds with
  | none=>rw [z] at e;cases e
  | some ps=>
   rw [z] at e;cases e
   obtain ⟨as,q⟩:=zhG I h2 rv z
   exact ⟨_,.list ho hc hd (by simpa using q)⟩
 | .scr ds,v,u,p,r,ru,e=>by
  obtain ⟨a,vs,rfl,h1,h2⟩:=zlf r
  cases ru
  obtain ⟨its,rv,pl,_⟩:=I.list h1
  obtain ⟨o,ho,hc,n,hd⟩:=pl.isList
  unfold pd at e
  cases z:pdL ds with
  | none=>rw [z] at e;cases e
  | some ps=>
   rw [z] at e;cases e
   obtain ⟨as,q⟩:=zhG I h2 rv z
   exact ⟨_,.list ho hc hd (by simpa using q)⟩
 | .cel n,_,_,_,_,_,e=>by cases e
 | .set xs,_,_,_,_,_,e=>by cases e
 | .dct,_,_,_,_,_,e=>by cases e
 | .fn _,_,_,_,_,_,e=>by cases e
 | .exn _,_,_,_,_,_,e=>by cases e
theorem zhG {pins:List (Addr×Obj)} {σ:L2.St} {H:Hp} {s:Shared} {ι:Io} (I:Inv X pins σ H s): ∀ {ds:List D} {vs:List V} {us:List Value} {ps:List PyData},zal X.K ι H ds vs->zaK vs us->pdL ds=some ps-> ∃ as,ReadsAll s.heap us ps as
 | [],vs,us,ps,r,ru,e=>by simp only [zal] at r;subst r;cases ru;cases e;exact ⟨_,.nil⟩
 | d::ds,vs,us,ps,r,ru,e=>by
  simp only [zal] at r
  obtain ⟨v,vr,rfl,r1,r2⟩:=r
  cases ru with
  | cons ru1 ru2=>
   unfold pdL at e
   cases z:pd d with
   | none=>rw [z] at e;cases e
   | some a=>
    cases z2:pdL ds with
    | none=>rw [z,z2] at e;cases e
    | some b=>
     rw [z,z2] at e
     cases e
     obtain ⟨as,q1⟩:=zhf I r1 ru1 z
     obtain ⟨bs,q2⟩:=zhG I r2 ru2 z2
     exact ⟨_,.cons q1 q2⟩
end
noncomputable def zh0 (a b:PyData):Bool:=a.canLay0 && b.canLay0 && decide (min a.depth b.depth<=60)
noncomputable def zke (neg:Bool) (x y:D):M D:=match pd x,pd y with
 | some a,some b=>if zh0 a b=true then pure (.bl (if neg then !PyData.eqv a b else PyData.eqv a b)) else M.bad
 | _,_=>M.bad
noncomputable def dEq:=zke false
noncomputable def dNe:=zke true
theorem zi8 {a b:PyData} (h:zh0 a b=true):a.canLay0=true/\b.canLay0=true/\min a.depth b.depth<=60:=by unfold zh0 at h;simpa [and_assoc] using h
theorem ziR {K:W.Frag} {ι:Io} {H:Hp} {h:Hh} {neg:Bool} {x y:D} {P:D->Io->Hp->Prop} (q:Fin K E ι H (zke neg x y h) P): ∃ a b,pd x=some a/\pd y=some b/\zh0 a b=true/\Fin K E ι H ((pure (.bl (if neg then !PyData.eqv a b else PyData.eqv a b)):M D) h) P:=by
 unfold zke at q
 cases e1:pd x with
 | none=>rw [e1] at q;exact qa0 q
 | some a=>
  cases e2:pd y with
  | none=>rw [e1,e2] at q;exact qa0 q
  | some b=>
   rw [e1,e2] at q
   obtain ⟨c,q⟩:=Fin.guard q
   exact ⟨a,b,rfl,rfl,c,q⟩
theorem zdd (hu:X.A.units+60<cLine):OpR X (compareOp .Eq) (zda X.K E dEq):=by
 intro pins s σ H x y v u Q I rx ry ⟨ι,h,d1,d2,r1,r2,hr,q⟩
 obtain ⟨a,b,e1,e2,c,q2⟩:=ziR q
 obtain ⟨c1,c2,c3⟩:=zi8 c
 obtain ⟨as,ra⟩:=zhf I r1 rx e1
 obtain ⟨bs,rb⟩:=zhf I r2 ry e2
 exact SeqAt.compareEq_reads ra rb c1 c2 (by omega) ⟨.bl _,H,I,rfl,Fin.out hr q2 (.bl _) (by simp [Rel])⟩
theorem zfF (hu:X.A.units+60<cLine):OpR X (compareOp .NotEq) (zda X.K E dNe):=by
 intro pins s σ H x y v u Q I rx ry ⟨ι,h,d1,d2,r1,r2,hr,q⟩
 obtain ⟨a,b,e1,e2,c,q2⟩:=ziR q
 obtain ⟨c1,c2,c3⟩:=zi8 c
 obtain ⟨as,ra⟩:=zhf I r1 rx e1
 obtain ⟨bs,rb⟩:=zhf I r2 ry e2
 exact SeqAt.compareNe_reads ra rb c1 c2 (by omega) ⟨.bl _,H,I,rfl,Fin.out hr q2 (.bl _) (by simp [Rel])⟩
noncomputable def znn (a:PyData) (xs:List PyData):Bool:=a.canLay0 && PyData.canLayAll0 xs && decide (min (PyData.depthAll xs) a.depth<=50)
theorem znH {a:PyData} {xs:List PyData} (h:znn a xs=true):a.canLay0=true/\PyData.canLayAll0 xs=true/\min (PyData.depthAll xs) a.depth<=50:=by unfold znn at h;simpa [and_assoc] using h
noncomputable def zpr (neg:Bool) (x c:D):M D:=match pd x,c with
 | some a,.tup ds=>match pdL ds with
  | some xs=>if znn a xs=true then pure (.bl (if neg then !xs.any (fun y=>PyData.eqv y a) else xs.any fun y=>PyData.eqv y a)) else M.bad
  | none=>M.bad
 | some a,.lst ds=>match pdL ds with
  | some xs=>if znn a xs=true then pure (.bl (if neg then !xs.any (fun y=>PyData.eqv y a) else xs.any fun y=>PyData.eqv y a)) else M.bad
  | none=>M.bad
 | _,_=>M.bad
noncomputable def dIn:=zpr false
theorem zmB {K:W.Frag} {ι:Io} {H:Hp} {h:Hh} {neg:Bool} {x c:D} {P:D->Io->Hp->Prop} (q:Fin K E ι H (zpr neg x c h) P): ∃ a ds xs,pd x=some a/\pdL ds=some xs/\(c= .tup ds\/c= .lst ds)/\znn a xs=true/\
  Fin K E ι H ((pure (.bl (if neg then !xs.any (fun y=>PyData.eqv y a) else xs.any fun y=>PyData.eqv y a)):M D) h) P:=by
 unfold zpr at q
 cases e1:pd x with
 | none=>rw [e1] at q;exact qa0 q
 | some a=>
  rw [e1] at q
  cases c with
  | tup ds=>
   dsimp only at q
   cases e2:pdL ds with
   | none=>rw [e2] at q;exact qa0 q
   | some xs=>
    rw [e2] at q
    obtain ⟨c,q⟩:=Fin.guard q
    exact ⟨a,ds,xs,rfl,e2,.inl rfl,c,q⟩
  | lst ds=>
   dsimp only at q
   cases e2:pdL ds with
   | none=>rw [e2] at q;exact qa0 q
   | some xs=>
    rw [e2] at q
    obtain ⟨c,q⟩:=Fin.guard q
    exact ⟨a,ds,xs,rfl,e2,.inr rfl,c,q⟩
  | _=>exact qa0 q
theorem zn8 (hu:X.A.units+60<cLine):OpR X (compareOp .In) (zda X.K E dIn):=by
 intro pins s σ H x y v u Q I rx ry ⟨ι,h,d1,d2,r1,r2,hr,q⟩
 obtain ⟨a,ds,xs,e1,e2,ec,c,q2⟩:=zmB q
 obtain ⟨c1,c2,c3⟩:=znH c
 obtain ⟨as,ra⟩:=zhf I r1 rx e1
 rcases ec with rfl | rfl
 ·obtain ⟨bs,rb⟩:=zhf I r2 ry (p:= .tuple xs) (by unfold pd;rw [e2];rfl)
  exact SeqAt.in_tuple_reads rb ra c2 c1 (by omega) ⟨.bl _,H,I,rfl,Fin.out hr q2 (.bl _) (by simp [Rel])⟩
 ·obtain ⟨bs,rb⟩:=zhf I r2 ry (p:= .list xs) (by unfold pd;rw [e2];rfl)
  exact SeqAt.in_list_reads rb ra c2 c1 (by omega) ⟨.bl _,H,I,rfl,Fin.out hr q2 (.bl _) (by simp [Rel])⟩
end
end L3
namespace HT
open PySem PySem.Spec PyProof.Rows L2
section
variable {prog:Program} {w:World} {A:Around} {E:Value->Shared->Prop} {s:Shared}
theorem zdo {t sl:Addr} {items:Array Value} {vl vu:Value} {lo hi:Option Int} {Q:Value->Shared->Prop} (ht:IsTup s.heap t items) (hs:s.heap.IsSliceOf sl vl vu .none) (pl:IsPart vl lo) (pu:IsPart vu hi)
  (hw:sIx items.size 0 lo=0/\sIx items.size items.size hi=items.size) (h:Q (.ref t) s):wpAny (model prog w) A (getItem (.ref t) (.ref sl)) Q E s:=by
 obtain ⟨os,hos,hcs,hds⟩:=id hs
 have hTs:s.TypeIs (.ref sl) "slice":=⟨os,hos,hcs⟩
 unfold getItem
 try with_reducible refine qaO ?_
 first | refine qaW (qaX ?_) | skip
 refine qaW (wpAny_sequenceKey ht.typeIs (by decide) ?_)
 refine qaW (wpAny_callSpecial?_slot (name:=Str.ofString "__getitem__") ht.typeIs PyProof.Rows.slot_tuple_getitem
   (wpAny_call_entry PyProof.Rows.slot_tuple_getitem ht.typeIs entry_tuple_getitem ?_ (args_tuple_getitem _ _)))
 show wpAny _ _ (Builtin.Tuple.tupleItemsOf (.ref t)>>=_) _ _ s
 refine qaW (tupleItemsOf_ ht ?_)
 refine qaW (wpAny_typeOf hTs ?_)
 rw [qa4 (by decide)]
 refine qaW (zcI hs pl pu ?_)
 show wpAny _ _ (if (((sIx items.size 0 lo:Nat):Int)==0 && (1:Int)==1 && (sIx items.size items.size hi - sIx items.size 0 lo)==items.size)=true then _ else _) _ _ s
 rw [hw.1,hw.2,qa4 (by simp)]
 refine qaW (m:=Builtin.Tuple.tupleIsExact _) (qaW (wpAny_typeOf ht.typeIs (qaX ?_)))
 rw [qa4 (by decide)]
 refine qaW (wpAny_rule ?_)
 exact qaX ⟨_,rfl,qaX h⟩
theorem zep {sl:Addr} {t:Tok} {n:Nat} {Q:Int×Int×Nat->Shared->Prop} (hs:s.heap.IsSliceOf sl .none .none (.int (-1) t))
  (h:Q ((n:Int) - 1, -1,n) s):wpAny (model prog w) A (Builtin.Slice.sliceApplied (.ref sl) (pure (n:Int))) Q E s:=by
 obtain ⟨os,hos,hcs,hds⟩:=id hs
 unfold Builtin.Slice.sliceApplied Builtin.Slice.sliceFields
 refine qaW (qaW (wpAny_field hos hds (x:= .none) rfl (qaW (wpAny_field hos hds (x:= .none) rfl (qaW (wpAny_field hos hds (x:= .int (-1) t) rfl (qaX ?_)))))))
 refine qaW (slicePart_int ?_)
 show wpAny _ _ (if ((-1:Int)==0)=true then _ else _) _ _ s
 rw [qa5 (by decide)]
 refine qaW (slicePart_none (qaW (slicePart_none (qaW (qaX ?_)))))
 show wpAny _ _ (pure ((n:Int) - 1,(-1:Int),Builtin.Slice.slicePlaces ((n:Int) - 1) (-1) (-1))) _ _ s
 have e:Builtin.Slice.slicePlaces ((n:Int) - 1) (-1) (-1)=n:=by
  unfold Builtin.Slice.slicePlaces
  rw [qa5 (by decide)]
  have:(-(-1):Int)=1:=by decide
  rw [this,Int.ediv_one]
  split<;>omega
 rw [e]
 exact qaX h
theorem zn3 (xs:Array Value):((List.range xs.size).filterMap fun (m:Nat)=>xs[((xs.size:Int) - 1+(m:Int)*(-1)).toNat]?).toArray=xs.toList.reverse.toArray:=by
 congr 1
 have e: ∀ n,n<=xs.size->(List.range n).filterMap (fun (m:Nat)=>xs[((xs.size:Int) - 1+(m:Int)*(-1)).toNat]?)=(xs.toList.reverse).take n:=by
  intro n
  induction n with
  | zero=>intro _;simp
  | succ n ih=>
   intro hn
   rw [List.range_succ,List.filterMap_append,ih (by omega),List.take_add_one]
   congr 1
   have e1:((xs.size:Int) - 1+(n:Int)*(-1)).toNat=xs.size - 1 - n:=by omega
   rw [qat,List.filterMap_nil,e1]
   have h1:xs.size - 1 - n<xs.size:=by omega
   rw [List.getElem?_reverse (by simp;omega)]
   simp [h1]
 rw [e _ (qaV _),List.take_of_length_le (by simp)]
theorem zd2 {t sl:Addr} {items:Array Value} {tk:Tok} {Q:Value->Shared->Prop} (ht:IsTup s.heap t items) (hs:s.heap.IsSliceOf sl .none .none (.int (-1) tk))
  (h:Q (.ref s.heap.objs.size) {s with heap:=s.heap.push {cls:= .type "tuple",data:= .seq items.toList.reverse.toArray}})
  (hsz:items.size<=sizeLine):wpAny (model prog w) A (getItem (.ref t) (.ref sl)) Q E s:=by
 have htake:sizeOk (.seq items.toList.reverse.toArray):=by
  show items.toList.reverse.toArray.size<=sizeLine
  simpa using hsz
 obtain ⟨os,hos,hcs,hds⟩:=id hs
 have hTs:s.TypeIs (.ref sl) "slice":=⟨os,hos,hcs⟩
 unfold getItem
 try with_reducible refine qaO ?_
 first | refine qaW (qaX ?_) | skip
 refine qaW (wpAny_sequenceKey ht.typeIs (by decide) ?_)
 refine qaW (wpAny_callSpecial?_slot (name:=Str.ofString "__getitem__") ht.typeIs PyProof.Rows.slot_tuple_getitem
   (wpAny_call_entry PyProof.Rows.slot_tuple_getitem ht.typeIs entry_tuple_getitem ?_ (args_tuple_getitem _ _)))
 show wpAny _ _ (Builtin.Tuple.tupleItemsOf (.ref t)>>=_) _ _ s
 refine qaW (tupleItemsOf_ ht ?_)
 refine qaW (wpAny_typeOf hTs ?_)
 rw [qa4 (by decide)]
 refine qaW (zep hs ?_)
 show wpAny _ _ (if ((((items.size:Int) - 1)==0 && (-1:Int)==1 && items.size==items.size)=true) then _ else _) _ _ s
 rw [qa5 (by simp),zn3]
 first
  | exact qaW (m:=Builtin.Tuple.tupleExact _) (qaC (qaX ⟨_,rfl,qaX h⟩) htake)
  | exact qaW (m:=Builtin.Tuple.tupleExact _) (qaC (qaW (qaX (qaX ⟨_,rfl,qaX h⟩))) htake)
  | exact qaW (qaW (m:=Builtin.Tuple.tupleExact _) (qaC (qaX (qaX ⟨_,rfl,qaX h⟩)) htake))
  | exact qaW (qaW (m:=Builtin.Tuple.tupleExact _) (qaC (qaX ⟨_,rfl,qaX h⟩) htake))
end
end HT
namespace L2
open PySem PySem.Spec PyProof.Rows
section
variable {X:Cx} {e:Expr} {te:TE} {pos p2:Pos}
theorem zo0:SlR X (fun x lo hi H Q=> ∃ a xs,x= .ref a/\SqT X.K H a xs/\(HT.sIx xs.length 0 lo=0/\HT.sIx xs.length xs.length hi=xs.length)/\Q (.ref a) H):=by
 intro pins s σ H x v vl vu lo hi sl Q I rx hs pl pu h
 obtain ⟨a,xs,rfl,hx,hw,q⟩:=h
 cases rx
 obtain ⟨its,r,ht,hz⟩:=I.tuple hx
 have hlen:its.toArray.size=xs.length:=by rw [qaA];exact r.length.symm
 refine ⟨"tuple",_,PyProof.Rows.slot_tuple_getitem.lookup,ht.typeIs,?_⟩
 exact HT.zdo ht hs pl pu (by rw [hlen];exact hw) ⟨.ref a,H,I,rfl,q⟩
theorem zsm {st:Expr} (he:PE X e te) (hst:PE X st (tC (.int (-1)))):PE X (.Subscript e (.Slice none none (some st) p2) pos) (fun σ H Q=>te σ H fun x H1=> ∃ a xs,x= .ref a/\SqT X.K H1 a xs/\ ∀ p,H1 p=none->Q (.ref p) (upd H1 p (.tup xs.reverse))):=by
 intro pins s σ H Q I h
 refine Subscript_ (thn (he pins s σ H _ I h) fun v s1 ⟨x,H1,I1,r1,q1⟩=> ?_)
 obtain ⟨a,xs,rfl,hx,q⟩:=q1
 cases r1
 refine wpAny_Slice ?_
 rw [evalPart_none]
 refine qaX (qaX ?_)
 rw [evalPart_some]
 refine thn (hst pins s1 σ H1 (fun z Hz=>z= .int (-1)/\Hz=H1) I1 ⟨rfl,rfl⟩) fun u s2 ⟨z,Hz,I2,rz,ez,eH⟩=> ?_
 subst ez eH
 obtain ⟨t,rfl⟩:=rz
 have I4:Inv X pins σ Hz {s2 with heap:=s2.heap.push {cls:= .type "slice",data:= .fields #[.none,.none,.int (-1) t]}}:=I2.kept (t':=s2.toks) fun b ob q=>qag _ q
 obtain ⟨its,r,ht,hz⟩:=I4.tuple hx
 have hlen:its.toArray.size=xs.length:=by rw [qaA];exact r.length.symm
 show wpAny (model X.prog X.w) X.A (subscriptTail e (.Slice none none (some st) p2) (.ref a) (.ref s2.heap.objs.size)) (EP X pins σ Q) X.xe {s2 with heap:=s2.heap.push {cls:= .type "slice",data:= .fields #[.none,.none,.int (-1) t]}}
 refine tail_any (ops:=[.ref a,.ref s2.heap.objs.size]) ht.typeIs PyProof.Rows.slot_tuple_getitem.lookup (HT.zd2 ht ⟨_,qar _ rfl,rfl,rfl⟩ ?_ (by rw [hlen];exact hz)) (by with_unfolding_all rfl)
 refine ⟨.ref _,_,I4.laid (t':=s2.toks) (o:= .tup xs.reverse) (fun b ob q=>qag _ q) (qaV _) ?_,rfl,q _ (I4.hok.fresh (qaV _))⟩
 refine ⟨by rw [List.length_reverse];exact hz,its.reverse,r.reverse,?_⟩
 exact IsTup.new _ _
theorem zeo:fillsNumberSlot (.type "tuple") "mul"=pure false:=
 PySem.fillsNumberSlot_seq (id:="tuple.__mul__") (r:=some (.builtin "tuple.__rmul__")) F.slot_tuple_mul.lookup (by decide +kernel) F.slot_tuple_rmul.lookup (by decide +kernel)
theorem zhL:seqRepeat? (.type "tuple")=pure (some (.builtin "tuple.__mul__")):=by
 unfold seqRepeat?
 rw [PySem.seqSlot_of (T:="tuple") (name:="__mul__") (id:="tuple.__mul__") F.slot_tuple_mul.lookup (by decide +kernel),PySem.seqSlot_of (T:="tuple") (name:="__rmul__") (id:="tuple.__rmul__") F.slot_tuple_rmul.lookup (by decide +kernel)]
 rfl
theorem zfe (k:Int) (t:Tok) (l:Addr) (items:Array Value) (n:Nat) (dd:Option Addr) (sl:Array (Option Value)):
  Meets (Builtin.«int.__rmul__» ⟨[.int k t,.ref l],[]⟩) (fun _ R s=>s.heap.get? l=some {cls:= .type "tuple",dict:=dd,data:= .seq items n,slots:=sl}/\R (.ok (.ret Value.notImplemented)) s):=
 .of_wp fun prog w A R s h=>by obtain ⟨hp,g,d,tk,os⟩:=s;obtain ⟨hl,h⟩:=h;wp_walk;exact ⟨_,rfl,h⟩
theorem zl1 (k:Int) (t:Tok) (l:Addr) (items:Array Value) (n:Nat) (dd:Option Addr) (sl:Array (Option Value)) (hne:items.isEmpty=false) (hk:2<=k) (hk2:k<1000) (hz:items.size*k.toNat<=sizeLine):
  Meets (Builtin.«tuple.__mul__» ⟨[.ref l,.int k t],[]⟩) (fun _ R s=>s.heap.get? l=some {cls:= .type "tuple",dict:=dd,data:= .seq items n,slots:=sl}/\
    R (.ok (.ret (.ref s.heap.objs.size))) {s with heap:=s.heap.push {cls:= .type "tuple",data:= .seq ((List.replicate k.toNat items).foldl (· ++ ·) #[])}}):=
 .of_wp fun prog w A R s h=>by
  obtain ⟨hp,g,d,tk,os⟩:=s;obtain ⟨hl,h⟩:=h
  unfold Builtin.«tuple.__mul__» 
  wp_walk
  have hk63: ¬(decide (k< -2^63) || decide (k>=2^63))=true:=by
   rw [Bool.or_eq_true,qaD,qaD]
   omega
  rw [qa5 hk63]
  dsimp only
  have ht:IsTup hp l items:=⟨_,hl,rfl,_,rfl⟩
  refine qaW (tupleItemsOf_ ht ?_)
  have h1: ¬(items.isEmpty || k==1)=true:=by
   rw [hne,Bool.false_or,beq_iff_eq]
   omega
  rw [qa5 h1]
  have h2: ¬(decide (k<=0) || items.isEmpty)=true:=by
   rw [hne,Bool.or_false,qaD]
   omega
  rw [qa5 h2]
  have hk0:((k.toNat:Nat):Int)=k:=Int.toNat_of_nonneg (by omega)
  have hm:((items.size:Nat):Int)*k=((items.size*k.toNat:Nat):Int):=by rw [Int.natCast_mul,hk0]
  have hsl:(sizeLine:Nat)=16777216:=by decide
  have h3: ¬((items.size:Int)*k>(2^63 - 1) / 8):=by
   rw [hm]
   omega
  rw [qa5 h3]
  have h4: ¬Builtin.Tuple.tupleTooMany ((items.size:Int)*k)=true:=by
   unfold Builtin.Tuple.tupleTooMany
   rw [hm,qaD]
   omega
  rw [qa5 h4]
  have hsz:sizeOk (.seq (List.foldl (fun x1 x2=>x1++x2) #[] (List.replicate k.toNat items))):=by
   show (List.foldl (fun x1 x2=>x1++x2) #[] (List.replicate k.toNat items)).size<=sizeLine
   have e: ∀ (m:Nat) (acc:Array Value),(List.foldl (fun x1 x2=>x1++x2) acc (List.replicate m items)).size=acc.size+m*items.size:=by
    intro m
    induction m with
    | zero=>intro acc;simp
    | succ m ih=>intro acc;rw [List.replicate_succ,List.foldl_cons,ih,Array.size_append,Nat.succ_mul];omega
   rw [e,Nat.mul_comm]
   simpa using hz
  exact qaW (m:=Builtin.Tuple.tupleExact _) (qaC (qaX ⟨_,rfl,h⟩) hsz)
theorem zpM:OpR X (binaryOp .Mult) (fun x y H Q=> ∃ a k xs,x= .ref a/\y= .int k/\SqT X.K H a xs/\xs≠[]/\2<=k/\k<1000/\xs.length*k.toNat<=sizeLine/\ ∀ p,H p=none->Q (.ref p) (upd H p (.tup (List.replicate k.toNat xs).flatten))):=by
 intro pins s σ H x y v u Q I rx ry h
 obtain ⟨a,k,xs,rfl,rfl,hx,hne,h1,h2,hz,q⟩:=h
 cases rx
 obtain ⟨t,rfl⟩:=ry
 obtain ⟨its,r,ht,_⟩:=I.tuple hx
 have hl:=r.length
 obtain ⟨⟨cls,dd,data,sl⟩,ho,hc,n,hd⟩:=id ht
 simp only at hc hd
 subst hc hd
 have hemp:its.toArray.isEmpty=false:=by
  cases its with
  | nil=>cases r;exact absurd rfl hne
  | cons _ _=>simp
 refine wpAny_binaryOp_repeat_ref (T:="tuple") (U:="int") (by decide) ⟨_,ho,rfl⟩ (fun s'=>typeIs_int s' k t) zeo F.fills_int_mul F.slot_int_rmul zhL F.slot_int_index.lookup
  (call_meets F.slot_int_rmul (typeIs_int s k t) F.entry_int_rmul (F.args_int_rmul_2 _ _) (zfe k t a its.toArray n dd sl)
    ⟨ho,rfl,⟨_,ho,rfl⟩,call_meets F.slot_tuple_mul ⟨_,ho,rfl⟩ F.entry_tuple_mul (F.args_tuple_mul_2 _ _) (zl1 k t a its.toArray n dd sl hemp h1 h2 (by rw [qaA, <-hl];exact hz)) ⟨ho,?_⟩⟩)
 have hnew:List.foldl (fun x1 x2=>x1++x2) #[] (List.replicate k.toNat its.toArray)=(List.replicate k.toNat its).flatten.toArray:=by
  have:=zgK its k.toNat []
  rw [List.nil_append] at this
  exact this
 rw [hnew]
 refine ⟨.ref _,_,I.laid (t':=s.toks) (o:= .tup (List.replicate k.toNat xs).flatten) (fun b ob q=>qag _ q) (qaV _) ?_,rfl,q _ (I.hok.fresh (qaV _))⟩
 exact ⟨by rw [zp7,Nat.mul_comm];exact hz,_,r.rep k.toNat,IsTup.new _ _⟩
end
end L2
namespace LT
open PySem PySem.Spec PyProof.Rows
noncomputable abbrev Up (xs:Array Nat):Prop:=xs.toList.Pairwise (· < ·)
theorem Up.lt {xs:Array Nat} (h:Up xs) {i j:Nat} {a b:Nat} (hi:xs[i]? = some a) (hj:xs[j]? = some b) (hij:i<j):a<b:=by
 have hi':xs.toList[i]? = some a:=by simpa using hi
 have hj':xs.toList[j]? = some b:=by simpa using hj
 obtain ⟨h1,e1⟩:=qac.mp hi'
 obtain ⟨h2,e2⟩:=qac.mp hj'
 have:=List.pairwise_iff_getElem.mp h i j h1 h2 hij
 rw [e1,e2] at this
 exact this
theorem zgs {xs:Array Nat} (h:Up xs) (j:Nat): ∀ (fuel lo hi:Nat),hi - lo<=fuel->lo<=hi->hi<=xs.size->(∀ i a,i<lo->xs[i]? = some a->a<j)->(∀ i a,hi<=i->xs[i]? = some a->j<=a)->
  let r:=SetTable.below.go xs j fuel lo hi
  r<=xs.size/\(∀ i a,i<r->xs[i]? = some a->a<j)/\(∀ i a,r<=i->xs[i]? = some a->j<=a)
 | 0,lo,hi,hf,hl,hs,h1,h2=>by
  have e:lo=hi:=by omega
  subst e
  exact ⟨hs,h1,h2⟩
 | fuel+1,lo,hi,hf,hl,hs,h1,h2=>by
  unfold SetTable.below.go
  by_cases hlt:lo<hi
  ·rw [qa4 hlt]
   have hm:(lo+hi) / 2<xs.size:=by omega
   have em:xs[(lo+hi) / 2]? = some xs[(lo+hi) / 2]:=by simp [hm]
   have eg:xs.getD ((lo+hi) / 2) j=xs[(lo+hi) / 2]:=by simp [Array.getD,hm]
   dsimp only
   by_cases hc:xs.getD ((lo+hi) / 2) j<j
   ·rw [qa4 hc]
    refine zgs h j fuel _ hi (by omega) (by omega) hs (fun i a hi' e=> ?_) h2
    rw [eg] at hc
    by_cases z:i=(lo+hi) / 2
    ·subst z;rw [em] at e;cases e;exact hc
    ·exact Nat.lt_trans (h.lt e em (by omega)) hc
   ·rw [qa5 hc]
    refine zgs h j fuel lo _ (by omega) (by omega) (by omega) h1 fun i a hi' e=> ?_
    rw [eg] at hc
    by_cases z:i=(lo+hi) / 2
    ·subst z;rw [em] at e;cases e;omega
    ·have:=h.lt em e (by omega)
     omega
  ·rw [qa5 hlt]
   have e:lo=hi:=by omega
   subst e
   exact ⟨hs,h1,h2⟩
theorem zgm {xs:Array Nat} (h:Up xs) (j:Nat):SetTable.below xs j<=xs.size/\(∀ i a,i<SetTable.below xs j->xs[i]? = some a->a<j)/\(∀ i a,SetTable.below xs j<=i->xs[i]? = some a->j<=a):=
 zgs h j xs.size 0 xs.size (by omega) (Nat.zero_le _) (qaV _) (fun _ _ z=>absurd z (Nat.not_lt_zero _)) fun i a z e=>by
  have:=(qab.mp e).1
  omega
theorem zfy {xs:Array Nat} (h:Up xs) {k a:Nat} (e:xs[k]? = some a):SetTable.below xs (a+1)=k+1:=by
 obtain ⟨h1,h2,h3⟩:=zgm h (a+1)
 by_cases c:SetTable.below xs (a+1)<=k
 ·have:=h3 k a c e
  omega
 ·by_cases c2:k+1<SetTable.below xs (a+1)
  ·have hl:k+1<xs.size:=by omega
   have e2:xs[k+1]? = some xs[k+1]:=by simp [hl]
   have a1:=h2 (k+1) _ c2 e2
   have a2:=h.lt e e2 (by omega)
   omega
  ·omega
theorem zfu {xs:Array Nat} (h:Up xs):SetTable.below xs 0=0:=by
 obtain ⟨h1,h2,h3⟩:=zgm h 0
 by_cases c:SetTable.below xs 0=0
 ·exact c
 ·have hl:0<xs.size:=by omega
  exact absurd (h2 0 _ (by omega) (show xs[0]? = some xs[0] by simp [hl])) (Nat.not_lt_zero _)
theorem zml {xs:Array Nat} (h:Up xs) {j:Nat} (hn:xs[SetTable.below xs j]? ≠ some j):Up (SetTable.insertAt xs (SetTable.below xs j) j):=by
 obtain ⟨h1,h2,h3⟩:=zgm h j
 show (SetTable.insertAt xs (SetTable.below xs j) j).toList.Pairwise (· < ·)
 rw [SetTable.toList_insertAt]
 rw [qaq]
 have hsplit:xs.toList.take (SetTable.below xs j)++xs.toList.drop (SetTable.below xs j)=xs.toList:=qam ..
 have hp:(xs.toList.take (SetTable.below xs j)++xs.toList.drop (SetTable.below xs j)).Pairwise (· < ·):=by rw [hsplit];exact h
 obtain ⟨p1,p2,p3⟩:=qaq.mp hp
 have tk: ∀ a∈xs.toList.take (SetTable.below xs j),a<j:=fun a ha=>by
  obtain ⟨i,hi⟩:=List.mem_iff_getElem?.mp ha
  rw [List.getElem?_take] at hi
  split at hi
  ·rename_i hlt
   exact h2 i a hlt (by simpa using hi)
  ·cases hi
 have dr: ∀ a∈xs.toList.drop (SetTable.below xs j),j<a:=fun a ha=>by
  obtain ⟨i,hi⟩:=List.mem_iff_getElem?.mp ha
  rw [List.getElem?_drop] at hi
  have hi':xs[SetTable.below xs j+i]? = some a:=by simpa using hi
  have a1:=h3 _ a (by omega) hi'
  rcases Nat.lt_or_eq_of_le a1 with z | z
  ·exact z
  ·subst z
   exfalso
   cases i with
   | zero=>exact hn hi'
   | succ i=>
    have hl:=(qab.mp hi').1
    have e0:xs[SetTable.below xs j]? = some xs[SetTable.below xs j]:=by
     have:SetTable.below xs j<xs.size:=by omega
     simp [this]
    have b1:=h3 _ _ (qaV _) e0
    have b2:=h.lt e0 hi' (by omega)
    omega
 refine ⟨p1,qay.mpr ⟨dr,p2⟩,fun a ha b hb=> ?_⟩
 rcases qaP.mp hb with z | z
 ·rw [z];exact tk a ha
 ·exact p3 a ha b z
structure zim (t:SetTable) (led:Bool):Prop where
 up:Up t.place
 nod:t.dummies= #[]
 led:t.led=led
theorem ziJ {j:Nat}:SetTable.has #[] j=false:=by
 unfold SetTable.has
 simp
theorem zlY {t:SetTable} {led:Bool} (g:zim t led) {j:Nat} (h:t.slot j= .empty):t.place[SetTable.below t.place j]? ≠ some j:=fun e=>by
 unfold SetTable.slot at h
 dsimp only at h
 rw [e] at h
 simp at h
theorem ziB {t:SetTable} {led:Bool} (g:zim t led) (f:Nat->Int) (h:Int): ∀ (fuel:Nat) (p:SetTable.Probe) (j:Nat) (d:Option Nat),p.dummy=none->SetTable.probe.go t f h fuel p=some (.empty j d)->t.slot j= .empty/\d=none
 | 0,_,_,_,_,e=>by cases e
 | fuel+1,p,j,d,hp,e=>by
  unfold SetTable.probe.go at e
  have adv: ∀ q:SetTable.Probe,q.dummy=none->(t.advance q).dummy=none:=fun q hq=>by
   unfold SetTable.advance
   split<;>exact hq
  split at e
  ·rename_i hs
   cases e
   exact ⟨hs,hp⟩
  ·rename_i hs
   exfalso
   unfold SetTable.slot at hs
   dsimp only at hs
   rw [g.nod,ziJ] at hs
   split at hs<;>simp at hs
  ·split at e
   ·cases e
   ·exact ziB g f h fuel _ j d (adv p hp) e
theorem zgb {t:SetTable} {led:Bool} (g:zim t led) {h:Int} {j:Nat} {b:Bool} (e:t.freeSlot h=some (j,b)):t.place[SetTable.below t.place j]? ≠ some j:=by
 unfold SetTable.freeSlot at e
 split at e
 ·rename_i j' d' hpr
  obtain ⟨h1,h2⟩:=ziB g _ _ _ _ _ _ rfl hpr
  subst h2
  cases e
  exact zlY g h1
 ·cases e
theorem znr (n:Nat):Up (Array.range n):=by
 show (Array.range n).toList.Pairwise (· < ·)
 rw [Array.toList_range]
 exact List.pairwise_lt_range
theorem zbZ {t:SetTable} {led:Bool} (g:zim t led) (n:Nat):zim (t.standIn n) led:=⟨znr n,rfl,g.led⟩
theorem zii {t:SetTable} {led:Bool} (g:zim t led) (es:Array (Int×Value)) (h:Int) (x:Value):zim (layNew t es h x).2.1 led:=by
 unfold layNew
 split
 ·rename_i slot wasDummy e
  have g2:zim (t.put slot).1 led:=by
   refine ⟨zml g.up (zgb g e),?_,g.led⟩
   show (if SetTable.has t.dummies slot then _ else t.dummies)= #[]
   rw [g.nod,ziJ]
   rfl
  show zim ((t.put slot).1.orStandIn _) led
  unfold SetTable.orStandIn
  split
  ·exact g2
  ·exact zbZ g2 _
 ·exact zbZ g _
theorem zlI {mask finger moves:Nat} {led plain:Bool} {hs:Array Int} {t:SetTable} {o:Array Nat} (e:SetTable.laid mask finger moves led plain hs=some (t,o)):zim t led:=by
 unfold SetTable.laid at e
 cases z:SetTable.layClean mask hs with
 | none=>rw [z] at e;cases e
 | some owner=>
  rw [z] at e
  have e:some (({mask,place:=(((List.range (mask+1)).filterMap fun j=>(owner.getD j none).map (j, ·)).map (·.1)).toArray,dummies:= #[],finger,led,moves,plain}:SetTable),_)=some (t,o):=e
  cases e
  refine ⟨?_,rfl,rfl⟩
  show (((List.range (mask+1)).filterMap fun j=>(owner.getD j none).map (j, ·)).map (·.1)).toArray.toList.Pairwise (· < ·)
  rw [List.toList_toArray,List.map_filterMap]
  have sub:List.Sublist ((List.range (mask+1)).filterMap fun j=>((owner.getD j none).map (j, ·)).map (·.1)) (List.range (mask+1)):=by
   generalize List.range (mask+1)=l
   induction l with
   | nil=>exact .slnil
   | cons a r ih=>
    rw [qat]
    cases q:owner.getD a none with
    | none=>exact ih.cons a
    | some v=>exact ih.cons₂ a
  exact List.pairwise_lt_range.sublist sub
theorem zf4 {t:SetTable} {led:Bool} (g:zim t led) (es:Array (Int×Value)) (wanted:Nat):zim (relayAll t es wanted).2.1 led:=by
 unfold relayAll
 split
 ·rename_i t' order e
  have g2:zim t' t.led:=zlI e
  rw [g.led] at g2
  dsimp only
  split
  ·exact g2
  ·exact zbZ g _
 ·exact zbZ g _
noncomputable def zcv (w:World):Bool:= !w.params.followText "set-order"
def zgB (prog:Program) (w:World) (h:Heap) (a:Addr) (S:Int->Bool) (n:Nat):Prop:=
 ∃ ob es ep tb,(h.get? a=some ob/\ob.ExactSet/\ob.data= .set es ep tb)/\ElemsOf (intKind prog w) es.toList/\(∀ k,S k=true↔ ∃ e∈es.toList,(intKind prog w).is k e.2=true)/\
  (es.size<scanBound/\tb.fits es.size=true/\es.size=n)/\zim tb (zcv w)
theorem zgB.move {prog:Program} {w:World} {h h':Heap} {a:Addr} {S S':Int->Bool} {n n':Nat} (g:zgB prog w h a S n) (k: ∀ ob,h.get? a=some ob->h'.get? a=some ob) (e: ∀ k,S k=S' k) (en:n=n'):zgB prog w h' a S' n':=by
 obtain ⟨ob,es,ep,tb,⟨h1,h2,h3⟩,h4,h5,⟨h6,h7,h8⟩,h9⟩:=g
 exact ⟨ob,es,ep,tb,⟨k ob h1,h2,h3⟩,h4,fun z=>by rw [<- e z];exact h5 z,⟨h6,h7,h8.trans en⟩,h9⟩
section
variable {prog:Program} {w:World} {A:Around} {E:Value->Shared->Prop} {s:Shared}
theorem stored {a:Addr} {ob:Obj} {es es':Array (Int×Value)} {ep:Nat} {tb tb':SetTable} {S:Int->Bool} {R:Unit->Shared->Prop} (ho:s.heap.get? a=some ob) (hx:ob.ExactSet) (hd:ob.data= .set es ep tb)
  (hE:ElemsOf (intKind prog w) es'.toList) (hS: ∀ k,S k=true↔ ∃ e∈es'.toList,(intKind prog w).is k e.2=true) (hb:es'.size<scanBound) (hf:tb'.fits es'.size=true) (hg:zim tb' (zcv w))
  (q: ∀ h',Heap.SameBut a s.heap h'->h'.get? a=some {ob with data:= .set es' (ep+1) tb'}->zgB prog w h' a S es'.size->R () {s with heap:=h'}):wpAny (model prog w) A (storeSet a es' tb') R E s:=by
 have put:=putSet_of es' tb' hd
 have at1:(s.heap.update a (Obj.putSet es' tb')).get? a=some {ob with data:= .set es' (ep+1) tb'}:=by
  have z:=qal (Obj.putSet es' tb') ho (by rw [put];rfl)
  rwa [put] at z
 exact wpAny_storeSet_of ho hd (q _ (Heap.SameBut.update ..) at1 ⟨_,es',ep+1,tb',⟨at1,hx,rfl⟩,hE,hS,⟨hb,hf,rfl⟩,hg⟩) (fits_of_scanBound hb)
theorem zvb {a:Addr} {S:Int->Bool} {n:Nat} {k:Int} {t:Tok} {Q:Bool->Shared->Prop} (g:zgB prog w s.heap a S n) (room:n+1<scanBound)
  (q: ∀ h' b,Heap.SameBut a s.heap h'->zgB prog w h' a (fun z=>S z || decide (z=k)) (if S k then n else n+1)->Q b {s with heap:=h'}):
  wpAny (model prog w) A (setAddHashed a (.int k t) ((intKind prog w).hash k)) Q E s:=by
 have kis:(intKind prog w).is k (.int k t)=true:=intKind_is _ _ _ _
 obtain ⟨ob,es,ep,tb,⟨h1,h2,h3⟩,h4,h5,⟨h6,h7,h8⟩,h9⟩:=g
 have scn:(Value.int k t).scannable=true:=rfl
 unfold setAddHashed setAddHashedIn
 refine qaO (qaW (wpAny_setState_of h1 h3 h7 ?_))
 dsimp only
 rw [qa4 (byScan_of scn h6 h4)]
 refine qaW ?_
 unfold setAddByScan
 refine qaW (wpAny_rule (qaW (wpAny_setScan_of kis h1 h3 h7 h4 ?_)))
 cases fi:List.findIdx? (fun e=>(intKind prog w).is k e.2) es.toList with
 | some j=>
  obtain ⟨lj,pj,_⟩:=List.findIdx?_eq_some_iff_getElem.mp fi
  have inS:S k=true:=(h5 k).mpr ⟨_,List.getElem_mem lj,pj⟩
  refine qaX (qaX ?_)
  have z:=q s.heap false (Heap.SameBut.refl ..) ⟨ob,es,ep,tb,⟨h1,h2,h3⟩,h4,fun y=> ?_,⟨h6,h7,by rw [inS];exact h8⟩,h9⟩
  ·exact z
  ·rw [<- h5 y,Bool.or_eq_true,qaD]
   exact ⟨fun c=>c.elim id fun c=>by rw [c];exact inS,.inl⟩
 | none=>
  have noS:S k=false:=by
   rw [<- Bool.not_eq_true,h5 k]
   rintro ⟨e,he,pe⟩
   have:=List.findIdx?_eq_none_iff.mp fi e he
   rw [pe] at this
   cases this
  have L1:=layNew_perm tb es ((intKind prog w).hash k) (.int k t)
  have L2:=layNew_fits tb es ((intKind prog w).hash k) (.int k t)
  have L3:=zii h9 es ((intKind prog w).hash k) (.int k t)
  generalize hl:layNew tb es ((intKind prog w).hash k) (.int k t)=ln at L1 L2 L3 ⊢
  obtain ⟨es1,tb1,wd,gv⟩:=ln
  dsimp only at L1 L2 L3 ⊢
  rw [Array.toList_push] at L1
  have E1:ElemsOf (intKind prog w) es1.toList:=(h4.push kis scn).perm L1
  have M1: ∀ y,(S y || decide (y=k))=true↔ ∃ e∈es1.toList,(intKind prog w).is y e.2=true:=mem_push_iff kis h5 L1
  have Z1:es1.size=n+1:=by
   have z:=L1.length_eq
   rw [qav,qas,qas] at z
   rw [z,h8];rfl
  have B1:es1.size<scanBound:=by rw [Z1];exact room
  have quiet: ∀ (b:Bool) (s1:Shared) (R:Unit->Shared->Prop),R () s1->wpAny (model prog w) A (match b with | true=>rule "set.scan.the-table-gave-way" | false=>pure ()) R E s1:=fun b s1 R z=>by
   cases b
   ·exact qaX z
   ·exact wpAny_rule z
  have fin: ∀ (s1:Shared) (h':Heap),s1={s with heap:=h'}->Heap.SameBut a s.heap h'->zgB prog w h' a (fun y=>S y || decide (y=k)) es1.size->Q true s1:=fun s1 h' e1 sb gg=>by
   subst e1
   have z:=q h' true sb
   rw [noS] at z
   exact z (by rw [Z1] at gg;exact gg)
  refine qaW (quiet _ _ _ ?_)
  have tail: ∀ (gw:Bool->Sem Unit),(∀ (b:Bool) (s1:Shared) (R:Unit->Shared->Prop),R () s1->wpAny (model prog w) A (gw b) R E s1)->wpAny (model prog w) A (do
      storeSet a es1 tb1
      if (!wd && tb1.tooFull)=true then do
        gw (relayAll tb1 es1 (SetTable.grown es1.size)).2.2
        storeSet a (relayAll tb1 es1 (SetTable.grown es1.size)).1 (relayAll tb1 es1 (SetTable.grown es1.size)).2.1
        pure (some true)
      else pure (some true)) (fun r s'=>wpAny (model prog w) A (match r with | some b=>pure b | none=>setAddHashedIn a (.int k t) ((intKind prog w).hash k) 99999) Q E s') E s:=by
   intro gw hgw
   refine qaW (stored h1 h2 h3 E1 M1 B1 L2 L3 fun h' sb at1 gg=> ?_)
   by_cases full:(!wd && tb1.tooFull)=true
   ·rw [qa4 full]
    have P2:=relayAll_perm tb1 es1 (SetTable.grown es1.size)
    have F2:=relayAll_fits tb1 es1 (SetTable.grown es1.size)
    have G2:=zf4 L3 es1 (SetTable.grown es1.size)
    generalize relayAll tb1 es1 (SetTable.grown es1.size)=rl at P2 F2 G2 ⊢
    obtain ⟨es2,tb2,gv2⟩:=rl
    dsimp only at P2 F2 G2 ⊢
    have Z2:es2.size=es1.size:=by
     have z:=P2.length_eq
     rwa [qas,qas] at z
    refine qaW (hgw _ _ _ (qaW (stored (s:={s with heap:=h'}) (S:=fun y=>S y || decide (y=k)) at1 h2 rfl (E1.perm P2) (fun y=>(M1 y).trans ?_) (by rw [Z2];exact B1) F2 G2 fun h'' sb2 _ gg2=> ?_)))
    ·exact ⟨fun ⟨e,he,pe⟩=>⟨e,P2.mem_iff.mpr he,pe⟩,fun ⟨e,he,pe⟩=>⟨e,P2.mem_iff.mp he,pe⟩⟩
    ·exact qaX (qaX (fin _ h'' rfl (sb.trans sb2) (by rw [Z2] at gg2;exact gg2)))
   ·rw [qa5 full]
    exact qaX (qaX (fin _ h' rfl sb gg))
  split
  ·rw [hashByValue_scannable 8 scn]
   refine qaW (qaX ?_)
   exact tail _ fun b s1 R z=>by cases b<;>first | exact qaX z | exact wpAny_rule z
  ·refine qaW (qaX ?_)
   exact tail _ fun b s1 R z=>by cases b<;>first | exact qaX z | exact wpAny_rule z
end
section
variable {prog:Program} {w:World} {A:Around} {R:Result->Shared->Prop} {it:Addr} {fp wr:List Addr} {G:Array GenState->Array GenState->Prop} {n:Nat} {P:Nat->Value->Prop} {St:Nat->Shared->Prop}
theorem zu8 (W:WalksS prog w A.in1 it fp wr G n P St) (a:Addr) (ha:a∉fp) (val:Nat->Int) (hval: ∀ i v,P i v-> ∃ t,v= .int (val i) t) (room:n+1<scanBound):
  ∀ (left i:Nat) (s:Shared),n - i=left->i<=n->St i s->zgB prog w s.heap a (fun z=>(firstMet val i).any (· == z)) (firstMet val i).length->
   (∀ s',Moved (a::wr) G s s'->zgB prog w s'.heap a (fun z=>(firstMet val n).any (· == z)) (firstMet val n).length->R (.ok (.ret .none)) s')->
   codeAny (model prog w) A (.builtin "set.update.loop" ⟨[.ref a,.ref it],[]⟩) R s:=by
 have awr:a∉wr:=fun z=>ha (W.sub _ z)
 have more: ∀ b∈wr,b∈a::wr:=fun b z=> .tail _ z
 intro left
 induction left with
 | zero=>
  intro i s hleft hin st g q
  obtain rfl:i=n:=by omega
  refine codeAny_builtin F.entry_set_update_loop ?_
  rw [qap F.plain_set_update_loop _]
  show wpAny _ _ (pyNext (.ref it)>>=_) _ _ _
  refine qaW (W.done s _ _ st fun s' mv=> ?_)
  exact qaX (q s' (mv.mono more) (g.move (fun ob e=>mv.heap a ob awr e) (fun _=>rfl) rfl))
 | succ left ih=>
  intro i s hleft hin st g q
  have hi:i<n:=by omega
  refine codeAny_builtin F.entry_set_update_loop ?_
  rw [qap F.plain_set_update_loop _]
  show wpAny _ _ (pyNext (.ref it)>>=_) _ _ _
  refine qaW (W.item i s _ _ hi st fun v s1 pv st1 mv=> ?_)
  obtain ⟨t,rfl⟩:=hval i v pv
  have g1:zgB prog w s1.heap a (fun z=>(firstMet val i).any (· == z)) (firstMet val i).length:=g.move (fun ob e=>mv.heap a ob awr e) (fun _=>rfl) rfl
  show wpAny _ _ (holding [Value.int (val i) t] (setAdd a (.int (val i) t))>>=_) _ _ _
  refine qaW (qaO ?_)
  unfold setAdd
  refine qaO (qaW ((intKind prog w).pyHash (k:=val i) (intKind_is _ _ _ _) ?_))
  have few:=firstMet_length_le val i
  refine zvb (s:={s1 with toks:=s1.toks+1}) g1 (by omega) fun h2 b sb g2=> ?_
  have g3:zgB prog w h2 a (fun z=>(firstMet val (i+1)).any (· == z)) (firstMet val (i+1)).length:=
   g2.move (fun _ e=>e) (fun z=>by rw [firstMet_succ,step_any]) (by rw [firstMet_succ,step_length])
  have off: ∀ b,b≠a->h2.get? b=s1.heap.get? b:=fun b hb=>sb.2 b hb
  refine qaX ⟨plainId_quiet F.plain_set_update_loop _,ih (i+1) _ (by omega) hi (W.frame _ s1 _ _ st1 (Nat.le_succ _) fun b hb ob e=> ?_) g3 fun s3 mv3 g4=> ?_⟩
  ·rw [off b fun z=>ha (z▸hb)]
   exact e
  ·refine q s3 (.trans W.gtrans ((mv.mono more).then_heap (Nat.le_succ _) fun b ob hb e=> ?_) mv3) g4
   rw [off b fun z=>hb (z▸ .head _)]
   exact e
end
section
variable {prog:Program} {w:World} {A:Around} {E:Value->Shared->Prop} {s:Shared}
theorem zoN (h:Heap):zgB prog w (h.push {cls:= .type "set",dict:=none,data:= .set #[] 0 (.fresh 0 0 (zcv w))}) h.objs.size (fun _=>false) 0:=
 ⟨_, #[],0,_,⟨qar _ rfl,⟨rfl,rfl,rfl⟩,rfl⟩,fun e he=>by simp at he,fun k=>by simp,⟨by decide,rfl,rfl⟩,⟨List.Pairwise.nil,rfl,rfl⟩⟩
theorem zvs (x:Value) {Q:Value->Shared->Prop} (q:Q (.ref s.heap.objs.size) {s with heap:=s.heap.push {cls:= .type "set",dict:=none,data:= .set #[] 0 (.fresh 0 0 (zcv w))}}):
  codeAny (model prog w) A (.call (.builtin "set.__new__") ⟨[.type "set",x],[]⟩) (wants Q E) s:=by
 refine codeAny_of_tree ?_
 show wpAny _ _ (do checkBuiltinCall "set.__new__" ⟨[.type "set",x],[]⟩;again (.builtin "set.__new__" ⟨[.type "set",x],[]⟩)) _ _ _
 refine qaW (wpAny_of_eq (F.newCall_set_1 x) (qaX ⟨plainId_quiet F.plain_set_new _,codeAny_builtin F.entry_set_new ?_⟩))
 rw [qap F.plain_set_new _]
 unfold Builtin.«set.__new__» Builtin.Frozenset.newClass
 have self:=sub_set_self
 obtain ⟨hp,gs,dr,tk,os⟩:=s
 dsimp only
 wp_walk
 refine wpAny_askSetting (qaX ?_)
 dsimp only
 simp only [newObj]
 exact qaW (wpAny_alloc (qaX (qaX q)))
theorem zu7 {l:Addr} {T:String} {items:Array Value} {ns:List Int} {Q:Value->Shared->Prop} (hh:A.handled=none) (hT:(T="list"/\s.heap.IsList l items)\/(T="tuple"/\s.heap.IsTuple l items)) (hi:IntsAre items.toList ns) (room:items.size+1<scanBound)
  (q: ∀ (h':Heap) (tk:Nat),zgB prog w h' s.heap.objs.size (fun z=>(firstMet (fun i=>ns.getD i 0) items.size).any (· == z)) (firstMet (fun i=>ns.getD i 0) items.size).length->(∀ b ob,s.heap.get? b=some ob->h'.get? b=some ob)->
    Q (.ref s.heap.objs.size) {s with heap:=h',toks:=tk}):wpAny (model prog w) A (call (.type "set") [.ref l]) Q E s:=by
 obtain ⟨c,tl,hmro⟩:=F.called_set.mro
 have hmade:=F.called_set.made
 have hsub:=F.called_set.sub
 refine wpAny_call (codeAny_of_tree ?_)
 show wpAny _ _ (callAny (.type "set") _) _ _ _
 refine qaX ⟨Code.quiet_builtin _ (by decide +kernel),codeAny_builtin F.entry_type_call ?_⟩
 rw [Around.under_plain (weight_type_call_type "set" [.ref l] []) rfl]
 have hnt:=F.called_set.notType
 have hcc:=F.called_set.canCreate
 have htc:=F.typeCall_set_1 (.ref l)
 repeat' (first | assumption | wp_step)
 refine codeAny_mono (zvs (.ref l) (E:=E) (Q:=fun v s1=>v= .ref s.heap.objs.size/\s1={s with heap:=s.heap.push {cls:= .type "set",dict:=none,data:= .set #[] 0 (.fresh 0 0 (zcv w))}}) ⟨rfl,rfl⟩) fun r s1 hr=> ?_
 cases r with
 | error e=>exact hr
 | ok fl=>
  cases fl with
  | ret v=>
   obtain ⟨rfl,rfl⟩:=hr
   have laid:(s.heap.push {cls:= .type "set",dict:=none,data:= .set #[] 0 (.fresh 0 0 (zcv w))}).get? s.heap.objs.size=some {cls:= .type "set",dict:=none,data:= .set #[] 0 (.fresh 0 0 (zcv w))}:=qar _ rfl
   have isSet:Shared.TypeIs {s with heap:=s.heap.push {cls:= .type "set",dict:=none,data:= .set #[] 0 (.fresh 0 0 (zcv w))}} (.ref s.heap.objs.size) "set":=⟨_,laid,rfl⟩
   have hli:=F.called_set.init.lookup
   have hbi:=F.called_set.init.bind (.ref s.heap.objs.size)
   repeat' (first | assumption | wp_step)
   refine codeAny_mono (codeAny_call_builtin (R:=wants (fun z s2=>z= .none/\ ∃ h' tk,s2={s with heap:=h',toks:=tk}/\
       zgB prog w h' s.heap.objs.size (fun z=>(firstMet (fun i=>ns.getD i 0) items.size).any (· == z)) (firstMet (fun i=>ns.getD i 0) items.size).length/\(∀ b ob,s.heap.get? b=some ob->h'.get? b=some ob)) E) F.called_set.init.plain F.entry_set_init (check_set_init_1 isSet ?_)) fun r2 s2 hr2=> ?_
   ·have keepL: ∀ ob,s.heap.get? l=some ob->(s.heap.push {cls:= .type "set",dict:=none,data:= .set #[] 0 (.fresh 0 0 (zcv w))}).get? l=some ob:=fun ob e=>qag _ e
    have hval: ∀ (i:Nat) (v:Value),items[i]? = some v-> ∃ t,v= .int ((fun i=>ns.getD i 0) i) t:=fun i v hv=>IntsAre.int_at hi i v (by rw [qaj];exact hv)
    have hh3:A.in1.in1.in1.handled=none:=by simp [hh]
    have done1: ∀ (l0:Addr) (h0:Heap) (s':Shared),l0=s.heap.objs.size->Moved [l0,(s.heap.push {cls:= .type "set",dict:=none,data:= .set #[] 0 (.fresh 0 0 (zcv w))}).objs.size] (fun a b=>b=a) {s with heap:=h0} s'->(∀ b ob,s.heap.get? b=some ob->h0.get? b=some ob)->
      (∀ b ob,s.heap.get? b=some ob->s'.heap.get? b=some ob)/\s'={s with heap:=s'.heap,toks:=s'.toks}:=fun l0 h0 s' e0 mv k0=>by
     refine ⟨fun b ob e=>mv.heap b ob (fun z=> ?_) (k0 b ob e),?_⟩
     ·have lt:=qaQ e
      rw [qaL,e0] at z
      simp only [qaP,qaF,or_false] at z
      rcases z with z | z
      ·exact qaN _ (z▸lt)
      ·exact qaN _ (Nat.lt_of_succ_lt (z▸lt))
     ·obtain ⟨h',g',d',tk',os'⟩:=s'
      have eg:g'=s.gens:=mv.gens
      have ed:d'=s.drawn:=mv.drawn
      have eo:os'=s.os:=mv.os
      subst eg ed eo
      rfl
    unfold Builtin.«set.__init__» noKeywords Builtin.Frozenset.updateFrom
    generalize hPI:pyIter=PI
    rcases hT with ⟨rfl,hl⟩ | ⟨rfl,hl⟩
    ·obtain ⟨⟨ocl,odi,oda,osl⟩,hol,hcl,nl,hdl⟩:=hl
     simp only at hcl hdl
     subst hcl hdl
     have hol':=keepL _ hol
     have f1:=F.sub_list_set
     have f2:=F.sub_list_frozenset
     have f3:(Value.type "list"==Value.type "dict")=false:=by decide
     wp_walk
     subst hPI
     have hl1:(s.heap.push {cls:= .type "set",dict:=none,data:= .set #[] 0 (.fresh 0 0 (zcv w))}).IsList l items:=⟨_,hol',rfl,nl,rfl⟩
     refine wpAny_pyIter_list hl1 ?_
     refine qaW (wpAny_runValue ?_)
     have ltl:l<s.heap.objs.size:=qaQ hol
     have szp:(s.heap.push {cls:= .type "set",dict:=none,data:= .set #[] 0 (.fresh 0 0 (zcv w))}).objs.size=s.heap.objs.size+1:=qaL ..
     have ne1:l≠(s.heap.push {cls:= .type "set",dict:=none,data:= .set #[] 0 (.fresh 0 0 (zcv w))}).objs.size:=by rw [szp];exact qaR (Nat.lt_succ_of_lt ltl)
     have ne2:s.heap.objs.size∉[(s.heap.push {cls:= .type "set",dict:=none,data:= .set #[] 0 (.fresh 0 0 (zcv w))}).objs.size,l]:=by
      rw [szp]
      simp only [qaP,qaF,or_false]
      rintro (z | z)
      ·exact Nat.succ_ne_self _ z.symm
      ·exact qaN _ (z▸ltl)
     refine zu8 ((Walks.list hh3 _ l ne1 items).toS) s.heap.objs.size ne2 (fun i=>ns.getD i 0) hval room _ 0 _ rfl (Nat.zero_le _) ⟨⟨_,qar _ rfl,rfl,rfl⟩,hl1.push _⟩ ?g0 fun s' mv gg=> ?_
     case g0=>exact (zoN s.heap).move (fun ob e=>qag _ e) (fun _=>rfl) rfl
     obtain ⟨k1,k2⟩:=done1 _ _ s' rfl mv fun b ob e=>qag _ (qag _ e)
     exact qaX (qaX ⟨rfl,s'.heap,s'.toks,k2,gg,k1⟩)
    ·obtain ⟨⟨ocl,odi,oda,osl⟩,hol,hcl,nl,hdl⟩:=hl
     simp only at hcl hdl
     subst hcl hdl
     have hol':=keepL _ hol
     have f1:=F.sub_tuple_set
     have f2:=F.sub_tuple_frozenset
     have f3:(Value.type "tuple"==Value.type "dict")=false:=by decide
     wp_walk
     subst hPI
     have hl1:(s.heap.push {cls:= .type "set",dict:=none,data:= .set #[] 0 (.fresh 0 0 (zcv w))}).IsTuple l items:=⟨_,hol',rfl,nl,rfl⟩
     refine wpAny_pyIter_tuple hl1 ?_
     refine qaW (wpAny_runValue ?_)
     have ltl:l<s.heap.objs.size:=qaQ hol
     have szp:(s.heap.push {cls:= .type "set",dict:=none,data:= .set #[] 0 (.fresh 0 0 (zcv w))}).objs.size=s.heap.objs.size+1:=qaL ..
     have ne1:l≠(s.heap.push {cls:= .type "set",dict:=none,data:= .set #[] 0 (.fresh 0 0 (zcv w))}).objs.size:=by rw [szp];exact qaR (Nat.lt_succ_of_lt ltl)
     have ne2:s.heap.objs.size∉[(s.heap.push {cls:= .type "set",dict:=none,data:= .set #[] 0 (.fresh 0 0 (zcv w))}).objs.size,l]:=by
      rw [szp]
      simp only [qaP,qaF,or_false]
      rintro (z | z)
      ·exact Nat.succ_ne_self _ z.symm
      ·exact qaN _ (z▸ltl)
     refine zu8 ((Walks.tuple hh3 _ l ne1 items).toS) s.heap.objs.size ne2 (fun i=>ns.getD i 0) hval room _ 0 _ rfl (Nat.zero_le _) ⟨⟨_,qar _ rfl,rfl,rfl⟩,⟨_,qag _ hol',rfl,nl,rfl⟩⟩ ?g0 fun s' mv gg=> ?_
     case g0=>exact (zoN s.heap).move (fun ob e=>qag _ e) (fun _=>rfl) rfl
     obtain ⟨k1,k2⟩:=done1 _ _ s' rfl mv fun b ob e=>qag _ (qag _ e)
     exact qaX (qaX ⟨rfl,s'.heap,s'.toks,k2,gg,k1⟩)
   ·cases r2 with
    | error e=>exact hr2
    | ok fl2=>
     cases fl2 with
     | ret z=>
      obtain ⟨rfl,h',tk,rfl,gg,k1⟩:=hr2
      repeat' (first | assumption | wp_step)
      exact q _ _ gg k1
     | _=>exact hr2.elim
  | _=>exact hr.elim
end
theorem zaB:Slot "set_iterator" "__next__" "set_iterator.__next__":= .of (owner:="set_iterator") (n:="__next__") (by rw [typeLookup_type,builtinLookup_eq_fast];kernel_rfl) (by decide +kernel) (by decide +kernel) (by decide +kernel) (by first | exact .inl (by decide +kernel) | exact .inr (by decide +kernel)) (by rw [isSubtype_type];kernel_rfl)
theorem zdL:Slot "set_iterator" "__iter__" "set_iterator.__iter__":= .of (owner:="set_iterator") (n:="__iter__") (by rw [typeLookup_type,builtinLookup_eq_fast];kernel_rfl) (by decide +kernel) (by decide +kernel) (by decide +kernel) (by first | exact .inl (by decide +kernel) | exact .inr (by decide +kernel)) (by rw [isSubtype_type];kernel_rfl)
theorem zb6:entryFor table "set_iterator.__next__"=some Builtin.«set_iterator.__next__» := entryFor_of_tree (by kernel_rfl)
theorem zfg:entryFor table "set_iterator.__iter__"=some Builtin.«dict_keyiterator.__iter__» := entryFor_alias (id':="dict_keyiterator.__iter__") (by kernel_rfl) rfl (by decide +kernel) (by kernel_rfl)
theorem zcC (a:Value):argsOk "set_iterator.__next__" ⟨[a],[]⟩:=by unfold argsOk;kernel_rfl
theorem zgA (a:Value):argsOk "set_iterator.__iter__" ⟨[a],[]⟩:=by unfold argsOk;kernel_rfl
theorem zfh:entryFor table "set.__iter__"=some Builtin.«frozenset.__iter__» := entryFor_alias (id':="frozenset.__iter__") (by kernel_rfl) rfl (by decide +kernel) (by kernel_rfl)
def SIt (h:Heap) (it a:Addr) (first:Value) (i n ep:Nat):Prop:=h.get? it=some {cls:= .type "set_iterator",dict:=none,data:= .fields #[first,.int i 0,.ref a,.int n 0,.int ep 0],slots:= #[]}
structure ziS (h:Heap) (a:Addr) (es:Array (Int×Value)) (ep:Nat) (tb:SetTable):Prop where
 at_: ∃ ob,h.get? a=some ob/\ob.ExactSet/\ob.data= .set es ep tb
 fits:tb.fits es.size=true
section
variable {prog:Program} {w:World} {A:Around} {E:Value->Shared->Prop} {s:Shared}
theorem zkK {it a:Addr} {first:Value} {i n ep:Nat} {es:Array (Int×Value)} {tb:SetTable} {Q:Option Value->Shared->Prop} (hI:SIt s.heap it a first i n ep) (hS:ziS s.heap a es ep tb) (hn:es.size=n) (slot:Nat) (hf:first= .int slot 0)
  (q:wpAny (model prog w) A.in1 (do
    match<-setNext a slot i ep with
    | some (x,next)=>
      setField (.ref it) 0 (rawInt next)
      setField (.ref it) 1 (rawInt ((i:Int)+1))
      ret x
    | none=>setField (.ref it) 2 .none;raiseNew (<- newExc (.type "StopIteration") [])) (fun f s'=> ∃ v,f= .done (.ret v)/\Q (some v) s') (fun e s'=>wpAny (model prog w) A (do if<-isInstance e (.type "StopIteration") then pure none else throw e) Q E s') s):
  wpAny (model prog w) A (pyNext (.ref it)) Q E s:=by
 obtain ⟨ob,ho,hx,hd⟩:=hS.at_
 subst hf
 have tI:s.TypeIs (.ref it) "set_iterator":=⟨_,hI,rfl⟩
 unfold pyNext
 refine qaW (wpAny_attempt (wpAny_callSpecial?_slot (name:=Str.ofString "__next__") tI zaB (wpAny_call_entry zaB tI zb6 ?_ (zcC _))))
 unfold Builtin.«set_iterator.__next__»
 refine qaW (m:=slotArgs "__next__" 0 _) (qaX ?_)
 refine qaW (m:=fieldsOf (.ref it)) ?_
 unfold fieldsOf
 refine qaW (wpAny_load hI (qaX ?_))
 refine qaW (wpAny_setEntries_of ho hd hS.fits ?_)
 have same: ¬(((es.size:Nat):Int) != (n:Int))=true:=by rw [hn];simp
 rw [qa5 same]
 exact qaZ q (fun f s' ⟨v,e,z⟩=>⟨v,e,qaX z⟩) fun e s' z=>z
theorem zkL {it:Addr} {r:Shared->Prop} {Q:Option Value->Shared->Prop} (hh:A.handled=none) (q: ∀ h',(∀ b ob,s.heap.get? b=some ob->h'.get? b=some ob)->Q none {s with heap:=h'}):
  wpAny (model prog w) A.in1 (do raiseNew (<- newExc (.type "StopIteration") []):Sem PySem.Fin) (fun f s'=> ∃ v,f= .done (.ret v)/\Q (some v) s') (fun e s'=>wpAny (model prog w) A (do if<-isInstance e (.type "StopIteration") then pure none else throw e) Q E s') s:=by
 refine qaW ?_
 simp only [newExc,newTuple]
 refine qaW (qaC ?_ (by size_fits))
 refine qaW (m:=firstArgMember _ _) (wpAny_of_eq (a:=Value.none) (by first | rfl | (simp only [firstArgMember];rfl)) ?_)
 refine qaC ?_ (by size_fits)
 simp only [raiseNew]
 refine qaW (wpAny_handled ?_)
 rw [show A.in1.handled=none from hh]
 refine qaW (qaX (wpAny_throw ?_))
 refine qaW (wpAny_isInstance (T:="StopIteration") (b:=true) ⟨_,qar _ rfl,rfl⟩ isSubtype_stop ?_)
 exact qaX (q _ fun b ob e=>qag _ (qag _ e))
theorem SIt.set {h h':Heap} {it a:Addr} {first:Value} {i n ep:Nat} (x:SIt h it a first i n ep):it<h.objs.size:=qaQ x
theorem zfJ {es:Array (Int×Value)} {tb:SetTable} (hf:tb.fits es.size=true):tb.place.size=es.size:=by
 unfold SetTable.fits at hf
 simp only [qaG,beq_iff_eq] at hf
 exact hf.1
theorem zdy {a:Addr} {ep i slot:Nat} {es:Array (Int×Value)} {tb:SetTable} {R:Option (Value×Nat)->Shared->Prop} (hS:ziS s.heap a es ep tb) (led:tb.led=true) (bt:w.params.followText "set-order"=false) (pl:(!tb.plain && decide (es.size>1))=false)
  (q:R (match es[SetTable.below tb.place slot]?, tb.place[SetTable.below tb.place slot]? with | some (_,x),some j=>some (x,j+1) | _,_=>none) s):wpAny (model prog w) A (setNext a slot i ep) R E s:=by
 obtain ⟨ob,ho,hx,hd⟩:=hS.at_
 unfold setNext
 refine qaW (wpAny_setState_of ho hd hS.fits ?_)
 dsimp only
 unfold setsByText
 refine qaW (qaW (wpAny_askSetting (qaX ?_)))
 dsimp only
 rw [show (model prog w).w.params.followText "set-order"=false from bt]
 simp only [qax,if_false]
 show wpAny _ _ (if (!tb.plain && decide (es.size>1))=true then _ else _) _ _ _
 rw [qa5 (by rw [pl];exact Bool.false_ne_true)]
 refine qaW ?_
 show wpAny _ _ (if (!tb.led && !es.isEmpty)=true then _ else _) _ _ _
 rw [qa5 (by rw [led];exact Bool.false_ne_true)]
 exact qaX (qaX q)
theorem zef {a:Addr} {ep i slot:Nat} {es:Array (Int×Value)} {tb:SetTable} {R:Option (Value×Nat)->Shared->Prop} (hS:ziS s.heap a es ep tb) (bt:w.params.followText "set-order"=true)
  (q:R (((pickOrder (w.params.setOrder a ep) es)[i]?).map fun e=>(e.2,slot)) s):wpAny (model prog w) A (setNext a slot i ep) R E s:=by
 obtain ⟨ob,ho,hx,hd⟩:=hS.at_
 unfold setNext
 refine qaW (wpAny_setState_of ho hd hS.fits ?_)
 dsimp only
 unfold setsByText
 refine qaW (qaW (wpAny_askSetting (qaX ?_)))
 dsimp only
 rw [show (model prog w).w.params.followText "set-order"=true from bt]
 simp only [if_true]
 rw [qa5 (by simp)]
 refine qaW ?_
 unfold setWalk
 refine qaW (wpAny_setState_of ho hd hS.fits ?_)
 dsimp only
 unfold setsByText
 refine qaW (qaW (wpAny_askSetting (qaX ?_)))
 dsimp only
 rw [show (model prog w).w.params.followText "set-order"=true from bt]
 simp only [if_true]
 refine qaW (wpAny_askSetting (qaX (qaX q)))
theorem zk5 {it a:Addr} {n ep i slot nx:Nat} {x:Value} {es:Array (Int×Value)} {tb:SetTable} {Q:Option Value->Shared->Prop} (hI:SIt s.heap it a (.int slot 0) i n ep) (hS:ziS s.heap a es ep tb) (hn:es.size=n)
  (st: ∀ (R:Option (Value×Nat)->Shared->Prop) (E':Value->Shared->Prop),R (some (x,nx)) s->wpAny (model prog w) A.in1 (setNext a slot i ep) R E' s)
  (q: ∀ h',SIt h' it a (.int nx 0) (i+1) n ep->Heap.SameBut it s.heap h'->Q (some x) {s with heap:=h'}):wpAny (model prog w) A (pyNext (.ref it)) Q E s:=by
 refine zkK hI hS hn slot rfl (qaW (st _ _ ?_))
 dsimp only
 refine qaW (wpAny_setField_rec hI (by simp) fun h1 a1 sb1=> ?_)
 refine qaW (wpAny_setField_rec (s:={s with heap:=h1}) a1 (by simp) fun h2 a2 sb2=> ?_)
 refine qaX ⟨x,rfl,q h2 ?_ (sb1.trans sb2)⟩
 unfold SIt
 rw [a2]
 simp [rawInt]
theorem zoJ {it a:Addr} {n ep i slot:Nat} {es:Array (Int×Value)} {tb:SetTable} {Q:Option Value->Shared->Prop} (hh:A.handled=none) (hI:SIt s.heap it a (.int slot 0) i n ep) (hS:ziS s.heap a es ep tb) (hn:es.size=n)
  (st: ∀ (R:Option (Value×Nat)->Shared->Prop) (E':Value->Shared->Prop),R none s->wpAny (model prog w) A.in1 (setNext a slot i ep) R E' s)
  (q: ∀ h',(∀ b ob,b≠it->s.heap.get? b=some ob->h'.get? b=some ob)->Q none {s with heap:=h'}):wpAny (model prog w) A (pyNext (.ref it)) Q E s:=by
 refine zkK hI hS hn slot rfl (qaW (st _ _ ?_))
 dsimp only
 refine qaW (wpAny_setField_rec hI (by simp) fun h1 a1 sb1=> ?_)
 exact zkL (r:=fun _=>True) (it:=it) (s:={s with heap:=h1}) hh fun h' k=>q h' fun b ob hb e=>k b ob ((sb1.2 b hb).trans e)
end
theorem zc4 {α:Type}: ∀ {l:List α} {i:Nat} {x:α},l[i]? = some x->List.Perm l (x::l.eraseIdx i)
 | [],_,_,e=>by simp at e
 | a::r,0,x,e=>by simp at e;subst e;exact .rfl
 | a::r,i+1,x,e=>by
  have e:r[i]? = some x:=by simpa using e
  exact ((zc4 e).cons a).trans (.swap x a _)
theorem zel {α:Type} {l:List α} {i:Nat} {x:α} (e:l[i]? = some x):(l.eraseIdx i).length+1=l.length:=by
 have:=(zc4 e).length_eq
 rw [qaE] at this
 exact this.symm
theorem zg5 {α:Type} (nx:Nat->Nat): ∀ (fuel k:Nat) (left:List α) (out:Array α),left.length=fuel->List.Perm (pickOrder.go nx fuel k left out).toList (out.toList++left)
 | 0,k,left,out,h=>by
  have:left=[]:=List.length_eq_zero_iff.mp h
  subst this
  simp [pickOrder.go]
 | fuel+1,k,left,out,h=>by
  unfold pickOrder.go
  have hl:nx k % left.length<left.length:=Nat.mod_lt _ (by omega)
  have e:left[nx k % left.length]? = some left[nx k % left.length]:=by simp [hl]
  rw [e]
  dsimp only
  have hz:=zel e
  refine (zg5 nx fuel (k+1) _ _ (by omega)).trans ?_
  rw [Array.toList_push,List.append_assoc]
  exact List.Perm.append_left _ (zc4 e).symm
theorem zb5 {α:Type} (nx:Nat->Nat) (xs:Array α):List.Perm (pickOrder nx xs).toList xs.toList:=by
 have:=zg5 nx xs.size 0 xs.toList #[] (by simp)
 simpa [pickOrder] using this
section
variable {prog:Program} {w:World} {A:Around} {E:Value->Shared->Prop} {s:Shared}
theorem zjr {src:Source} {n:Nat} {Q:Nat->Shared->Prop} (hn:n≠0) (q: ∀ k d,k<n->Q k {s with drawn:=d}):wpAny (model prog w) A (choose src n) Q E s:=fun Γ p hΓ=>⟨hn,q _ _ (Nat.mod_lt _ (Nat.pos_of_ne_zero hn))⟩
theorem zei {α:Type}: ∀ (fuel:Nat) (xs:List α) (s:Shared) (Q:List α->Shared->Prop),xs.length<=fuel->(∀ ys d,List.Perm ys xs->Q ys {s with drawn:=d})->wpAny (model prog w) A (drawOrder fuel xs) Q E s
 | 0,xs,s,Q,h,q=>by
  have:xs=[]:=List.length_eq_zero_iff.mp (by omega)
  subst this
  unfold drawOrder
  exact qaX (q [] s.drawn .rfl)
 | fuel+1,[],s,Q,h,q=>by
  unfold drawOrder
  exact qaX (q [] s.drawn .rfl)
 | fuel+1,x::r,s,Q,h,q=>by
  unfold drawOrder
  refine qaW (zjr (by simp) fun k d hk=> ?_)
  have e:(x::r)[k]? = some (x::r)[k]:=by simp [hk]
  rw [e]
  dsimp only
  have hz:=zel e
  refine qaW (zei fuel ((x::r).eraseIdx k) {s with drawn:=d} _ (by omega) fun ys d' p=>qaX ?_)
  exact q _ d' ((p.cons _).trans (zc4 e).symm)
theorem zjN {it a tp:Addr} {n ep i p:Nat} {x:Value} {es:Array (Int×Value)} {tb:SetTable} {ps:Array Value} {Q:Option Value->Shared->Prop} (hI:SIt s.heap it a (.ref tp) i n ep) (hS:ziS s.heap a es ep tb) (hn:es.size=n)
  (hT:s.heap.get? tp=some {cls:= .type "tuple",data:= .seq ps}) (hp:ps[i]? = some (.int (p:Nat) 0)) (he:(es[p]?).map (·.2)=some x)
  (q: ∀ h',SIt h' it a (.ref tp) (i+1) n ep->Heap.SameBut it s.heap h'->Q (some x) {s with heap:=h'}):wpAny (model prog w) A (pyNext (.ref it)) Q E s:=by
 obtain ⟨ob,ho,hx,hd⟩:=hS.at_
 have tI:s.TypeIs (.ref it) "set_iterator":=⟨_,hI,rfl⟩
 unfold pyNext
 refine qaW (wpAny_attempt (wpAny_callSpecial?_slot (name:=Str.ofString "__next__") tI zaB (wpAny_call_entry zaB tI zb6 ?_ (zcC _))))
 unfold Builtin.«set_iterator.__next__»
 refine qaW (m:=slotArgs "__next__" 0 _) (qaX ?_)
 refine qaW (m:=fieldsOf (.ref it)) ?_
 unfold fieldsOf
 refine qaW (wpAny_load hI (qaX ?_))
 refine qaW (wpAny_setEntries_of ho hd hS.fits ?_)
 have same: ¬(((es.size:Nat):Int) != (n:Int))=true:=by rw [hn];simp
 rw [qa5 same]
 refine qaW (m:=seqItems? (.ref tp)) ?_
 unfold seqItems?
 refine qaW (wpAny_load hT (qaX ?_))
 dsimp only
 rw [show ((i:Nat):Int).toNat=i from qaB i,hp]
 dsimp only
 refine qaW (m:=setNextDrawn a _ _) ?_
 unfold setNextDrawn
 refine qaW (wpAny_setState_of ho hd hS.fits ?_)
 dsimp only
 rw [show ((ep:Nat):Int).toNat=ep from qaB ep,show ((p:Nat):Int).toNat=p from qaB p,qa5 (by simp)]
 cases ee:es[p]? with
 | none=>rw [ee] at he;cases he
 | some e=>
  rw [ee] at he
  cases he
  dsimp only
  refine qaX ?_
  refine qaW (wpAny_setField_rec hI (by simp) fun h2 a2 sb2=> ?_)
  refine qaX ⟨_,rfl,qaX (q h2 ?_ sb2)⟩
  unfold SIt
  rw [a2]
  simp [rawInt]
theorem zlX {it a tp:Addr} {n ep i:Nat} {es:Array (Int×Value)} {tb:SetTable} {ps:Array Value} {Q:Option Value->Shared->Prop} (hh:A.handled=none) (hI:SIt s.heap it a (.ref tp) i n ep) (hS:ziS s.heap a es ep tb) (hn:es.size=n)
  (hT:s.heap.get? tp=some {cls:= .type "tuple",data:= .seq ps}) (hp:ps[i]? = none)
  (q: ∀ h',(∀ b ob,b≠it->s.heap.get? b=some ob->h'.get? b=some ob)->Q none {s with heap:=h'}):wpAny (model prog w) A (pyNext (.ref it)) Q E s:=by
 obtain ⟨ob,ho,hx,hd⟩:=hS.at_
 have tI:s.TypeIs (.ref it) "set_iterator":=⟨_,hI,rfl⟩
 unfold pyNext
 refine qaW (wpAny_attempt (wpAny_callSpecial?_slot (name:=Str.ofString "__next__") tI zaB (wpAny_call_entry zaB tI zb6 ?_ (zcC _))))
 unfold Builtin.«set_iterator.__next__»
 refine qaW (m:=slotArgs "__next__" 0 _) (qaX ?_)
 refine qaW (m:=fieldsOf (.ref it)) ?_
 unfold fieldsOf
 refine qaW (wpAny_load hI (qaX ?_))
 refine qaW (wpAny_setEntries_of ho hd hS.fits ?_)
 have same: ¬(((es.size:Nat):Int) != (n:Int))=true:=by rw [hn];simp
 rw [qa5 same]
 refine qaW (m:=seqItems? (.ref tp)) ?_
 unfold seqItems?
 refine qaW (wpAny_load hT (qaX ?_))
 dsimp only
 rw [show ((i:Nat):Int).toNat=i from qaB i,hp]
 dsimp only
 refine qaW (wpAny_setField_rec hI (by simp) fun h1 a1 sb1=> ?_)
 refine qaW (wpAny_setField_rec (s:={s with heap:=h1}) a1 (by simp) fun h2 a2 sb2=> ?_)
 refine qaZ (zkL (Q:=Q) (E:=E) (r:=fun _=>True) (it:=it) (s:={s with heap:=h2}) hh fun h' k=>q h' fun b ob hb e=>k b ob ((sb2.2 b hb).trans ((sb1.2 b hb).trans e))) (fun f s' ⟨v,e,z⟩=>⟨v,e,qaX z⟩) fun e s' z=>z
theorem zeD {it a:Addr} {first:Value} {i n ep:Nat} {Q:Value->Shared->Prop} (hI:SIt s.heap it a first i n ep) (q:Q (.ref it) s):wpAny (model prog w) A (pyIter (.ref it)) Q E s:=by
 have tI:s.TypeIs (.ref it) "set_iterator":=⟨_,hI,rfl⟩
 refine wpAny_pyIter_slot tI zdL (wpAny_call_entry zdL tI zfg ?_ (zgA _))
 show wpAny _ _ (ret (.ref it)) _ _ _
 exact qaX ⟨_,rfl,"set_iterator",_,tI,zaB.lookup,q⟩
theorem ziS.keep {h h':Heap} {a:Addr} {es:Array (Int×Value)} {ep:Nat} {tb:SetTable} (x:ziS h a es ep tb) (k: ∀ ob,h.get? a=some ob->h'.get? a=some ob):ziS h' a es ep tb:=
 ⟨let ⟨ob,h1,h2⟩:=x.at_;⟨ob,k ob h1,h2⟩,x.fits⟩
noncomputable def zhq (tb:SetTable):Nat->Nat
 | 0=>0
 | i+1=>tb.place.getD i 0+1
theorem zjv (hh:A.handled=none) {it a:Addr} {ep:Nat} {es:Array (Int×Value)} {tb:SetTable} (hne:a≠it) (up:Up tb.place) (led:tb.led=true) (bt:w.params.followText "set-order"=false) (pl:(!tb.plain && decide (es.size>1))=false) (hf:tb.fits es.size=true):
  Walks prog w A it [it,a] [it] es.size (fun i v=> ∃ e,es.toList[i]? = some e/\v=e.2) (fun i h=>SIt h it a (.int (zhq tb i:Nat) 0) i es.size ep/\ziS h a es ep tb) where
 sub:=fun b hb=>by simp at hb;simp [hb]
 frame:=fun i h h' st k=>⟨k it (by simp) _ st.1,st.2.keep fun ob e=>k a (by simp) ob e⟩
 item:=fun i s Q E hi st q=>by
  have pz:=zfJ hf
  have hi2:i<tb.place.size:=by omega
  have bl:SetTable.below tb.place (zhq tb i)=i:=by
   cases i with
   | zero=>exact zfu up
   | succ i=>
    have hi3:i<tb.place.size:=by omega
    have e:tb.place[i]? = some (tb.place.getD i 0):=by simp [hi3,Array.getD]
    exact zfy up e
  have ep':tb.place.getD i 0=tb.place[i]:=by simp [hi2,Array.getD]
  refine zk5 (nx:=zhq tb (i+1)) (x:=es[i].2) st.1 st.2 rfl (fun R E' r=>zdy st.2 led bt pl ?_) fun h' a1 sb=> ?_
  ·rw [bl]
   have e1:es[i]? = some es[i]:=by simp [hi]
   have e2:tb.place[i]? = some tb.place[i]:=by simp [hi2]
   rw [e1,e2]
   show R (some (es[i].2,tb.place[i]+1)) s
   have e3:zhq tb (i+1)=tb.place[i]+1:=by show tb.place.getD i 0+1=_;rw [ep']
   rw [<- e3]
   exact r
  ·exact q _ h' s.toks ⟨es[i],by simp [hi],rfl⟩ ⟨a1,st.2.keep fun ob e=>(sb.2 a hne).trans e⟩ fun b ob hb e=>(sb.2 b fun z=>hb (by simp [z])).trans e
 done:=fun s Q E st q=>by
  have pz:=zfJ hf
  have bl:SetTable.below tb.place (zhq tb es.size)=es.size:=by
   cases hz:es.size with
   | zero=>exact zfu up
   | succ i=>
    have hi3:i<tb.place.size:=by omega
    have e:tb.place[i]? = some (tb.place.getD i 0):=by simp [hi3,Array.getD]
    exact zfy up e
  refine zoJ hh st.1 st.2 rfl (fun R E' r=>zdy st.2 led bt pl ?_) fun h' k=>q h' s.toks fun b ob hb e=>k b ob (fun z=>hb (by simp [z])) e
  rw [bl]
  have e1:es[es.size]? = none:=by simp
  rw [e1]
  exact r
 self:=fun i s Q E st q=>zeD st.1 q
theorem zlW (hh:A.handled=none) {it a:Addr} {ep:Nat} {es:Array (Int×Value)} {tb:SetTable} (hne:a≠it) (bt:w.params.followText "set-order"=true) (hf:tb.fits es.size=true):
  Walks prog w A it [it,a] [it] es.size (fun i v=> ∃ e,(pickOrder (w.params.setOrder a ep) es).toList[i]? = some e/\v=e.2) (fun i h=>SIt h it a (.int (0:Nat) 0) i es.size ep/\ziS h a es ep tb) where
 sub:=fun b hb=>by simp at hb;simp [hb]
 frame:=fun i h h' st k=>⟨k it (by simp) _ st.1,st.2.keep fun ob e=>k a (by simp) ob e⟩
 item:=fun i s Q E hi st q=>by
  have pz:(pickOrder (w.params.setOrder a ep) es).size=es.size:=by
   have:=(zb5 (w.params.setOrder a ep) es).length_eq
   simpa using this
  have hi2:i<(pickOrder (w.params.setOrder a ep) es).size:=by omega
  refine zk5 (nx:=0) (x:=(pickOrder (w.params.setOrder a ep) es)[i].2) st.1 st.2 rfl (fun R E' r=>zef st.2 bt ?_) fun h' a1 sb=> ?_
  ·have e1:(pickOrder (w.params.setOrder a ep) es)[i]? = some (pickOrder (w.params.setOrder a ep) es)[i]:=by simp [hi2]
   rw [e1]
   exact r
  ·exact q _ h' s.toks ⟨(pickOrder (w.params.setOrder a ep) es)[i],by simp [hi2],rfl⟩ ⟨a1,st.2.keep fun ob e=>(sb.2 a hne).trans e⟩ fun b ob hb e=>(sb.2 b fun z=>hb (by simp [z])).trans e
 done:=fun s Q E st q=>by
  have pz:(pickOrder (w.params.setOrder a ep) es).size=es.size:=by
   have:=(zb5 (w.params.setOrder a ep) es).length_eq
   simpa using this
  refine zoJ hh st.1 st.2 rfl (fun R E' r=>zef st.2 bt ?_) fun h' k=>q h' s.toks fun b ob hb e=>k b ob (fun z=>hb (by simp [z])) e
  have e1:(pickOrder (w.params.setOrder a ep) es)[es.size]? = none:=by simp [pz]
  rw [e1]
  exact r
 self:=fun i s Q E st q=>zeD st.1 q
theorem zjL (hh:A.handled=none) {it a tp:Addr} {ep:Nat} {es:Array (Int×Value)} {tb:SetTable} {ys:List Nat} (hne:a≠it) (hne2:tp≠it) (hp:List.Perm ys (List.range es.size)):
  Walks prog w A it [it,a,tp] [it] es.size (fun i v=> ∃ e,(ys.filterMap (es[·]?))[i]? = some e/\v=e.2) (fun i h=>SIt h it a (.ref tp) i es.size ep/\ziS h a es ep tb/\h.get? tp=some {cls:= .type "tuple",data:= .seq (ys.map fun (i:Nat)=>rawInt i).toArray}) where
 sub:=fun b hb=>by simp at hb;simp [hb]
 frame:=fun i h h' st k=>⟨k it (by simp) _ st.1,st.2.1.keep fun ob e=>k a (by simp) ob e,k tp (by simp) _ st.2.2⟩
 item:=fun i s Q E hi st q=>by
  have hl:ys.length=es.size:=by simpa using hp.length_eq
  have hi2:i<ys.length:=by omega
  have lt: ∀ y∈ys,y<es.size:=fun y hy=>by simpa using hp.mem_iff.mp hy
  have lti:=lt _ (List.getElem_mem hi2)
  have fm: ∀ (zs:List Nat),(∀ y∈zs,y<es.size)-> ∀ (j:Nat) (y:Nat),zs[j]? = some y->(zs.filterMap (es[·]?))[j]? = es[y]? := by
   intro zs
   induction zs with
   | nil=>intro _ j y e;simp at e
   | cons z r ih=>
    intro hz j y e
    have lz:=hz z (.head _)
    rw [List.filterMap_cons_some (b:=es[z]) (by simp [lz])]
    cases j with
    | zero=>simp at e;subst e;simp [lz]
    | succ j=>simpa using ih (fun y hy=>hz y (.tail _ hy)) j y (by simpa using e)
  refine zjN (p:=ys[i]) (x:=es[ys[i]].2) st.1 st.2.1 rfl st.2.2 (by simp [hi2,rawInt]) (by simp [lti]) fun h' a1 sb=> ?_
  refine q _ h' s.toks ⟨es[ys[i]],?_,rfl⟩ ⟨a1,st.2.1.keep fun ob e=>(sb.2 a hne).trans e,(sb.2 tp hne2).trans st.2.2⟩ fun b ob hb e=>(sb.2 b fun z=>hb (by simp [z])).trans e
  rw [fm ys lt i ys[i] (by simp [hi2])]
  simp [lti]
 done:=fun s Q E st q=>by
  have hl:ys.length=es.size:=by simpa using hp.length_eq
  exact zlX hh st.1 st.2.1 rfl st.2.2 (by simp [hl]) fun h' k=>q h' s.toks fun b ob hb e=>k b ob (fun z=>hb (by simp [z])) e
 self:=fun i s Q E st q=>zeD st.1 q
end
section
variable {prog:Program} {w:World} {A:Around} {E:Value->Shared->Prop} {s:Shared}
structure zpN (prog:Program) (w:World) (a it:Addr) (es:Array (Int×Value)) (ord:List (Int×Value)) (fp:List Addr) (St:Nat->Heap->Prop):Prop where
 walks: ∀ A:Around,A.handled=none->Walks prog w A it fp [it] es.size (fun i v=> ∃ e,ord[i]? = some e/\v=e.2) St
 perm:List.Perm ord es.toList
 mem:it∈fp
theorem zuE {a:Addr} {S:Int->Bool} {n:Nat} {Q:Value->Shared->Prop} (g:zgB prog w s.heap a S n)
  (q: ∀ it es ep tb ord fp St h' d,(∃ ob,s.heap.get? a=some ob/\ob.ExactSet/\ob.data= .set es ep tb)->zpN prog w a it es ord fp St->St 0 h'->s.heap.objs.size<=it->(∀ b ob,s.heap.get? b=some ob->h'.get? b=some ob)->(∀ b∈fp,b=a\/s.heap.objs.size<=b)->es.size<scanBound->
    Q (.ref it) {s with heap:=h',drawn:=d}):wpAny (model prog w) A (pyIter (.ref a)) Q E s:=by
 obtain ⟨ob,es,ep,tb,⟨h1,h2,h3⟩,h4,h5,⟨h6,h7,h8⟩,h9⟩:=g
 have tS:s.TypeIs (.ref a) "set":=⟨ob,h1,h2.1⟩
 have lta:a<s.heap.objs.size:=qaQ h1
 refine wpAny_pyIter_slot tS F.slot_set_iter (wpAny_call_entry F.slot_set_iter tS zfh ?_ (F.args_set_iter_1 _))
 unfold Builtin.«frozenset.__iter__»
 refine qaW (m:=Builtin.Frozenset.slot0 "__iter__" _) (qaX ?_)
 refine qaW (m:=Builtin.Frozenset.sizeOf a) ?_
 unfold Builtin.Frozenset.sizeOf
 refine qaW (wpAny_setEntries_of h1 h3 h7 (qaX ?_))
 refine qaW (m:=setDrawn a) ?_
 unfold setDrawn
 refine qaW (wpAny_setState_of h1 h3 h7 ?_)
 dsimp only
 unfold setsByText
 refine qaW (qaW (wpAny_askSetting (qaX (qaX ?_))))
 dsimp only
 have sobj: ∀ {h':Heap},(∀ b ob,s.heap.get? b=some ob->h'.get? b=some ob)->ziS h' a es ep tb:=fun k=>⟨⟨ob,k _ _ h1,h2,h3⟩,h7⟩
 by_cases dr:(!(model prog w).w.params.followText "set-order" && (!tb.plain && decide (es.size>1)))=true
 ·show wpAny _ _ (if (!(model prog w).w.params.followText "set-order" && (!tb.plain && decide (es.size>1)))=true then _ else _) _ _ _
  rw [qa4 dr]
  refine qaW (zei es.size (List.range es.size) s _ (by simp) fun ys d hp=> ?_)
  have hl:ys.length=es.size:=by simpa using hp.length_eq
  have small:es.size<=sizeLine:=fits_of_scanBound h6
  refine qaW ?_
  unfold newTuple
  refine qaC ?_ (by show (ys.map fun (i:Nat)=>rawInt i).toArray.size<=sizeLine;simp [hl];exact small)
  unfold setEpoch
  refine qaW (qaW (wpAny_setState_of (s:={s with heap:=_,drawn:=d}) (qag _ h1) h3 h7 (qaX ?_)))
  dsimp only
  refine qaW (qaC (qaX ⟨_,rfl,"set_iterator",_,⟨_,qar _ rfl,rfl⟩,zaB.lookup,?_⟩))
  have z1:(s.heap.push {cls:= .type "tuple",dict:=none,data:= .seq (ys.map fun (i:Nat)=>rawInt i).toArray}).objs.size=s.heap.objs.size+1:=qaL ..
  have kp: ∀ (o2:Obj) b ob,s.heap.get? b=some ob->((s.heap.push {cls:= .type "tuple",dict:=none,data:= .seq (ys.map fun (i:Nat)=>rawInt i).toArray}).push o2).get? b=some ob:=fun o2 b ob e=>qag _ (qag _ e)
  refine q _ es ep tb (ys.filterMap (es[·]?)) [(s.heap.push {cls:= .type "tuple",dict:=none,data:= .seq (ys.map fun (i:Nat)=>rawInt i).toArray}).objs.size,a,s.heap.objs.size] _ _ d ⟨ob,h1,h2,h3⟩ ⟨fun A' hA=>zjL (tb:=tb) (ep:=ep) hA ?_ ?_ hp,?_,.head _⟩ ⟨?_,sobj (kp _),?_⟩ ?_ (kp _) (fun b hb=> ?_) h6
  ·rw [z1];exact qaR (Nat.lt_succ_of_lt lta)
  ·rw [z1];exact qaR (Nat.lt_succ_self _)
  ·refine (hp.filterMap _).trans ?_
   rw [filterMap_getElem?_range]
  ·exact qar _ rfl
  ·exact qag _ (qar _ rfl)
  ·rw [z1];exact Nat.le_succ _
  ·simp only [qaP,qaF,or_false] at hb
   rcases hb with z | z | z
   ·right;rw [z,z1];exact Nat.le_succ _
   ·exact .inl z
   ·right;rw [z];exact qaV _
 ·show wpAny _ _ (if (!(model prog w).w.params.followText "set-order" && (!tb.plain && decide (es.size>1)))=true then _ else _) _ _ _
  rw [qa5 dr]
  refine qaW (qaX ?_)
  unfold setEpoch
  refine qaW (qaW (wpAny_setState_of h1 h3 h7 (qaX ?_)))
  dsimp only
  refine qaW (qaC (qaX ⟨_,rfl,"set_iterator",_,⟨_,qar _ rfl,rfl⟩,zaB.lookup,?_⟩))
  have kp: ∀ (o2:Obj) b ob,s.heap.get? b=some ob->(s.heap.push o2).get? b=some ob:=fun o2 b ob e=>qag _ e
  have fpl: ∀ b∈[s.heap.objs.size,a],b=a\/s.heap.objs.size<=b:=fun b hb=>by
   simp only [qaP,qaF,or_false] at hb
   rcases hb with z | z
   ·right;rw [z];exact qaV _
   ·exact .inl z
  cases bt:w.params.followText "set-order" with
  | true=>
   exact q _ es ep tb _ [s.heap.objs.size,a] _ _ s.drawn ⟨ob,h1,h2,h3⟩ ⟨fun A' hA=>zlW (tb:=tb) (ep:=ep) hA (qaR lta) bt h7,zb5 _ _,.head _⟩ ⟨qar _ rfl,sobj (kp _)⟩ (qaV _) (kp _) fpl h6
  | false=>
   have pl:(!tb.plain && decide (es.size>1))=false:=by
    rw [show (model prog w).w.params.followText "set-order"=false from bt] at dr
    simpa using dr
   have led:tb.led=true:=by
    rw [h9.led]
    unfold zcv
    rw [bt]
    rfl
   exact q _ es ep tb _ [s.heap.objs.size,a] _ _ s.drawn ⟨ob,h1,h2,h3⟩ ⟨fun A' hA=>zjv (tb:=tb) (ep:=ep) hA (qaR lta) h9.up led bt pl h7,.rfl,.head _⟩ ⟨qar _ rfl,sobj (kp _)⟩ (qaV _) (kp _) fpl h6
theorem zm8 {a:Addr} {S:Int->Bool} {n:Nat} {Q:List Value->Shared->Prop} (hh:A.handled=none) (g:zgB prog w s.heap a S n)
  (q: ∀ vs s' es ep tb,(∃ ob,s.heap.get? a=some ob/\ob.ExactSet/\ob.data= .set es ep tb)->List.Perm vs (es.toList.map (·.2))->(∀ b ob,s.heap.get? b=some ob->s'.heap.get? b=some ob)->s'.gens=s.gens->s'.os=s.os->Q vs s'):wpAny (model prog w) A (collect (.ref a)) Q E s:=by
 have tS: ∀ {h':Heap} {s':Shared},s'.heap=h'->(∀ b ob,s.heap.get? b=some ob->h'.get? b=some ob)->s'.TypeIs (.ref a) "set":=fun {h' s'} e k=>by
  obtain ⟨ob,es,ep,tb,⟨h1,h2,h3⟩,_⟩:=g
  exact ⟨ob,by rw [e];exact k _ _ h1,h2.1⟩
 have lta:a<s.heap.objs.size:=by
  obtain ⟨ob,es,ep,tb,⟨h1,h2,h3⟩,_⟩:=g
  exact qaQ h1
 unfold collect
 refine qaW (wpAny_runValue (codeAny_builtin F.entry_proto_collect ?_))
 rw [qap F.plain_proto_collect _]
 show wpAny _ _ (newList []>>=fun l=>again (.builtin "list.__iadd__" ⟨[l,.ref a],[]⟩)) _ _ _
 refine qaW (qaC (qaX ⟨plainId_quiet F.plain_list_iadd _,codeAny_builtin F.entry_list_iadd ?_⟩))
 rw [qap F.plain_list_iadd _]
 show wpAny _ _ (Builtin.List.listExtendWith (.ref s.heap.objs.size) (.ref a) (.ref s.heap.objs.size)) _ _ _
 unfold Builtin.List.listExtendWith
 have k1: ∀ b ob,s.heap.get? b=some ob->(s.heap.push {cls:= .type "list",data:= .seq ([]:List Value).toArray}).get? b=some ob:=fun b ob e=>qag _ e
 refine qaW (wpAny_typeOf (tS rfl k1) ?_)
 have nsame:Builtin.List.listSameRef (.ref s.heap.objs.size) (.ref a)=false:=by
  simp only [Builtin.List.listSameRef,beq_eq_false_iff_ne]
  exact fun z=>qaN _ (z▸lta)
 have nl:(Value.type "set"==Value.type "list")=false:=by decide
 have nt:(Value.type "set"==Value.type "tuple")=false:=by decide
 simp only [nsame,nl,nt,Bool.or_false,qax,if_false]
 refine qaW (zuE (g.move (fun ob e=>k1 _ _ e) (fun _=>rfl) rfl) fun it es ep tb ord fp St h2 d hob W st0 lit k2 fpl few=> ?_)
 refine qaW (qaO ?_)
 unfold Builtin.List.listLengthHint
 have k12: ∀ b ob,s.heap.get? b=some ob->h2.get? b=some ob:=fun b ob e=>k2 b ob (k1 b ob e)
 refine qaW (wpAny_specialOf (tS rfl k12) F.slot_set_len.lookup ?_)
 have sp:splitId "set.__len__"=some ("set","__len__"):=by decide +kernel
 dsimp only
 rw [sp]
 dsimp only
 refine qaW (wpAny_isInstance (tS rfl k12) sub_set_self ?_)
 rw [qa5 (by decide)]
 rw [qa4 (by decide +kernel)]
 refine qaW (wpAny_typeOf (tS rfl k12) (qaX ?_))
 rw [qa4 (by decide +kernel)]
 refine qaW (wpAny_rule ?_)
 have l2:h2.get? s.heap.objs.size=some {cls:= .type "list",data:= .seq ([]:List Value).toArray}:=k2 _ _ (qar _ rfl)
 refine qaW ?_
 unfold Builtin.List.listTouch
 show wpAny _ _ (updateSeq s.heap.objs.size (·.push .none)>>=fun _=>updateSeq s.heap.objs.size (·.pop)) _ _ _
 refine qaW (wpAny_updateSeq l2 rfl ?_)
 have l3:=qal (Obj.mapSeq (·.push Value.none)) l2 rfl
 refine wpAny_updateSeq l3 rfl ?_
 have l4:=qal (Obj.mapSeq (·.pop)) l3 rfl
 have oth: ∀ b ob,b≠s.heap.objs.size->h2.get? b=some ob->((h2.update s.heap.objs.size (Obj.mapSeq (·.push Value.none))).update s.heap.objs.size (Obj.mapSeq (·.pop))).get? b=some ob:=fun b ob hb e=>
  (qah _ _ (Ne.symm hb)).trans ((qah _ _ (Ne.symm hb)).trans e)
 have nfp:s.heap.objs.size∉fp:=fun z=>by
  rcases fpl _ z with z | z
  ·exact qaN _ (z▸lta)
  ·rw [show ({s with heap:=s.heap.push {cls:= .type "list",data:= .seq ([]:List Value).toArray}}:Shared).heap.objs.size=s.heap.objs.size+1 from qaL ..] at z
   exact qaN _ z
 have fin: ∀ (s':Shared) (vs:Array Value) (c:Nat),(∀ b ob,s.heap.get? b=some ob->s'.heap.get? b=some ob)->s'.gens=s.gens->s'.os=s.os->s'.heap.get? s.heap.objs.size=some {cls:= .type "list",dict:=none,data:= .seq vs c,slots:= #[]}->ItemsOf (fun i v=> ∃ e,ord[i]? = some e/\v=e.2) vs es.size->
   wpAny (model prog w) A (load s.heap.objs.size>>=fun o=>match o.data with | .seq xs _=>pure xs.toList | _=>unsupported "internal:collect") Q E s':=fun s' vs c k g1 g2 e it1=>by
  refine qaW (wpAny_load e (qaX (q vs.toList s' es ep tb ?_ ?_ k g1 g2)))
  ·obtain ⟨ob,o1,o2⟩:=hob
   obtain ⟨ob',es',ep',tb',⟨p1,p2,p3⟩,_⟩:=g
   have:=k1 _ _ p1
   rw [o1] at this
   cases this
   exact ⟨ob,p1,o2⟩
  ·have hl:ord.length=es.size:=by simpa using W.perm.length_eq
   have e2:vs.toList=ord.map (·.2):=by
    apply List.ext_getElem?
    intro i
    by_cases hi:i<es.size
    ·have hv0:i<vs.size:=by rw [it1.1];exact hi
     have hv:vs[i]? = some vs[i]:=by simp [hv0]
     obtain ⟨e,e1,e2⟩:=it1.2 i _ hv
     rw [List.getElem?_map,e1,qaj,hv,e2]
     rfl
    ·rw [List.getElem?_eq_none (by simp [it1.1];omega),List.getElem?_eq_none (by simp [hl];omega)]
   rw [e2]
   exact W.perm.map _
 have Wk:=(W.walks A.in1 hh).toS
 refine qaX ⟨plainId_quiet F.plain_extend_loop _,codeAny_extend_loopS Wk ?_ _ nfp _ es.size 0 _ _ _ rfl (Nat.zero_le _) ?_ l4 (ItemsOf.nil _) fun s' vs c mv e it1=> ?_⟩
 ·exact fits_of_scanBound few
 ·exact (W.walks A.in1 hh).frame 0 h2 _ st0 fun b hb ob e=>oth b ob (fun z=>nfp (z▸hb)) e
 ·refine fin s' vs c (fun b ob e'=>mv.heap b ob ?_ (oth b ob ?_ (k12 b ob e'))) mv.gens mv.os e it1
  ·intro z
   rcases qaP.mp z with z | z
   ·exact qaN _ (z▸qaQ e')
   ·simp only [qaP,qaF,or_false] at z
    have:=qaQ e'
    rw [z] at this
    exact qaN _ (qaw this (qaS (by rw [qaL];exact Nat.le_succ _) lit))
  ·exact fun z=>qaN _ (z▸qaQ e')
end
noncomputable def zoz (x:Int):List Int->List Int
 | []=>[x]
 | y::r=>if x<=y then x::y::r else y::zoz x r
noncomputable def zd6:List Int->List Int
 | []=>[]
 | x::r=>zoz x (zd6 r)
theorem zfc (x:Int): ∀ l:List Int,List.Perm (zoz x l) (x::l)
 | []=> .rfl
 | y::r=>by
  unfold zoz
  split
  ·exact .rfl
  ·exact ((zfc x r).cons y).trans (.swap x y r)
theorem znk {x z:Int} {l:List Int}:z∈zoz x l↔z=x\/z∈l:=by rw [(zfc x l).mem_iff,qaP]
theorem zlk (x:Int): ∀ l:List Int,l.Pairwise (· <= ·)->(zoz x l).Pairwise (· <= ·)
 | [],_=>by unfold zoz;simp
 | y::r,h=>by
  obtain ⟨h1,h2⟩:=qay.mp h
  unfold zoz
  split
  ·rename_i hxy
   refine qay.mpr ⟨fun z hz=> ?_,h⟩
   rcases qaP.mp hz with e | hz
   ·rw [e];exact hxy
   ·exact Int.le_trans hxy (h1 z hz)
  ·rename_i hxy
   refine qay.mpr ⟨fun z hz=> ?_,zlk x r h2⟩
   rcases znk.mp hz with e | hz
   ·rw [e];omega
   ·exact h1 z hz
theorem zaI: ∀ l:List Int,List.Perm (zd6 l) l
 | []=> .rfl
 | x::r=>(zfc x _).trans ((zaI r).cons x)
theorem zdN: ∀ l:List Int,(zd6 l).Pairwise (· <= ·)
 | []=> .nil
 | x::r=>zlk x _ (zdN r)
theorem zdE {a b:List Int} (hp:a.Perm b) (h:a.Pairwise (· <= ·)):a=zd6 b:=W.ksm_same (hp.trans (zaI b).symm) h (zdN b)
noncomputable def zdc (ns:List Int):List Int:=zd6 (ns.foldl step_dedup [])
theorem zlz (ns:List Int): ∀ (acc:List Int) (k:Int),(ns.foldl step_dedup acc).any (· == k)=(acc.any (· == k) || ns.any (· == k)):=by
 induction ns with
 | nil=>intro acc k;simp
 | cons x r ih=>
  intro acc k
  rw [List.foldl_cons,ih,step_any]
  simp only [List.any_cons]
  have:(x==k)=decide (k=x):=by
   by_cases h:k=x
   ·subst h;simp
   ·have h': ¬x=k:=fun e=>h e.symm
    simp [h,h']
  rw [this,Bool.or_assoc]
theorem zhj {ns:List Int} {k:Int}:k∈ns.foldl step_dedup []↔k∈ns:=by
 have:=zlz ns [] k
 simp only [List.any_nil,Bool.false_or] at this
 have e: ∀ l:List Int,k∈l↔(l.any fun x=>x==k)=true:=fun l=>by
  rw [List.any_eq_true]
  constructor
  ·exact fun h=>⟨k,h,by simp⟩
  ·rintro ⟨x,h,c⟩
   have c:x=k:=by simpa using c
   rw [<- c]
   exact h
 rw [e,e,this]
theorem zdp (ns:List Int): ∀ acc:List Int,acc.Nodup->(ns.foldl step_dedup acc).Nodup:=by
 induction ns with
 | nil=>intro acc h;exact h
 | cons x r ih=>
  intro acc h
  refine ih _ ?_
  unfold step_dedup
  split
  ·exact h
  ·rename_i hx
   rw [List.nodup_append]
   refine ⟨h,by simp,fun a ha b hb=> ?_⟩
   simp only [List.mem_singleton] at hb
   subst hb
   intro e
   subst e
   exact hx (List.any_eq_true.mpr ⟨a,ha,by simp⟩)
theorem zdB {ns:List Int} {k:Int}:k∈zdc ns↔k∈ns:=by unfold zdc;rw [(zaI _).mem_iff,zhj]
theorem zeb (ns:List Int):(zdc ns).Pairwise (· < ·):=by
 have h1:=zdN (ns.foldl step_dedup [])
 have h2:(zdc ns).Nodup:=(zaI _).nodup_iff.mpr (zdp ns [] List.nodup_nil)
 exact (List.Pairwise.and h1 h2).imp fun ⟨a,b⟩=>by omega
theorem zeH (ns:List Int):firstMet (fun i=>ns.getD i 0) ns.length=ns.foldl step_dedup []:=by
 unfold firstMet
 congr 1
 apply List.ext_getElem?
 intro i
 by_cases hi:i<ns.length
 ·simp [hi,List.getD]
 ·rw [List.getElem?_eq_none (by simp;omega),List.getElem?_eq_none (by omega)]
theorem zeV: ∀ {fm ms:List Int},fm.Nodup->(∀ k,k∈fm->k∈ms)->ms.length<=fm.length->List.Perm ms fm
 | [],ms,_,_,h=>by
  have:ms=[]:=List.length_eq_zero_iff.mp (by simpa using h)
  subst this
  exact .rfl
 | x::r,ms,nd,hm,h=>by
  obtain ⟨n1,n2⟩:=List.nodup_cons.mp nd
  have hx:=hm x (.head _)
  have p:=List.perm_cons_erase hx
  have hl:=p.length_eq
  rw [qaE] at hl h
  refine p.trans ((zeV n2 (fun k hk=> ?_) (by omega)).cons x)
  have hne:k≠x:=fun e=>n1 (e▸hk)
  rcases qaP.mp (p.mem_iff.mp (hm k (.tail _ hk))) with e | e
  ·exact absurd e hne
  ·exact e
section
variable {prog:Program} {w:World} {A:Around} {E:Value->Shared->Prop} {s:Shared}
theorem zhB {l l':List Value} {ns:List Int} (p:List.Perm l l') (h:IntsAre l' ns): ∃ ms,IntsAre l ms/\List.Perm ms ns:=by
 induction p generalizing ns with
 | nil=>exact ⟨ns,h,.rfl⟩
 | cons x _ ih=>
  cases h with
  | cons n t h=>
   obtain ⟨ms,h1,h2⟩:=ih h
   exact ⟨n::ms,.cons n t h1,h2.cons n⟩
 | swap x y l=>
  cases h with
  | cons n t h=>
   cases h with
   | cons n' t' h=>exact ⟨n'::n::_,.cons n' t' (.cons n t h),.swap _ _ _⟩
 | trans _ _ ih1 ih2=>
  obtain ⟨ms,h1,h2⟩:=ih2 h
  obtain ⟨ms',h3,h4⟩:=ih1 h1
  exact ⟨ms',h3,h4.trans h2⟩
theorem zfH: ∀ {es:List (Int×Value)},ElemsOf (intKind prog w) es-> ∃ ms,IntsAre (es.map (·.2)) ms/\ ∀ k,k∈ms↔ ∃ e∈es,(intKind prog w).is k e.2=true
 | [],_=>⟨[],.nil,fun k=>by simp⟩
 | e::r,h=>by
  obtain ⟨ms,h1,h2⟩:=zfH (ElemsOf.tail h)
  obtain ⟨⟨k,hk,_⟩,_⟩:=ElemsOf.head h
  obtain ⟨t,ht⟩:=Value.isInt_shape (k:=k) (v:=e.2) hk
  refine ⟨k::ms,by rw [qaM,ht];exact .cons k t h1,fun z=> ?_⟩
  rw [qaP,h2 z]
  constructor
  ·rintro (c | ⟨e',c1,c2⟩)
   ·exact ⟨e,.head _,by rw [c];exact hk⟩
   ·exact ⟨e',.tail _ c1,c2⟩
  ·rintro ⟨e',c1,c2⟩
   rcases qaP.mp c1 with c | c
   ·subst c;exact .inl ((intKind prog w).inj _ _ _ c2 hk)
   ·exact .inr ⟨e',c,c2⟩
theorem zeP {x:Value} {Q:Value->Shared->Prop} (hc: ∀ E':Value->Shared->Prop,wpAny (model prog w) A.in1 (collect x) (fun vs s1=> ∃ ns,IntsAre vs ns/\vs.length<64/\ ∀ out e h',IntsAre out (zd6 ns)->(∀ b ob,s1.heap.get? b=some ob->h'.get? b=some ob)->
      h'.get? s1.heap.objs.size=some (seqObj "list" out.toArray e)->Q (.ref s1.heap.objs.size) {s1 with heap:=h'}) E' s):wpAny (model prog w) A (call (.builtin "sorted") [x]) Q E s:=by
 refine Calls.call_function_entry kind_sorted plain_sorted entry_sorted (args_sorted1 _) ?_
 unfold Builtin.«sorted»
 refine qaW (m:=checkCount "sorted" 1 1 _) (qaX ?_)
 refine qaW (m:=collect x) (qaZ (hc _) (fun vs s1 ⟨ns,hI,h64,q⟩=> ?_) fun _ _ z=>z)
 have small:vs.length<=sizeLine:=qaS (Nat.le_of_lt h64) (by decide)
 refine qaW (wpAny_newList ?_ small)
 have at0:(s1.heap.push {cls:= .type "list",data:= .seq vs.toArray}).get? s1.heap.objs.size=some (seqObj "list" vs.toArray 0):=qar _ rfl
 refine qaW (qaO (wpAny_call_entry slot_list_sort ⟨_,at0,rfl⟩ entry_list_sort (list_sort_tree (s:={s1 with heap:=s1.heap.push {cls:= .type "list",data:= .seq vs.toArray}}) at0 hI h64 fun out ns' a1 a2 a3=>⟨_,rfl,?_⟩) (args_list_sort _)))
 obtain ⟨e,he⟩:=sortedHeap_at (out:=out) at0
 refine qaX ⟨_,rfl,q out.toList e _ ?_ (fun b ob eb=> ?_) (by simpa using he)⟩
 ·rw [<- zdE a2 a3];exact a1
 ·have lt:=qaQ eb
  rw [sortedHeap_old (qaR lt) (by rw [qaL];exact Nat.lt_succ_of_lt lt)]
  exact qag _ eb
theorem zif {l:Addr} {vs:List Value} {Q:List Value->Shared->Prop} (hl:s.heap.IsTuple l vs.toArray) (small:vs.length<=sizeLine)
  (q: ∀ h',(∀ b ob,s.heap.get? b=some ob->h'.get? b=some ob)->Q vs {s with heap:=h'}):wpAny (model prog w) A (collect (.ref l)) Q E s:=by
 obtain ⟨ob,ho,hc,n,hd⟩:=id hl
 unfold collect
 refine qaW (wpAny_runValue (codeAny_builtin F.entry_proto_collect ?_))
 rw [qap F.plain_proto_collect _]
 show wpAny _ _ (newList []>>=fun d=>again (.builtin "list.__iadd__" ⟨[d,.ref l],[]⟩)) _ _ _
 refine qaW (qaC (qaX ⟨plainId_quiet F.plain_list_iadd _,codeAny_builtin F.entry_list_iadd ?_⟩))
 rw [qap F.plain_list_iadd _]
 show wpAny _ _ (Builtin.List.listExtendWith (.ref s.heap.objs.size) (.ref l) (.ref s.heap.objs.size)) _ _ _
 unfold Builtin.List.listExtendWith
 have ho':(s.heap.push {cls:= .type "list",data:= .seq ([]:List Value).toArray}).get? l=some ob:=qag _ ho
 have d0:(s.heap.push {cls:= .type "list",data:= .seq ([]:List Value).toArray}).get? s.heap.objs.size=some (seqObj "list" #[] 0):=qar _ rfl
 refine qaW (wpAny_typeOf (T:="tuple") ⟨ob,ho',hc⟩ ?_)
 rw [qa4 (by simp)]
 refine qaW (listItems_at ho' hd ?_)
 refine qaW (listItems_at d0 rfl ?_)
 rw [qa5 (by simp)]
 refine qaW (listUpdate_at (xs:= #[]) (n:=0) d0 rfl ?_ (Nat.zero_le _) (by show (#[]++vs.toArray).size<=sizeLine+1;simp;omega))
 refine qaX ?_
 show wpAny _ _ (load s.heap.objs.size>>=fun o=>match o.data with | .seq xs _=>pure xs.toList | _=>unsupported "internal:collect") _ _ _
 refine qaW (wpAny_load (get?_update_seq d0 _) ?_)
 have z:=q ((s.heap.push {cls:= .type "list",data:= .seq ([]:List Value).toArray}).update s.heap.objs.size (Obj.mapSeq fun x=>x++vs.toArray)) fun b ob e=>(qah _ _ (fun z=>qaN _ (z▸qaQ e))).trans (qag _ e)
 show wpAny _ _ (pure ((#[]:Array Value)++vs.toArray).toList) _ _ _
 rw [show ((#[]:Array Value)++vs.toArray).toList=vs by simp]
 exact qaX z
end
end LT
namespace L2
open PySem PySem.Spec PyProof.Rows LT
section
variable {X:Cx}
noncomputable def zle (P:Program) (w:World) (p:Addr) (ns:List Int):HO:= .ext fun h=>zgB P w h p (fun z=>(ns.foldl step_dedup []).any (· == z)) (ns.foldl step_dedup []).length
theorem zlj (ns:List Int):(ns.foldl step_dedup []).length<=ns.length:=by
 rw [<- zeH]
 exact firstMet_length_le _ _
theorem zmo (hc:X.calm=true):zay X (.type "set") (fun xs H Q=> ∃ (a:Addr) (ns:List Int),xs=[.ref a]/\(SqL X.K H a (ns.map V.int)\/SqT X.K H a (ns.map V.int))/\ns.length<4000/\ ∀ p,H p=none->Q (.ref p) (upd H p (zle X.prog X.w p ns))):=by
 intro pins s σ H xs us Q I r h
 obtain ⟨a,ns,rfl,hq,hl,q⟩:=h
 obtain ⟨u,rfl,rx⟩:=zcR r
 cases rx
 have fin: ∀ (items:Array Value),items.size=ns.length-> ∀ (h':Heap) (tk:Nat),zgB X.prog X.w h' s.heap.objs.size (fun z=>(firstMet (fun i=>ns.getD i 0) items.size).any (· == z)) (firstMet (fun i=>ns.getD i 0) items.size).length->(∀ b ob,s.heap.get? b=some ob->h'.get? b=some ob)->
   EP X pins σ Q (.ref s.heap.objs.size) {s with heap:=h',toks:=tk}:=fun items hz h' tk g k=>by
  rw [hz,zeH] at g
  refine ⟨.ref s.heap.objs.size,_,I.laid (t':=tk) (o:=zle X.prog X.w s.heap.objs.size ns) k (qaV _) ⟨g,?_,fun h1 h2 z e=>z.move e (fun _=>rfl) rfl⟩,rfl,q _ (I.hok.fresh (qaV _))⟩
  obtain ⟨ob,es,ep,tb,⟨h1,_⟩,_⟩:=g
  exact ⟨ob,h1⟩
 have room:ns.length+1<scanBound:=by
  have:scanBound=4096:=rfl
  omega
 rcases hq with hq | hq
 ·obtain ⟨its,r',pl,_⟩:=I.list hq
  have hz:its.toArray.size=ns.length:=by rw [qaA, <-r'.length,qaH]
  exact zu7 (I.ok.hd hc) (.inl ⟨rfl,pl.isList⟩) (by simpa using zbM r') (by rw [hz];exact room) fun h' tk g k=>fin _ hz h' tk g k
 ·obtain ⟨its,r',pl,_⟩:=I.tuple hq
  have hz:its.toArray.size=ns.length:=by rw [qaA, <-r'.length,qaH]
  exact zu7 (I.ok.hd hc) (.inr ⟨rfl,pl⟩) (by simpa using zbM r') (by rw [hz];exact room) fun h' tk g k=>fin _ hz h' tk g k
theorem Inv.grown {pins:List (Addr×Obj)} {σ:St} {H:Hp} {s s':Shared} (I:Inv X pins σ H s) (ho:s'.os=s.os) (hg:s'.gens=s.gens) (k: ∀ b ob,s.heap.get? b=some ob->s'.heap.get? b=some ob):Inv X pins σ H s':=
 I.call' (ch:=[]) ho (Un.kept k) (I.hok.kept k) (by rw [hg];exact I.bare) fun b z=>nomatch z
theorem znu {out:List Value} {ms:List Int} (h:IntsAre out ms):zaK (ms.map V.int) out:=zeY h
theorem zhm (hc:X.calm=true):zay X (.builtin "sorted") (fun xs H Q=> ∃ (p:Addr) (ns:List Int),xs=[.ref p]/\((((ns.foldl step_dedup []).length<64/\H p=some (zle X.prog X.w p ns))/\ ∀ l,H l=none->Q (.ref l) (upd H l (.lst ((zdc ns).map V.int))))\/
    ((ns.length<64/\(SqL X.K H p (ns.map V.int)\/SqT X.K H p (ns.map V.int)))/\ ∀ l,H l=none->Q (.ref l) (upd H l (.lst ((zd6 ns).map V.int)))))):=by
 intro pins s σ H xs us Q I r h
 obtain ⟨p,ns,rfl,h⟩:=h
 obtain ⟨u,rfl,rx⟩:=zcR r
 cases rx
 have fin: ∀ (s1:Shared) (ms:List Int),ms.length<=64->(∀ b ob,s.heap.get? b=some ob->s1.heap.get? b=some ob)->s1.gens=s.gens->s1.os=s.os->(∀ l,H l=none->Q (.ref l) (upd H l (.lst ((zd6 ms).map V.int))))-> ∀ out e h',IntsAre out (zd6 ms)->(∀ b ob,s1.heap.get? b=some ob->h'.get? b=some ob)->
   h'.get? s1.heap.objs.size=some (seqObj "list" out.toArray e)->EP X pins σ Q (.ref s1.heap.objs.size) {s1 with heap:=h'}:=fun s1 ms hm k g1 o1 q out e h' hi k2 e2=>by
  have I1:=I.grown o1 g1 k
  refine ⟨.ref s1.heap.objs.size,_,I1.laid (t':=s1.toks) (o:= .lst ((zd6 ms).map V.int)) k2 (qaV _) ⟨?_,out,e,znu hi,e2⟩,rfl,q _ (I1.hok.fresh (qaV _))⟩
  rw [qaH,(zaI ms).length_eq]
  exact qaS hm (by decide)
 rcases h with ⟨⟨hl,hs⟩,q⟩ | ⟨⟨hl,hq⟩,q⟩
 ·obtain ⟨g,_⟩:=(show zbo X.prog X.w H s.heap p (zle X.prog X.w p ns) from I.hok p _ hs)
  refine zeP fun E'=>zm8 (show X.A.in1.handled=none from I.ok.hd hc) g fun vs s1 es ep tb hob pv k g1 o1=> ?_
  obtain ⟨ob',es',ep',tb',⟨a1,a2,a3⟩,h4,h5,⟨h6,h7,h8⟩,h9⟩:=g
  obtain ⟨ob,b1,b2,b3⟩:=hob
  rw [a1] at b1
  cases b1
  rw [a3] at b3
  cases b3
  obtain ⟨ms,m1,m2⟩:=zfH h4
  obtain ⟨ms',m3,m4⟩:=zhB pv m1
  have len:ms.length=(ns.foldl step_dedup []).length:=by
   rw [<- m1.length,qaH,qas]
   exact h8
  have pm:List.Perm ms (ns.foldl step_dedup []):=zeV (zdp ns [] List.nodup_nil) (fun z hz=>by
    rw [m2 z, <-h5 z]
    exact List.any_eq_true.mpr ⟨z,hz,by simp⟩) (Nat.le_of_eq len)
  have es1:zd6 ms'=zdc ns:=by
   unfold zdc
   exact zdE ((zaI ms').trans (m4.trans pm)) (zdN ms')
  have lm:ms'.length<64:=by
   rw [m4.length_eq,len]
   exact hl
  refine ⟨ms',m3,by rw [m3.length];omega,fun out e h' hi k2 e2=> ?_⟩
  exact fin s1 ms' (by omega) k g1 o1 (by rw [es1];exact q) out e h' hi k2 e2
 ·rcases hq with hq | hq
  ·obtain ⟨its,r',pl,hz⟩:=I.list hq
   have hi:=zbM r'
   have lz:its.length=ns.length:=by rw [<- r'.length,qaH]
   refine zeP fun E'=>collect_list pl.isList ?_ (by rw [lz, <-qaH (f:=V.int)];exact hz)
   refine ⟨ns,hi,by omega,fun out e h' hi2 k2 e2=> ?_⟩
   refine fin {s with heap:=(s.heap.push (seqObj "list" #[] 0)).update s.heap.objs.size (Obj.mapSeq fun x=>x++its.toArray)} ns (by omega) (fun b ob eb=> ?_) rfl rfl q out e h' hi2 k2 e2
   exact (qah _ _ (fun z=>qaN _ (z▸qaQ eb))).trans (qag _ eb)
  ·obtain ⟨its,r',pl,hz⟩:=I.tuple hq
   have hi:=zbM r'
   have lz:its.length=ns.length:=by rw [<- r'.length,qaH]
   refine zeP fun E'=>zif pl (by rw [lz, <-qaH (f:=V.int)];exact hz) fun h1 k1=> ?_
   refine ⟨ns,hi,by omega,fun out e h' hi2 k2 e2=> ?_⟩
   exact fin {s with heap:=h1} ns (by omega) k1 rfl rfl q out e h' hi2 k2 e2
theorem zlp (hc:X.calm=true):zay X (.builtin "all") (fun xs H Q=> ∃ (a:Addr) (bs:List Bool),xs=[.ref a]/\SqL X.K H a (bs.map V.bl)/\Q (.bl (bs.all id)) H):=by
 intro pins s σ H xs us Q I r h
 obtain ⟨a,bs,rfl,hq,q⟩:=h
 obtain ⟨u,rfl,rx⟩:=zcR r
 cases rx
 obtain ⟨its,r',pl,hz⟩:=I.list hq
 have hlt:a<s.heap.objs.size:=by obtain ⟨_,e,_⟩:=pl.isList;exact qaQ e
 refine call_all_walk (wpAny_pyIter_list pl.isList ?_)
 refine ⟨s.heap.objs.size,[s.heap.objs.size,a],[s.heap.objs.size],its.toArray.size,_,_,fun i=>(bs[i]?).getD true,rfl,Walks.list (A:=X.A.in1) (I.ok.hd hc) _ a (qaR hlt) its.toArray,⟨⟨_,qar _ rfl,rfl,rfl⟩,pl.isList.push _⟩,fun i v s' Q' E' hP hQ=> ?_,fun h' tk hk=> ?_⟩
 ·have hv:its[i]? = some v:=by simpa using hP
  obtain ⟨hi,_⟩:=qac.mp hv
  have hlen:bs.length=its.length:=by rw [<- r'.length,qaH]
  have hb:(bs.map V.bl)[i]? = some (V.bl bs[i]):=by simp [hlen,hi]
  obtain ⟨u',hu,ru⟩:=r'.get hb
  rw [hv] at hu
  cases hu
  cases ru
  have e:(bs[i]?).getD true=bs[i]:=by simp [hlen,hi]
  have hQ:Q' ((bs[i]?).getD true) s':=hQ
  rw [e] at hQ
  exact wpAny_truthy_bool hQ
 ·have e:((List.range its.toArray.size).all fun i=>(bs[i]?).getD true)=bs.all id:=by
   have hlen:bs.length=its.length:=by rw [<- r'.length,qaH]
   rw [qaA, <-hlen]
   rw [Bool.eq_iff_iff,List.all_eq_true,List.all_eq_true]
   constructor
   ·intro h x hx
    obtain ⟨i,hi⟩:=List.mem_iff_getElem?.mp hx
    have hl:=(qac.mp hi).1
    have:=h i (by simpa using hl)
    rw [hi] at this
    exact this
   ·intro h i hi
    have hl:i<bs.length:=by simpa using hi
    have e1:bs[i]? = some bs[i]:=by simp [hl]
    rw [e1]
    exact h _ (List.getElem_mem hl)
  rw [e]
  refine ⟨.bl _,H,I.grown (s':={s with heap:=h',toks:=tk}) rfl rfl fun b ob eb=>hk b ob (fun z=> ?_) (qag _ eb),rfl,q⟩
  simp only [qaP,qaF,or_false] at z
  exact qaN _ (z▸qaQ eb)
theorem zmm (hc:X.calm=true):zay X (.builtin "sum") (fun xs H Q=> ∃ (a:Addr) (ns:List Int),xs=[.ref a]/\SqL X.K H a (ns.map V.int)/\Q (.int ns.sum) H):=by
 intro pins s σ H xs us Q I r h
 obtain ⟨a,ns,rfl,hq,q⟩:=h
 obtain ⟨u,rfl,rx⟩:=zcR r
 cases rx
 obtain ⟨its,r',pl,hz⟩:=I.list hq
 have hi:=zbM r'
 obtain ⟨ys,hy⟩:=hi.allInts.items
 have hl:s.heap.IsList a (intItems ys):=hy▸pl.isList
 refine sum_intListG (I.ok.hd hc) hl fun h' tk t' hk=> ?_
 have e1:ns=ys.toList.map (·.1):=by
  rw [<- nums_intItems, <-hy]
  exact (show numsOf its.toArray.toList=ns from hi.numsOf).symm
 have e2:preSum (numAt ys) ys.size=ns.sum:=by rw [preSum_eq,List.take_of_length_le (by simp),e1]
 rw [e2]
 exact ⟨.int ns.sum,H,I.grown (s':={s with heap:=h',toks:=tk}) rfl rfl hk,⟨t',rfl⟩,q⟩
end
end L2
namespace L3
open PySem PySem.Spec PyProof.Rows L2 LT
section
variable {X:Cx} {E:XE} {e:Expr} {es:List Expr} {pos p:Pos} {fs:Sd->M (List D)} {x:Str}
theorem zm4 {id:String} {F:List D->M D} (hc:zay X (.builtin id) (zgH X.K E F)) (hg:Gl X x) (hm:X.mg x=none) (hv:bootBuiltins x=some (.builtin id)) (ha:SA X E (e::es) fs) (hn:x≠"__name__":=by decide) (hdb:(x==("__debug__":Str))=false:=by decide)
  (he:starEach (e::es) X.env=(false,eval e X.env)::starEach es X.env:=by rfl) (hpl:(backTo pos (starEach es X.env)).any (·.1)=false:=by rfl):SE X E (.Call (.Name x p) (e::es) [] pos) (fun sd=>do let ds<-fs sd;F ds):=
 PE.imp (zew hc hg hm hv ha hn hdb he hpl) fun σ H Q ⟨ι,h,sd,L,hh,q⟩=>⟨ι,h,sd,L,hh,Fin.bind q fun ds h1 ι1 H1 e1 s1 hr1 q1 vs rv=>⟨ι1,h1,ds,rv,hr1,q1⟩⟩
theorem zlx {T:String} {F:List D->M D} (hc:zay X (.type T) (zgH X.K E F)) (hg:Gl X x) (hm:X.mg x=none) (hv:bootBuiltins x=some (.type T)) (ha:SA X E (e::es) fs) (hn:x≠"__name__":=by decide) (hdb:(x==("__debug__":Str))=false:=by decide)
  (he:starEach (e::es) X.env=(false,eval e X.env)::starEach es X.env:=by rfl) (hpl:(backTo pos (starEach es X.env)).any (·.1)=false:=by rfl):SE X E (.Call (.Name x p) (e::es) [] pos) (fun sd=>do let ds<-fs sd;F ds):=
 PE.imp (zcd hc hg hm hv ha hn hdb he hpl) fun σ H Q ⟨ι,h,sd,L,hh,q⟩=>⟨ι,h,sd,L,hh,Fin.bind q fun ds h1 ι1 H1 e1 s1 hr1 q1 vs rv=>⟨ι1,h1,ds,rv,hr1,q1⟩⟩
noncomputable def zkc:D->M (List D)
 | .tup ds=>pure ds
 | .lst ds=>pure ds
 | .scr ds=>pure ds
 | .cel n=>zai n
 | _=>M.bad
theorem zcE {K:W.Frag} {ι:Io} {H:Hp} {h:Hh} {d:D} {v:V} {α:Type} {f:List D->M α} {P:α->Io->Hp->Prop} (hr:zaW K ι H h) (r:Rel K ι H d v) (q:Fin K E ι H ((do let ds<-zkc d;f ds) h) P):
  ∃ a vs ds,v= .ref a/\((SqL K H a vs/\ ∀ ts,d≠ .tup ts)\/(SqT K H a vs/\d= .tup ds))/\zal K ι H ds vs/\Fin K E ι H (f ds h) P:=by
 cases d with
 | tup ds=>
  obtain ⟨a,vs,e,h1,h2⟩:=zcm r
  exact ⟨a,vs,ds,e,.inr ⟨h1,rfl⟩,h2,q⟩
 | lst ds=>
  obtain ⟨a,vs,e,h1,h2⟩:=zeg r
  exact ⟨a,vs,ds,e,.inl ⟨h1,fun _ z=>by cases z⟩,h2,q⟩
 | scr ds=>
  obtain ⟨a,vs,e,h1,h2⟩:=zlf r
  exact ⟨a,vs,ds,e,.inl ⟨h1,fun _ z=>by cases z⟩,h2,q⟩
 | cel n=>
  have q':Fin K E ι H (M.bind (zai n) f h) P:=q
  unfold M.bind at q'
  cases z:zai n h with
  | bad=>rw [z] at q';exact qa0 q'
  | exc c h'=>unfold zai at z;split at z<;>cases z
  | ok ds h'=>
   rw [z] at q'
   obtain ⟨rfl,z2⟩:=zcb z
   obtain ⟨a,vs,e,hn,hH,rl⟩:=hr.read r z2
   exact ⟨a,vs,ds,e,.inl ⟨SqL.of hH,fun _ z=>by cases z⟩,rl,q'⟩
 | _=>exact qa0 q
theorem zmu {K:W.Frag} {H:Hp} {a:Addr} {vs:List V} {d:D} {ds:List D} (h:(SqL K H a vs/\ ∀ ts,d≠ .tup ts)\/(SqT K H a vs/\d= .tup ds)):SqL K H a vs\/SqT K H a vs:=h.imp And.left And.left
theorem zuD {K:W.Frag} {ι:Io} {H:Hp} {d:D} {xs:List V} (h:zal K ι H [d] xs): ∃ v,xs=[v]/\Rel K ι H d v:=by
 simp only [zal] at h
 obtain ⟨v,r,rfl,h1,rfl⟩:=h
 exact ⟨v,rfl,h1⟩
noncomputable def zkQ {α:Type} (f:D->M α):List D->M α
 | [d]=>f d
 | _=>M.bad
theorem zbY {α:Type} {K:W.Frag} {ι:Io} {H:Hp} {h:Hh} {f:D->M α} {ds:List D} {xs:List V} {P:α->Io->Hp->Prop} (rl:zal K ι H ds xs) (q:Fin K E ι H (zkQ f ds h) P): ∃ d v,xs=[v]/\Rel K ι H d v/\Fin K E ι H (f d h) P:=by
 match ds,rl,q with
 | [d],rl,q=>
  obtain ⟨v,e,r⟩:=zuD rl
  exact ⟨d,v,e,r,q⟩
 | [],_,q=>exact qa0 q
 | _::_::_,_,q=>exact qa0 q
noncomputable def zeh:List D->M D:=zkQ fun d=>do let ds<-zkc d;pure (.int ds.length)
theorem zav:zay X (.builtin "len") (zgH X.K E zeh):=by
 refine zay.imp zhJ fun xs H Q ⟨ι,h,ds,rl,hr,q⟩=> ?_
 obtain ⟨d,v,e,r,q⟩:=zbY rl q
 obtain ⟨a,vs,ds',e',hs,rl',q⟩:=zcE hr r q
 exact ⟨a,vs,by rw [e,e'],zmu hs,Fin.out hr q _ (by rw [rl'.length];simp [Rel])⟩
noncomputable def zdj:List D->M D:=zkQ fun d=>do let ds<-zkc d;pure (.tup ds)
theorem zbV:zay X (.type "tuple") (zgH X.K E zdj):=by
 refine zay.imp zgx fun xs H Q ⟨ι,h,ds,rl,hr,q⟩=> ?_
 obtain ⟨d,v,e,r,q⟩:=zbY rl q
 obtain ⟨a,vs,ds',e',hs,rl',q⟩:=zcE hr r q
 refine ⟨a,vs,by rw [e,e'],?_⟩
 rcases hs with ⟨hs,_⟩ | ⟨hs,hd⟩
 ·exact .inl ⟨hs,fun l hl=>zon hr rl' q hl⟩
 ·exact .inr ⟨hs,Fin.out hr q _ (by rw [<- e', <-hd];exact r)⟩
noncomputable def zlA:List D->M D:=zkQ fun d=>do let ds<-zkc d;pure (.lst ds)
theorem zdX:zay X (.type "list") (zgH X.K E zlA):=by
 refine zay.imp zg3 fun xs H Q ⟨ι,h,ds,rl,hr,q⟩=> ?_
 obtain ⟨d,v,e,r,q⟩:=zbY rl q
 obtain ⟨a,vs,ds',e',hs,rl',q⟩:=zcE hr r q
 exact ⟨a,vs,by rw [e,e'],zmu hs,fun l hl=>zqc hr rl' q hl⟩
noncomputable def two2 (g:Int->Int->Int):List D->M D
 | [.int i,.int j]=>pure (.int (g i j))
 | _=>M.bad
theorem two2_inv {K:W.Frag} {ι:Io} {H:Hp} {h:Hh} {g:Int->Int->Int} {ds:List D} {xs:List V} {P:D->Io->Hp->Prop} (hr:zaW K ι H h) (rl:zal K ι H ds xs) (q:Fin K E ι H (two2 g ds h) P): ∃ i j,xs=[.int i,.int j]/\P (.int (g i j)) ι H:=by
 unfold two2 at q
 split at q
 ·simp only [zal,Rel] at rl
  obtain ⟨v,r,rfl,rfl,v',r',rfl,rfl,rfl⟩:=rl
  exact ⟨_,_,rfl,Fin.out hr q⟩
 ·exact qa0 q
noncomputable def zqC:=two2 fun i j=>if j>i then j else i
noncomputable def zpQ:=two2 fun i j=>if j<i then j else i
theorem zjW (hc:X.calm=true):zay X (.builtin "max") (zgH X.K E zqC):=by
 refine zay.imp (zlh hc) fun xs H Q ⟨ι,h,ds,rl,hr,q⟩=> ?_
 obtain ⟨i,j,e,q⟩:=two2_inv hr rl q
 exact ⟨i,j,e,q _ (by simp [Rel])⟩
theorem zjt (hc:X.calm=true):zay X (.builtin "min") (zgH X.K E zpQ):=by
 refine zay.imp (zl4 hc) fun xs H Q ⟨ι,h,ds,rl,hr,q⟩=> ?_
 obtain ⟨i,j,e,q⟩:=two2_inv hr rl q
 exact ⟨i,j,e,q _ (by simp [Rel])⟩
noncomputable def zmL:List D->Option (List Bool)
 | []=>some []
 | .bl b::r=>(zmL r).map (b:: ·)
 | _=>none
noncomputable def zcl:List D->Option (List Int)
 | []=>some []
 | .int i::r=>(zcl r).map (i:: ·)
 | _=>none
theorem zga {K:W.Frag} {ι:Io} {H:Hp}: ∀ {ds:List D} {vs:List V} {bs:List Bool},zal K ι H ds vs->zmL ds=some bs->vs=bs.map V.bl
 | [],_,_,h,e=>by simp only [zal] at h;subst h;cases e;rfl
 | d::ds,_,bs,h,e=>by
  simp only [zal] at h
  obtain ⟨v,r,rfl,h1,h2⟩:=h
  cases d with
  | bl b=>
   unfold zmL at e
   cases z:zmL ds with
   | none=>rw [z] at e;cases e
   | some cs=>
    rw [z] at e
    cases e
    simp only [Rel] at h1
    rw [h1,zga h2 z]
    rfl
  | _=>cases e
theorem zdO {K:W.Frag} {ι:Io} {H:Hp}: ∀ {ds:List D} {vs:List V} {bs:List Int},zal K ι H ds vs->zcl ds=some bs->vs=bs.map V.int
 | [],_,_,h,e=>by simp only [zal] at h;subst h;cases e;rfl
 | d::ds,_,bs,h,e=>by
  simp only [zal] at h
  obtain ⟨v,r,rfl,h1,h2⟩:=h
  cases d with
  | int b=>
   unfold zcl at e
   cases z:zcl ds with
   | none=>rw [z] at e;cases e
   | some cs=>
    rw [z] at e
    cases e
    simp only [Rel] at h1
    rw [h1,zdO h2 z]
    rfl
  | _=>cases e
theorem Fin.ofOb {α β:Type} {K:W.Frag} {ι:Io} {H:Hp} {h:Hh} {o:Option α} {f:α->M β} {P:β->Io->Hp->Prop} (q:Fin K E ι H ((do let a<-L3.ofO o;f a) h) P): ∃ a,o=some a/\Fin K E ι H (f a h) P:=by
 cases o with
 | none=>exact qa0 q
 | some a=>exact ⟨a,rfl,q⟩
noncomputable def ztj:List D->M D:=zkQ fun d=>match d with
 | .lst ds=>do let bs<-ofO (zmL ds);pure (.bl (bs.all id))
 | _=>M.bad
theorem zg8 (hc:X.calm=true):zay X (.builtin "all") (zgH X.K E ztj):=by
 refine zay.imp (zlp hc) fun xs H Q ⟨ι,h,ds,rl,hr,q⟩=> ?_
 obtain ⟨d,v,e,r,q⟩:=zbY rl q
 cases d with
 | lst ds=>
  obtain ⟨a,vs,e',h1,h2⟩:=zeg r
  obtain ⟨bs,eb,q⟩:=Fin.ofOb q
  have:=zga h2 eb
  subst this
  exact ⟨a,bs,by rw [e,e'],h1,Fin.out hr q _ (by simp [Rel])⟩
 | _=>exact qa0 q
noncomputable def zuT:List D->M D:=zkQ fun d=>match d with
 | .lst ds=>do let bs<-ofO (zcl ds);pure (.int bs.sum)
 | _=>M.bad
theorem zll (hc:X.calm=true):zay X (.builtin "sum") (zgH X.K E zuT):=by
 refine zay.imp (zmm hc) fun xs H Q ⟨ι,h,ds,rl,hr,q⟩=> ?_
 obtain ⟨d,v,e,r,q⟩:=zbY rl q
 cases d with
 | lst ds=>
  obtain ⟨a,vs,e',h1,h2⟩:=zeg r
  obtain ⟨bs,eb,q⟩:=Fin.ofOb q
  have:=zdO h2 eb
  subst this
  exact ⟨a,bs,by rw [e,e'],h1,Fin.out hr q _ (by simp [Rel])⟩
 | _=>exact qa0 q
noncomputable def zbx (d:D):M D:=do
 let ds<-zkc d
 let ns<-ofO (zcl ds)
 if (ns.foldl step_dedup []).length<64/\ns.length<4000 then pure (.lst ((zdc ns).map D.int)) else M.bad
theorem zjJ {p1 p2 pos2:Pos} {f:Sd->M D} (hc:X.calm=true) (hg1:Gl X "sorted") (hm1:X.mg "sorted"=none) (hg2:Gl X "set") (hm2:X.mg "set"=none) (he:SE X E e f)
  (h1:starEach [.Call (.Name "set" p2) [e] [] pos2] X.env=[(false,eval (.Call (.Name "set" p2) [e] [] pos2) X.env)]:=by rfl) (h2:starEach [e] X.env=[(false,eval e X.env)]:=by rfl):
  SE X E (.Call (.Name "sorted" p1) [.Call (.Name "set" p2) [e] [] pos2] [] pos) (fun sd=>do let d<-f sd;zbx d):=by
 refine PE.imp (zew (zhm hc) hg1 hm1 boot_sorted (zba (zcd (zmo hc) hg2 hm2 PyProof.Rows.boot_set (zba he zcn h2) (he:=h2)) zcn h1) (he:=h1)) fun σ H Q ⟨ι,h,sd,L,hh,q⟩=>⟨ι,h,sd,L,hh,Fin.bind q fun d h1 ι1 H1 e1 s1 hr1 q1 v rv=> ?_⟩
 obtain ⟨a,vs,ds',e',hs,rl',q2⟩:=zcE hr1 rv q1
 obtain ⟨ns,en,q3⟩:=Fin.ofOb q2
 have:=zdO rl' en
 subst this
 obtain ⟨hl,q4⟩:=Fin.guard q3
 refine ⟨a,ns,by rw [e'],zmu hs,hl.2,fun p hp=> ?_⟩
 have hr2:zaW X.K ι1 (upd H1 p (zle X.prog X.w p ns)) h1:=hr1.laid hp
 exact ⟨p,ns,rfl,.inl ⟨⟨hl.1,zaC⟩,fun l hl'=>zqc hr2 (zcY.mpr rfl) (Fin.step (hr1.laidS hp) q4) hl'⟩⟩
end
noncomputable def tyD:D->M String
 | .non=>pure "NoneType"
 | .bl _=>pure "bool"
 | .int _=>pure "int"
 | .str _=>pure "str"
 | .tup _=>pure "tuple"
 | .lst _=>pure "list"
 | .dct=>pure "dict"
 | .cel n=>do let _<-zai n;pure "list"
 | _=>M.bad
noncomputable def zk4:List String:=["NoneType","bool","int","str","tuple","list","dict"]
noncomputable def isB (T t:String):Bool:=t==T || (t=="bool" && T=="int")
noncomputable def zjh (T:String) (d:D):M D:=do let t<-tyD d;pure (.bl (isB T t))
def zjE (T:String):Prop:= ∀ (K:W.Frag), ∀ t∈zk4,W.kitOne K (.type t) (.type T)=some (isB T t)
noncomputable def zu4 (t T:String):Option Bool:=if ((Value.type t)==(Value.type T))=true then some true else if W.kitMeta T=true then (fastBuiltinMro t).map (·.contains (Value.type T)) else none
theorem zf9 {T:String} (h:(zk4.all fun t=>zu4 t T==some (isB T t))=true):zjE T:=fun K t ht=>by
 have:=List.all_eq_true.mp h t ht
 have e:W.kitOne K (.type t) (.type T)=zu4 t T:=rfl
 rw [e]
 exact beq_iff_eq.mp this
theorem zlv:zjE "int":=zf9 (by decide +kernel)
theorem zjb:zjE "bool":=zf9 (by decide +kernel)
theorem zhs:zjE "tuple":=zf9 (by decide +kernel)
section
variable {X:Cx} {E:XE} {α:Type}
theorem zpl {K:W.Frag} {ι:Io} {H:Hp} {h:Hh} {d:D} {v:V} {f:String->M α} {P:α->Io->Hp->Prop} (hr:zaW K ι H h) (r:Rel K ι H d v) (q:Fin K E ι H ((do let t<-tyD d;f t) h) P):
  ∃ t,t∈zk4/\zi2 K H v (.type t)/\Fin K E ι H (f t h) P:=by
 cases d with
 | non=>simp only [Rel] at r;subst r;exact ⟨_,by decide,.non,q⟩
 | bl b=>simp only [Rel] at r;subst r;exact ⟨_,by decide,.bl b,q⟩
 | int b=>simp only [Rel] at r;subst r;exact ⟨_,by decide,.int b,q⟩
 | str b=>simp only [Rel] at r;subst r;exact ⟨_,by decide,.str b,q⟩
 | tup ds=>
  simp only [Rel] at r
  obtain ⟨a,vs,e,h1,h2⟩:=r
  subst e
  exact ⟨_,by decide,.tup h1.1,q⟩
 | lst ds=>
  simp only [Rel] at r
  obtain ⟨a,vs,e,h1,h2⟩:=r
  subst e
  exact ⟨_,by decide,.lst h1.1,q⟩
 | dct=>
  simp only [Rel] at r
  obtain ⟨a,e,h1,h2⟩:=r
  subst e
  exact ⟨_,by decide,.dK h1,q⟩
 | cel n=>
  have q':Fin K E ι H (M.bind (zai n) (fun _=>f "list") h) P:=by
   have e:(do let t<-tyD (.cel n);f t:M α)=(zai n>>=fun _=>f "list"):=by
    show ((zai n>>=fun _=>pure "list")>>=f)=_
    simp only [bind_assoc,pure_bind]
   rw [e] at q
   exact q
  unfold M.bind at q'
  cases z:zai n h with
  | bad=>rw [z] at q';exact qa0 q'
  | exc c h'=>unfold zai at z;split at z<;>cases z
  | ok ds h'=>
   rw [z] at q'
   obtain ⟨rfl,z2⟩:=zcb z
   obtain ⟨a,vs,e,hn,hH,rl⟩:=hr.read r z2
   subst e
   exact ⟨_,by decide,.lst hH,q'⟩
 | _=>exact qa0 q
theorem zmG:zay X (.builtin "isinstance") (fun xs H Q=> ∃ x t T b,xs=[x,.ty T]/\zi2 X.K H x t/\W.kitOne X.K t (.type T)=some b/\Q (.bl b) H):=by
 intro pins s σ H xs us Q I r h
 obtain ⟨x,t,T,b,rfl,ty,e,q⟩:=h
 cases r with
 | cons r1 r2=>
  cases r2 with
  | cons r3 r4=>
   cases r4
   cases r3
   exact zla I r1 ty e fun tk=>⟨.bl b,H,I.tok tk,rfl,q⟩
theorem zsL {a:Expr} {x:Str} {T:String} {p1 p2 pos:Pos} {fa:Sd->M D} (hk:zjE T) (hg:Gl X "isinstance") (hm:X.mg "isinstance"=none) (hgT:Gl X x) (hmT:X.mg x=none) (hvT:bootBuiltins x=some (.type T)) (ha:SE X E a fa)
  (hn:x≠"__name__":=by decide) (hd:(x==("__debug__":Str))=false:=by decide)
  (h1:starEach [a,.Name x p2] X.env=(false,eval a X.env)::starEach [.Name x p2] X.env:=by rfl) (h2:starEach [.Name x p2] X.env=[(false,eval (.Name x p2) X.env)]:=by rfl)
  (hpl:(backTo pos (starEach [.Name x p2] X.env)).any (·.1)=false:=by rfl):
  SE X E (.Call (.Name "isinstance" p1) [a,.Name x p2] [] pos) (fun sd=>do let d<-fa sd;zjh T d):=by
 refine PE.imp (zew zmG hg hm PyProof.Rows.boot_isinstance (zba ha (zba (zpW (v:= .ty T) hgT hmT hvT rfl hn hd) zcn h2) h1) (he:=h1) (hpl:=hpl)) fun σ H Q ⟨ι,h,sd,L,hh,q⟩=>⟨ι,h,sd,L,hh,Fin.bind q fun d h1 ι1 H1 e1 s1 hr1 q1 v rv=> ?_⟩
 obtain ⟨t,ht,ty,q2⟩:=zpl hr1 rv q1
 exact ⟨v,.type t,T,isB T t,rfl,ty,hk X.K t ht,Fin.out hr1 q2 _ (by simp [Rel])⟩
noncomputable def zq9:D->D->M D
 | .bl a,.bl b=>pure (.bl (a != b))
 | _,_=>M.bad
noncomputable def zeu (xs:List D) (lo hi:Option Int):List D:=(xs.drop (HT.sIx xs.length 0 lo)).take (HT.sIx xs.length xs.length hi - HT.sIx xs.length 0 lo)
noncomputable def dSl (d:D) (lo hi:Option Int):M D:=match d with
 | .tup ds=>pure (.tup (zeu ds lo hi))
 | .lst ds=>pure (.lst (zeu ds lo hi))
 | _=>M.bad
noncomputable def zvi (K:W.Frag) (E:XE) (f:Sd->M (Option Int)):TO:=fun σ H Q=> ∃ ι h sd,zco K ι H sd σ/\zaW K ι H h/\Fin K E ι H (f sd h) fun o ι' H'=>Q o H'
noncomputable abbrev SO (X:Cx) (E:XE) (e:Option Expr) (f:Sd->M (Option Int)):Prop:=PO X e (zvi X.K E f)
theorem PO.imp {e:Option Expr} {t t':TO} (h:PO X e t) (m: ∀ σ H Q,t' σ H Q->t σ H Q):PO X e t':=fun pins s σ H Q I q=>h pins s σ H Q I (m _ _ _ q)
noncomputable def zeQ:Sd->M (Option Int):=fun _=>pure none
noncomputable def zqm:D->M (Option Int)
 | .int i=>pure (some i)
 | _=>M.bad
noncomputable def zeC (f:Sd->M D):Sd->M (Option Int):=fun sd=>do let d<-f sd;zqm d
theorem zcw:SO X E none zeQ:=PO.imp zqd fun σ H Q ⟨ι,h,sd,L,hh,q⟩=>Fin.out hh q
theorem zct {e:Expr} {f:Sd->M D} (h:SE X E e f):SO X E (some e) (zeC f):=by
 refine PO.imp (zo8 h) fun σ H Q ⟨ι,h,sd,L,hh,q⟩=>⟨ι,h,sd,L,hh,Fin.bind q fun d h1 ι1 H1 e1 s1 hr1 q1 v rv=> ?_⟩
 cases d with
 | int i=>simp only [Rel] at rv;exact ⟨i,rv,Fin.out hr1 q1⟩
 | _=>exact qa0 q1
noncomputable def cSl (f:Sd->M D) (lo hi:Sd->M (Option Int)):Sd->M D:=fun sd=>do let d<-f sd;let l<-lo sd;let u<-hi sd;dSl d l u
theorem zbH {e:Expr} {lo hi:Option Expr} {p2 pos:Pos} {f:Sd->M D} {fl fh:Sd->M (Option Int)} (he:SE X E e f) (hl:SO X E lo fl) (hu:SO X E hi fh):SE X E (.Subscript e (.Slice lo hi none p2) pos) (cSl f fl fh):=by
 refine PE.imp (zm7 (zo0.or (zrM.or zpU)) he hl hu) fun σ H Q ⟨ι,h,sd,L,hh,q⟩=>⟨ι,h,sd,L,hh,Fin.bind q fun d h1 ι1 H1 e1 s1 hr1 q1 v rv=> ?_⟩
 refine ⟨ι1,h1,sd,L.step s1,hr1,Fin.bind q1 fun l h2 ι2 H2 e2 s2 hr2 q2=> ?_⟩
 refine ⟨ι2,h2,sd,(L.step s1).step s2,hr2,Fin.bind q2 fun u h3 ι3 H3 e3 s3 hr3 q3=> ?_⟩
 have rv3:=(rv.step s2).step s3
 cases d with
 | tup ds=>
  obtain ⟨a,vs,e,k1,k2⟩:=zcm rv3
  by_cases hw:HT.sIx vs.length 0 l=0/\HT.sIx vs.length vs.length u=vs.length
  ·refine .inl ⟨a,vs,e,k1,hw,?_⟩
   have ec:zeu ds l u=ds:=by
    unfold zeu
    rw [k2.length,hw.1,hw.2, <-k2.length]
    simp
   refine Fin.out hr3 q3 _ ?_
   rw [ec, <-e]
   exact rv3
  ·refine .inr (.inl ⟨a,vs,e,k1,hw,fun p hp=>zon hr3 ?_ q3 hp⟩)
   unfold zeu zov
   rw [k2.length]
   exact zal.take _ (zal.drop _ k2)
 | lst ds=>
  obtain ⟨a,vs,e,k1,k2⟩:=zeg rv3
  refine .inr (.inr ⟨a,vs,e,k1,fun p hp=>zqc hr3 ?_ q3 hp⟩)
  unfold zeu zov
  rw [k2.length]
  exact zal.take _ (zal.drop _ k2)
 | _=>exact qa0 q3
noncomputable def ztm:D->M D
 | .tup ds=>pure (.tup ds.reverse)
 | _=>M.bad
theorem zsF {e:Expr} {p2 pos p3 p4:Pos} {j:Nat} {f:Sd->M D} (he:SE X E e f):SE X E (.Subscript e (.Slice none none (some (.UnaryOp .USub (.Constant (.int 1) j p3) p4)) p2) pos) (fun sd=>do let d<-f sd;ztm d):=by
 refine PE.imp (zsm he (PE.imp (zsZ zoF zol) fun σ H Q q=>⟨1,rfl,q⟩)) fun σ H Q ⟨ι,h,sd,L,hh,q⟩=>⟨ι,h,sd,L,hh,Fin.bind q fun d h1 ι1 H1 e1 s1 hr1 q1 v rv=> ?_⟩
 cases d with
 | tup ds=>
  obtain ⟨a,vs,e,k1,k2⟩:=zcm rv
  exact ⟨a,vs,e,k1,fun p hp=>zon hr1 k2.reverse q1 hp⟩
 | _=>exact qa0 q1
noncomputable def zo9 (x y:D):M D:=match x,y with
 | .int i,.int j=>if (zaU i || zaU j)=true then pure (.int (i*j)) else M.bad
 | .tup xs,.int k=>if xs≠[]/\2<=k/\k<1000/\xs.length*k.toNat<=sizeLine then pure (.tup (List.replicate k.toNat xs).flatten) else M.bad
 | _,_=>M.bad
theorem zal.rep {K:W.Frag} {ι:Io} {H:Hp} {ds:List D} {vs:List V} (h:zal K ι H ds vs): ∀ n,zal K ι H (List.replicate n ds).flatten (List.replicate n vs).flatten
 | 0=>zal.nil
 | n+1=>by
  rw [List.replicate_succ,List.replicate_succ,List.flatten_cons,List.flatten_cons]
  exact zal.append h (zal.rep h n)
theorem zkX:OpR X (binaryOp .Mult) (zda X.K E zo9):=by
 refine OpR.imp (zsa.or zpM) fun x y H Q ⟨ι,h,d1,d2,r1,r2,hr,q⟩=> ?_
 unfold zo9 at q
 split at q
 ·simp only [Rel] at r1 r2
  obtain ⟨c,q⟩:=Fin.guard q
  refine .inl ⟨_,_,r1,r2,?_,Fin.out hr q _ (by simp [Rel])⟩
  rcases (Bool.or_eq_true _ _).mp c with z | z
  ·exact .inl (zcB z)
  ·exact .inr (zcB z)
 ·simp only [Rel] at r2
  obtain ⟨a,vs,e,k1,k2⟩:=zcm r1
  obtain ⟨⟨c1,c2,c3,c4⟩,q⟩:=Fin.guard q
  refine .inr ⟨a,_,vs,e,r2,k1,fun z=>c1 ?_,c2,c3,by rw [<- k2.length];exact c4,fun p hp=>zon hr (k2.rep _) q hp⟩
  subst z
  exact List.eq_nil_of_length_eq_zero k2.length
 ·exact qa0 q
theorem zj2 {pins:List (Addr×Obj)} {σ:L2.St} {H:Hp} {s:Shared} (I:Inv X pins σ H s):sysModules<s.heap.objs.size:=
 Nat.lt_trans (by decide) (show mainGlobals<s.heap.objs.size from (I.mod.glob.keeps I.bk).lt)
theorem ziU {pos:Pos}:PE X (.Dict [] [] pos) (fun _ H Q=> ∀ p,H p=none->Q (.ref p) (upd H p (.dK []))):=fun pins s σ H Q I h=>
 wpAny_Dict_empty ⟨.ref s.heap.objs.size,_,I.laid (a:=s.heap.objs.size) (o:= .dK []) (t':=s.toks) (fun _ _ q=>qag _ q) (qaV _)
   ⟨Nat.zero_le _,beq_eq_false_iff_ne.mpr (Ne.symm (qaR (zj2 I))),[],.nil,Heap.DictOf.new s.heap⟩,rfl,h _ (I.hok.fresh (qaV _))⟩
theorem znv {pos:Pos}:SE X E (.Dict [] [] pos) (fun _=>pure .dct):=by
 refine PE.imp ziU fun σ H Q ⟨ι,h,sd,L,hh,q⟩ p hp=> ?_
 exact q ι _ (hh.laidS hp) (hh.laid hp) _ (by
   simp only [Rel]
   exact ⟨p,rfl,zaC,hh.nin hp⟩)
mutual
noncomputable def pdH (h:Hh):D->Option PyData
 | .non=>some .none
 | .bl b=>some (.bool b)
 | .int i=>some (.int i)
 | .str x=>some (.str x)
 | .tup xs=>(zmZ h xs).map .tuple
 | .lst xs=>(zmZ h xs).map .list
 | .cel n=>match h[n]? with
  | some (.lst ds)=>(pdL ds).map .list
  | _=>none
 | _=>none
noncomputable def zmZ (h:Hh):List D->Option (List PyData)
 | []=>some []
 | x::xs=>match pdH h x,zmZ h xs with
  | some a,some r=>some (a::r)
  | _,_=>none
end
mutual
theorem zr2 {pins:List (Addr×Obj)} {σ:L2.St} {H:Hp} {s:Shared} {ι:Io} {h:Hh} (I:Inv X pins σ H s) (hr:zaW X.K ι H h): ∀ {d:D} {v:V} {u:Value} {p:PyData},Rel X.K ι H d v->zbl v u->pdH h d=some p-> ∃ as,Reads s.heap u p as
 | .non,v,u,p,r,ru,e=>by simp only [Rel] at r;subst r;cases ru;simp only [pdH] at e;cases e;exact ⟨_,.none⟩
 | .bl b,v,u,p,r,ru,e=>by simp only [Rel] at r;subst r;cases ru;simp only [pdH] at e;cases e;exact ⟨_,.bool _⟩
 | .int i,v,u,p,r,ru,e=>by simp only [Rel] at r;subst r;obtain ⟨t,rfl⟩:=ru;simp only [pdH] at e;cases e;exact ⟨_,.int _ _⟩
 | .str i,v,u,p,r,ru,e=>by simp only [Rel] at r;subst r;obtain ⟨t,rfl⟩:=ru;simp only [pdH] at e;cases e;exact ⟨_,.str _ _⟩
 | .tup ds,v,u,p,r,ru,e=>by
  obtain ⟨a,vs,rfl,h1,h2⟩:=zcm r
  cases ru
  obtain ⟨its,rv,pl,_⟩:=I.tuple h1
  obtain ⟨o,ho,hc,n,hd⟩:=pl
  simp only [pdH] at e
  cases z:zmZ h ds with
  | none=>rw [z] at e;cases e
  | some ps=>
   rw [z] at e;cases e
   obtain ⟨as,q⟩:=zh3 I hr h2 rv z
   exact ⟨_,.tuple ho hc hd (by simpa using q)⟩
 | .lst ds,v,u,p,r,ru,e=>by
  obtain ⟨a,vs,rfl,h1,h2⟩:=zeg r
  cases ru
  obtain ⟨its,rv,pl,_⟩:=I.list h1
  obtain ⟨o,ho,hc,n,hd⟩:=pl.isList
  simp only [pdH] at e
  cases z:zmZ h ds with
  | none=>rw [z] at e;cases e
  | some ps=>
   rw [z] at e;cases e
   obtain ⟨as,q⟩:=zh3 I hr h2 rv z
   exact ⟨_,.list ho hc hd (by simpa using q)⟩
 | .cel m,v,u,p,r,ru,e=>by
  simp only [pdH] at e
  cases z0:h[m]? with
  | none=>rw [z0] at e;cases e
  | some c=>
   rw [z0] at e
   cases c with
   | dead=>cases e
   | dic _=>cases e
   | lst ds=>
    obtain ⟨a,vs,rfl,hn,hH,rl⟩:=hr.read r z0
    cases ru
    obtain ⟨its,rv,pl,_⟩:=I.list (SqL.of hH)
    obtain ⟨o,ho,hc,n,hd⟩:=pl.isList
    cases z:pdL ds with
    | none=>simp only [z] at e;cases e
    | some ps=>
     simp only [z] at e;cases e
     obtain ⟨as,q⟩:=zhG I rl rv z
     exact ⟨_,.list ho hc hd (by simpa using q)⟩
 | .scr ds,_,_,_,_,_,e=>by simp only [pdH] at e;cases e
 | .set xs,_,_,_,_,_,e=>by simp only [pdH] at e;cases e
 | .dct,_,_,_,_,_,e=>by simp only [pdH] at e;cases e
 | .fn _,_,_,_,_,_,e=>by simp only [pdH] at e;cases e
 | .exn _,_,_,_,_,_,e=>by simp only [pdH] at e;cases e
theorem zh3 {pins:List (Addr×Obj)} {σ:L2.St} {H:Hp} {s:Shared} {ι:Io} {h:Hh} (I:Inv X pins σ H s) (hr:zaW X.K ι H h): ∀ {ds:List D} {vs:List V} {us:List Value} {ps:List PyData},zal X.K ι H ds vs->zaK vs us->zmZ h ds=some ps-> ∃ as,ReadsAll s.heap us ps as
 | [],vs,us,ps,r,ru,e=>by simp only [zal] at r;subst r;cases ru;simp only [zmZ] at e;cases e;exact ⟨_,.nil⟩
 | d::ds,vs,us,ps,r,ru,e=>by
  simp only [zal] at r
  obtain ⟨v,vr,rfl,r1,r2⟩:=r
  cases ru with
  | cons ru1 ru2=>
   simp only [zmZ] at e
   cases z:pdH h d with
   | none=>rw [z] at e;cases e
   | some a=>
    cases z2:zmZ h ds with
    | none=>rw [z,z2] at e;cases e
    | some b=>
     rw [z,z2] at e
     cases e
     obtain ⟨as,q1⟩:=zr2 I hr r1 ru1 z
     obtain ⟨bs,q2⟩:=zh3 I hr r2 ru2 z2
     exact ⟨_,.cons q1 q2⟩
end
end
noncomputable abbrev FE:=Sd->M D
noncomputable abbrev FT:=Sd->M Bool
noncomputable abbrev FA:=Sd->M (List D)
noncomputable abbrev FS:=Sd->M Out
noncomputable def cOp (F:D->D->M D) (a b:FE):FE:=fun sd=>do let x<-a sd;let y<-b sd;F x y
noncomputable def cUn (F:D->M D) (a:FE):FE:=fun sd=>do let x<-a sd;F x
noncomputable def zaA (F:List D->M D) (a:FA):FE:=fun sd=>do let ds<-a sd;F ds
noncomputable def zeq (F:D->D->M D) (a b:FE):FT:=fun sd=>do let z<-(do let x<-a sd;let y<-b sd;F x y);zcX z
noncomputable def zkq (a:FE):FT:=fun sd=>do let x<-a sd;zcX x
noncomputable def zjT (t:FT):FT:=fun sd=>do let c<-t sd;pure (!c)
noncomputable def zu1 (t u:FT):FT:=fun sd=>do let c<-t sd;if c=true then u sd else pure false
noncomputable def tOr (t u:FT):FT:=fun sd=>do let c<-t sd;if c=true then pure true else u sd
noncomputable def zqL (a b:FE):FE:=fun sd=>do let c<-(do let x<-a sd;zcX x);if c=true then b sd else pure (.bl false)
noncomputable def cOr (a b:FE):FE:=fun sd=>do let c<-(do let x<-a sd;zcX x);if c=true then pure (.bl true) else b sd
noncomputable def ztf (a:FE):FE:=fun sd=>do let c<-(do let x<-a sd;zcX x);pure (.bl (!c))
noncomputable def cIf (t:FT) (a b:FE):FE:=fun sd=>do let c<-t sd;if c=true then a sd else b sd
noncomputable def cK (d:D):FE:=fun _=>pure d
noncomputable def zak:FA:=fun _=>pure []
noncomputable def zab (a:FE) (r:FA):FA:=fun sd=>do let x<-a sd;let r<-r sd;pure (x::r)
noncomputable def zcH (fs:FA):FE:=fun sd=>do let ds<-fs sd;fits ds.length;pure (.tup ds)
noncomputable def zfd (fs:FA):FE:=fun sd=>do let ds<-fs sd;fits ds.length;pure (.lst ds)
noncomputable def zia (fs:FA):FE:=fun sd=>do let ds<-fs sd;fits ds.length;zd9 ds
noncomputable def zf0:FS:=fun sd=>pure (.nx sd)
noncomputable def zan (g g':FS):FS:=fun sd=>do let o<-g sd;andThen o g'
noncomputable def zbq (i:Nat) (f:FE):FS:=fun sd=>do let d<-f sd;pure (.nx (sd.set i (some d)))
noncomputable def zcj (f:FE):FS:=fun sd=>do let d<-f sd;pure (.rt d)
noncomputable def sIf (t:FT) (g g':FS):FS:=fun sd=>do let c<-t sd;if c=true then g sd else g' sd
noncomputable def zhO (fi:FA) (g:D->Sd->M Sd) (gb:FS):FS:=fun sd=>do let ds<-fi sd;zaJ (fun x sd=>do let sd1<-g x sd;gb sd1) ds sd
noncomputable def zqQ (f:FE) (g:D->Sd->M Sd):FS:=fun sd=>do let d<-f sd;let sd'<-g d sd;pure (.nx sd')
noncomputable def zfk (f:FE):FS:=fun sd=>do let _<-f sd;pure (.nx sd)
noncomputable def iSq (f:FE):FA:=fun sd=>do let d<-f sd;zeG d
noncomputable def zkd (fs:FA):FA:=fun sd=>do let ds<-fs sd;zj9 ds
noncomputable def zps (fo fi:FE):D->Sd->M Sd:=fun d sd=>do let x<-fo sd;let y<-fi sd;zl8 x y d;pure sd
section
variable {X:Cx} {E:XE} {a b e c:Expr} {es:List Expr} {pos p p1 p2:Pos} {fa fb f:FE} {fs:FA} {x:Str}
theorem zac (i:Nat) (hN:X.N[i]? = some x:=by rfl) (hv:Vis X.env.scope x:=by first | exact Or.inl rfl | exact Or.inr (Or.inl rfl) | exact Or.inr (Or.inr rfl)) (hd:(x==("__debug__":Str))=false:=by decide) (hcd:(x==("__classdict__":Str))=false:=by decide):SE X E (.Name x pos) (zaf i):=zq7 i hN hv hd hcd
theorem zah {i:Int} {j:Nat}:SE X E (.Constant (.int i) j pos) (cK (.int i)):=zsS
theorem zic {i:Bool} {j:Nat}:SE X E (.Constant (.bool i) j pos) (cK (.bl i)):=ztW
theorem zka {j:Nat}:SE X E (.Constant .none j pos) (cK .non):=zsy
theorem zcO {i:Str} {j:Nat}:SE X E (.Constant (.str i) j pos) (cK (.str i)):=zse
theorem zbr {op:Operator} {F:D->D->M D} (ho:OpR X (binaryOp op) (zda X.K E F)) (ha:SE X E a fa) (hb:SE X E b fb):SE X E (.BinOp a op b pos) (cOp F fa fb):=zty ho ha hb
theorem znB {op:CmpOp} {F:D->D->M D} (ho:OpR X (compareOp op) (zda X.K E F)) (ha:SE X E a fa) (hb:SE X E b fb) (hm:behindInMarks op b=false:=by rfl):SE X E (.Compare a [op] [b] pos) (cOp F fa fb):=zqW ho ha hb hm
theorem za3 {op:CmpOp} {F:D->D->M D} (ho:OpR X (compareOp op) (zda X.K E F)) (ha:SE X E a fa) (hb:SE X E b fb) (hm:behindInMarks op b=false:=by rfl):ST X E (.Compare a [op] [b] pos) (zeq F fa fb):=zsf ho ha hb hm
theorem zbA (ha:SE X E a fa) (hb:SE X E b fb) (hs:zfX b:=by intro _ _;rfl):SE X E (.Subscript a b pos) (cOp dIx fa fb):=zuj zvk ha hb hs
theorem zjI (ha:SE X E a fa):SE X E (.UnaryOp .USub a pos) (cUn zm3 fa):=zq0 ha
theorem zsl (ha:SE X E a fa):SE X E (.UnaryOp .Not a pos) (ztf fa):=zrt ha
theorem zni {op:BoolOp} (h:SE X E a fa):SE X E (.BoolOp op [a] pos) fa:=zsR h
theorem zmU {rest:List Expr} (ha:SE X E a fa) (hb:SE X E (.BoolOp .And (b::rest) pos) fb):SE X E (.BoolOp .And (a::b::rest) pos) (zqL fa fb):=zrX ha hb
theorem zdz (h:SE X E e f) (he: ∀ whole,isTrue e X.env whole=(do let v<-whole;standAt e.pos;holding [v] (truthy v)):=by intro _;rfl):ST X E e (zkq f):=zrs h he
theorem zdP {t:FT} (ha:ST X E a t):ST X E (.UnaryOp .Not a pos) (zjT t):=zsu ha
theorem ziZ {t:FT} (ha:ST X E a t):PW X (.BoolOp .Or [a] pos) (zjM X.K E t):=zs1 ha
theorem zh8 {rest:List Expr} {t u:FT} (ha:ST X E a t) (hb:PW X (.BoolOp .Or (b::rest) pos) (zjM X.K E u)):PW X (.BoolOp .Or (a::b::rest) pos) (zjM X.K E (tOr t u)):=ztx ha hb
theorem zfW {op:BoolOp} {vs:List Expr} {t:FT} (h:PW X (.BoolOp op vs pos) (zjM X.K E t)):ST X E (.BoolOp op vs pos) t:=zqA h
theorem ztN {t:FT} (hc:ST X E c t) (ha:SE X E a fa) (hb:SE X E b fb):SE X E (.IfExp c a b pos) (cIf t fa fb):=znY hc ha hb
theorem zlQ {env:Env} (h: ∀ v p,e≠ .Starred v p):starEach (e::es) env=(false,eval e env)::starEach es env:=by
 cases e<;>first | rfl | exact absurd rfl (h _ _)
theorem zad:SA X E [] zak:=zr3
theorem zaa (ha:SE X E e fa) (hr:SA X E es fs) (hs:starEach (e::es) X.env=(false,eval e X.env)::starEach es X.env:=by exact zlQ (fun _ _ z=>nomatch z)):SA X E (e::es) (zab fa fs):=zpw ha hr hs
theorem zaY {k} (h:SA X E es fs):SE X E (.Tuple es k pos) (zcH fs):=zrY h
theorem zcf (h:SA X E es fs):SE X E (.List es pos) (zfd fs):=zq8 h
theorem zht (h:SA X E es fs):SE X E (.List es pos) (zia fs):=zpV h
theorem zpg:SE X E (.Dict [] [] pos) (cK .dct):=znv
theorem ztU {p3 p4:Pos} {j:Nat} (he:SE X E e f):SE X E (.Subscript e (.Slice none none (some (.UnaryOp .USub (.Constant (.int 1) j p3) p4)) p2) pos) (cUn ztm f):=zsF he
theorem zax {id:String} {F:List D->M D} (hc:zay X (.builtin id) (zgH X.K E F)) (hv:bootBuiltins x=some (.builtin id)) (hm:X.mg x=none) (ha:SA X E (e::es) fs) (hg:Gl X x:=by rfl) (hn:x≠"__name__":=by decide) (hdb:(x==("__debug__":Str))=false:=by decide)
  (he:starEach (e::es) X.env=(false,eval e X.env)::starEach es X.env:=by rfl) (hpl:(backTo pos (starEach es X.env)).any (·.1)=false:=by rfl):SE X E (.Call (.Name x p) (e::es) [] pos) (zaA F fs):=zm4 hc hg hm hv ha hn hdb he hpl
theorem zbI {T:String} {F:List D->M D} (hc:zay X (.type T) (zgH X.K E F)) (hv:bootBuiltins x=some (.type T)) (hm:X.mg x=none) (ha:SA X E (e::es) fs) (hg:Gl X x:=by rfl) (hn:x≠"__name__":=by decide) (hdb:(x==("__debug__":Str))=false:=by decide)
  (he:starEach (e::es) X.env=(false,eval e X.env)::starEach es X.env:=by rfl) (hpl:(backTo pos (starEach es X.env)).any (·.1)=false:=by rfl):SE X E (.Call (.Name x p) (e::es) [] pos) (zaA F fs):=zlx hc hg hm hv ha hn hdb he hpl
theorem zjQ {T:String} (hk:zjE T) (hvT:bootBuiltins x=some (.type T)) (hm:X.mg "isinstance"=none) (hmT:X.mg x=none) (ha:SE X E a fa) (hg:Gl X "isinstance":=by rfl) (hgT:Gl X x:=by rfl)
  (hn:x≠"__name__":=by decide) (hd:(x==("__debug__":Str))=false:=by decide)
  (h1:starEach [a,.Name x p2] X.env=(false,eval a X.env)::starEach [.Name x p2] X.env:=by rfl) (h2:starEach [.Name x p2] X.env=[(false,eval (.Name x p2) X.env)]:=by rfl)
  (hpl:(backTo pos (starEach [.Name x p2] X.env)).any (·.1)=false:=by rfl):SE X E (.Call (.Name "isinstance" p1) [a,.Name x p2] [] pos) (cUn (zjh T) fa):=zsL hk hg hm hgT hmT hvT ha hn hd h1 h2 hpl
theorem zeA {pos2:Pos} (hc:X.calm=true) (hm1:X.mg "sorted"=none) (hm2:X.mg "set"=none) (he:SE X E e f) (hg1:Gl X "sorted":=by rfl) (hg2:Gl X "set":=by rfl)
  (h1:starEach [.Call (.Name "set" p2) [e] [] pos2] X.env=[(false,eval (.Call (.Name "set" p2) [e] [] pos2) X.env)]:=by rfl) (h2:starEach [e] X.env=[(false,eval e X.env)]:=by rfl):
  SE X E (.Call (.Name "sorted" p1) [.Call (.Name "set" p2) [e] [] pos2] [] pos) (cUn zbx f):=zjJ hc hg1 hm1 hg2 hm2 he h1 h2
theorem zaz {k:Nat} {g:Addr} {fd:FuncData} {ps:List Str} {n:Nat} {F:List D->M D} (G:zbw X.prog X.w X.K X.mg X.base CX0 k g fd ps (zcp X.K n F)) (hr:zdg k X.A) (hm:X.mg x=some (.ref g)) (hk:W.keepIn X.K (.ref g)=true) (hb:zaG X.K fd ps [])
  (ha:SA X E0x (e::es) fs) (hg:Gl X x:=by rfl) (hdb:(x==("__debug__":Str))=false:=by decide) (he:starEach (e::es) X.env=(false,eval e X.env)::starEach es X.env:=by rfl) (hpl:(backTo pos (starEach es X.env)).any (·.1)=false:=by rfl):
  SE X E0x (.Call (.Name x p) (e::es) [] pos) (zaA (zam n F) fs):=zpv G hr hg hm hk hb ha hdb he hpl
theorem zby:SSs X E [] zf0:=zsq
theorem zaj {st:Stmt} {g:FS} (h1:SS X E st g):SSs X E [st] g:=zq4 h1
theorem zag {st:Stmt} {rest:List Stmt} {g g':FS} (h1:SS X E st g) (h2:SSs X E rest g'):SSs X E (st::rest) (zan g g'):=zqp h1 h2
theorem zaT (he:SE X E e f):SS X E (.Return (some e) pos) (zcj f):=ztM he
theorem zgW {ys ns:List Stmt} {t:FT} {g g':FS} (hc:ST X E c t) (ha:SSs X E ys g) (hb:SSs X E ns g'):SS X E (.If c ys ns pos) (sIf t g g'):=zvE hc ha hb
theorem zeR (he:SE X E e f) (hs:swapsWith e none pos.line X.env=pure false:=by rfl):SS X E (.Expr e pos) (zfk f):=zs8 he hs
theorem zaF (i:Nat) (hN:X.N.Nodup) (he:SE X E e f) (hi:X.N[i]? = some x:=by rfl) (hx:Loc X.env.scope x:=by first | exact Or.inl rfl | exact Or.inr rfl) (hf:X.fn x=true\/X.env.scope.names.lookup x=some .local:=by first | exact Or.inl rfl | exact Or.inr rfl)
  (hs:swapsWith e (some (.Name x p)) pos.line X.env=pure false:=by rfl):SS X E (.Assign [.Name x p] e pos) (zbq i f):=zuh i hN hi hx hf he hs
theorem znC {tg:Expr} {g:D->Sd->M Sd} (he:SE X E e f) (hg:SG X E tg g) (hs:swapsWithSole [tg] e pos.line X.env=pure false:=by rfl) (hw:swappedStores [tg] e X.env=pure none:=by rfl)
  (h1:(assignEach [tg] X.env).map (·.2)=[assign tg X.env]:=by rfl):SS X E (.Assign [tg] e pos) (zqQ f g):=zuF he hg hs hw h1
theorem zau (i:Nat) (hN:X.N.Nodup) (hi:X.N[i]? = some x:=by rfl) (hx:Loc X.env.scope x:=by first | exact Or.inl rfl | exact Or.inr rfl) (hf:X.fn x=true\/X.env.scope.names.lookup x=some .local:=by first | exact Or.inl rfl | exact Or.inr rfl):SG X E (.Name x pos) (zaX i):=zo1 i hN hi hx hf
theorem zit:SGs X E [] zgD:=zpO
theorem zc5 {g:D->Sd->M Sd} {gs:List D->Sd->M Sd} (h1:SG X E e g) (h2:SGs X E es gs) (hs:(assignEach (e::es) X.env).map (·.2)=assign e X.env::(assignEach es X.env).map (·.2):=by rfl):SGs X E (e::es) (zcG g gs):=znS h1 h2 hs
theorem zk6 {k n:Nat} {gs:List D->Sd->M Sd} (hc:X.calm=true) (h:SGs X E es gs) (hn:(assignEach es X.env).length=n:=by rfl) (hst:(assignEach es X.env).findIdx? (·.1)=none:=by rfl):SG X E (.Tuple es k pos) (zhF n gs):=zsB hc h hn hst
theorem zra (ho:SE X E a fa) (hi:SE X E b fb) (ha: ∀ v,assign (.Subscript a b pos) X.env v=(do
      let ov<-holding [v] (eval a X.env)
      let iv<-holding [v,ov] (eval b X.env)
      standAt pos
      holding [v,ov,iv] (setItem ov iv v)
      release [v,ov,iv] []):=by intro _;rfl):SG X E (.Subscript a b pos) (zps fa fb):=zs4 fun hs=>zoE ho hi hs ha
theorem zcP {tg:Expr} (he:SE X E e f):SI X E tg e (iSq f):=zq6 he
theorem zhp {tg:Expr} (hm:X.mg "range"=none) (ha:SA X E [a] fs) (hg:Gl X "range":=by rfl) (hs:starEach [a] X.env=[(false,eval a X.env)]:=by rfl):SI X E tg (.Call (.Name "range" p) [a] [] pos) (zkd fs):=zqB hg hm ha hs
theorem zec {tg iter:Expr} {body:List Stmt} {fi:FA} {g:D->Sd->M Sd} {gb:FS} (hc:X.calm=true) (hp:PassesOwn (model X.prog X.w) X.A X.env X.xe) (hi:SI X E tg iter fi) (hg:SG X E tg g) (hb:SSs X E body gb)
  (hs: ∀ x,foldedSetIterable iter X.env x=pure x:=by intro _;rfl):SS X E (.For tg iter body [] pos) (zhO fi g gb):=zts hc hp hi hg hb hs
theorem zfM:SCs X E [] (fun _=>pure true):=zrN
theorem ze0 {t:FT} (h:ST X E c t):SCs X E [c] t:=zrZ h
theorem zdv {scope:Scope} {N:List Str} {src:List (Option Nat)} {tg iter elt:Expr} {ifs:List Expr} {fi:FA} {g:D->Sd->M Sd} {tc:FT} {te:FE} (hc:X.calm=true) (B:BOk X scope N src) (hk:zaZ g src) (hi:SI X E tg iter fi)
  (hg: ∀ s H fp,SG (cxB X scope N s H fp) E tg g) (ht: ∀ s H fp,SCs (cxB X scope N s H fp) E ifs tc) (he: ∀ s H fp,SE (cxB X scope N s H fp) E elt te)
  (hs: ∀ x,foldedSetIterable iter X.env x=pure x:=by intro _;rfl):SE X E (.ListComp elt [⟨tg,iter,ifs,0⟩] scope pos) (zaP fi g tc te src):=zp4 B hk hi hg ht he hs
theorem zdH {scope:Scope} {N:List Str} {src:List (Option Nat)} {tg iter elt:Expr} {ifs:List Expr} {fi:FA} {g:D->Sd->M Sd} {tc:FT} {te:FE} (i:Nat) {y:Str} {py spos:Pos} (hc:X.calm=true) (hN:X.N.Nodup) (B:BOk X scope N src) (hk:zaZ g src) (hi:SI X E tg iter fi)
  (hg: ∀ s H fp,SG (cxB X scope N s H fp) E tg g) (ht: ∀ s H fp,SCs (cxB X scope N s H fp) E ifs tc) (he: ∀ s H fp,SE (cxB X scope N s H fp) E elt te)
  (hy:X.N[i]? = some y:=by rfl) (hx:Loc X.env.scope y:=by first | exact Or.inl rfl | exact Or.inr rfl) (hf:X.fn y=true\/X.env.scope.names.lookup y=some .local:=by first | exact Or.inl rfl | exact Or.inr rfl) (hsw:swapsWith (.ListComp elt [⟨tg,iter,ifs,0⟩] scope pos) (some (.Name y py)) spos.line X.env=pure true:=by rfl)
  (hs: ∀ x,foldedSetIterable iter X.env x=pure x:=by intro _;rfl):SS X E (.Assign [.Name y py] (.ListComp elt [⟨tg,iter,ifs,0⟩] scope pos) spos) (zbq i (zaP fi g tc te src)):=zlU i B hk hi hg ht he hN hy hx hf hsw hs
end
theorem zaW.empty {K:W.Frag} {H:Hp}:zaW K ⟨[],[]⟩ H []:=⟨rfl,fun m n a h=>by simp at h,fun n a c h=>by simp at h,fun n h=>by simp at h,fun a h=>by cases h⟩
theorem zt3 {K:W.Frag} {F:List D->M D} {H:Hp} {a:Addr} {ns:List Int} (hS:SqL K H a (ns.map V.int)) (hm: ∃ h',F [.scr (ns.map D.int)] []= .ok (.bl true) h'):zcp K 1 F [.ref a] H (fun v _=>v= .bl true) fun _ _ _=>False:=by
 obtain ⟨h',e⟩:=hm
 refine ⟨rfl,⟨[],[]⟩,[],[.scr (ns.map D.int)],zal.cons ?_ zal.nil,zaW.empty,?_⟩
 ·simp only [Rel]
  refine ⟨a,ns.map V.int,rfl,?_,zcY.mpr rfl⟩
  rcases hS with h | h
  ·exact .inl ⟨h,fun z=>by rcases z with z | z<;>cases z⟩
  ·exact .inr (.inr h)
 ·rw [e]
  intro ι1 H1 s hr v rv
  simpa [Rel] using rv
section
variable {sd:Sd} {a b:FE} {fs:FA} {t u:FT} {g g':FS} {F:D->D->M D}
@[simp] theorem zdR:cOp F a b sd=(do let x<-a sd;let y<-b sd;F x y):=rfl
@[simp] theorem zn1 {F:D->M D}:cUn F a sd=(do let x<-a sd;F x):=rfl
@[simp] theorem zbC {F:List D->M D}:zaA F fs sd=(do let ds<-fs sd;F ds):=rfl
@[simp] theorem zfI:zeq F a b sd=(do let z<-(do let x<-a sd;let y<-b sd;F x y);zcX z):=rfl
@[simp] theorem ziK:zkq a sd=(do let x<-a sd;zcX x):=rfl
@[simp] theorem ziO:zjT t sd=(do let c<-t sd;pure (!c)):=rfl
@[simp] theorem zsG:zu1 t u sd=(do let c<-t sd;if c=true then u sd else pure false):=rfl
@[simp] theorem zqD:tOr t u sd=(do let c<-t sd;if c=true then pure true else u sd):=rfl
@[simp] theorem zmg:zqL a b sd=(do let c<-(do let x<-a sd;zcX x);if c=true then b sd else pure (.bl false)):=rfl
@[simp] theorem zuW:cOr a b sd=(do let c<-(do let x<-a sd;zcX x);if c=true then pure (.bl true) else b sd):=rfl
@[simp] theorem zkI:ztf a sd=(do let c<-(do let x<-a sd;zcX x);pure (.bl (!c))):=rfl
@[simp] theorem ztv:cIf t a b sd=(do let c<-t sd;if c=true then a sd else b sd):=rfl
@[simp] theorem zgj {d:D}:cK d sd=pure d:=rfl
@[simp] theorem zbe:zak sd=pure []:=rfl
@[simp] theorem zaL:zab a fs sd=(do let x<-a sd;let r<-fs sd;pure (x::r)):=rfl
@[simp] theorem zlT:zcH fs sd=(do let ds<-fs sd;fits ds.length;pure (.tup ds)):=rfl
@[simp] theorem zje:zfd fs sd=(do let ds<-fs sd;fits ds.length;pure (.lst ds)):=rfl
@[simp] theorem zgz:zia fs sd=(do let ds<-fs sd;fits ds.length;zd9 ds):=rfl
@[simp] theorem ze5:zf0 sd=pure (.nx sd):=rfl
@[simp] theorem zaN:zan g g' sd=(do let o<-g sd;andThen o g'):=rfl
@[simp] theorem zbT {i:Nat}:zbq i a sd=(do let d<-a sd;pure (.nx (sd.set i (some d)))):=rfl
@[simp] theorem zck:zcj a sd=(do let d<-a sd;pure (.rt d)):=rfl
@[simp] theorem zij:sIf t g g' sd=(do let c<-t sd;if c=true then g sd else g' sd):=rfl
@[simp] theorem zhv {fi:FA} {gt:D->Sd->M Sd}:zhO fi gt g sd=(do let ds<-fi sd;zaJ (fun x sd=>do let sd1<-gt x sd;g sd1) ds sd):=rfl
@[simp] theorem zoO {gt:D->Sd->M Sd}:zqQ a gt sd=(do let d<-a sd;let sd'<-gt d sd;pure (.nx sd')):=rfl
@[simp] theorem zhV:zfk a sd=(do let _<-a sd;pure (.nx sd)):=rfl
@[simp] theorem zsb:iSq a sd=(do let d<-a sd;zeG d):=rfl
@[simp] theorem zhy:zkd fs sd=(do let ds<-fs sd;zj9 ds):=rfl
@[simp] theorem zpa {d:D}:zps a b d sd=(do let x<-a sd;let y<-b sd;zl8 x y d;pure sd):=rfl
@[simp] theorem zdi {i:Nat} {d:D}:zaX i d sd=pure (sd.set i (some d)):=rfl
@[simp] theorem zgP:andThen (.nx sd) g=g sd:=rfl
@[simp] theorem zuz {d:D}:andThen (.rt d) g=pure (.rt d):=rfl
@[simp] theorem zvL:andThen (.bk sd) g=pure (.bk sd):=rfl
@[simp] theorem zvK:andThen (.ct sd) g=pure (.ct sd):=rfl
@[simp] theorem zri:zc2 (.nx sd)=pure .non:=rfl
@[simp] theorem zgX {d:D}:zc2 (.rt d)=pure d:=rfl
@[simp] theorem zcZ {c:Bool}:zcX (.bl c)=pure c:=rfl
@[simp] theorem zuw {lo hi:Sd->M (Option Int)}:cSl a lo hi sd=(do let d<-a sd;let l<-lo sd;let u<-hi sd;dSl d l u):=rfl
@[simp] theorem zpn:zeQ sd=pure none:=rfl
@[simp] theorem zqo:zeC a sd=(do let d<-a sd;zqm d):=rfl
@[simp] theorem zsQ {i:Int}:zqm (.int i)=pure (some i):=rfl
@[simp] theorem ztB {ds:List D} {lo hi:Option Int}:dSl (.tup ds) lo hi=pure (.tup (zeu ds lo hi)):=rfl
@[simp] theorem ztH {ds:List D}:ztm (.tup ds)=pure (.tup ds.reverse):=rfl
@[simp] theorem zuS {i:Int}:zm3 (.int i)=pure (.int (-i)):=rfl
@[simp] theorem zeB {i j:Int}:zcq (.int i) (.int j)=pure (.int (i+j)):=rfl
@[simp] theorem zsh {xs ys:List D}:zcq (.tup xs) (.tup ys)=(do fits (xs.length+ys.length);pure (.tup (xs++ys))):=rfl
@[simp] theorem zoy {xs ys:List D}:zcq (.lst xs) (.lst ys)=(do fits (xs.length+ys.length);pure (.lst (xs++ys))):=rfl
@[simp] theorem ztr {i j:Int}:ztb (.int i) (.int j)=pure (.int (i - j)):=rfl
@[simp] theorem zvl {i j:Int}:zvB (.int i) (.int j)=pure (.int (Builtin.bitAnd i j)):=rfl
@[simp] theorem zqN {i j:Int}:dLt (.int i) (.int j)=pure (.bl (decide (i<j))):=rfl
@[simp] theorem zu2 {i j:Int}:dLe (.int i) (.int j)=pure (.bl (decide (i<=j))):=rfl
@[simp] theorem zvo {i j:Int}:dGt (.int i) (.int j)=pure (.bl (decide (j<i))):=rfl
@[simp] theorem ztq {i j:Int}:dGe (.int i) (.int j)=pure (.bl (decide (j<=i))):=rfl
@[simp] theorem zun {i j:Bool}:zq9 (.bl i) (.bl j)=pure (.bl (i != j)):=rfl
@[simp] theorem zrH {ds:List D}:zeh [.tup ds]=pure (.int ds.length):=rfl
@[simp] theorem zs5 {ds:List D}:zeh [.lst ds]=pure (.int ds.length):=rfl
@[simp] theorem zoD {ds:List D}:zeh [.scr ds]=pure (.int ds.length):=rfl
@[simp] theorem zrq {ds:List D}:zdj [.tup ds]=pure (.tup ds):=rfl
@[simp] theorem zoK {ds:List D}:zdj [.lst ds]=pure (.tup ds):=rfl
@[simp] theorem zok {ds:List D}:zlA [.tup ds]=pure (.lst ds):=rfl
@[simp] theorem zrP {ds:List D}:zeG (.tup ds)=pure ds:=rfl
@[simp] theorem zuQ {ds:List D}:zeG (.lst ds)=pure ds:=rfl
@[simp] theorem zhT {F:List D->M D} {x:D}:zam 1 F [x]=F [x]:=rfl
@[simp] theorem zca {F:List D->M D} {x y:D}:zam 2 F [x,y]=F [x,y]:=rfl
@[simp] theorem zpp {F:List D->M D} {x y z:D}:zam 3 F [x,y,z]=F [x,y,z]:=rfl
@[simp] theorem zbG {body:D->Sd->M Out}:zaJ body [] sd=pure (.nx sd):=rfl
theorem zbc {body:D->Sd->M Out} {x:D} {r:List D}:zaJ body (x::r) sd=(do let o<-body x sd;match o with | .nx sd'=>zaJ body r sd' | .ct sd'=>zaJ body r sd' | .bk sd'=>pure (.nx sd') | .rt d=>pure (.rt d)):=rfl
@[simp] theorem zld {gs:List D->Sd->M Sd} {x y:D}:zhF 2 gs (.tup [x,y]) sd=gs [x,y] sd:=rfl
@[simp] theorem zkU:zgD [] sd=pure sd:=rfl
@[simp] theorem ziC {gt:D->Sd->M Sd} {gs:List D->Sd->M Sd} {x:D} {r:List D}:zcG gt gs (x::r) sd=(do let sd1<-gt x sd;gs r sd1):=rfl
@[simp] theorem zs6 {n:Nat} {k:Int} {d:D}:zl8 (.cel n) (.int k) d=(do let ds<-zai n;let j<-ofO (ixN ds.length k);zbu n (ds.set j d)):=rfl
@[simp] theorem ztG {ds:List D} {i:Int}:dIx (.tup ds) (.int i)=ofO (atI ds i):=rfl
@[simp] theorem zsi {ds:List D} {i:Int}:dIx (.lst ds) (.int i)=ofO (atI ds i):=rfl
@[simp] theorem zuy {ds:List D} {i:Int}:dIx (.scr ds) (.int i)=ofO (atI ds i):=rfl
@[simp] theorem zuI {n:Nat} {i:Int}:dIx (.cel n) (.int i)=(do let ds<-zai n;ofO (atI ds i)):=rfl
@[simp] theorem zih {α:Type} {x:α}:ofO (some x)=pure x:=rfl
@[simp] theorem zsH {x:D} {r:List D}:atI (x::r) 0=some x:=by unfold atI ixN;simp
@[simp] theorem zt1 {x y:D} {r:List D}:atI (x::y::r) 1=some y:=by
 have:=zdr (xs:=x::y::r) (j:=1) (v:=y) rfl
 simpa using this
end
theorem zaw {n:Nat} (h:n<=1000):fits n=pure ():=by
 unfold fits
 rw [qa4 (qaS h (by decide))]
theorem ziW {i j:Int} (h:(zaU i || zaU j)=true):zo9 (.int i) (.int j)=pure (.int (i*j)):=by
 show (if (zaU i || zaU j)=true then _ else _)=_
 rw [qa4 h]
theorem zev {i:Int} (h: -1000000000000000<i) (h':i<1000000000000000):zaU i=true:=by unfold zaU;simp;omega
theorem zr6 {i j:Int} (h: -1000000000000000<i) (h':i<1000000000000000):zo9 (.int i) (.int j)=pure (.int (i*j)):=ziW (by rw [zev h h'];rfl)
theorem zsr {i j:Int} (h: -1000000000000000<j) (h':j<1000000000000000):zo9 (.int i) (.int j)=pure (.int (i*j)):=ziW (by rw [zev h h'];simp)
theorem zgg {i j:Int} (h:0<j):zqP (.int i) (.int j)=pure (.int (i % j)):=by
 show (if (decide (0<j))=true then _ else _)=_
 rw [qa4 (by simpa using h)]
theorem znw {i j:Int} (h:0<j) (h':j<2^64):zp6 (.int i) (.int j)=pure (.int (i / j)):=by
 show (if (decide (0<j) && decide (j<2^64))=true then _ else _)=_
 rw [qa4 (by rw [qaG];exact ⟨by simpa using h,by simpa using h'⟩)]
theorem zs2 {i j:Int}:dEq (.int i) (.int j)=pure (.bl (i==j)):=by
 unfold dEq zke
 simp only [pd]
 rw [qa4 (show zh0 (.int i) (.int j)=true from rfl)]
 rfl
theorem zvC {i j:Int}:dNe (.int i) (.int j)=pure (.bl (!(i==j))):=by
 unfold dNe zke
 simp only [pd]
 rw [qa4 (show zh0 (.int i) (.int j)=true from rfl)]
 rfl
def wp {α:Type} (m:M α) (h:Hh) (P:α->Hh->Prop):Prop:= ∃ a h',m h= .ok a h'/\P a h'
section
variable {α β:Type} {h:Hh} {P P':α->Hh->Prop}
theorem zap {a:α}:wp (pure a:M α) h P↔P a h:=⟨fun ⟨b,h',e,q⟩=>by cases (show R.ok a h=R.ok b h' from e);exact q,fun q=>⟨a,h,rfl,q⟩⟩
theorem zaq {m:M β} {f:β->M α}:wp (m>>=f) h P↔wp m h fun b h'=>wp (f b) h' P:=by
 constructor
 ·rintro ⟨a,h',e,q⟩
  have e:M.bind m f h= .ok a h':=e
  unfold M.bind at e
  cases z:m h with
  | ok b h1=>rw [z] at e;exact ⟨b,h1,z,a,h',e,q⟩
  | exc c h1=>rw [z] at e;cases e
  | bad=>rw [z] at e;cases e
 ·rintro ⟨b,h1,e,a,h',e2,q⟩
  refine ⟨a,h',?_,q⟩
  show M.bind m f h=_
  unfold M.bind
  rw [e]
  exact e2
theorem zkS {m:M α} (q:wp m h P) (k: ∀ a h',P a h'->P' a h'):wp m h P':=by
 obtain ⟨a,h',e,q⟩:=q
 exact ⟨a,h',e,k _ _ q⟩
theorem zed {n:Nat} {ds:List D} {P:List D->Hh->Prop} (e:h[n]? = some (.lst ds)):wp (zai n) h P↔P ds h:=by
 unfold wp zai
 rw [e]
 exact ⟨fun ⟨b,h',e,q⟩=>by cases e;exact q,fun q=>⟨_,_,rfl,q⟩⟩
theorem ziw {n:Nat} {ds:List D} {P:Unit->Hh->Prop}:wp (zbu n ds) h P↔P () (h.set n (.lst ds)):=⟨fun ⟨b,h',e,q⟩=>by cases (show R.ok () (h.set n (.lst ds))=R.ok b h' from e);exact q,fun q=>⟨_,_,rfl,q⟩⟩
theorem zg7 {ds:List D} {P:D->Hh->Prop}:wp (zd9 ds) h P↔P (.cel h.length) (h++[.lst ds]):=⟨fun ⟨b,h',e,q⟩=>by cases (show R.ok (D.cel h.length) (h++[C.lst ds])=R.ok b h' from e);exact q,fun q=>⟨_,_,rfl,q⟩⟩
end
theorem zfn {f:D->M (Option D)} {k:D->Option D}: ∀ {ds:List D},(∀ x∈ds,f x=pure (k x))->zdb f ds=pure (ds.filterMap k)
 | [],_=>rfl
 | x::r,hf=>by
  rw [zdb,hf x qau,zfn fun y hy=>hf y (qan _ hy)]
  simp only [pure_bind]
  cases e:k x<;>simp [qat,e]
theorem zj1 {fi:FA} {g:D->Sd->M Sd} {tc:FT} {te:FE} {src:List (Option Nat)} {sd:Sd} {ds:List D} {k:D->Option D} (hi:fi sd=pure ds) (hl:ds.length<=1000) (hf: ∀ x∈ds,zbE g tc te (zas src sd) x=pure (k x)):zaP fi g tc te src sd=pure (.lst (ds.filterMap k)):=by
 unfold zaP
 rw [hi]
 simp only [pure_bind]
 rw [zaw hl]
 simp only [pure_bind]
 rw [zfn hf]
 simp only [pure_bind]
theorem zeT {fi:FA} {g:D->Sd->M Sd} {tc:FT} {te:FE} {src:List (Option Nat)} {sd:Sd} {ds:List D} {k:D->D} (hi:fi sd=pure ds) (hl:ds.length<=1000) (hf: ∀ x∈ds,zbE g tc te (zas src sd) x=pure (some (k x))):zaP fi g tc te src sd=pure (.lst (ds.map k)):=by
 rw [zj1 (k:=fun x=>some (k x)) hi hl hf]
 simp
theorem zi1: ∀ bs:List Bool,zmL (bs.map D.bl)=some bs
 | []=>rfl
 | b::r=>by rw [qaM,zmL,zi1 r];rfl
theorem zcg: ∀ bs:List Int,zcl (bs.map D.int)=some bs
 | []=>rfl
 | b::r=>by rw [qaM,zcl,zcg r];rfl
theorem zkA (bs:List Bool):ztj [.lst (bs.map D.bl)]=pure (.bl (bs.all id)):=by
 show (do let bs<-ofO (zmL (bs.map D.bl));pure (.bl (bs.all id)):M D)=_
 rw [zi1]
 rfl
theorem zhr {d:D} {xs:List Int} (e:zkc d=pure (xs.map D.int)) (h:(xs.foldl step_dedup []).length<64) (h2:xs.length<4000):zbx d=pure (.lst ((zdc xs).map D.int)):=by
 unfold zbx
 rw [e]
 show (do let ns<-ofO (zcl (xs.map D.int));if (ns.foldl step_dedup []).length<64/\ns.length<4000 then pure (.lst ((zdc ns).map D.int)) else M.bad:M D)=_
 rw [zcg]
 show (if (xs.foldl step_dedup []).length<64/\xs.length<4000 then (pure (.lst ((zdc xs).map D.int)):M D) else M.bad)=_
 rw [qa4 ⟨h,h2⟩]
theorem zeN {xs:List Int} (h:xs.length<64):zbx (.tup (xs.map D.int))=pure (.lst ((zdc xs).map D.int)):=zhr rfl (Nat.lt_of_le_of_lt (zlj xs) h) (by omega)
noncomputable def kn:D->Bool
 | .non | .bl _ | .int _ | .str _ | .tup _ | .lst _ | .dct=>true
 | _=>false
noncomputable def isT:D->Bool
 | .tup _=>true
 | _=>false
noncomputable def isI:D->Bool
 | .int _=>true
 | _=>false
theorem zou {d:D} (k:kn d=true):zjh "tuple" d=pure (.bl (isT d)):=by
 cases d<;>simp [kn] at k<;>simp [zjh,tyD,isB,isT]
theorem zmb {d:D} (k:kn d=true):zjh "int" d=pure (.bl (isI d || (match d with | .bl _=>true | _=>false))):=by
 cases d<;>simp [kn] at k<;>simp [zjh,tyD,isB,isI]
theorem zot {d:D} (k:kn d=true):zjh "bool" d=pure (.bl (match d with | .bl _=>true | _=>false)):=by
 cases d<;>simp [kn] at k<;>simp [zjh,tyD,isB,isI]
mutual
noncomputable def zkt:D->Bool
 | .non | .bl _ | .int _=>true
 | .str x=>PyData.strOk x
 | .tup ds=>decide (ds.length<64) && zib ds
 | .lst ds=>decide (ds.length<64) && zib ds
 | _=>false
noncomputable def zib:List D->Bool
 | []=>true
 | d::r=>zkt d && zib r
end
mutual
theorem zqz: ∀ {d:D},zkt d=true-> ∃ p,pd d=some p/\p.canLay0=true
 | .non,_=>⟨.none,rfl,rfl⟩
 | .bl b,_=>⟨.bool b,rfl,rfl⟩
 | .int i,_=>⟨.int i,rfl,rfl⟩
 | .str x,g=>⟨.str x,rfl,by simpa [zkt,PyData.canLay0] using g⟩
 | .tup ds,g=>by
  have g2:zib ds=true:=by simp [zkt] at g;exact g.2
  obtain ⟨ps,e,c⟩:=zfT g2
  exact ⟨.tuple ps,by unfold pd;rw [e];rfl,c⟩
 | .lst ds,g=>by
  have g2:zib ds=true:=by simp [zkt] at g;exact g.2
  obtain ⟨ps,e,c⟩:=zfT g2
  exact ⟨.list ps,by unfold pd;rw [e];rfl,c⟩
 | .cel _,g=>by simp [zkt] at g
 | .set _,g=>by simp [zkt] at g
 | .dct,g=>by simp [zkt] at g
 | .fn _,g=>by simp [zkt] at g
 | .scr _,g=>by simp [zkt] at g
 | .exn _,g=>by simp [zkt] at g
theorem zfT: ∀ {ds:List D},zib ds=true-> ∃ ps,pdL ds=some ps/\PyData.canLayAll0 ps=true
 | [],_=>⟨[],rfl,rfl⟩
 | d::r,g=>by
  simp [zib] at g
  obtain ⟨p,e,c⟩:=zqz g.1
  obtain ⟨ps,e2,c2⟩:=zfT g.2
  exact ⟨p::ps,by unfold pdL;rw [e,e2],by simp [PyData.canLayAll0,c,c2]⟩
end
theorem zcr: ∀ xs:List Int,pdL (xs.map D.int)=some (xs.map PyData.int)
 | []=>rfl
 | x::r=>by rw [qaM,pdL,zcr r];rfl
theorem zbd: ∀ xs:List Int,PyData.canLayAll0 (xs.map PyData.int)=true
 | []=>rfl
 | x::r=>by simp [PyData.canLayAll0,PyData.canLay0,zbd r]
theorem zbN: ∀ xs:List Int,PyData.depthAll (xs.map PyData.int)=0
 | []=>rfl
 | x::r=>by simp [PyData.depthAll,PyData.depth,zbN r]
theorem zgf: ∀ xs ys:List Int,PyData.eqvAll (xs.map PyData.int) (ys.map PyData.int)=(xs==ys)
 | [],[]=>rfl
 | [],_::_=>rfl
 | _::_,[]=>rfl
 | x::xs,y::ys=>by
  simp only [qaM,PyData.eqvAll,PyData.eqv,zgf xs ys]
  rfl
theorem zfR (k:Int): ∀ xs:List Int,((xs.map PyData.int).any fun y=>PyData.eqv y (.int k))=xs.any (· == k)
 | []=>rfl
 | x::r=>by simp only [qaM,List.any_cons,zfR k r];rfl
theorem ziH (k:Int) (xs:List Int):dIn (.int k) (.tup (xs.map D.int))=pure (.bl (xs.any (· == k))):=by
 show zpr false (.int k) (.tup (xs.map D.int))=_
 unfold zpr
 simp only [pd]
 rw [zcr]
 have c:znn (.int k) (xs.map PyData.int)=true:=by
  unfold znn
  simp [PyData.canLay0,zbd,PyData.depth,zbN]
 simp only [c,if_true,zfR]
 rfl
end L3
namespace L2
open PySem PySem.Spec PyProof.Rows LT
section
variable {X:Cx}
theorem zhI:zay X (.builtin "divmod") (fun xs H Q=> ∃ i j:Int,xs=[.int i,.int j]/\0<j/\j<2^100/\ ∀ p,H p=none->Q (.ref p) (upd H p (.tup [.int (i / j),.int (i % j)]))):=by
 intro pins s σ H xs us Q I r h
 obtain ⟨i,j,rfl,h0,h1,q⟩:=h
 cases r with
 | cons r1 r2=>
  cases r2 with
  | cons r3 r4=>
   cases r4
   obtain ⟨t,rfl⟩:=r1
   obtain ⟨u,rfl⟩:=r3
   refine divmod_int (by omega) ?_ (.inl (PyProof.noPylong_of_log2 ?_))
   ·refine ⟨.ref s.heap.objs.size,_,I.laid (t':=s.toks+1+1) (o:= .tup [.int (i / j),.int (i % j)]) (fun b ob q=>qag _ q) (qaV _) ?_,rfl,q _ (I.hok.fresh (qaV _))⟩
    refine ⟨by show 2<=sizeLine;decide,[.int (i.fdiv j) s.toks,.int (i.fmod j) (s.toks+1)],.cons ⟨s.toks,by rw [Int.fdiv_eq_ediv_of_nonneg _ (by omega)]⟩ (.cons ⟨s.toks+1,by rw [Int.fmod_eq_emod_of_nonneg _ (by omega)]⟩ .nil),IsTup.new _ _⟩
   ·have h1:j.natAbs<2^100:=by omega
    have h0:j.natAbs≠0:=by omega
    exact Nat.lt_trans ((Nat.log2_lt h0).mpr h1) (by decide)
end
end L2
namespace L3
open PySem PySem.Spec PyProof.Rows L2 LT
section
variable {X:Cx} {E:XE} {a b c o e:Expr} {pos apos cpos:Pos} {fa fb fc fo fe:FE}
noncomputable def ze2:List D->M D
 | [.int i,.int j]=>if 0<j/\j<2^100 then pure (.tup [.int (i / j),.int (i % j)]) else M.bad
 | _=>M.bad
theorem zgY:zay X (.builtin "divmod") (zgH X.K E ze2):=by
 refine zay.imp zhI fun xs H Q ⟨ι,h,ds,rl,hr,q⟩=> ?_
 unfold ze2 at q
 split at q
 ·simp only [zal,Rel] at rl
  obtain ⟨v,r,rfl,rfl,v',r',rfl,rfl,rfl⟩:=rl
  obtain ⟨⟨c1,c2⟩,q⟩:=Fin.guard q
  refine ⟨_,_,rfl,c1,c2,fun p hp=>zon hr ?_ q hp⟩
  exact zal.cons (by simp [Rel]) (zal.cons (by simp [Rel]) zal.nil)
 ·exact qa0 q
noncomputable def zgJ (F F':D->D->M D) (a b c:FE):FE:=fun sd=>do
 let x<-a sd
 let y<-b sd
 let z<-F x y
 let k<-zcX z
 if k=true then do let w<-c sd;F' y w else pure (.bl false)
theorem znP {K:W.Frag} {F F':D->D->M D} (σ:St) (H:Hp) (Q:VK) (q:zhN K E (zgJ F F' fa fb fc) σ H Q):zop (zda K E F) (zda K E F') (zhN K E fa) (zhN K E fb) (zhN K E fc) σ H Q:=by
 obtain ⟨ι,h,sd,L,hh,q⟩:=q
 refine ⟨ι,h,sd,L,hh,Fin.bind q fun d1 h1 ι1 H1 e1 s1 hr1 q1 v r1=> ?_⟩
 refine ⟨ι1,h1,sd,L.step s1,hr1,Fin.bind q1 fun d2 h2 ι2 H2 e2 s2 hr2 q2 w r2=> ?_⟩
 refine ⟨ι2,h2,d1,d2,r1.step s2,r2,hr2,Fin.bind q2 fun z h3 ι3 H3 e3 s3 hr3 q3 u r3=> ?_⟩
 cases z with
 | bl k=>
  simp only [Rel] at r3
  refine ⟨k,r3,?_⟩
  have L3':=((L.step s1).step s2).step s3
  cases k with
  | false=>exact zqR (Fin.out hr3 q3 _ (by simp [Rel]))
  | true=>
   refine zqS ⟨ι3,h3,sd,L3',hr3,Fin.bind q3 fun d4 h4 ι4 H4 e4 s4 hr4 q4 w4 r4=> ?_⟩
   exact ⟨ι4,h4,d2,d4,(r2.step s3).step s4,r4,hr4,q4⟩
 | _=>exact qa0 q3
theorem zqj {op op':CmpOp} {F F':D->D->M D} (ho:OpR X (compareOp op) (zda X.K E F)) (ho':OpR X (compareOp op') (zda X.K E F')) (ha:SE X E a fa) (hb:SE X E b fb) (hc:SE X E c fc)
  (hm:lastMarks [op,op'] [b,c]=false:=by with_unfolding_all rfl):SE X E (.Compare a [op,op'] [b,c] pos) (zgJ F F' fa fb fc):=PE.imp (znN ho ho' ha hb hc hm) znP
noncomputable def zeL:D->M Unit
 | .cel n=>do let _<-zai n;pure ()
 | _=>M.bad
noncomputable def zdl (x y:D):M D:=match x with
 | .cel n=>do
  let ds<-zai n
  fits (ds.length+1)
  zbu n (ds++[y])
  pure .non
 | _=>M.bad
noncomputable def zdW (fo fe:FE):FE:=fun sd=>do
 let x<-fo sd
 zeL x
 let y<-fe sd
 zdl x y
theorem zgd {α:Type} {K:W.Frag} {ι:Io} {H:Hp} {h:Hh} {n:Nat} {f:List D->M α} {P:α->Io->Hp->Prop} (q:Fin K E ι H ((zai n>>=f) h) P): ∃ ds,h[n]? = some (.lst ds)/\Fin K E ι H (f ds h) P:=by
 have q':Fin K E ι H (M.bind (zai n) f h) P:=q
 unfold M.bind at q'
 cases z:zai n h with
 | bad=>rw [z] at q';exact qa0 q'
 | exc c h'=>unfold zai at z;split at z<;>cases z
 | ok ds h'=>
  rw [z] at q'
  obtain ⟨rfl,z2⟩:=zcb z
  exact ⟨ds,z2,q'⟩
theorem zjc (ho:SE X E o fo) (he:SE X E e fe)
  (hbase:attributeBase o "append" X.env (eval o X.env)=eval o X.env:=by rfl)
  (hfew:((backTo cpos (starEach [e] X.env)).all (fun x=> !x.1) && (backToKw cpos (keywordEach [] X.env)).all (fun x=>x.1.isSome)
    && decide (([e]:List Expr).length+([]:List Keyword).length+(if ([]:List Keyword).isEmpty then 0 else 1)<30))=true:=by rfl)
  (hline:(apos.endLine==cpos.line)=true:=by rfl) (hs:starEach [e] X.env=(false,eval e X.env)::starEach [] X.env:=by rfl) (hplain:(backTo cpos (starEach [] X.env)).any (·.1)=false:=by rfl):
  SE X E (.Call (.Attribute o "append" apos) [e] [] cpos) (zdW fo fe):=by
 refine PE.imp (zpT PySem.F.plainAttrs_list PySem.F.slot_list_append PySem.F.type_list_append zg6 ho (zba he zcn hs) hbase hfew hline hs hplain) fun σ H Q ⟨ι,h,sd,L,hh,q⟩=>⟨ι,h,sd,L,hh,Fin.bind q fun d h1 ι1 H1 e1 s1 hr1 q1 v rv=> ?_⟩
 cases d with
 | cel n=>
  have q2:Fin X.K E ι1 H1 ((zai n>>=fun _=>fe sd>>=fun y=>zdl (.cel n) y) h1) (fun d ι' H'=> ∀ v,Rel X.K ι' H' d v->Q v H'):=by
   have ee:(zeL (.cel n)>>=fun _=>fe sd>>=fun y=>zdl (.cel n) y:M D)=(zai n>>=fun _=>fe sd>>=fun y=>zdl (.cel n) y):=by
    show ((zai n>>=fun _=>pure ())>>=fun _=>fe sd>>=fun y=>zdl (.cel n) y)=_
    simp only [bind_assoc,pure_bind]
   rw [<- ee]
   exact q1
  obtain ⟨ds,e2,q3⟩:=zgd q2
  obtain ⟨a,vs,rfl,hn,hH,rl⟩:=hr1.read rv e2
  refine ⟨.inl ⟨rfl,vs,SqL.of hH⟩,ι1,h1,sd,L.step s1,hr1,Fin.bind q3 fun y h3 ι3 H3 e3 s3 hr3 q4 w rw'=> ?_⟩
  have rv3:=rv.step s3
  have q5:Fin X.K E ι3 H3 ((zai n>>=fun ds=>fits (ds.length+1)>>=fun _=>zbu n (ds++[y])>>=fun _=>pure D.non) h3) (fun d ι' H'=> ∀ v,Rel X.K ι' H' d v->Q v H'):=q4
  obtain ⟨ds3,e4,q6⟩:=zgd q5
  obtain ⟨a3,vs3,ea,hn3,hH3,rl3⟩:=hr3.read rv3 e4
  cases ea
  obtain ⟨z,q7⟩:=Fin.fits q6
  refine ⟨a,vs3,w,rfl,rfl,hH3,by rw [<- rl3.length];omega,?_⟩
  have q8:Fin X.K E ι3 H3 (R.ok D.non (h3.set n (.lst (ds3++[y])))) (fun d ι' H'=> ∀ v,Rel X.K ι' H' d v->Q v H'):=q7
  exact q8 ι3 _ (hr3.cellS hn3) (hr3.cell hn3 (rl3.append (zal.cons rw' zal.nil))) _ (by simp [Rel])
 | _=>exact qa0 q1
end
end L3
namespace Att
open PySem PySem.W PySem.Calls PyProof.Rows
theorem zfp: ∀ {ns:List Int} {i:Int},i∈ns->Builtin.Int.intBits i<=WData.weightAll (ns.map WData.int)
 | n::r,i,h=>by
  rw [qaM,WData.weightAll]
  rcases qaP.mp h with e | e
  ·subst e
   have:WData.weight (.int i)=Builtin.Int.intBits i:=by simp only [WData.weight,Builtin.Int.intBits]
   omega
  ·have:=zfp e
   omega
theorem zpk {ns:List Int} (h:WData.layableAll [WData.list (ns.map WData.int)]=true): ∀ i∈ns,Builtin.Int.intBits i<=2^20:=by
 intro i hi
 have h2:WData.weight (WData.list (ns.map WData.int))<=2^20:=by
  simp only [WData.layableAll,List.all_cons,List.all_nil,Bool.and_true,WData.layable,qaG,qaD] at h
  exact h.2
 have h3:WData.weight (WData.list (ns.map WData.int))=WData.weightAll (ns.map WData.int):=by simp only [WData.weight]
 have:=zfp hi
 omega
theorem zgN {l:OpenLaw} {n:Nat} {q:Program} {loose:List Str} {XP:(Str->Option Value)->Heap->Prop} {YP:World->Heap->Prop} {d:DefRec}
  (hn:l.most=some n) (hdf:d.params.defaults=[])
  (call: ∀ (w:World) (s₀ s₁:Shared) (mg mb:Str->Option Value) (fa:Addr) (o:Obj) (pm cd doc:Value) (a:Addr) (vs:List Value) (ns:List Int),
    Ground q loose [] XP w s₀ mg mb s₁.heap->YP w s₁.heap->
    s₁.heap.get? fa=some o->o.data= .func (docDef d.name d.params d.body d.scope pm cd doc)->s₁.heap.CodeRec cd d.name->mg d.name=some (.ref fa)->
    s₁.heap.get? a=some {cls:= .type "list",data:= .seq vs.toArray}->IntsAre vs ns->ns.length<=n->(∀ i∈ns,Builtin.Int.intBits i<=2^20)->s₁.gens= #[]->
    codeAny (model l.prog w) callerA (.call (.ref fa) ⟨[.ref a],[]⟩) (fun r s'=>r= .ok (.ret (.bool true))/\OldK s₁.heap s'.heap/\s'.os=s₁.os/\AllBare s'.gens) s₁):
  WalkO q loose XP YP l.row.toRowW d [] (fun f vs=>PySem.call f vs):=by
 intro w s₀ s₁ mg mb G Y fa o pm cd doc dV kV ho hd hcd hD hmg hg args vals as hpre hlay hrd hwl hlo
 obtain rfl:dV= .none:=Dflts.none hD hdf
 obtain rfl:kV= .none:=Dflts.noKw hD
 obtain ⟨a,vs,ns,rfl,rfl,hobj,hints,hlen⟩:=zlG hn hpre hwl
 refine enter_call (codeAny_mono (call w s₀ s₁ mg mb fa o pm cd doc a vs ns G Y ho (fd_plain hd) hcd hmg hobj hints hlen (zpk hlay) hg) fun r s' hq=> ?_)
 obtain ⟨rfl,h2,h3,h4⟩:=hq
 exact ⟨.inl ⟨.bool true,.bool true,[],rfl,fun _=>rfl,.bool true,zmj l _,fun _=>⟨List.Pairwise.nil,fun _ hm=>(nomatch hm)⟩⟩,h2,h3,h4⟩
end Att
namespace L2
open PySem PySem.Spec PyProof.Rows
theorem zmv {l:W.OpenLaw} {n k:Nat} {q:Program} {loose:List Str} {XP:(Str->Option Value)->Heap->Prop} {YP:World->Heap->Prop} {d:DefRec} {K:Params->W.Frag} {CX:World->CXT} {sp:World->Sp} {x:Str}
  (hn:l.most=some n) (hn2:n<=sizeLine) (hdf:d.params.defaults=[]) (hr:zdg k callerA)
  (hY: ∀ (w:World) (h:Heap),YP w h->(K w.params).In h)
  (F: ∀ (w:World) (mg:Str->Option Value) (fa:Addr) (h:Heap),(K w.params).In h->h.Ns mainGlobals mg->mg d.name=some (.ref fa)->
    ∃ fd:FuncData,(∀ (s:Shared) (u:Value),BindsTo s fd ⟨[u],[]⟩ [(x,u)])/\
      ∀ base:Heap,(K w.params).In base->base.Ns mainGlobals mg->zbw l.prog w (K w.params) mg base (CX w) k fa fd [x] (sp w))
  (hsp: ∀ (w:World) (H:Hp) (a:Addr) (ns:List Int),ns.length<=n->(∀ i∈ns,Builtin.Int.intBits i<=2^20)->SqL (K w.params) H a (ns.map V.int)->sp w [.ref a] H (fun v _=>v= .bl true) fun _ _ _=>False)
  (hCX: ∀ (w:World) (H:Hp) (s:Shared) (e:Value) (s':Shared),CX w [] H s (fun _ _ _=>False) e s'->False):
  W.WalkO q loose XP YP l.row.toRowW d [] (fun f vs=>PySem.call f vs):=by
 refine Att.zgN hn hdf fun w s₀ s₁ mg mb fa o pm cd doc a vs ns G Y ho hd hcd hmg hobj hints hlen hbits hg=> ?_
 have KX:=hY w _ Y
 obtain ⟨fd,hb,hF⟩:=F w mg fa _ KX G.T.g hmg
 exact znj KX G.T.g G.T.b G.T.builtins G.T.nolimit hg hobj hints (qaS hlen hn2) hr hF hb (fun H hO hS=>hsp w H a ns hlen hbits hS) fun H e s'=>hCX w H s₁ e s'
end L2
namespace L3
open PySem PySem.Spec PyProof.Rows L2 LT
section
variable {X:Cx} {E:XE}
noncomputable def zgL (i j:Int):Bool:=decide (Builtin.Int.intBits i+Builtin.Int.intBits j<=2^26)
theorem zl6 {i j:Int} (h:zgL i j=true):IntMulOk i j:=by
 unfold zgL at h
 rw [qaD] at h
 unfold IntMulOk
 intro z
 rw [qaG] at z
 have z2:=z.2
 unfold Builtin.Int.intTooBig at z2
 have hb:bitsLine=2^27:=rfl
 rw [qaD,hb] at z2
 omega
theorem zpD:OpR X (binaryOp .Mult) (rI (fun i j=>IntMulOk i j) fun i j=> .int (i*j)):=opI fun _ _ _ _ _ _ _ hc q=>mul_int q hc
noncomputable def zfS:=dII (fun i j=>zaU i || zaU j || zgL i j) fun i j=> .int (i*j)
theorem ze4:OpR X (binaryOp .Mult) (zda X.K E zfS):=zjY (zpD) (fun i j h=>by
  rw [Bool.or_eq_true] at h
  rcases h with h | h
  · rcases (Bool.or_eq_true _ _).mp h with z | z
    · have:=zcB z
      exact IntMulOk.of_left (intBits_le_64 this.1 this.2)
    · have:=zcB z
      exact IntMulOk.of_right (intBits_le_64 this.1 this.2)
  · exact zl6 h) fun _ _ _ _=>by simp [Rel]
end
end L3
namespace PySem
open Sem (wp)
open AutoSeq1 (wpAny_loadPart')
section
variable {prog:Program} {w:World} {A:Around} {E:Value->Shared->Prop} {s:Shared}
theorem zgq {Q:List Value->Shared->Prop} {r:Addr} {a b c:Int} {t u v:Tok} {n:Nat} (hh:A.handled=none) (hr:IsRange s.heap r a b c t u v) (hsmall:Builtin.Range.small a b c=true)
  (hn:Builtin.Range.rangeSize a b c=n) (hlen:n<=2^24)
  (hQ: ∀ h' tk acc,(∀ b o,s.heap.get? b=some o->h'.get? b=some o)->ItemsOf (fun i v=> ∃ t,v= .int (a+i*c) t) acc n->Q acc.toList {s with heap:=h',toks:=tk}):
  wpAny (model prog w) A (collect (.ref r)) Q E s:=by
 unfold collect
 refine qaW (wpAny_runValue (codeAny_builtin F.entry_proto_collect ?_))
 rw [qap F.plain_proto_collect _]
 show wpAny _ A.in1 (newList []>>=fun l=>again (.builtin "list.__iadd__" ⟨[l,.ref r],[]⟩)) _ _ s
 refine qaW (qaC ?_)
 refine qaX ⟨plainId_quiet F.plain_list_iadd _,codeAny_builtin F.entry_list_iadd ?_⟩
 rw [qap F.plain_list_iadd _]
 show wpAny _ A.in1 (Builtin.List.listExtendWith (.ref s.heap.objs.size) (.ref r) (.ref s.heap.objs.size)) _ _ _
 have hS:(s.heap.push {cls:= .type "list",data:= .seq ([]:List Value).toArray}).get? s.heap.objs.size=some {cls:= .type "list",data:= .seq #[] 0}:=qar _ rfl
 have zmI: ∀ (h':Heap) (tk:Nat) (acc:Array Value) (c':Nat),(∀ b o,b≠s.heap.objs.size->(s.heap.push {cls:= .type "list",data:= .seq ([]:List Value).toArray}).get? b=some o->h'.get? b=some o)->h'.get? s.heap.objs.size=some {cls:= .type "list",dict:=none,data:= .seq acc c',slots:= #[]}->
   ItemsOf (fun i v=> ∃ t,v= .int (a+i*c) t) acc n->wpAny (model prog w) A (match Value.ref s.heap.objs.size with
   | Value.ref a=>do
     match (<- load a).data with
       | Data.seq xs _=>pure xs.toList
       | _=>unsupported "internal:collect"
   | _=>unsupported "internal:collect") Q E {s with heap:=h',toks:=tk}:=fun h' tk acc c' hk hS' hacc=>by
  show wpAny _ A (load s.heap.objs.size>>=_) _ _ _
  refine qaW (wpAny_load hS' ?_)
  refine qaX ?_
  exact hQ h' tk acc (fun b o e=>hk b o (qaR (qaQ e)) (qag _ e)) hacc
 refine qaZ (wpAny_extend_range (A:=A) (s:={s with heap:=s.heap.push {cls:= .type "list",data:= .seq ([]:List Value).toArray}}) (R:=fun res s'=>res= .ok (.ret (.ref s.heap.objs.size))/\ ∃ (h':Heap) (tk:Nat) (acc:Array Value) (c':Nat),s'={s with heap:=h',toks:=tk}/\
     (∀ b o,b≠s.heap.objs.size->(s.heap.push {cls:= .type "list",data:= .seq ([]:List Value).toArray}).get? b=some o->h'.get? b=some o)/\h'.get? s.heap.objs.size=some {cls:= .type "list",dict:=none,data:= .seq acc c',slots:= #[]}/\ItemsOf (fun i v=> ∃ t,v= .int (a+i*c) t) acc n)
   hh (qag _ hr) hsmall hn hlen s.heap.objs.size (.ref s.heap.objs.size) 0 hS fun h' tk acc c' hk hS' hacc=>⟨rfl,h',tk,acc,c',rfl,hk,hS',hacc⟩) (fun fin s' h=> ?_) (fun e s' h=> ?_)
 ·cases fin with
  | done f=>
   obtain ⟨e,h',tk,acc,c',rfl,hk,hS',hacc⟩:=h
   cases e
   exact zmI h' tk acc c' hk hS' hacc
  | again c'=>exact ⟨h.1,codeAny_mono h.2 fun r s'' hr=>by obtain ⟨rfl,h',tk,acc,c',rfl,hk,hS',hacc⟩:=hr;exact zmI h' tk acc c' hk hS' hacc⟩
 ·exact absurd h.1 (by simp)
end
theorem zcL (l:Addr) (a b c:Int) (t u v:Tok) (n:Nat) (hsmall:Builtin.Range.small a b c=true) (hn:Builtin.Range.rangeSize a b c=n) (hlen:n<=2^24):
  Meets (Builtin.«tuple.__new__» ⟨[.type "tuple",.ref l],[]⟩)
   (fun A R s=>A.in1.handled=none/\IsRange s.heap l a b c t u v/\ ∀ (h':Heap) (tk:Nat) (acc:Array Value),(∀ b o',s.heap.get? b=some o'->h'.get? b=some o')->ItemsOf (fun i v=> ∃ t,v= .int (a+i*c) t) acc n->R (.ok (.ret (.ref h'.objs.size))) {s with heap:=h'.push {cls:= .type "tuple",data:= .seq acc},toks:=tk}):=
 .of_wp fun prog w A R s h=>by
  obtain ⟨hp,g,d,tk,os⟩:=s;obtain ⟨hh,ht,h⟩:=h
  have hsub:=sub_tuple_self
  have hinit:=init_tuple_lookup
  have hmh:=madeHere_tuple
  have hT:Shared.TypeIs ⟨hp,g,d,tk,os⟩ (.ref l) "range":=⟨_,ht,rfl⟩
  wp_walk using wpAny_loadPart' ht,wpAny_typeOf hT,zgq hh ht hsmall hn hlen
  intro h' tk' acc hk hacc
  show wpAny _ _ (Builtin.Tuple.tupleExact acc.toList.toArray>>=fun v=>ret v) _ _ _
  unfold Builtin.Tuple.tupleExact
  have hsz:acc.size<=sizeLine:=by
   have:acc.size=n:=hacc.1
   have:sizeLine=2^24:=rfl
   omega
  refine qaW (qaC ?_ (by show acc.toList.toArray.size<=sizeLine;simpa using hsz))
  refine qaX ⟨_,rfl,?_⟩
  have e:acc.toList.toArray=acc:=by simp
  rw [e]
  exact h h' tk' acc hk hacc
end PySem
namespace L2
open PySem PySem.Spec PyProof.Rows LT
theorem zdt: ∀ (ns:List Int) (us:List Value),ns.length=us.length->(∀ (j:Nat) u,us[j]? = some u-> ∃ t,u=Value.int (ns.getD j 0) t)->zaK (ns.map V.int) us
 | [],[],_,_=> .nil
 | [],_::_,h,_=>by cases h
 | _::_,[],h,_=>by cases h
 | n::ns,u::us,h,hg=>by
  refine .cons ?_ (zdt ns us (by simpa using h) fun j w e=> ?_)
  ·obtain ⟨t,e⟩:=hg 0 u rfl
   exact ⟨t,by simpa using e⟩
  ·obtain ⟨t,e⟩:=hg (j+1) w (by simpa using e)
   exact ⟨t,by simpa using e⟩
section
variable {X:Cx}
theorem zeJ:zay X (.type "range") (fun xs H Q=> ∃ j:Int,xs=[.int j]/\ ∀ p,H p=none->Q (.ref p) (upd H p (.rng 0 j))):=by
 intro pins s σ H xs us Q I r h
 obtain ⟨j,rfl,q⟩:=h
 obtain ⟨u,rfl,rx⟩:=zcR r
 obtain ⟨t,rfl⟩:=rx
 refine call_range_1 ?_
 exact ⟨.ref s.heap.objs.size,_,I.laid (t':=s.toks+1+1) (o:= .rng 0 j) (fun b ob q=>qag _ q) (qaV _) ⟨_,_,_,qar _ rfl⟩,rfl,q _ (I.hok.fresh (qaV _))⟩
theorem ziy {j:Int} (h0:0<=j):Builtin.Range.rangeSize 0 j 1=(j.toNat:Int):=by
 unfold Builtin.Range.rangeSize
 rw [qa4 (by decide)]
 split
 ·rw [Int.ediv_one];omega
 ·omega
theorem zfQ (hc:X.calm=true):zay X (.type "tuple") (fun xs H Q=> ∃ (p:Addr) (j:Int),xs=[.ref p]/\H p=some (.rng 0 j)/\0<=j/\j<1000/\ ∀ l,H l=none->Q (.ref l) (upd H l (.tup (((List.range j.toNat).map fun (k:Nat)=>(k:Int)).map V.int)))):=by
 intro pins s σ H xs us Q I r h
 obtain ⟨p,j,rfl,hp,h0,h1,q⟩:=h
 obtain ⟨u,rfl,rx⟩:=zcR r
 cases rx
 obtain ⟨t,u',v,hr⟩:=(show zbo X.prog X.w H s.heap p (.rng 0 j) from I.hok p _ hp)
 refine callType_new F.called_tuple (by decide) (F.typeCall_tuple_1 _) (F.newCall_tuple_1 _) (fun obj=>F.args_object_init_2 obj _) F.entry_tuple_new
  (zcL p 0 j 1 t u' v j.toNat (small_one (by omega) (by omega) (by omega) (by omega)) (ziy h0) (by omega)) ⟨show X.A.in1.in1.handled=none from I.ok.hd hc,hr,fun h' tk acc hk hacc=>⟨⟨_,qar _ rfl,rfl⟩,?_⟩⟩
 have I1:Inv X pins σ H {s with heap:=h',toks:=tk}:=I.kept (t':=tk) hk
 have hl:acc.toList.length=j.toNat:=by rw [qas];exact hacc.1
 have I2:=I1.laid (t':=tk) (h':=h'.push {cls:= .type "tuple",data:= .seq acc}) (a:=h'.objs.size) (o:= .tup (((List.range j.toNat).map fun (k:Nat)=>(k:Int)).map V.int)) (fun b o e=>qag _ e) (qaV _)
  ⟨by rw [qaH,qaH,List.length_range];exact qaS (show j.toNat<=1000 by omega) (by decide),acc.toList,zdt _ _ (by rw [qaH,List.length_range,hl]) (fun k w e=> ?_),by simpa using IsTup.new _ _⟩
 ·exact ⟨.ref h'.objs.size,_,I2,rfl,q _ (I1.hok.fresh (qaV _))⟩
 ·have hk':k<j.toNat:=by rw [<- hl];exact (qac.mp e).1
  obtain ⟨t,et⟩:=hacc.2 k w (by simpa using e)
  refine ⟨t,?_⟩
  rw [et]
  simp [hk']
end
end L2
namespace L3
open PySem PySem.Spec PyProof.Rows L2 LT
section
variable {X:Cx} {E:XE} {e:Expr} {f:FE}
noncomputable def ziq:D->M D
 | .int j=>if 0<=j/\j<1000 then pure (.tup (zdh 0 j.toNat)) else M.bad
 | _=>M.bad
theorem zjj {K:W.Frag} {ι:Io} {H:Hp} {n:Nat}:zal K ι H (zdh 0 n) (((List.range n).map fun (k:Nat)=>(k:Int)).map V.int):=by
 have:zdh 0 n=((List.range n).map fun (k:Nat)=>(k:Int)).map D.int:=by unfold zdh;simp
 rw [this]
 exact zcY.mpr rfl
theorem znF {p1 p2 pos pos2:Pos} (hc:X.calm=true) (hm1:X.mg "tuple"=none) (hm2:X.mg "range"=none) (he:SE X E e f) (hg1:Gl X "tuple":=by rfl) (hg2:Gl X "range":=by rfl)
  (h1:starEach [.Call (.Name "range" p2) [e] [] pos2] X.env=[(false,eval (.Call (.Name "range" p2) [e] [] pos2) X.env)]:=by rfl) (h2:starEach [e] X.env=[(false,eval e X.env)]:=by rfl):
  SE X E (.Call (.Name "tuple" p1) [.Call (.Name "range" p2) [e] [] pos2] [] pos) (cUn ziq f):=by
 refine PE.imp (zcd (zfQ hc) hg1 hm1 PyProof.Rows.boot_tuple (zba (zcd zeJ hg2 hm2 boot_range (zba he zcn h2) (he:=h2)) zcn h1) (he:=h1)) fun σ H Q ⟨ι,h,sd,L,hh,q⟩=>⟨ι,h,sd,L,hh,Fin.bind q fun d h1 ι1 H1 e1 s1 hr1 q1 v rv=> ?_⟩
 cases d with
 | int j=>
  simp only [Rel] at rv
  obtain ⟨⟨c1,c2⟩,q2⟩:=Fin.guard q1
  refine ⟨j,by rw [rv],fun p hp=> ?_⟩
  have hr2:zaW X.K ι1 (upd H1 p (.rng 0 j)) h1:=hr1.laid hp
  exact ⟨p,j,rfl,zaC,c1,c2,fun l hl=>zon hr2 zjj (Fin.step (hr1.laidS hp) q2) hl⟩
 | _=>exact qa0 q1
end
@[simp] theorem zaM {d:D} {r:Sd}:zaf 0 (some d::r)=pure d:=rfl
@[simp] theorem za5 {n:Nat} {x:Option D} {r:Sd}:zaf (n+1) (x::r)=zaf n r:=rfl
noncomputable def zbn (m:Int):Int->List D->Bool
 | _,[]=>true
 | l,.int i::r=>decide (l<=i) && decide (i<m) && zbn m (i+1) r
 | _,_::_=>false
theorem zbz {m:Int}: ∀ {xs:List Int} {l:Int},zbn m l (xs.map D.int)=true↔xs.Pairwise (· < ·)/\ ∀ x∈xs,l<=x/\x<m
 | [],l=>by simp [zbn]
 | x::r,l=>by
  rw [qaM,zbn,qaG,qaG,zbz (xs:=r) (l:=x+1),qay]
  simp only [qaD,qaP,forall_eq_or_imp]
  constructor
  ·rintro ⟨⟨h1,h2⟩,h3,h4⟩
   refine ⟨⟨fun y hy=> ?_,h3⟩,⟨h1,h2⟩,fun y hy=> ?_⟩
   ·have:=(h4 y hy).1;omega
   ·have:=h4 y hy;omega
  ·rintro ⟨⟨h1,h2⟩,⟨h3,h4⟩,h5⟩
   refine ⟨⟨h3,h4⟩,h2,fun y hy=> ?_⟩
   have a1:=h1 y hy
   have a2:=h5 y hy
   omega
theorem zgr {m:Int}: ∀ {ts:List D} {l:Int},zbn m l ts=true->ts.all isI=true
 | [],_,_=>rfl
 | d::r,l,h=>by
  cases d<;>first
   | (simp [zbn] at h;done)
   | (rw [zbn,qaG] at h;rw [List.all_cons,zgr h.2];rfl)
theorem zin: ∀ {ts:List D},ts.all isI=true-> ∃ xs:List Int,ts=xs.map D.int
 | [],_=>⟨[],rfl⟩
 | d::r,h=>by
  rw [List.all_cons,qaG] at h
  obtain ⟨xs,e⟩:=zin h.2
  cases d<;>first
   | (simp [isI] at h;done)
   | (rename_i i;exact ⟨i::xs,by rw [e];rfl⟩)
theorem zkR {xs:List Int} (h:xs.Pairwise (· < ·)):zdc xs=xs:=by
 have hn:xs.Nodup:=h.imp fun z=>by omega
 have hp:List.Perm (xs.foldl step_dedup []) xs:=by
  refine (List.perm_ext_iff_of_nodup (zdp xs [] List.nodup_nil) hn).mpr fun k=>zhj
 unfold zdc
 exact (zdE hp.symm (h.imp fun z=>by omega)).symm
theorem zf1 {m:Int}: ∀ {ts:List D} {l:Int},zbn m l ts=true->l<=m->(ts.length:Int)<=m - l
 | [],l,_,h=>by simp;omega
 | d::r,l,h,hl=>by
  cases d<;>first
   | (simp [zbn] at h;done)
   | (rename_i i
      rw [zbn,qaG,qaG,qaD,qaD] at h
      have:=zf1 h.2 (by omega)
      simp
      omega)
def Bx (b:Nat) (h:Hh):Prop:= ∃ z:Int,h[b]? = some (.lst [.int z])
def Ext (b:Nat) (h h':Hh):Prop:=Bx b h'/\ ∀ (n:Nat) (c:C),n≠b->h[n]? = some c->h'[n]? = some c
theorem Ext.refl {b:Nat} {h:Hh} (q:Bx b h):Ext b h h:=⟨q,fun _ _ _ e=>e⟩
theorem Ext.trans {b:Nat} {h h1 h2:Hh} (p:Ext b h h1) (q:Ext b h1 h2):Ext b h h2:=⟨q.1,fun n c hn e=>q.2 n c hn (p.2 n c hn e)⟩
theorem Bx.set {b:Nat} {h:Hh} {z:Int} (q:Bx b h):Ext b h (h.set b (.lst [.int z])):=by
 obtain ⟨y,e⟩:=q
 have hl:=(qac.mp e).1
 exact ⟨⟨z,qai hl⟩,fun n c hn e=>by rw [qao (Ne.symm hn)];exact e⟩
theorem Bx.push {b:Nat} {h:Hh} {c:C} (q:Bx b h):Ext b h (h++[c]):=by
 obtain ⟨y,e⟩:=q
 have hl:=(qac.mp e).1
 refine ⟨⟨y,by rw [qad hl];exact e⟩,fun n c' hn e=> ?_⟩
 rw [qad (qac.mp e).1]
 exact e
theorem zcN {j:Int} (h0:0<=j) (h:j<1000):zj9 [.int j]=pure (zdh 0 j.toNat):=by
 show (if zds j=true then _ else _)=_
 rw [qa4 (by unfold zds;simp;omega)]
theorem zme {n:Nat} {d:D} (h:d∈zdh 0 n): ∃ i:Int,d= .int i/\0<=i/\i<n:=by
 unfold zdh at h
 obtain ⟨k,hk,e⟩:=qaU.mp h
 have:=List.mem_range.mp hk
 exact ⟨0+(k:Int),e.symm,by omega,by omega⟩
theorem zkj {n:Nat}:(zdh 0 n).length=n:=by unfold zdh;simp
theorem zcy (n:Nat):zdh 0 n=((List.range n).map fun (k:Nat)=>(k:Int)).map D.int:=by unfold zdh;simp
theorem zaD {α:Type} {c:Prop} [Decidable c] {a b:M α} {h:Hh} {P:α->Hh->Prop}:wp (if c then a else b) h P↔if c then wp a h P else wp b h P:=by split<;>exact Iff.rfl
theorem zpG {m:Int} (h0:0<=m) (h:m<=1000):zuX (.int 1) (.int m)=pure (.int (1*2^m.toNat)):=by
 show (if zqK 1 m=true then _ else _)=_
 rw [qa4 (by unfold zqK;simp;omega)]
theorem zpi {i m:Int} (h0:0<=m):zur (.int i) (.int m)=pure (.int (i / 2^m.toNat)):=by
 show (if decide (0<=m)=true then _ else _)=_
 rw [qa4 (by simpa using h0)]
end L3
namespace L2
open PySem PySem.Spec PyProof.Rows L3
theorem zbo.there {P:Program} {w:World} {H:Hp} {h:Heap} {a:Addr} {o:HO} (x:zbo P w H h a o): ∃ ob,h.get? a=some ob:=by
 cases o with
 | lst xs=>obtain ⟨_,_,_,_,e⟩:=x;exact ⟨_,e⟩
 | tup xs=>obtain ⟨_,_,_,ob,e,_⟩:=x;exact ⟨ob,e⟩
 | dK kvs=>obtain ⟨_,_,_,_,ob,_,_,e,_⟩:=x;exact ⟨ob,e⟩
 | dT kvs=>obtain ⟨_,_,_,_,ob,_,_,e,_⟩:=x;exact ⟨ob,e⟩
 | set S n=>obtain ⟨ob,_,_,_,e,_⟩:=x;exact ⟨ob,e⟩
 | ins C dx fs=>obtain ⟨_,_,_,e,_⟩:=x;exact ⟨_,e⟩
 | own y=>exact x
 | xd fs=>obtain ⟨_,⟨ob,_,_,e,_⟩,_⟩:=x;exact ⟨ob,e⟩
 | rng lo hi=>obtain ⟨_,_,_,e⟩:=x;exact ⟨_,e⟩
 | frz ob u=>exact ⟨ob,x.1⟩
 | tbl ps=>exact ⟨_,x⟩
 | met f y=>exact ⟨_,x⟩
 | ext φ=>exact x.2.1
structure HS (H H':Hp) (h:Heap):Prop where
 free: ∀ b o,h.get? b=some o->H b=none->H' b=none
 tups: ∀ b xs,H b=some (.tup xs)->H' b=some (.tup xs)
 frzs: ∀ b o u,H b=some (.frz o u)->H' b=some (.frz o u)
 tbls: ∀ b ps,H b=some (.tbl ps)-> ∃ more,H' b=some (.tbl (ps++more))
structure FlB (P:Program) (w:World) (l:List Env) (H:Hp) (h:Heap) (H':Hp) (B:Heap):Prop where
 old: ∀ b o,h.get? b=some o->b∉frs l-> ∃ o',B.get? b=some o'/\(H b=none->o'=o)
 trk: ∀ b u,H' b=some u-> ∃ o,B.get? b=some o
 ok:HOk P w H' B
structure Fl (P:Program) (w:World) (l:List Env) (H:Hp) (s:Shared) (a C:Addr) (fl:Value) (H':Hp) (s':Shared):Prop where
 os:s'.os=s.os
 bare:AllBare s'.gens
 base: ∃ B:Heap,Fly B l a (.ref C) fl s'.heap/\FlB P w l H s.heap H' B
 slot: ∀ b o,s.heap.get? b=some o->H b=none->b∈frs l-> ∃ sl,s'.heap.get? b=some {o with slots:=sl}
 hs:HS H H' s.heap
section
variable {P:Program} {w:World} {l:List Env} {H H':Hp} {s s':Shared} {a C:Addr} {fl:Value}
theorem Fl.un (y:Fl P w l H s a C fl H' s'):Un (frs l) [] H H' s.heap s'.heap:=by
 obtain ⟨B,y1,y2⟩:=y.base
 refine ⟨fun b o e n hb _=> ?_,fun b o e n hb _=>y.slot b o e n hb,fun b o e n _=>y.hs.free b o e n,fun b o e _=> ?_,y.hs.tups,y.hs.frzs,y.hs.tbls⟩
 ·obtain ⟨o',e',q⟩:=y2.old b o e hb
  rw [<- q n]
  exact y1.stays b o' e'
 ·by_cases hb:b∈frs l
  ·obtain ⟨_,o',e',_⟩:=y1.frames.mem hb
   exact ⟨o',e'⟩
  ·obtain ⟨o',e',_⟩:=y2.old b o e hb
   exact ⟨o',y1.stays b o' e'⟩
theorem Fl.hok (y:Fl P w l H s a C fl H' s'):HOk P w H' s'.heap:=by
 obtain ⟨B,y1,y2⟩:=y.base
 exact y2.ok.kept y1.stays
theorem Fl.exc (y:Fl P w l H s a C fl H' s'): ∃ head,zhX s'.heap a (.ref C) head:=by
 obtain ⟨B,y1,y2⟩:=y.base
 obtain ⟨hd,z,_⟩:=y1.exc
 exact ⟨hd,z⟩
theorem Fl.fresh (y:Fl P w l H s a C fl H' s'):s.heap.get? a=none/\H' a=none/\a∉frs l:=by
 obtain ⟨B,y1,y2⟩:=y.base
 have nf:a∉frs l:=fun z=>by
  obtain ⟨_,o,e,n⟩:=y1.frames.mem z
  obtain ⟨_,⟨ob,vs,e2,_,_,d,_⟩,_⟩:=y1.exc
  rw [e] at e2
  cases e2
  exact n vs d
 refine ⟨?_,?_,nf⟩
 ·cases q:s.heap.get? a with
  | none=>rfl
  | some o=>
   obtain ⟨o',e,_⟩:=y2.old a o q nf
   rw [y1.new] at e
   cases e
 ·cases q:H' a with
  | none=>rfl
  | some u=>
   obtain ⟨o',e⟩:=y2.trk a u q
   rw [y1.new] at e
   cases e
theorem Fl.mv {B h':Heap} {fl':Value} (os:s'.os=s.os) (bare:AllBare s'.gens) (slot: ∀ b o,s.heap.get? b=some o->H b=none->b∈frs l-> ∃ sl,s'.heap.get? b=some {o with slots:=sl}) (hs:HS H H' s.heap)
  (fr:s'.heap.FunFrames B l) (z:Fly B l a (.ref C) fl' h') (y:FlB P w l H s.heap H' B) (u:s'.heap.UpToSlots h'):Fl P w l H s a C fl' H' {s' with heap:=h'}:=by
 refine ⟨os,bare,⟨B,z,y⟩,fun b o e n hb=> ?_,hs⟩
 obtain ⟨sl,e2⟩:=slot b o e n hb
 obtain ⟨_,o2,e3,n3⟩:=fr.mem hb
 rw [e2] at e3
 cases e3
 obtain ⟨sl',e4⟩:=u b _ e2 n3
 exact ⟨sl',e4⟩
section
variable {M:Model} {A:Around} {E:Value->Shared->Prop} {env:Env} {outer:List Env} {L:Addr} {Q:Unit->Shared->Prop}
theorem Fl.note (y:Fl P w (env::outer) H s a C .none H' s') (hfr:A.frames=some (env::outer)) (hf:env.frame=some L) (k: ∀ h',Fl P w (env::outer) H s a C (rawInt L) H' {s' with heap:=h'}->Q () {s' with heap:=h'}):
  wpAny M A (noteFrame (.ref a) env) Q E s':=by
 obtain ⟨B,y1,y2⟩:=y.base
 exact zl0 hfr hf y1 fun h' z u=>k h' (Fl.mv y.os y.bare y.slot y.hs y1.frames z y2 u)
theorem Fl.off (y:Fl P w l H s a C fl H' s') (k: ∀ h',Fl P w l H s a C .none H' {s' with heap:=h'}->Q () {s' with heap:=h'}):wpAny M A (setFlight (.ref a) none) Q E s':=by
 obtain ⟨B,y1,y2⟩:=y.base
 exact zdS y1 fun h' z u=>k h' (Fl.mv y.os y.bare y.slot y.hs y1.frames z y2 fun b o e n=>⟨o.slots,u b o e n⟩)
end
end
structure zeK (X:Cx):Prop where
 stk:X.stack=X.env::X.outer
 frm:X.env.frame=some X.env.locals
 ex:X.ex=[]
theorem zeK.frs {X:Cx} (z:zeK X):frs X.stack=X.env.locals::frs X.outer:=by
 rw [z.stk]
 unfold L2.frs
 rw [qat,z.frm]
section
variable {X:Cx} {pins:List (Addr×Obj)} {σ:St} {H H':Hp} {s s':Shared} {a C:Addr} {M:Model} {E:Value->Shared->Prop} {Q:Unit->Shared->Prop}
theorem Inv.below (I:Inv X pins σ H s) {b:Addr} {o:Obj} (e:X.s₀.heap.get? b=some o):b≠X.env.locals:=qaR (qaw (qaQ e) I.ok.above)
theorem Fl.leave (z:zeK X) (I:Inv X pins σ H s) (y:Fl X.prog X.w X.stack H s a C .none H' s') (k: ∀ s2,Fl X.prog X.w X.outer X.H₀ X.s₀ a C .none H' s2->Q () s2):wpAny M X.A (leaving X.env (.ref a)) Q E s':=by
 have nex: ∀ b,b∉X.ex:=fun b h=>by rw [z.ex] at h;cases h
 obtain ⟨B,y1,y2⟩:=y.base
 have hfr:=I.ok.frames
 rw [z.stk] at hfr y1
 refine znf hfr z.frm y1 fun h' q u=>k _ ?_
 have nin: ∀ b o,X.s₀.heap.get? b=some o->b∉frs X.outer->b∉frs X.stack:=fun b o e hb hm=>by
  rw [z.frs] at hm
  rcases qaP.mp hm with r | r
  ·exact I.below e r
  ·exact hb r
 refine ⟨y.os.trans I.os,y.bare,⟨B,q,fun b o e hb=> ?_,y2.trk,y2.ok⟩,fun b o e n hb=> ?_,fun b o e n=> ?_,fun b xs e=>y.hs.tups b xs (I.base.tups b xs e),fun b o v e=>y.hs.frzs b o v (I.base.frzs b o v e),fun b ps e=> ?_⟩
 ·obtain ⟨o1,e1⟩:=I.base.there b o e (nex b)
  obtain ⟨o2,e2,q2⟩:=y2.old b o1 e1 (nin b o e hb)
  refine ⟨o2,e2,fun n=> ?_⟩
  have e3:=I.base.keep b o e n hb (nex b)
  rw [e1] at e3
  cases e3
  exact q2 (I.base.free b o e n (nex b))
 ·obtain ⟨sl,e1⟩:=I.base.slot b o e n hb (nex b)
  have hb2:b∈frs X.stack:=by rw [z.frs];exact qan _ hb
  obtain ⟨sl2,e2⟩:=y.slot b _ e1 (I.base.free b o e n (nex b)) hb2
  obtain ⟨_,o3,e3,n3⟩:=y1.frames.mem (by rw [<- z.stk];exact hb2)
  rw [e2] at e3
  cases e3
  obtain ⟨sl4,e4⟩:=u b _ e2 n3
  exact ⟨sl4,e4⟩
 ·obtain ⟨o1,e1⟩:=I.base.there b o e (nex b)
  exact y.hs.free b o1 e1 (I.base.free b o e n (nex b))
 ·obtain ⟨m1,e1⟩:=I.base.tbls b ps e
  obtain ⟨m2,e2⟩:=y.hs.tbls b _ e1
  exact ⟨m1++m2,by rw [e2,Array.append_assoc]⟩
theorem Fl.made {h':Heap} {vs:List Value} (z:zeK X) (I:Inv X pins σ H s) (m:Heap.MadeExcOf s.heap h' a (.ref C) vs) (k: ∀ s2,Fl X.prog X.w X.outer X.H₀ X.s₀ a C .none H s2->Q () s2):wpAny M X.A (leaving X.env (.ref a)) Q E {s with heap:=h'}:=by
 have nex: ∀ b,b∉X.ex:=fun b h=>by rw [z.ex] at h;cases h
 have hfr:=I.ok.frames
 have hl:=I.stack
 have hin: ∀ env∈X.stack, ∀ b,env.frame=some b->b∈frs X.stack:=fun env he b hb=>List.mem_filterMap.mpr ⟨env,he,hb⟩
 have hl2:=W.funFrames_hide hl hin
 have hl3:h'.FunFrames (W.hideAll s.heap (frs X.stack)) X.stack:=hl2.of_keeps fun b o e _=>⟨o,m.keeps b o e,rfl⟩
 have inB: ∀ {b:Addr} {o:Obj},s.heap.get? b=some o->b∉frs X.stack->(W.hideAll s.heap (frs X.stack)).get? b=some o:=fun e n=>W.hideAll_get _ e n
 have ofB: ∀ {b:Addr} {o:Obj},(W.hideAll s.heap (frs X.stack)).get? b=some o->s.heap.get? b=some o:=fun e=>W.of_hideAll _ e
 have trk: ∀ b u,H b=some u->b∉frs X.stack:=fun b u e hm=>by rw [I.stkFree b hm] at e;cases e
 have newB:(W.hideAll s.heap (frs X.stack)).get? a=none:=by
  cases q:(W.hideAll s.heap (frs X.stack)).get? a with
  | none=>rfl
  | some o=>have:=ofB q;rw [m.new] at this;cases this
 have hst:=z.stk
 refine zhY (B:=W.hideAll s.heap (frs X.stack)) (by rw [<- hst];exact hfr) (by rw [<- hst];exact hl3) z.frm (znK m) (fun b o e=>m.keeps b o (ofB e)) newB fun h2 q u=>k _ ?_
 have nin: ∀ b o,X.s₀.heap.get? b=some o->b∉frs X.outer->b∉frs X.stack:=fun b o e hb hm=>by
  rw [z.frs] at hm
  rcases qaP.mp hm with r | r
  ·exact I.below e r
  ·exact hb r
 refine ⟨I.os,I.bare,⟨_,q,fun b o e hb=> ?_,fun b v e=> ?_,fun b v e=> ?_⟩,fun b o e n hb=> ?_,fun b o e n=>I.base.free b o e n (nex b),I.base.tups,I.base.frzs,I.base.tbls⟩
 ·obtain ⟨o1,e1⟩:=I.base.there b o e (nex b)
  refine ⟨o1,inB e1 (nin b o e hb),fun n=> ?_⟩
  have e3:=I.base.keep b o e n hb (nex b)
  rw [e1] at e3
  cases e3
  rfl
 ·obtain ⟨o,e1⟩:=(I.hok b v e).there
  exact ⟨o,inB e1 (trk b v e)⟩
 ·refine (I.hok b v e).stay (fun c o hc e1=>inB e1 ?_) (fun _ r=>r) fun _ _ r=>r
  rcases hc with rfl | hc
  ·exact trk _ v e
  ·exact trk _ _ hc
 ·obtain ⟨sl,e1⟩:=I.base.slot b o e n hb (nex b)
  have hb2:b∈frs X.stack:=by rw [z.frs];exact qan _ hb
  obtain ⟨_,o3,e3,n3⟩:=hl.mem hb2
  rw [e1] at e3
  cases e3
  obtain ⟨sl4,e4⟩:=u b _ (m.keeps b _ e1) n3
  exact ⟨sl4,e4⟩
end
noncomputable def CXE (P:Program) (w:World):CXT:=fun outer H s E e s'=> ∃ a C H',e= .ref a/\Fl P w outer H s a C .none H' s'/\E e (some C) H'
end L2
namespace L3
open PySem PySem.Spec PyProof.Rows L2
def zb8 (K:W.Frag) (c:String) (C:Addr):Prop:=W.nsIn K mainGlobals (c:Str)=some (some (.ref C))
noncomputable def zoC (K:W.Frag) (E:XE):XK:=fun _ oc H'=> ∃ c C,oc=some C/\zb8 K c C/\E c H'
noncomputable def ztn (K:W.Frag) (E:XK):XE:=fun c H'=> ∀ C v,zb8 K c C->E v (some C) H'
def zpY (X:Cx) (E:XE):Prop:= ∀ (pins:List (Addr×Obj)) (σ:St) (H:Hp) (s:Shared) (h':Heap) (a C:Addr) (c:String) (vs:List Value),Inv X pins σ H s->zb8 X.K c C->Heap.MadeExcOf s.heap h' a (.ref C) vs->E c H->X.xe (.ref a) {s with heap:=h'}
section
variable {P:Program} {w:World} {K:W.Frag} {mg:Str->Option Value} {base:Heap} {N:List Str} {qual:Str} {scope:Scope} {f:Addr} {cd:Value} {A:Around} {outer:List Env} {s:Shared} {H:Hp} {E:XK}
theorem zoh:zeK (zhM (CXE P w) P w K mg base N qual scope f cd A outer s H E):=⟨rfl,rfl,rfl⟩
theorem zcS:zc0 (CXE P w) (zhM (CXE P w) P w K mg base N qual scope f cd A outer s H E) (zoC K (ztn K E)):=by
 intro pins σ H1 s1 e s2 I h
 obtain ⟨a,C,H2,rfl,y,c,C',e1,hc,he⟩:=h
 cases e1
 exact Fl.leave zoh I y fun s3 y3=>⟨a,C,H2,rfl,y3,he _ _ hc⟩
theorem zgw:zpY (zhM (CXE P w) P w K mg base N qual scope f cd A outer s H E) (ztn K E):=by
 intro pins σ H1 s1 h' a C c vs I hc m he
 exact Fl.made zoh I m fun s3 y3=>⟨a,C,H1,rfl,y3,he _ _ hc⟩
end
noncomputable def noX {α:Type} (m:M α):M α:=fun h=>match m h with
 | .exc _ _=> .bad
 | r=>r
theorem Fin.noX {α:Type} {K:W.Frag} {E E':XE} {ι:Io} {H:Hp} {m:M α} {h:Hh} {P:α->Io->Hp->Prop} (q:Fin K E ι H (L3.noX m h) P):Fin K E' ι H (m h) P:=by
 unfold L3.noX at q
 cases e:m h with
 | ok a h'=>rw [e] at q;exact q
 | exc c h'=>rw [e] at q;exact qa0 q
 | bad=>rw [e] at q;exact q
noncomputable def spE (K:W.Frag) (n:Nat) (F:List D->M D):Sp:=fun vs H Q E=>vs.length=n/\ ∃ ι h ds,zal K ι H ds vs/\zaW K ι H h/\Fin K (ztn K E) ι H (F ds h) fun d ι' H'=> ∀ v,Rel K ι' H' d v->Q v H'
section
variable {P:Program} {w:World} {K:W.Frag} {mg:Str->Option Value} {base:Heap}
theorem zen {x qual:Str} {st:Stmt} {f:Addr} {fd:FuncData} {N ps:List Str} {k:Nat} {G:Sd->M Out} (F:Fun K x qual st f fd) (S:zao N ps (zae st))
  (hb: ∀ (cdv:Value) (A:Around) (outer:List Env) (s:Shared) (H:Hp) (E:XK),zdg k (A.deeper (envOfC qual (zae st) s.heap.objs.size f cdv))->SSs (zhM (CXE P w) P w K mg base N qual (zae st) f cdv A outer s H E) (ztn K E) (zb2 st) G):
  zbw P w K mg base (CXE P w) (k+1) f fd ps (spE K ps.length (zc6 N.length G)):=by
 obtain ⟨oc,od,kV,doc,pm,an,cdv,ct,osl,rfl,lk,hcd⟩:=F.ex
 refine zrj lk hcd S (fun vs H Q E h=>h.1) fun A outer s H vs Q E hr ⟨hl,ι,h,ds,rl,hh,q⟩=>⟨_,hb cdv A outer s H E hr,ι,h,zfm N.length ds,zdV rl,hh,?_⟩
 refine Fin.bind q fun o h1 ι1 H1 e1 s1 hr1 q1=> ?_
 cases o with
 | nx sd=>exact fun σ' _=>Fin.out hr1 q1 _ (by simp [Rel])
 | rt d=>exact fun v rv=>Fin.out hr1 q1 v rv
 | bk sd=>exact qa0 q1
 | ct sd=>exact qa0 q1
end
section
variable {X:Cx} {E:XE} {e:Expr} {es:List Expr} {pos p:Pos}
theorem Fin.exmono {α:Type} {K:W.Frag} {E E':XE} {ι:Io} {H:Hp} {r:R α} {P:α->Io->Hp->Prop} (m: ∀ c H',E c H'->E' c H') (q:Fin K E ι H r P):Fin K E' ι H r P:=by
 cases r with
 | ok a h'=>exact q
 | exc c h'=>exact fun ι2 H2 t hr=>m _ _ (q ι2 H2 t hr)
 | bad=>exact q
theorem zmJ {k:Nat} {f:Addr} {fd:FuncData} {ps:List Str} {n:Nat} {F:List D->M D} {fs:Sd->M (List D)} {x:Str} (G:zbw X.prog X.w X.K X.mg X.base (CXE X.prog X.w) k f fd ps (spE X.K n F)) (hx:zc0 (CXE X.prog X.w) X (zoC X.K E)) (hr:zdg k X.A) (hg:Gl X x) (hm:X.mg x=some (.ref f)) (hk:W.keepIn X.K (.ref f)=true) (hb:zaG X.K fd ps [])
  (ha:SA X E (e::es) fs) (hdb:(x==("__debug__":Str))=false:=by decide) (he:starEach (e::es) X.env=(false,eval e X.env)::starEach es X.env:=by rfl) (hpl:(backTo pos (starEach es X.env)).any (·.1)=false:=by rfl):
  SE X E (.Call (.Name x p) (e::es) [] pos) (zaA (zam n F) fs):=by
 refine PE.imp (zhS G hr hg hm hk hb (dvs:=[]) .nil hx ha hdb he hpl) fun σ H Q ⟨ι,h,sd,L,hh,q⟩=>⟨ι,h,sd,L,hh,Fin.bind q fun ds h1 ι1 H1 e1 s1 hr1 q1 vs rv=> ?_⟩
 show spE X.K n F (vs++[]) H1 Q _
 rw [List.append_nil]
 unfold zam at q1
 by_cases hl:ds.length=n
 ·rw [qa4 hl] at q1
  exact ⟨by rw [<- rv.length];exact hl,ι1,h1,ds,rv,hr1,Fin.exmono (fun c H' z C v hc=>⟨c,C,rfl,hc,z⟩) q1⟩
 ·rw [qa5 hl] at q1
  exact qa0 q1
theorem znq {k:Nat} {f:Addr} {fd:FuncData} {ps:List Str} {n:Nat} {F:List D->M D} {fs:Sd->M (List D)} {x:Str} (G:zbw X.prog X.w X.K X.mg X.base CX0 k f fd ps (zcp X.K n F)) (hr:zdg k X.A) (hg:Gl X x) (hm:X.mg x=some (.ref f)) (hk:W.keepIn X.K (.ref f)=true) (hb:zaG X.K fd ps [])
  (ha:SA X E (e::es) fs) (hdb:(x==("__debug__":Str))=false:=by decide) (he:starEach (e::es) X.env=(false,eval e X.env)::starEach es X.env:=by rfl) (hpl:(backTo pos (starEach es X.env)).any (·.1)=false:=by rfl):
  SE X E (.Call (.Name x p) (e::es) [] pos) (zaA (zam n fun ds=>noX (F ds)) fs):=by
 refine PE.imp (zhS G hr hg hm hk hb (dvs:=[]) .nil (E:=fun _ _ _=>False) zsw ha hdb he hpl) fun σ H Q ⟨ι,h,sd,L,hh,q⟩=>⟨ι,h,sd,L,hh,Fin.bind q fun ds h1 ι1 H1 e1 s1 hr1 q1 vs rv=> ?_⟩
 show zcp X.K n F (vs++[]) H1 Q _
 rw [List.append_nil]
 unfold zam at q1
 by_cases hl:ds.length=n
 ·rw [qa4 hl] at q1
  exact ⟨by rw [<- rv.length];exact hl,ι1,h1,ds,rv,hr1,Fin.noX q1⟩
 ·rw [qa5 hl] at q1
  exact qa0 q1
end
end L3
namespace L2
open PySem PySem.Spec PyProof.Rows L3
structure zc9 (k:Nat) (A:Around):Prop where
 dp:A.depth+3*k+5<recursionLimit
 un:A.units+16*k+200<cLine
theorem zc9.of {k:Nat} {A:Around} (r:zdg k A):zc9 k A:=⟨r.dp,r.un⟩
theorem zc9.deeper {k:Nat} {A:Around} (r:zc9 (k+1) A) (env:Env):zc9 k (A.deeper env):=
 ⟨by have:=r.dp;show A.depth+1+3*k+5<_;omega,by have:=r.un;show A.units+3+16*k+200<_;omega⟩
theorem zc9.mono {j k:Nat} {A:Around} (r:zc9 k A) (h:j<=k):zc9 j A:=⟨by have:=r.dp;omega,by have:=r.un;omega⟩
structure FnH (P:Program) (w:World) (K:W.Frag) (mg:Str->Option Value) (base:Heap) (k:Nat) (f:Addr) (fd:FuncData) (ps:List Str) (sp:Sp):Prop where
 len: ∀ vs H Q E,sp vs H Q E->vs.length=ps.length
 run: ∀ (A:Around) (outer:List Env) (s:Shared) (H:Hp) (args:Args) (us:List Value) (vs:List V) (Q:VK),zc9 k A->zmS P w K mg base A outer s H->BindsTo s fd args (ps.zip us)->zaK vs us->sp vs H Q E0->
  codeAny (model P w) A (.call (.ref f) args) (CR CX0 outer P w H s Q E0) s
theorem zqV {P:Program} {w:World} {K:W.Frag} {mg:Str->Option Value} {base:Heap} {k:Nat} {f:Addr} {name qual:Str} {params:Arguments} {body:List Stmt} {scope:Scope} {dV kV doc pm cdv ct oc:Value} {an od:Option Addr}
  {osl:Array (Option Value)} {N ps:List Str} {sp:Sp} (lk:K.lookup f=some ⟨oc,od,.func (W.fnOf name qual params body scope dV kV doc pm an cdv ct),osl⟩) (hcd:W.codeIn K cdv qual=true) (S:zao N ps scope)
  (len: ∀ vs H Q E,sp vs H Q E->vs.length=ps.length)
  (hbody: ∀ (A:Around) (outer:List Env) (s:Shared) (H:Hp) (vs:List V) (Q:VK),zc9 k (A.deeper (envOfC qual scope s.heap.objs.size f cdv))->sp vs H Q E0->
    ∃ t,PSs ({zhM CX0 P w K mg base N qual scope f cdv A outer s H E0 with calm:=false}:Cx).nox body t/\t {nx:=fun _ H'=>Q .non H',rt:=Q} (zea N vs) H):
  FnH P w K mg base (k+1) f (W.fnOf name qual params body scope dV kV doc pm an cdv ct) ps sp:=by
 refine ⟨len,fun A outer s H args us vs Q hr e0 hb r hsp=> ?_⟩
 have hl:=len _ _ _ _ hsp
 have KX:K.In s.heap:=e0.mod.kin.keeps fun b o e=>(e0.bs b o e).1
 have lim:s.heap.NoLimit:=e0.mod.nolimit.keeps fun b o e=>(e0.bs b o e).1
 have hkind: ∀ y∈ps.zip us,scope.names.lookup y.1=some .local\/(scope.names.lookup y.1=some .cell/\((cellsFrom (s.heap.objs.size+1) scope.names []).lookup y.1).isSome=true):=fun ⟨n,v⟩ hy=>by
  rcases S.par n (List.of_mem_zip hy).1 with q | q
  ·exact .inl q
  ·exact .inr ⟨q,W.cellsFrom_some _ _ _ (.inl q)⟩
 refine codeAny_call_function (by have:=hr.dp;omega) (KX _ _ lk) rfl S.co S.gen rfl (W.codeRec_of KX hcd) (hb _ _ _ _ ?_)
 refine wpAny_newFunctionEnv_cells S.kind hkind fun env he s1 x=> ?_
 subst he
 refine ⟨lim.keeps x.toInCall.keep,codeAny_func ?_⟩
 obtain ⟨t,ht,hq⟩:=hbody A outer s H vs Q (hr.deeper _) hsp
 have I:Inv {zhM CX0 P w K mg base N qual scope f cdv A outer s H E0 with calm:=false} [] (zea N vs) H s1:=zg4 (cm:=false) S (fun z=>by cases z) e0 hl r x
 refine qaZ (ht.nox [] s1 (zea N vs) H _ I hq) (fun fl s' hs=> ?_) fun e s' hs=>hs
 have fin: ∀ {σ':St} {H':Hp} {v:V} {u:Value},Inv {zhM CX0 P w K mg base N qual scope f cdv A outer s H E0 with calm:=false} [] σ' H' s'->zbl v u->Q v H'->CE outer P w H s Q u s':=
  fun {σ' H' v u} J rv q=>⟨v,H',J.os,J.bare,J.base,J.hok,rv,q⟩
 cases fl with
 | ret u=>
  obtain ⟨v,σ',H',J,rv,q⟩:=hs
  exact fin J rv q
 | next=>
  obtain ⟨σ',H',J,q⟩:=hs
  exact fin (v:=V.non) (u:=Value.none) J rfl q
 | brk=>
  obtain ⟨_,_,_,q⟩:=hs
  exact qa0 q
 | cont=>
  obtain ⟨_,_,_,q⟩:=hs
  exact qa0 q
section
variable {X:Cx} {pins:List (Addr×Obj)} {σ:St} {H H':Hp} {s s':Shared} {a:Addr} {o:Obj}
theorem Inv.track (I:Inv X pins σ H s) (hH:H a=none) (ho:s.heap.get? a=some o) (h0:X.s₀.heap.get? a=none) (hL:a≠X.env.locals) (hc: ∀ x c,X.env.cells.lookup x=some c->c≠a) (hp: ∀ p∈X.pn++pins,p.1≠a):
  Inv X pins σ (upd H a (.frz o (.own 0))) s:=by
 have un: ∀ {b:Addr} {u:HO},H b=some u->upd H a (.frz o (.own 0)) b=some u:=fun e=>by rw [zat (zaE e hH)];exact e
 refine ⟨I.ok,I.os,I.bare,⟨I.base.keep,I.base.slot,fun b ob e n hx=> ?_,I.base.there,fun b xs e=>un (I.base.tups b xs e),fun b ob u e=>un (I.base.frzs b ob u e),fun b ps e=> ?_⟩,I.loc,I.cell,?_,fun x c e=> ?_,fun p q=> ?_,fun b u e=> ?_,I.len⟩
 ·rw [zat (fun z=>by subst z;rw [h0] at e;cases e)]
  exact I.base.free b ob e n hx
 ·obtain ⟨m,e1⟩:=I.base.tbls b ps e
  exact ⟨m,un e1⟩
 ·rw [zat (Ne.symm hL)]
  exact I.free
 ·rw [zat (hc x c e)]
  exact I.freeC x c e
 ·obtain ⟨e1,e2,e3⟩:=I.pin p q
  exact ⟨e1,by rw [zat (hp p q)];exact e2,e3⟩
 ·by_cases hb:b=a
  ·subst hb
   rw [zaC] at e
   cases e
   exact ⟨ho,o,ho⟩
  ·rw [zat hb] at e
   exact (I.hok b u e).stay (fun _ _ _ z=>z) (fun c z=>un z) fun c xs z=>un z
theorem zpS {M:Model} {A:Around} {E:Value->Shared->Prop} {i:Nat} {x:Str} {pos:Pos} {Q:Unit->Shared->Prop} (I:Inv X pins σ H s) (hN:X.N.Nodup) (hi:X.N[i]? = some x) (hk:X.env.scope.names.lookup x=some .local)
  (h: ∀ s',Inv X pins (σ.set i none) H s'->Q () s'):wpAny M A (do bindName X.env x .none;unbindBehindTheSuite X.env x pos) Q E s:=by
 obtain ⟨m,hn,hl⟩:=id I.loc
 have hcls:(X.env.scope.kind== .class || (X.env.scope.kind== .module && X.env.locals != X.env.globals))=false:=by rw [I.ok.kind];rfl
 have hiσ:i<σ.length:=by rw [I.len];exact (qac.mp hi).1
 have cne:=I.cne
 refine wpAny_nameGoes_keeps hk hn hcls fun h' v hn' hs=> ?_
 obtain ⟨oL,_,_,hoL,_⟩:=id hn
 refine h _ ⟨I.ok,I.os,I.bare,⟨fun b ob e n hb hx=> ?_,fun b ob e n hb hx=> ?_,I.base.free,fun b ob e hx=> ?_,I.base.tups,I.base.frzs,I.base.tbls⟩,⟨_,hn',fun j y v' e1 e2 e3=> ?_⟩,fun y c e=> ?_,I.free,I.freeC,fun p hp=> ?_,fun b ob e=> ?_,by simpa using I.len⟩
 ·exact (hs.2 b (I.below e)).trans (I.base.keep b ob e n hb hx)
 ·obtain ⟨sl,e1⟩:=I.base.slot b ob e n hb hx
  exact ⟨sl,(hs.2 b (I.below e)).trans e1⟩
 ·obtain ⟨o',e1⟩:=I.base.there b ob e hx
  exact ⟨o',(hs.2 b (I.below e)).trans e1⟩
 ·by_cases hj:j=i
  ·subst hj
   rw [qai hiσ] at e2
   cases e2
  ·rw [qao (Ne.symm hj)] at e2
   obtain ⟨u',r',q⟩:=hl j y v' e1 e2 e3
   refine ⟨u',r',?_⟩
   rcases q with ⟨k,e⟩ | ⟨k,c,e,z⟩
   ·refine .inl ⟨k,?_⟩
    have:y≠x:=fun e=>hj (zgn hN e1 (e▸hi))
    simp [this,e]
   ·exact .inr ⟨k,c,e,z.sameBut hs (cne y c e)⟩
 ·obtain ⟨w',z⟩:=I.cell y c e
  exact ⟨w',z.sameBut hs (cne y c e)⟩
 ·obtain ⟨e,n,ne,nf,d⟩:=I.pin p hp
  exact ⟨(hs.2 p.1 ne).trans e,n,ne,nf,d⟩
 ·refine (I.hok b ob e).stay (fun c w' hc q=>(hs.2 c ?_).trans q) (fun _ q=>q) fun _ _ q=>q
  rintro rfl
  rcases hc with rfl | hc
  ·rw [I.free] at e;cases e
  ·rw [I.free] at hc;cases hc
end
section
variable {X:Cx} {pins:List (Addr×Obj)} {σ:St} {H H':Hp} {s s':Shared} {a C CE:Addr} {ce en:Str} {pce pos:Pos} {b₀:Stmt} {suite:List Stmt} {j:Nat} {Q:Flow->Shared->Prop} {E:Value->Shared->Prop}
theorem Fl.caught (z:zeK X) (I:Inv X pins σ H s) (y:Fl X.prog X.w X.stack H s a C .none H' s') (hN:X.N.Nodup) (hj:X.N[j]? = some en) (hen:X.env.scope.names.lookup en=some .local) (hg:Gl X ce) (hm:X.mg ce=some (.ref CE)) (hx:W.exmOne X.K (.ref C) (.ref CE)=some true)
  (k: ∀ s6,Inv X pins (σ.set j (some (.ref a))) H' s6->(∃ head,zhX s6.heap a (.ref C) head)->wpAny (model X.prog X.w) (X.A.mark (some (.ref a))) (execs (b₀::suite) X.env)
    (fun f s4=>wpAny (model X.prog X.w) X.A (do bindName X.env en .none;unbindBehindTheSuite X.env en pos) (fun _ s5=>Q f s5) E s4) (fun _ _=>False) s6) (hd:(ce==("__debug__":Str))=false:=by decide):
  wpAny (model X.prog X.w) X.A (noteFrame (.ref a) X.env) (fun _ s2=>wpAny (model X.prog X.w) X.A (setFlight (.ref a) none) (fun _ s3=>
    wpAny (model X.prog X.w) X.A (handleBy (.ref a) X.env [.ExceptHandler (some (.Name ce pce)) (some en) (b₀::suite) pos]) Q E s3) E s2) E s':=by
 have hfr:=I.ok.frames
 rw [z.stk] at hfr y
 refine y.note hfr z.frm fun h3 y3=> ?_
 refine y3.off fun h4 y4=> ?_
 have ev: ∀ {hp fl},Fl X.prog X.w (X.env::X.outer) H s a C fl H' {s' with heap:=hp}->Inv X pins σ H' {s' with heap:=hp}:=fun {hp fl} y=>by
  have u:=y.un
  rw [<- z.stk] at u
  exact I.call' y.os u y.hok y.bare fun b q=>absurd q (by simp)
 have I4:=ev y4
 obtain ⟨hd4,x4⟩:=y4.exc
 have LT:W.Looks (model X.prog X.w) h4 (typeOf (.ref a)) (.ref C):=by
  obtain ⟨ob,vs,e1,e2,_⟩:=x4
  exact e2▸(W.Looks.ld e1).andThen .now
 refine wpAny_handleBy_cons (codeAny_handlers_test ?_) (by intro q;cases q)
 refine Calls.Name_function_global I4.ok.kind hg (Calls.loadGlobal_global (by rw [I4.ok.glob];exact I4.mod.glob.keeps I4.bk) hm ?_) hd
 refine (W.exm_one I4.kIn LT hx).here ?_
 refine codeAny_handlers_suite_as ?_
 refine y4.off fun h5 y5=> ?_
 have I5:=ev y5
 obtain ⟨hd5,x5⟩:=y5.exc
 have na:a≠X.env.locals/\ ∀ x c,X.env.cells.lookup x=some c->c≠a:=by
  obtain ⟨f1,f2,f3⟩:=y.fresh
  refine ⟨fun q=> ?_,fun x c e q=> ?_⟩
  ·obtain ⟨m,⟨oL,_,_,hoL,_⟩,_⟩:=I.loc
   rw [<- q,f1] at hoL
   cases hoL
  ·obtain ⟨v,oc,hoc,_⟩:=I.cell x c e
   rw [q,f1] at hoc
   cases hoc
 refine zhn I5 hN hj (.inl hen) (v:= .ref a) rfl (fun s6 I6 ⟨b,sb,hb⟩=> ?_) (.inr hen)
 refine qaZ (k s6 I6 ⟨hd5,x5.keep fun ob e=>(sb.2 a fun q=> ?_).trans e⟩) (fun _ _ q=>q) fun _ _ q=>q.elim
 rcases hb with hb | hb
 ·exact na.1 (q.trans hb)
 ·exact na.2 en b hb q.symm
end
noncomputable abbrev zlF:List Value:=[.type "ValueError",.type "Exception",.type "BaseException",.type "object"]
theorem zqi {K:W.Frag} {h:Heap} {mg:Str->Option Value} {x:Str} {C:Addr} {bm:List Value} {nid:String} (X:K.In h) (hm:mg x=some (.ref C)) (q:W.excIn K C bm nid=true):OwnCls x C bm nid mg h:=by
 refine ⟨hm,?_⟩
 unfold W.excIn at q
 split at q
 ·rename_i dd cdt sl lk
  split at q
  ·rename_i C2 tl y0 y1 y2 y3 nn y5 hmro hsl
   simp only [qaG,beq_iff_eq,Bool.not_eq_true'] at q
   obtain ⟨⟨⟨⟨⟨rfl,rfl⟩,q3⟩,q4⟩,q5⟩,q6⟩:=q
   obtain ⟨z1,z2,z3,z4,z5,z6,z7,z8,z9,z10,z11⟩:=cdt
   dsimp only at hmro q3 q5 q6
   subst hmro q3
   obtain rfl:sl= #[y0,y1,y2,y3,some (.builtin nn),y5]:=by
    obtain ⟨ll⟩:=sl
    dsimp only at hsl
    rw [hsl]
   exact ⟨tl,z4,z1,z5,z2,z6,z7,z8,z9,z10,dd,y0,y1,y2,y3,y5,_,X _ _ lk,.of_isNs (W.isNs_of_in X q5),W.nsMap_none_of_in X q5 q6,W.tail_of_in X q4⟩
  ·cases q
 ·cases q
noncomputable def Cx.re (X:Cx) (pn:List (Addr×Obj)) (xe:Value->Shared->Prop):Cx:={X with pn:=pn,xe:=xe}
section
variable {X:Cx} {pins pins':List (Addr×Obj)} {σ:St} {H H':Hp} {s s':Shared} {xe:Value->Shared->Prop}
theorem Inv.re (I:Inv X pins σ H s) (xe:Value->Shared->Prop):Inv (X.re (X.pn++pins) xe) [] σ H s:=
 ⟨⟨I.ok.mod,I.ok.kind,I.ok.glob,I.ok.blt,I.ok.above,I.ok.inj,I.ok.has,I.ok.cab,I.ok.hd,I.ok.hx,I.ok.frames,I.ok.stk,I.ok.exf,I.ok.bs,I.ok.bsz,I.ok.noex,I.ok.exfs,I.ok.funs,I.ok.frf⟩,I.os,I.bare,I.base,I.loc,I.cell,I.free,I.freeC,fun p hp=>I.pin p (by simpa [Cx.re] using hp),I.hok,I.len⟩
theorem Inv.unre (I:Inv (X.re (X.pn++pins) xe) pins' σ H s):Inv X pins σ H s:=
 ⟨⟨I.ok.mod,I.ok.kind,I.ok.glob,I.ok.blt,I.ok.above,I.ok.inj,I.ok.has,I.ok.cab,I.ok.hd,I.ok.hx,I.ok.frames,I.ok.stk,I.ok.exf,I.ok.bs,I.ok.bsz,I.ok.noex,I.ok.exfs,I.ok.funs,I.ok.frf⟩,I.os,I.bare,I.base,I.loc,I.cell,I.free,I.freeC,fun p hp=>I.pin p (List.mem_append_left _ hp),I.hok,I.len⟩
theorem SP.unre {D:zoX} {f:Flow} (h:SP (X.re (X.pn++pins) xe) pins' D f s'):SP X pins D f s':=by
 cases f with
 | next=>obtain ⟨σ',H',I,q⟩:=h;exact ⟨σ',H',I.unre,q⟩
 | brk=>obtain ⟨σ',H',I,q⟩:=h;exact ⟨σ',H',I.unre,q⟩
 | cont=>obtain ⟨σ',H',I,q⟩:=h;exact ⟨σ',H',I.unre,q⟩
 | ret u=>obtain ⟨v,σ',H',I,r,q⟩:=h;exact ⟨v,σ',H',I.unre,r,q⟩
end
end L2
namespace L3
open PySem PySem.Spec PyProof.Rows L2
section
variable {X:Cx} {pins:List (Addr×Obj)} {σ:L2.St} {H:Hp} {s:Shared} {a C:Addr} {o:Obj} {vs:Array Value} {head:Value} {c:String} {gk en pe:Str} {p1 p2 p3:Pos} {j k:Nat} {fk:Addr} {fdk:FuncData} {Fk:List D->M D} {Qv:VK} {ι:Io} {h:Hh}
theorem zkD (I:Inv X pins σ H s) (hH:H a=none) (ho:s.heap.get? a=some o) (ob:o.cls= .ref C/\o.dict=none/\o.data= .fields vs/\vs[2]? = some .none/\vs[1]? = some head)
  (h0:X.s₀.heap.get? a=none) (hL:a≠X.env.locals) (hcl: ∀ x c,X.env.cells.lookup x=some c->c≠a) (hp: ∀ p∈X.pn++pins,p.1≠a) (hj:X.N[j]? = some en) (hσ:σ[j]? = some (some (.ref a))) (hen:X.env.scope.names.lookup en=some .local)
  (FH:FnH X.prog X.w X.K X.mg X.base k fk fdk [pe] (zcp X.K 1 Fk)) (hb:zaG X.K fdk [pe] []) (hg:Gl X gk) (hm:X.mg gk=some (.ref fk)) (kp:W.keepIn X.K (.ref fk)=true) (hr:zc9 k X.A) (hc:zb8 X.K c C) (hh:zaW X.K ι H h)
  (q:Fin X.K E0x ι (upd H a (.frz o (.own 0))) (Fk [.exn c] h) fun d ι' H'=> ∀ v,Rel X.K ι' H' d v->Qv v H') (hd:(gk==("__debug__":Str))=false:=by decide) (hd2:(en==("__debug__":Str))=false:=by decide):
  wpAny (model X.prog X.w) (X.A.mark (some (.ref a))) (eval (.Call (.Name gk p1) [.Name en p2] [] p3) X.env) (fun u s8=> ∃ v H8,Inv X pins σ H8 s8/\zbl v u/\Qv v H8) (fun _ _=>False) s:=by
 have It:=I.track hH ho h0 hL hcl hp
 have E0':=It.env0
 refine wpAny_Call_Name_kw (Calls.Name_function_global I.ok.kind hg (Calls.loadGlobal_global (by rw [I.ok.glob];exact I.mod.glob.keeps I.bk) hm ?_) hd)
 refine W.callWith_K (h₀:=X.base) I.ok.mod.kin kp ?_
 refine Calls.spliced_cons ?_
 obtain ⟨m,hn,hl⟩:=It.loc
 obtain ⟨u,r,l⟩:=hl j en (.ref a) hj hσ (.inl hen)
 obtain rfl:u=Value.ref a:=r
 have hme:m en=some (.ref a):=by
  rcases l with ⟨_,e⟩ | ⟨e,_⟩
  ·exact e
  ·exfalso
   have e':X.env.scope.names.lookup en=some .cell\/X.env.scope.names.lookup en=some .free:=e
   rw [hen] at e'
   rcases e' with e' | e'<;>cases e'
 refine wpAny_Name (wpAny_loadName_local I.ok.kind hen hn hme ?_) hd2
 refine Calls.spliced_nil ⟨It.kIn,?_⟩
 have e0:zmS X.prog X.w X.K X.mg X.base (X.A.mark (some (.ref a))) X.stack s (upd H a (.frz o (.own 0))):=
  ⟨It.ok.frames,E0'.mod,E0'.bs,E0'.bsz,E0'.funs,E0'.frf,E0'.hok,E0'.bare,.inr ⟨a,o,.ref C,head,vs,rfl,zaC,ob⟩⟩
 have sp:zcp X.K 1 Fk [.ref a] (upd H a (.frz o (.own 0))) Qv E0:=
  ⟨rfl,ι,h,[.exn c],zal.cons (by simp only [Rel];exact ⟨a,o,C,head,vs,rfl,⟨zaC,hh.nin hH⟩,hc,ob⟩) zal.nil,hh.laid hH,q⟩
 refine wpAny_call (codeAny_mono (FH.run (X.A.mark (some (.ref a))) X.stack s _ ⟨[.ref a],[]⟩ [.ref a] [.ref a] Qv ⟨hr.dp,hr.un⟩ e0 (hb s [.ref a] It.kIn rfl) (.cons rfl .nil) sp) fun r s' hq=> ?_)
 cases r with
 | error e=>exact qa0 hq
 | ok fl=>
  cases fl with
  | ret u=>exact It.after hq
  | next=>exact qa0 hq
  | brk=>exact qa0 hq
  | cont=>exact qa0 hq
end
noncomputable def ziv (known:List String) (gb:FS) (i:Nat) (Fk:List D->M D):FS:=fun sd h=>match gb sd h with
 | .exc c h1=>if known.contains c=true then (do let d<-noX (Fk [.exn c]);pure (.nx ((List.replicate sd.length none).set i (some d))):M Out) h1 else .bad
 | r=>r
section
variable {X:Cx} {E:XE} {body:List Stmt} {ce en gk pe x:Str} {pce p1 p2 p3 p4 p5 hp pos:Pos} {CE fk:Addr} {fdk:FuncData} {Fk:List D->M D} {gb:FS} {j k i:Nat} {known:List String}
theorem zn4 {st:Stmt} {fin:Sd->D->M Out} {gt:FS} (hgt: ∀ sd h,gt sd h=match gb sd h with
      | .exc c h1=>if known.contains c=true then (do let d<-noX (Fk [.exn c]);fin sd d:M Out) h1 else .bad
      | r=>r)
  (z:zeK X) (hN:X.N.Nodup) (hj:X.N[j]? = some en) (hen:X.env.scope.names.lookup en=some .local) (hg:Gl X ce) (hm:X.mg ce=some (.ref CE))
  (hkn: ∀ c∈known, ∀ C,zb8 X.K c C->W.exmOne X.K (.ref C) (.ref CE)=some true) (hd:(ce==("__debug__":Str))=false)
  (hb: ∀ pn xe E',zc0 (CXE X.prog X.w) (X.re pn xe) (zoC X.K E')->SSs (X.re pn xe) E' body gb)
  (hst: ∀ (X':Cx) (pins:List (Addr×Obj)) (σ:L2.St) (H:Hp) (s:Shared) (a:Addr) (D0:zoX) (sd:Sd) (Q:Flow->Shared->Prop) (Ef:Value->Shared->Prop) (pn:List (Addr×Obj)) (xe:Value->Shared->Prop),X'=X.re pn xe->Inv X' pins (σ.set j (some (.ref a))) H s->sd.length=X.N.length->
    (∀ Qv:VK,(∀ d ι' H' h',zaW X.K ι' H' h'->Fin X.K E ι' H' (fin sd d h') (zjK X.K D0)-> ∀ v,Rel X.K ι' H' d v->Qv v H')->
      wpAny (model X.prog X.w) (X.A.mark (some (.ref a))) (eval (.Call (.Name gk p1) [.Name en p2] [] p3) X.env) (fun u s8=> ∃ v H8,Inv X' pins (σ.set j (some (.ref a))) H8 s8/\zbl v u/\Qv v H8) (fun _ _=>False) s)->
    (∀ f s9,SP X' pins D0 f s9->Q f s9)->
    wpAny (model X.prog X.w) (X.A.mark (some (.ref a))) (execs [st] X.env) (fun f s4=>wpAny (model X.prog X.w) X.A (do bindName X.env en .none;unbindBehindTheSuite X.env en hp) (fun _ s5=>Q f s5) Ef s4) (fun _ _=>False) s)
  (FH:FnH X.prog X.w X.K X.mg X.base k fk fdk [pe] (zcp X.K 1 Fk)) (hbk:zaG X.K fdk [pe] []) (hgk:Gl X gk) (hmk:X.mg gk=some (.ref fk)) (kp:W.keepIn X.K (.ref fk)=true) (hr:zc9 k X.A) (hd2:(gk==("__debug__":Str))=false) (hd3:(en==("__debug__":Str))=false):
  SS X E (.Try body [.ExceptHandler (some (.Name ce pce)) (some en) [st] hp] [] [] pos) gt:=by
 intro pins s σ H D0 I ⟨ι,h,sd,L,hh,q⟩
 refine wpAny_Try_except ?_
 rw [hgt] at q
 let xe':Value->Shared->Prop:=fun e s₁=>wpAny (model X.prog X.w) X.A (noteFrame e X.env) (fun _ s₂=>wpAny (model X.prog X.w) X.A (setFlight e none) (fun _ s₃=>wpAny (model X.prog X.w) X.A (handleBy e X.env [.ExceptHandler (some (.Name ce pce)) (some en) [st] hp]) (SP X pins D0) X.xe s₃) X.xe s₂) X.xe s₁
 cases hres:gb sd h with
 | bad=>rw [hres] at q;exact qa0 q
 | ok o1 h1=>
  rw [hres] at q
  have run:=hb (X.pn++pins) xe'
   E0x (fun pins' σ' H1 s1 e s2 I1 hx=>by obtain ⟨a,C,H2,_,_,c,C',_,_,w⟩:=hx;exact w.elim) [] s σ H D0 (I.re _) ⟨ι,h,sd,L,hh,by rw [hres];exact q⟩
  refine qaZ run (fun f s1 hs=> ?_) fun _ _ w=>w
  have hs':=hs.unre
  cases f with
  | next=>exact wpAny_execs_nil hs'
  | ret u=>exact hs'
  | brk=>exact hs'
  | cont=>exact hs'
 | exc c h1=>
  rw [hres] at q
  by_cases hk:known.contains c=true
  ·simp only [hk,if_true] at q
   have run:=hb (X.pn++pins) xe'
    (fun c' H'=>c'=c/\ ∃ ι',zbO ι H ι' H'/\zaW X.K ι' H' h1) (fun pins' σ' H1 s1 e s2 I1 hx=>by
      obtain ⟨a,C,H2,rfl,y,c',C',e1,hc,rfl,ι',st1,hr1⟩:=hx
      cases e1
      have z':zeK (X.re (X.pn++pins) xe'):=⟨z.stk,z.frm,z.ex⟩
      obtain ⟨f1,f2,f3⟩:=y.fresh
      refine Fl.caught (X:=X.re (X.pn++pins) xe') (b₀:=st) (suite:=[]) (pce:=pce) (pos:=hp) (Q:=SP X pins D0) (E:=X.xe) z' I1 y hN hj hen hg hm (hkn c' (by simpa using hk) C hc) (fun s6 I6 ⟨head,x6⟩=> ?_) hd
      obtain ⟨o,vs,ho,ob⟩:=x6
      have hnil: ∀ b,b∉X.ex:=fun b h=>by rw [z.ex] at h;cases h
      refine hst _ pins' σ' H2 s6 a D0 sd (SP X pins D0) X.xe _ _ rfl I6 (L.1.trans I.len) (fun Qv hQ=> ?_) fun f s9 w=>w.unre
      have hσ:(σ'.set j (some (V.ref a)))[j]? = some (some (.ref a)):=qai (by rw [I1.len];exact (qac.mp hj).1)
      refine zkD (X:=X.re _ _) I6 f2 ho ob ?_ (fun w=> ?_) (fun x c e w=> ?_) (fun p hp w=> ?_) hj hσ hen FH hbk hgk hmk kp hr hc hr1 ?_ hd2 hd3
      · cases w:X.s₀.heap.get? a with
        | none=>exact w
        | some ob=>
          obtain ⟨o',e'⟩:=I1.base.there a ob w (hnil a)
          rw [f1] at e'
          cases e'
      · obtain ⟨m,⟨oL,_,_,hoL,_⟩,_⟩:=I1.loc
        have hoL:s1.heap.get? X.env.locals=some oL:=hoL
        rw [<- show a=X.env.locals from w,f1] at hoL
        cases hoL
      · obtain ⟨v,oc,hoc,_⟩:=I1.cell x c e
        rw [w,f1] at hoc
        cases hoc
      · have e:=(I1.pin p hp).1
        rw [w,f1] at e
        cases e
      · have q1:=Fin.step (st1.trans (hr1.laidS (o:= .frz o (.own 0)) f2)) q
        exact Fin.noX (Fin.bind q1 fun d h' ι8 H8 e8 s8 hr8 q8 v rv=>hQ d ι8 H8 h' hr8 q8 v rv))
    [] s σ H {nx:=fun _ _=>False,rt:=fun _ _=>False} (I.re _) ⟨ι,h,sd,L,hh,by rw [hres];exact fun ι' H' st1 hr1=>⟨rfl,ι',st1,hr1⟩⟩
   refine qaZ run (fun f s1 hs=> ?_) fun _ _ w=>w
   cases f with
   | next=>obtain ⟨_,_,_,w⟩:=hs;exact w.elim
   | brk=>obtain ⟨_,_,_,w⟩:=hs;exact w.elim
   | cont=>obtain ⟨_,_,_,w⟩:=hs;exact w.elim
   | ret u=>obtain ⟨_,_,_,_,_,w⟩:=hs;exact w.elim
  ·simp only [hk] at q
   exact qa0 q
theorem zru (z:zeK X) (hN:X.N.Nodup) (hj:X.N[j]? = some en) (hen:X.env.scope.names.lookup en=some .local) (hi:X.N[i]? = some x) (hx:X.env.scope.names.lookup x=some .local) (hij:j≠i) (hg:Gl X ce) (hm:X.mg ce=some (.ref CE))
  (hkn: ∀ c∈known, ∀ C,zb8 X.K c C->W.exmOne X.K (.ref C) (.ref CE)=some true)
  (hb: ∀ pn xe E',zc0 (CXE X.prog X.w) (X.re pn xe) (zoC X.K E')->SSs (X.re pn xe) E' body gb)
  (FH:FnH X.prog X.w X.K X.mg X.base k fk fdk [pe] (zcp X.K 1 Fk)) (hbk:zaG X.K fdk [pe] []) (hgk:Gl X gk) (hmk:X.mg gk=some (.ref fk)) (kp:W.keepIn X.K (.ref fk)=true) (hr:zc9 k X.A)
  (hd:(ce==("__debug__":Str))=false:=by decide) (hd2:(gk==("__debug__":Str))=false:=by decide) (hd3:(en==("__debug__":Str))=false:=by decide)
  (hs:swapsWith (.Call (.Name gk p1) [.Name en p2] [] p3) (some (.Name x p5)) p4.line X.env=pure false:=by rfl):
  SS X E (.Try body [.ExceptHandler (some (.Name ce pce)) (some en) [.Assign [.Name x p5] (.Call (.Name gk p1) [.Name en p2] [] p3) p4] hp] [] [] pos) (ziv known gb i Fk):=by
 refine zn4 (fin:=fun sd d=>pure (.nx ((List.replicate sd.length none).set i (some d)))) (p1:=p1) (p2:=p2) (p3:=p3) (fun sd h=>rfl) z hN hj hen hg hm hkn hd hb (fun X' pins σ H s a D0 sd Q Ef pn xe hX I6 hl ev hQ=> ?_) FH hbk hgk hmk kp hr hd2 hd3
 subst hX
 refine wpAny_execs_cons ?_
 refine wpAny_Assign_Name (qaZ (ev (fun v H'=> ∀ σ9:L2.St,σ9.length=X.N.length->σ9[i]? = some (some v)->D0.nx σ9 H') fun d ι' H' h' hr1 q v rv σ9 l9 e9=> ?_) (fun u s8 hv=> ?_) fun _ _ w=>w) hs
 ·have q1:=Fin.out hr1 q
  refine q1 σ9 ⟨by rw [qaI,List.length_replicate,hl,l9],fun n d' e=> ?_⟩
  by_cases hn:i=n
  ·subst hn
   by_cases hlt:i<sd.length
   ·rw [qai (by rw [List.length_replicate];exact hlt)] at e
    cases e
    exact ⟨v,e9,rv⟩
   ·rw [List.getElem?_eq_none (by rw [qaI,List.length_replicate];omega)] at e
    cases e
  ·rw [qao hn,List.getElem?_replicate] at e
   split at e<;>cases e
 ·obtain ⟨v,H8,I8,rv,qv⟩:=hv
  refine zer (X:=X.re pn xe) I8 hN hi (.inl hx) rv (fun s9 I9=> ?_) (.inr hx)
  refine wpAny_execs_nil ?_
  refine zpS (X:=X.re pn xe) I9 hN hj hen fun s10 I10=>hQ _ s10 ⟨_,H8,I10,qv _ ?_ ?_⟩
  ·exact I10.len
  ·rw [qao hij]
   exact qai (by rw [qaI];have:=I9.len;rw [qaI,qaI] at this;rw [this];exact (qac.mp hi).1)
noncomputable def zfx (c:String):FS:=fun _ h=> .exc c h
theorem zp5 {c:String} {C:Addr} {nid:String} {msg:Str} {jj:Nat} {np cpos:Pos} (hc:X.calm=true) (hp:zpY X E) (hX:W.excIn X.K C zlF "ValueError.__new__"=true) (hcl:zb8 X.K c C) (hg:Gl X (c:Str)) (hd:((c:Str)==("__debug__":Str))=false:=by decide):
  SS X E (.Raise (some (.Call (.Name (c:Str) np) [.Constant (.str msg) jj p2] [] cpos)) none pos) (zfx c):=by
 intro pins s σ H D0 I ⟨ι,h,sd,L,hh,q⟩
 have hE:E c H:=q ι H (zbO.refl _ _) hh
 have hm:X.mg (c:Str)=some (.ref C):=W.mg_of I.ok.mod.kin I.ok.mod.glob hcl
 obtain ⟨tl,N,nm,qq,bs,hdct,sn,sub,ab,col,dd,k0,k1,k2,k3,k5,mN,hC,hNs,hni,T⟩:=(zqi (x:=(c:Str)) I.ok.mod.kin hm hX).obj
 refine wpAny_Raise_call_subT (C:=C) (nm:=nm) (q:=qq) (N:=N) (bs:=bs) (bm:=tl) (hdct:=hdct) (sn:=sn) (sub:=sub) (ab:=ab) (col:=col) (dd:=dd) (k0:=k0) (k1:=k1) (k2:=k2) (k3:=k3) (k5:=k5)
  PySem.F.excBase_ValueError (mN:=mN) (T.hasType PySem.F.excBase_ValueError.hasBase) (I.ok.hd hc) rfl hni (ziu I hg hm ⟨rfl,?_⟩ hd)
 refine Calls.evalArgs_plain (x:=eval (.Constant (.str msg) jj p2) X.env) (rest:=[]) ?_
 refine Calls.spliced_cons (thn (zog pins s σ H (fun v H1=>H1=H) I rfl) fun u s1 hu=> ?_)
 obtain ⟨v,H1,I1,rv,rfl⟩:=hu
 refine Calls.spliced_nil ⟨rfl,by show 1<=sizeLine;decide,I1.bk _ _ hC,hNs.keeps I1.bk,T.keeps I1.bk,fun h' e m=> ?_⟩
 exact hp pins σ H1 s1 h' e C c _ I1 hcl m hE
end
end L3
namespace L3
open PySem PySem.W
theorem zhw {K:Frag} {C:Addr} {name:Str} {a g:Value} (hc:(clsIn K C).isSome=true) (ha:findIn K (.ref C) name=some (some a)) (hg:specialIn K a "__get__"=some (some g)) (ht:takesIn K a=some true):findObj K C none name=some (.bind g a):=by
 obtain ⟨cd,hc⟩:=Option.isSome_iff_exists.mp hc
 unfold findObj
 rw [hc,Option.bind_some,ha,Option.bind_some]
 simp [hg,ht]
section
variable {prog:Program} {w:World} {A:Around} {E:Value->Shared->Prop} {s:Shared} {K:Frag} {x D:Addr} {ox:Obj}
theorem zkw {Q:Option Value->Shared->Prop} (X:K.In s.heap) (I:InstAt s.heap x ox D none) (hc:(clsIn K D).isSome=true) (hga:findIn K (.ref D) "__getattribute__"=some (some (.builtin "BaseException.__getattribute__"))) (hk:findIn K (.ref D) "__getattr__"=some none)
  (ha:findIn K (.ref D) "__class__"=some (some (.builtin "object.__class__"))) (hn:specialIn K (.builtin "object.__class__") "__get__"=some (some (.builtin "getset_descriptor.__get__"))) (htk:takesIn K (.builtin "object.__class__")=some true)
  (hm:mroIn K D (.type "object")=some true) (hmB:mroIn K D (.type "BaseException")=some true) (h:Q (some (.ref D)) {s with toks:=s.toks+1}):wpAny (model prog w) A (getAttr? (.ref x) "__class__") Q E s:=by
 obtain ⟨hh,g,d,t,os⟩:=s
 have L0:=I.type (M:=model prog w)
 have L1:=looks_findIn (M:=model prog w) X hga
 have L2:=looks_findIn (M:=model prog w) X hk
 have L3:=looks_find (M:=model prog w) X I (zhw hc ha hn htk)
 have LB:Looks (model prog w) hh (isInstance (.ref x) (.type "BaseException")) true:=L0.andThen (looks_mroIn X hmB)
 have f3:=PySem.F.attr_ValueError.ga.bind (.ref x)
 have hx2:(Value.builtin "BaseException.__getattribute__"==Value.builtin "object.__getattribute__")=false:=by decide +kernel
 unfold getAttr? getAttrBy? getAttrBy
 refine qaW (wpAny_mkText (qaW (wpAny_attempt (qaO (qaW (L0.at (qaW (L1.at ?_))))))))
 dsimp only
 rw [hx2,Bool.and_false,qa5 Bool.false_ne_true]
 unfold getAttrByItsOwn hookBefore
 rw [qa4 (show onTheHeap (Value.ref D)=true from rfl)]
 refine qaW (L2.at ?_)
 refine qaW (wpAny_attempt (qaO ?_))
 unfold callGetattribute
 rw [qa5 (by simp)]
 unfold boundAndCalled
 rw [f3]
 refine qaW (qaX ?_)
 refine wpAny_call (codeAny_call_builtin PySem.F.attr_ValueError.ga.plain PySem.F.entry_bexc_ga ?_)
 have kd:builtinKind "BaseException.__getattribute__"=some .slot:=by decide +kernel
 have sp:splitId "BaseException.__getattribute__"=some ("BaseException","__getattribute__"):=by decide +kernel
 have ag:=PySem.F.args_bexc_ga (.ref x) (.str "__class__" t)
 simp only [checkBuiltinCall,kd,sp]
 refine qaW (LB.at ?_)
 rw [qa5 (by decide)]
 refine wpAny_of_eq (a:=()) ag ?_
 unfold Builtin.«object.__getattribute__»
 refine qaW (qaX ?_)
 refine qaW (qaX ?_)
 refine qaW (L0.at ?_)
 refine qaW (L3.at ?_)
 dsimp only
 unfold Builtin.ObjectAttr.bindTo
 dsimp only
 refine qaW (qaO (wpAny_call (class_get (s:=⟨hh,g,d,t+1,os⟩) X I hm ?_)))
 refine qaX ?_
 dsimp only
 refine wpAny_of_eq (a:=Value.ref D) rfl ?_
 exact qaX h
end
end L3
namespace L3
open PySem PySem.Spec PyProof.Rows L2
noncomputable def kxb (K:W.Frag) (C:Addr):Bool:=(W.clsIn K C).isSome && W.findIn K (.ref C) "__getattribute__"==some (some (.builtin "BaseException.__getattribute__")) && W.findIn K (.ref C) "__getattr__"==some none && W.findIn K (.ref C) "__class__"==some (some (.builtin "object.__class__"))
 && W.specialIn K (.builtin "object.__class__") "__get__"==some (some (.builtin "getset_descriptor.__get__")) && W.takesIn K (.builtin "object.__class__")==some true && W.mroIn K C (.type "object")==some true && W.mroIn K C (.type "BaseException")==some true
theorem znp {K:W.Frag} {x C:Addr} {ox:Obj} (h:kxb K C=true):W.KitX K (.ref x) (.ref C) (fun h=>W.InstAt h x ox C none):=by
 unfold kxb at h
 simp only [qaG,beq_iff_eq] at h
 obtain ⟨⟨⟨⟨⟨⟨⟨h1,h2⟩,h3⟩,h4⟩,h5⟩,h6⟩,h7⟩,h8⟩:=h
 refine ⟨fun _ _ _ I=>I.type,fun M hp X _=> ?_,fun hp tp dd its n sl X htp=> ?_,fun X I k=>zkw X I h1 h2 h3 h4 h5 h6 h7 h8 k⟩
 ·obtain ⟨cd,hc⟩:=Option.isSome_iff_exists.mp h1
  unfold W.clsIn at hc
  split at hc
  ·rename_i lk
   intro A' Q' E' s' k q
   unfold isType loadHead
   exact qaW (wpAny_loadPart (k _ _ (X _ _ lk)) (qaX q))
  ·cases hc
 ·refine Bool.eq_false_iff.mpr fun q=> ?_
  have e:C=tp:=Value.ref.inj (beq_iff_eq.mp q)
  subst e
  obtain ⟨cd,hc⟩:=Option.isSome_iff_exists.mp h1
  unfold W.clsIn at hc
  split at hc
  ·rename_i lk
   have z:=(X _ _ lk).symm.trans htp
   cases z
  ·cases hc
structure ztz (K:W.Frag) (CE:Addr) (names:List String) (c:String) (C:Addr):Prop where
 exc:W.excIn K C zlF "ValueError.__new__"=true
 cov:W.exmOne K (.ref C) (.ref CE)=some true
 kx:kxb K C=true
 ve:W.kitOne K (.ref C) (.type "ValueError")=some true
 one: ∀ c'∈names, ∀ C',zb8 K c' C'->W.kitOne K (.ref C) (.ref C')=some (c==c')
def zmW (K:W.Frag) (CE:Addr) (names:List String):Prop:= ∀ c∈names, ∀ C,zb8 K c C->ztz K CE names c C
noncomputable def zk9 (K:W.Frag) (CE:Addr) (tab:List (String×Addr)):Bool:=tab.all fun p=>W.nsIn K mainGlobals (p.1:Str)==some (some (.ref p.2)) && W.excIn K p.2 zlF "ValueError.__new__" && W.exmOne K (.ref p.2) (.ref CE)==some true && kxb K p.2 && W.kitOne K (.ref p.2) (.type "ValueError")==some true
 && tab.all fun r=>W.kitOne K (.ref p.2) (.ref r.2)==some (p.1==r.1)
theorem zmW.of {K:W.Frag} {CE:Addr} {tab:List (String×Addr)} (h:zk9 K CE tab=true):zmW K CE (tab.map (·.1)):=by
 unfold zk9 at h
 rw [List.all_eq_true] at h
 have key: ∀ c∈tab.map (·.1), ∀ C,zb8 K c C->(c,C)∈tab:=fun c hc C hC=>by
  obtain ⟨p,hp,rfl⟩:=qaU.mp hc
  have h1:=h p hp
  simp only [qaG,beq_iff_eq] at h1
  have e:=h1.1.1.1.1.1
  unfold zb8 at hC
  rw [hC] at e
  cases e
  exact hp
 intro c hc C hC
 have h1:=h _ (key c hc C hC)
 simp only [qaG,beq_iff_eq,List.all_eq_true] at h1
 obtain ⟨⟨⟨⟨⟨a1,a2⟩,a3⟩,a4⟩,a5⟩,a6⟩:=h1
 exact ⟨a2,a3,a4,a5,fun c' hc' C' hC'=>a6 _ (key c' hc' C' hC')⟩
theorem zmW.known {K:W.Frag} {CE:Addr} {names:List String} (h:zmW K CE names): ∀ c∈names, ∀ C,zb8 K c C->W.exmOne K (.ref C) (.ref CE)=some true:=fun c hc C hC=>(h c hc C hC).cov
noncomputable def zoH (names:List String) (T:String):D->M D
 | .exn c=>if names.contains c && names.contains T then pure (.bl (c==T)) else M.bad
 | _=>M.bad
section
variable {X:Cx} {E:XE}
theorem znt:zay X (.builtin "isinstance") (fun xs H Q=> ∃ a o C vs x u b,xs=[.ref a,x]/\H a=some (.frz o (.own 0))/\(o.cls= .ref C/\o.dict=none/\o.data= .fields vs)/\kxb X.K C=true/\zbl x u/\(∀ u',zbl x u'->u'=u)/\W.kitOne X.K (.ref C) u=some b/\Q (.bl b) H):=by
 intro pins s σ H xs us Q I r h
 obtain ⟨a,o,C,vs,x,u,b,rfl,hH,⟨o1,o2,o3⟩,hk,hu,hu2,e,q⟩:=h
 cases r with
 | cons r1 r2=>
  cases r2 with
  | cons r3 r4=>
   cases r4
   cases r1
   have:=hu2 _ r3
   subst this
   have ho:=(I.hok a _ hH).1
   refine W.kia_one (znp (x:=a) (ox:=o) hk) I.kIn ⟨ho,o1,by unfold W.notCls;rw [o3],by rw [o2];trivial⟩ e (fun z=>nomatch z) fun tk=>⟨.bl b,H,I.tok tk,rfl,q⟩
variable {a:Expr} {p1 p2 pos:Pos} {fa:FE} {CE CC:Addr} {names:List String}
theorem zh1 {c':String} (hx:zmW X.K CE names) (hc':names.contains c'=true) (hcl:zb8 X.K c' CC) (hm:X.mg "isinstance"=none) (hmC:X.mg (c':Str)=some (.ref CC)) (ha:SE X E a fa) (hg:Gl X "isinstance":=by rfl) (hgC:Gl X (c':Str):=by rfl)
  (hd:((c':Str)==("__debug__":Str))=false:=by decide)
  (h1:starEach [a,.Name (c':Str) p2] X.env=(false,eval a X.env)::starEach [.Name (c':Str) p2] X.env:=by rfl) (h2:starEach [.Name (c':Str) p2] X.env=[(false,eval (.Name (c':Str) p2) X.env)]:=by rfl)
  (hpl:(backTo pos (starEach [.Name (c':Str) p2] X.env)).any (·.1)=false:=by rfl):
  SE X E (.Call (.Name "isinstance" p1) [a,.Name (c':Str) p2] [] pos) (cUn (zoH names c') fa):=by
 refine PE.imp (zew znt hg hm PyProof.Rows.boot_isinstance (zba ha (zba (zl5 (v:= .ref CC) hgC hmC rfl hd) zcn h2) h1) (he:=h1) (hpl:=hpl)) fun σ H Q ⟨ι,h,sd,L,hh,q⟩=>⟨ι,h,sd,L,hh,Fin.bind q fun d h1 ι1 H1 e1 s1 hr1 q1 v rv=> ?_⟩
 cases d with
 | exn c=>
  obtain ⟨hg1,q2⟩:=Fin.guard (show Fin X.K E ι1 H1 ((if (names.contains c && names.contains c')=true then (pure (.bl (c==c')):M D) else M.bad) h1) _ from q1)
  rw [qaG] at hg1
  simp only [Rel] at rv
  obtain ⟨b,o,C,head,vs,rfl,⟨r1,_⟩,r2,r3,r4,r5,_⟩:=rv
  have ok:=hx c (by simpa using hg1.1) C r2
  exact ⟨b,o,C,vs,.ref CC,.ref CC,c==c',rfl,r1,⟨r3,r4,r5⟩,ok.kx,rfl,fun u' z=>z,ok.one c' (by simpa using hc') CC hcl,Fin.out hr1 q2 _ (by simp [Rel])⟩
 | _=>exact qa0 q1
end
end L3
namespace L3
open PySem
section
variable {prog:Program} {w:World} {A:Around} {E:Value->Shared->Prop} {s:Shared}
end
end L3
namespace L2
open PySem PySem.Spec PyProof.Rows L3
section
variable {X:Cx}
theorem zjs:MtM X "list.extend" (fun x vs H Q=> ∃ l b xs zs,x= .ref l/\vs=[.ref b]/\H l=some (.lst xs)/\SqT X.K H b zs/\xs.length+zs.length<=sizeLine/\Q .non (upd H l (.lst (xs++zs)))):=by
 intro pins s σ H x vs v us Q I rx rv h
 obtain ⟨l,b,xs,zs,rfl,rfl,hH,hB,hz,q⟩:=h
 cases rx
 obtain ⟨u,rfl,ru⟩:=zcR rv
 cases ru
 obtain ⟨z,its,n,r,hl,e⟩:=I.lstM hH
 obtain ⟨its2,r2,⟨ob,e2,c2,n2,d2⟩,z2⟩:=I.tuple hB
 have l2:=r2.length
 have hsz:its.toArray.size+its2.toArray.size<=sizeLine:=by rw [qaA,qaA];omega
 refine wpAny_call (codeAny_call_builtin F.slot_list_extend.plain F.entry_list_extend (F.slot_list_extend.check _ _ _ _ _ _ _ _ ⟨_,e,rfl⟩ (F.args_list_extend_2 _ _) ?_))
 unfold Builtin.«list.extend»
 refine qaW (qaX ?_)
 unfold Builtin.List.listExtendWith
 refine qaW (wpAny_typeOf ⟨ob,e2,c2⟩ ?_)
 have h1:(Builtin.List.listSameRef (.ref l) (.ref b) || Value.type "tuple"==Value.type "list" || Value.type "tuple"==Value.type "tuple")=true:=by simp
 simp only [h1,if_true]
 unfold Builtin.List.listItems
 refine qaW (qaW (wpAny_seqItems e2 d2 (qaX ?_)))
 refine qaW (qaW (wpAny_seqItems e rfl (qaX ?_)))
 rw [qa5 (by rw [zmV hsz,Bool.and_false];exact Bool.false_ne_true)]
 refine qaW (wpAny_updateSeq e rfl ?_ (by rw [qaA];omega))
 refine qaX ?_
 refine ⟨.non,_,I.lset (its':=its++its2) hH e (by simp) (r.append r2) ?_,rfl,q⟩
 rw [qav]
 omega
theorem zfD: ∀ {bs:List Bool} {its:List Value},zaK (bs.map V.bl) its->its=bs.map Value.bool
 | [],_,h=>by cases h;rfl
 | b::bs,_,h=>by
  cases h with
  | cons r t=>cases r;rw [zfD t];rfl
theorem zmd:MtR X "list.index" (fun x vs H Q=> ∃ (l:Addr) (bs:List Bool) (j:Nat),x= .ref l/\vs=[.bl true]/\SqL X.K H l (bs.map V.bl)/\bs[j]? = some true/\(∀ m,m<j->bs[m]? = some false)/\Q (.int (j:Int)) H):=by
 intro pins s σ H x vs v us Q I rx rv h
 obtain ⟨l,bs,j,rfl,rfl,hq,hj,hno,q⟩:=h
 cases rx
 obtain ⟨u,rfl,ru⟩:=zcR rv
 cases ru
 obtain ⟨its,r,pl,hz⟩:=I.list hq
 have eit:=zfD r
 subst eit
 obtain ⟨ob,e1,c1,n1,d1⟩:=pl.isList
 obtain ⟨cc,dd,dt,sl⟩:=ob
 dsimp only at c1 d1
 subst c1 d1
 have hlt:j<bs.length:=(qac.mp hj).1
 rw [qaH] at hz
 have sz:(j:Int)<2^63 - 1:=by
  have:sizeLine<2^40:=by decide
  omega
 refine call_meets F.slot_list_index ⟨_,e1,rfl⟩ F.entry_list_index (F.args_list_index_2 _ _)
  (PySem.SeqAt.list_indexAt l _ n1 dd sl (.bool true) (fun v=>match v with | .bool b=>b | _=>false) j (by simpa using hlt) sz ?_ ?_) ⟨e1,fun y hy=> ?_,⟨.int j,H,I.tok _,⟨_,rfl⟩,q⟩⟩
 ·have:=(qac.mp hj).2
  simp [this]
 ·intro m hm hmj
  have:=(qac.mp (hno m hmj)).2
  simp [this]
 ·obtain ⟨b,_,rfl⟩:=qaU.mp (List.mem_toArray.mp hy)
  have:=PySem.SeqAt.EqAt.bool_bool (A:=X.A.in1) (s:=s) b true
  simpa using this
end
end L2
namespace L3
open PySem PySem.Spec PyProof.Rows L2
noncomputable def zvh (f:FE):FE:=fun sd=>noX (f sd)
noncomputable def zuN (f:FS):FS:=fun sd=>noX (f sd)
theorem zhQ {X:Cx}:zc0 (CXE X.prog X.w) X (zoC X.K E0x):=fun _ _ _ _ _ _ _ h=>by
 obtain ⟨_,_,_,_,_,_,_,_,_,z⟩:=h
 exact z.elim
section
variable {X:Cx} {E:XE} {a e o:Expr} {es:List Expr} {pos p cpos apos:Pos} {f fo fe fa:FE} {fs:FA} {x:Str}
theorem zbP {k:Nat} {g:Addr} {fd:FuncData} {ps:List Str} {n:Nat} {F:List D->M D} (G:zbw X.prog X.w X.K X.mg X.base (CXE X.prog X.w) k g fd ps (spE X.K n F)) (hx:zc0 (CXE X.prog X.w) X (zoC X.K E)) (hr:zdg k X.A) (hm:X.mg x=some (.ref g)) (hk:W.keepIn X.K (.ref g)=true) (hb:zaG X.K fd ps [])
  (ha:SA X E (e::es) fs) (hg:Gl X x:=by rfl) (hdb:(x==("__debug__":Str))=false:=by decide) (he:starEach (e::es) X.env=(false,eval e X.env)::starEach es X.env:=by rfl) (hpl:(backTo pos (starEach es X.env)).any (·.1)=false:=by rfl):
  SE X E (.Call (.Name x p) (e::es) [] pos) (zaA (zam n F) fs):=zmJ G hx hr hg hm hk hb ha hdb he hpl
theorem zd5 {k:Nat} {g:Addr} {fd:FuncData} {ps:List Str} {n:Nat} {F:List D->M D} (G:zbw X.prog X.w X.K X.mg X.base CX0 k g fd ps (zcp X.K n F)) (hr:zdg k X.A) (hm:X.mg x=some (.ref g)) (hk:W.keepIn X.K (.ref g)=true) (hb:zaG X.K fd ps [])
  (ha:SA X E (e::es) fs) (hg:Gl X x:=by rfl) (hdb:(x==("__debug__":Str))=false:=by decide) (he:starEach (e::es) X.env=(false,eval e X.env)::starEach es X.env:=by rfl) (hpl:(backTo pos (starEach es X.env)).any (·.1)=false:=by rfl):
  SE X E (.Call (.Name x p) (e::es) [] pos) (zaA (zam n fun ds=>noX (F ds)) fs):=znq G hr hg hm hk hb ha hdb he hpl
theorem zrI {st:Stmt} {g:FS} (h:SS X.nox E0x st g):SS X E st (zuN g):=by
 intro pins s σ H D0 I ⟨ι,h2,sd,L,hh,q⟩
 exact qaZ (h pins s σ H D0 (I.wish _) ⟨ι,h2,sd,L,hh,Fin.noX q⟩) (fun _ _ q=>q.unwish) fun _ _ z=>qa0 z
theorem zh6 {c:String} {C CE:Addr} {names:List String} {msg:Str} {jj:Nat} {np p2:Pos} (hc:X.calm=true) (hp:zpY X E) (hX:zmW X.K CE names) (hn:names.contains c=true) (hcl:zb8 X.K c C) (hg:Gl X (c:Str):=by rfl) (hd:((c:Str)==("__debug__":Str))=false:=by decide):
  SS X E (.Raise (some (.Call (.Name (c:Str) np) [.Constant (.str msg) jj p2] [] cpos)) none pos) (zfx c):=zp5 (nid:="") hc hp (hX c (by simpa using hn) C hcl).exc hcl hg hd
noncomputable def zny:List D->M D
 | [.int i]=>pure (.int i)
 | [.bl b]=>pure (.int (if b then 1 else 0))
 | _=>M.bad
theorem zjH:zay X (.type "int") (zgH X.K E zny):=by
 refine zay.imp zl7 fun xs H Q ⟨ι,h,ds,rl,hr,q⟩=> ?_
 unfold zny at q
 split at q
 ·simp only [zal,Rel] at rl
  obtain ⟨v,r,rfl,rfl,rfl⟩:=rl
  exact .inl ⟨_,rfl,Fin.out hr q _ (by simp [Rel])⟩
 ·simp only [zal,Rel] at rl
  obtain ⟨v,r,rfl,rfl,rfl⟩:=rl
  exact .inr ⟨_,rfl,Fin.out hr q _ (by simp [Rel])⟩
 ·exact qa0 q
noncomputable def zrw:D->M D
 | .lst ds=>do
  let bs<-ofO (zmL ds)
  let j<-ofO (bs.findIdx? id)
  pure (.int j)
 | _=>M.bad
theorem zqv {jj:Nat} {p2:Pos} (ho:SE X E o fo)
  (hbase:attributeBase o "index" X.env (eval o X.env)=eval o X.env:=by rfl)
  (hfew:((backTo cpos (starEach [.Constant (.bool true) jj p2] X.env)).all (fun x=> !x.1) && (backToKw cpos (keywordEach [] X.env)).all (fun x=>x.1.isSome)
    && decide (([.Constant (.bool true) jj p2]:List Expr).length+([]:List Keyword).length+(if ([]:List Keyword).isEmpty then 0 else 1)<30))=true:=by rfl)
  (hline:(apos.endLine==cpos.line)=true:=by rfl) (hs:starEach [.Constant (.bool true) jj p2] X.env=(false,eval (.Constant (.bool true) jj p2) X.env)::starEach [] X.env:=by rfl) (hplain:(backTo cpos (starEach [] X.env)).any (·.1)=false:=by rfl):
  SE X E (.Call (.Attribute o "index" apos) [.Constant (.bool true) jj p2] [] cpos) (cUn zrw fo):=by
 refine PE.imp (zpT PySem.F.plainAttrs_list PySem.F.slot_list_index PySem.F.type_list_index zmd ho (zba ztc zcn hs) hbase hfew hline hs hplain) fun σ H Q ⟨ι,h,sd,L,hh,q⟩=>⟨ι,h,sd,L,hh,Fin.bind q fun d h1 ι1 H1 e1 s1 hr1 q1 v rv=> ?_⟩
 cases d with
 | lst ds=>
  obtain ⟨a,vs,e',h1',h2⟩:=zeg rv
  obtain ⟨bs,en,q2⟩:=Fin.ofOb q1
  obtain ⟨j,ej,q3⟩:=Fin.ofOb q2
  have:=zga h2 en
  subst this
  subst e'
  refine ⟨.inl ⟨rfl,_,h1'⟩,a,bs,j,rfl,rfl,h1',?_,fun m hm=> ?_,Fin.out hr1 q3 _ (by simp [Rel])⟩
  ·obtain ⟨h3,h4,_⟩:=List.findIdx?_eq_some_iff_getElem.mp ej
   rw [qaf h3]
   simpa using h4
  ·obtain ⟨h3,h4,h5⟩:=List.findIdx?_eq_some_iff_getElem.mp ej
   rw [qaf (by omega)]
   simpa using h5 m hm
 | _=>exact qa0 q1
noncomputable def zdq (x y:D):M D:=match x,y with
 | .cel n,.tup zs=>do
  let ds<-zai n
  fits (ds.length+zs.length)
  zbu n (ds++zs)
  pure .non
 | _,_=>M.bad
noncomputable def zh2 (fo fe:FE):FE:=fun sd=>do
 let x<-fo sd
 zeL x
 let y<-fe sd
 zdq x y
theorem znI (ho:SE X E o fo) (he:SE X E e fe)
  (hbase:attributeBase o "extend" X.env (eval o X.env)=eval o X.env:=by rfl)
  (hfew:((backTo cpos (starEach [e] X.env)).all (fun x=> !x.1) && (backToKw cpos (keywordEach [] X.env)).all (fun x=>x.1.isSome)
    && decide (([e]:List Expr).length+([]:List Keyword).length+(if ([]:List Keyword).isEmpty then 0 else 1)<30))=true:=by rfl)
  (hline:(apos.endLine==cpos.line)=true:=by rfl) (hs:starEach [e] X.env=(false,eval e X.env)::starEach [] X.env:=by rfl) (hplain:(backTo cpos (starEach [] X.env)).any (·.1)=false:=by rfl):
  SE X E (.Call (.Attribute o "extend" apos) [e] [] cpos) (zh2 fo fe):=by
 refine PE.imp (zpT PySem.F.plainAttrs_list PySem.F.slot_list_extend PySem.F.type_list_extend zjs ho (zba he zcn hs) hbase hfew hline hs hplain) fun σ H Q ⟨ι,h,sd,L,hh,q⟩=>⟨ι,h,sd,L,hh,Fin.bind q fun d h1 ι1 H1 e1 s1 hr1 q1 v rv=> ?_⟩
 cases d with
 | cel n=>
  have q2:Fin X.K E ι1 H1 ((zai n>>=fun _=>fe sd>>=fun y=>zdq (.cel n) y) h1) (fun d ι' H'=> ∀ v,Rel X.K ι' H' d v->Q v H'):=by
   have ee:(zeL (.cel n)>>=fun _=>fe sd>>=fun y=>zdq (.cel n) y:M D)=(zai n>>=fun _=>fe sd>>=fun y=>zdq (.cel n) y):=by
    show ((zai n>>=fun _=>pure ())>>=fun _=>fe sd>>=fun y=>zdq (.cel n) y)=_
    simp only [bind_assoc,pure_bind]
   rw [<- ee]
   exact q1
  obtain ⟨ds,e2,q3⟩:=zgd q2
  obtain ⟨a,vs,rfl,hn,hH,rl⟩:=hr1.read rv e2
  refine ⟨.inl ⟨rfl,vs,SqL.of hH⟩,ι1,h1,sd,L.step s1,hr1,Fin.bind q3 fun y h3 ι3 H3 e3 s3 hr3 q4 w rw'=> ?_⟩
  have rv3:=rv.step s3
  cases y with
  | tup zs=>
   have q5:Fin X.K E ι3 H3 ((zai n>>=fun ds=>fits (ds.length+zs.length)>>=fun _=>zbu n (ds++zs)>>=fun _=>pure D.non) h3) (fun d ι' H'=> ∀ v,Rel X.K ι' H' d v->Q v H'):=q4
   obtain ⟨ds3,e4,q6⟩:=zgd q5
   obtain ⟨a3,vs3,ea,hn3,hH3,rl3⟩:=hr3.read rv3 e4
   cases ea
   obtain ⟨b,ws,eb,hb,rlb⟩:=zcm rw'
   obtain ⟨z,q7⟩:=Fin.fits q6
   refine ⟨a,b,vs3,ws,rfl,by rw [eb],hH3,hb,by rw [<- rl3.length, <-rlb.length];exact z,?_⟩
   have q8:Fin X.K E ι3 H3 (R.ok D.non (h3.set n (.lst (ds3++zs)))) (fun d ι' H'=> ∀ v,Rel X.K ι' H' d v->Q v H'):=q7
   exact q8 ι3 _ (hr3.cellS hn3) (hr3.cell hn3 (rl3.append rlb)) _ (by simp [Rel])
  | _=>exact qa0 q4
 | _=>exact qa0 q1
end
section
variable {P:Program} {w:World} {K:W.Frag} {mg:Str->Option Value} {base:Heap}
theorem zrD {x qual:Str} {st:Stmt} {f:Addr} {fd:FuncData} {N ps:List Str} {k:Nat} {G:Sd->M Out} (F:Fun K x qual st f fd) (S:zao N ps (zae st))
  (hb: ∀ (cdv:Value) (A:Around) (outer:List Env) (s:Shared) (H:Hp),zc9 k (A.deeper (envOfC qual (zae st) s.heap.objs.size f cdv))->SSs ({zhM CX0 P w K mg base N qual (zae st) f cdv A outer s H E0 with calm:=false}:Cx).nox E0x (zb2 st) G):
  FnH P w K mg base (k+1) f fd ps (zcp K ps.length (zc6 N.length G)):=by
 obtain ⟨oc,od,kV,doc,pm,an,cdv,ct,osl,rfl,lk,hcd⟩:=F.ex
 refine zqV lk hcd S (fun vs H Q E h=>h.1) fun A outer s H vs Q hr ⟨hl,ι,h,ds,rl,hh,q⟩=>⟨_,hb cdv A outer s H hr,ι,h,zfm N.length ds,zdV rl,hh,?_⟩
 refine Fin.bind q fun o h1 ι1 H1 e1 s1 hr1 q1=> ?_
 cases o with
 | nx sd=>exact fun σ' _=>Fin.out hr1 q1 _ (by simp [Rel])
 | rt d=>exact fun v rv=>Fin.out hr1 q1 v rv
 | bk sd=>exact qa0 q1
 | ct sd=>exact qa0 q1
end
section
variable {X:Cx} {E:XE} {body:List Stmt} {ce en gk pe x:Str} {pce p1 p2 p3 p4 p5 hp pos:Pos} {CE fk:Addr} {fdk:FuncData} {Fk:List D->M D} {gb:FS} {k:Nat} {known:List String}
theorem zq3 (j i:Nat) (z:zeK X) (hN:X.N.Nodup) (hm:X.mg ce=some (.ref CE)) (hkn:zmW X.K CE known)
  (FH:FnH X.prog X.w X.K X.mg X.base k fk fdk [pe] (zcp X.K 1 Fk)) (hbk:zaG X.K fdk [pe] []) (hmk:X.mg gk=some (.ref fk)) (kp:W.keepIn X.K (.ref fk)=true) (hr:zc9 k X.A)
  (hb: ∀ pn xe E',zc0 (CXE X.prog X.w) (X.re pn xe) (zoC X.K E')->SSs (X.re pn xe) E' body gb) (hij:j≠i:=by decide)
  (hj:X.N[j]? = some en:=by rfl) (hen:X.env.scope.names.lookup en=some .local:=by rfl) (hi:X.N[i]? = some x:=by rfl) (hx:X.env.scope.names.lookup x=some .local:=by rfl) (hg:Gl X ce:=by rfl) (hgk:Gl X gk:=by rfl)
  (hd:(ce==("__debug__":Str))=false:=by decide) (hd2:(gk==("__debug__":Str))=false:=by decide) (hd3:(en==("__debug__":Str))=false:=by decide)
  (hs:swapsWith (.Call (.Name gk p1) [.Name en p2] [] p3) (some (.Name x p5)) p4.line X.env=pure false:=by rfl):
  SS X E (.Try body [.ExceptHandler (some (.Name ce pce)) (some en) [.Assign [.Name x p5] (.Call (.Name gk p1) [.Name en p2] [] p3) p4] hp] [] [] pos) (ziv known gb i Fk):=zru z hN hj hen hi hx hij hg hm hkn.known hb FH hbk hgk hmk kp hr hd hd2 hd3 hs
end
noncomputable def zju (Fs:List (List D->M D)) (i:D):M (List D->M D):=match i with
 | .int j=>(match ixN Fs.length j with
   | some m=>ofO Fs[m]?
   | none=>M.bad)
 | _=>M.bad
noncomputable def zn0 (n:Nat) (Fs:List (List D->M D)) (fi:FE) (fs:FA):FE:=fun sd=>do
 let i<-fi sd
 let F<-zju Fs i
 let ds<-fs sd
 zam n F ds
structure Fns (X:Cx) (n:Nat) (addrs:List Addr) (Fs:List (List D->M D)):Prop where
 len:Fs.length=addrs.length
 ok: ∀ (m:Nat) (F:List D->M D) (a:Addr),Fs[m]? = some F->addrs[m]? = some a-> ∃ k fd ps,zbw X.prog X.w X.K X.mg X.base (CXE X.prog X.w) k a fd ps (spE X.K n F)/\zdg k X.A/\W.keepIn X.K (.ref a)=true/\zaG X.K fd ps []
theorem Fns.nil {X:Cx} {n:Nat}:Fns X n [] []:=⟨rfl,fun m F a h=>by simp at h⟩
theorem Fns.cons {X:Cx} {n k:Nat} {a:Addr} {F:List D->M D} {addrs:List Addr} {Fs:List (List D->M D)} {fd:FuncData} {ps:List Str} (G:zbw X.prog X.w X.K X.mg X.base (CXE X.prog X.w) k a fd ps (spE X.K n F)) (hr:zdg k X.A) (hk:W.keepIn X.K (.ref a)=true) (hb:zaG X.K fd ps []) (h:Fns X n addrs Fs):Fns X n (a::addrs) (F::Fs):=by
 refine ⟨by simp [h.len],fun m F' a' h1 h2=> ?_⟩
 cases m with
 | zero=>simp at h1 h2;subst h1 h2;exact ⟨k,fd,ps,G,hr,hk,hb⟩
 | succ m=>simp at h1 h2;exact h.ok m F' a' h1 h2
section
variable {X:Cx} {E:XE} {e ix:Expr} {es fes:List Expr} {pos p q3 q4:Pos} {fi:FE} {fs:FA} {x:Str}
theorem zp2 {a:Addr} {addrs:List Addr} (hm:X.mg x=some (.ref a)) (h:PA X fes (fun _ H Q=>Q (addrs.map V.ref) H)) (hg:Gl X x:=by rfl) (hd:(x==("__debug__":Str))=false:=by decide) (hs:starEach (.Name x p::fes) X.env=(false,eval (.Name x p) X.env)::starEach fes X.env:=by rfl):
  PA X (.Name x p::fes) (fun _ H Q=>Q ((a::addrs).map V.ref) H):=zba (zl5 (v:= .ref a) hg hm rfl hd) h hs
theorem zrU:PA X [] (fun _ H Q=>Q (([]:List Addr).map V.ref) H):=zcn
theorem zoZ {n:Nat} {i:Int} {m:Nat} (h:ixN n i=some m):m<n:=by
 unfold ixN at h
 split at h
 ·split at h
  ·cases h;omega
  ·cases h
 ·split at h
  ·cases h;omega
  ·cases h
theorem zqZ {n:Nat} {addrs:List Addr} {Fs:List (List D->M D)} (hfe:PA X fes (fun _ H Q=>Q (addrs.map V.ref) H)) (hF:Fns X n addrs Fs) (hx:zc0 (CXE X.prog X.w) X (zoC X.K E)) (hi:SE X E ix fi) (ha:SA X E (e::es) fs) (hsz:addrs.length<=60:=by simp) (hs:zfX ix:=by intro _ _;rfl)
  (he:starEach (e::es) X.env=(false,eval e X.env)::starEach es X.env:=by rfl) (hpl:(backTo pos (starEach es X.env)).any (·.1)=false:=by rfl):
  SE X E (.Call (.Subscript (.List fes q3) ix q4) (e::es) [] pos) (zn0 n Fs fi fs):=by
 intro pins s σ H Q I ⟨ι,h,sd,L,hh,q⟩
 show wpAny (model X.prog X.w) X.A (eval (.Subscript (.List fes q3) ix q4) X.env>>=fun f=>callWith pos f [] (backTo pos (starEach (e::es) X.env)) (backToKw pos (keywordEach [] X.env))) _ _ s
 refine qaW ?_
 refine thn (zrl (pos:=q4) zkp (zmi hfe) hi hs pins s σ H (fun v H1=> ∃ (a:Addr) (m:Nat) (F:List D->M D) (ι1:Io) (h1:Hh),v= .ref a/\Fs[m]? = some F/\addrs[m]? = some a/\zco X.K ι1 H1 sd σ/\zaW X.K ι1 H1 h1/\Fin X.K E ι1 H1 ((do let ds<-fs sd;zam n F ds) h1) fun d ι' H'=> ∀ v,Rel X.K ι' H' d v->Q v H') I ?_) fun f s1 hf=> ?_
 ·refine ⟨by rw [qaH];exact qaS hsz (by decide),fun p hp=>⟨ι,h,sd,L.step (hh.laidS hp),hh.laid hp,?_⟩⟩
  refine Fin.bind (Fin.step (hh.laidS hp) q) fun d h1 ι1 H1 e1 s1 hr1 q1 v rv=> ?_
  cases d with
  | int j=>
   simp only [Rel] at rv
   subst rv
   have hp1:H1 p=some (.lst (addrs.map V.ref)):=s1.keep p _ zaC (hh.nin hp)
   cases ej:ixN Fs.length j with
   | none=>
    have q2:Fin X.K E ι1 H1 ((zju Fs (.int j)>>=fun F=>fs sd>>=fun ds=>zam n F ds) h1) _:=q1
    unfold zju at q2
    simp only [ej] at q2
    exact qa0 q2
   | some m=>
    have hm:=zoZ ej
    have hm2:m<addrs.length:=by rw [<- hF.len];exact hm
    refine ⟨p,_,j,.ref addrs[m],rfl,rfl,SqL.of hp1,?_,addrs[m],m,Fs[m],ι1,h1,rfl,by simp [hm],by simp [hm2],(L.step (hh.laidS hp)).step s1,hr1,?_⟩
    ·unfold atI
     rw [qaH, <-hF.len,ej]
     simp [hm2]
    ·have q2:Fin X.K E ι1 H1 ((zju Fs (.int j)>>=fun F=>fs sd>>=fun ds=>zam n F ds) h1) _:=q1
     unfold zju at q2
     simp only [ej,qaf hm] at q2
     exact q2
  | _=>exact qa0 q1
 ·obtain ⟨v,H1,I1,rv,a,m,F,ι1,h1,rfl,hFm,ham,L1,hr1,q1⟩:=hf
  obtain rfl:f=Value.ref a:=rv
  obtain ⟨k,fd,ps,G,hr,hk,hb⟩:=hF.ok m F a hFm ham
  refine W.callWith_K (h₀:=X.base) I.ok.mod.kin hk (thn (ha pos pins s1 σ H1 _ I1 ⟨ι1,h1,sd,L1,hr1,Fin.bind q1 fun ds h2 ι2 H2 e2 s2 hr2 q2 vs rvs=> ?_⟩) fun us s2 ⟨vs,H2,I2,r,q⟩=>⟨I2.kIn,zoT G hr hb (dvs:=[]) .nil hx I2 r q⟩) he hpl
  show spE X.K n F (vs++[]) H2 Q _
  rw [List.append_nil]
  unfold zam at q2
  by_cases hl:ds.length=n
  ·rw [qa4 hl] at q2
   exact ⟨by rw [<- rvs.length];exact hl,ι2,h2,ds,rvs,hr2,Fin.exmono (fun c H' z C v hc=>⟨c,C,rfl,hc,z⟩) q2⟩
  ·rw [qa5 hl] at q2
   exact qa0 q2
end
end L3
namespace L2
open PySem PySem.Spec PyProof.Rows
noncomputable def Itd (lo:Int) (n:Nat):It:=⟨fun i _=>i<n,fun i H x H'=>H'=H/\x= .int (lo - i),fun i _=>n<=i⟩
theorem zlq {P:Program} {w:World} {K:W.Frag} {tg:Expr} (it:Addr) (lo:Int) (n:Nat):zqJ P w K tg (Itd lo n) [it] it (fun i h=>IsRangeIter h it (lo - (i:Nat)) ((n:Int) - (i:Nat)) (-1)) where
 mem:=by simp
 obj:=fun i h st b hb=>by
  have e:b=it:=by simpa using hb
  subst e
  exact ⟨_,st,fun v z=>by
    have z':Data.fields _=Data.cell v:=z
    cases z'⟩
 keep:=fun i h h' st k=>k it (by simp) _ st
 item:=by
  intro X hP hw hK i pins s σ H E I hf st hg
  subst hP hw hK
  obtain ⟨f0,f1,f2,f3,f4,f5⟩:=hf it (by simp)
  refine wpAny_pyNext_range_item st (by have:i<n:=hg;omega) fun h' st' kk=> ?_
  have e1:lo - (i:Nat)+ -1=lo - ((i+1:Nat):Int):=by omega
  have e2:(n:Int) - (i:Nat) - 1=(n:Int) - ((i+1:Nat):Int):=by omega
  rw [e1,e2] at st'
  have I1:Inv X pins σ H {s with heap:=h',toks:=s.toks+1}:=I.turned (fun b o hb e=>(kk.2 b hb).trans e) f0 f1 f3 f4 f5
  exact ⟨_,rfl,znm (s:={s with heap:=h',toks:=s.toks+1}) (n:="range_iterator") st' rfl rfl (by decide) ⟨.int (lo - i),H,I1,⟨s.toks,rfl⟩,⟨rfl,rfl⟩,st',fun b hb=>(hf b hb).1⟩⟩
 done:=by
  intro X hP hw hK i pins s σ H E I hf st hg
  subst hP hw hK
  obtain ⟨f0,f1,f2,f3,f4,f5⟩:=hf it (by simp)
  exact L3.zhl I.hand st (by have:n<=i:=hg;omega) fun h' eb=>⟨rfl,I.turned (t':=s.toks) (fun b o hb e=>eb b o hb e) f0 f1 f3 f4 f5⟩
 self:=fun _ _ _ _ _ st h=>wpAny_pyIter_rangeiter st h
theorem zhu {a b:Int}:Builtin.Range.rangeSize a b (-1)=((a - b).toNat:Int):=by
 unfold Builtin.Range.rangeSize
 rw [qa5 (by decide)]
 split
 ·rw [show (-(-1):Int)=1 by decide,Int.ediv_one];omega
 ·omega
theorem zkb {a b:Int} (ha: -1000<=a) (ha':a<1000) (hb: -1000<=b) (hb':b<1000):Builtin.Range.small a b (-1)=true:=by
 unfold Builtin.Range.small
 rw [zhu]
 simp only [Builtin.Range.rangeFitsLong,qaG,Bool.or_eq_true,qaD,beq_iff_eq,show ¬(-1:Int)>0 by decide,if_false]
 omega
section
variable {X:Cx} {tg:Expr}
noncomputable def zup (ta:TA):TI:=fun σ H R=>ta σ H fun vs H1=> ∃ i j:Int,vs=[.int i,.int j,.int (-1)]/\(-1000<=i/\i<1000/\ -1000<=j/\j<1000)/\R (Itd i (i - j).toNat) H1
theorem zkY {a b c:Expr} {ta:TA} {p pos:Pos} (hg:Gl X "range") (hm:X.mg "range"=none) (ha:PA X [a,b,c] ta) (hs:starEach [a,b,c] X.env=[(false,eval a X.env),(false,eval b X.env),(false,eval c X.env)]:=by rfl) (hs2:starEach [b,c] X.env=[(false,eval b X.env),(false,eval c X.env)]:=by rfl):
  PI X tg (.Call (.Name "range" p) [a,b,c] [] pos) (zup ta):=by
 intro pins s σ H R I h
 refine Call_ (zgG I hg hm boot_range (PyProof.Rows.callWith_type1 (thn (ha pos pins s σ H _ I h) fun us s1 ⟨vs,H1,I1,r1,q1⟩=> ?_) (by rw [hs,hs2]) (by rw [hs2];rfl)))
 obtain ⟨i,j,e,⟨q1,q2,q3,q4⟩,q⟩:=q1
 subst e
 cases r1 with
 | cons r rr=>
  cases rr with
  | cons r' rr=>
   cases rr with
   | cons r'' rr=>
    cases rr
    obtain ⟨t,rfl⟩:=r
    obtain ⟨t',rfl⟩:=r'
    obtain ⟨t'',rfl⟩:=r''
    refine call_range_3 (by decide) ?_ (Or.inl (PyProof.noPylong_small (by decide)))
    refine wpAny_pyIter_range (IsRange.new ..) (zkb q1 q2 q3 q4) ?_
    have I2:Inv X pins σ H1 {s1 with heap:=s1.heap.push {cls:= .type "range",data:= .fields #[.int i t,.int j t',.int (-1) t'']},toks:=s1.toks}:=I1.kept fun b o e=>qag _ e
    refine ⟨(s1.heap.push {cls:= .type "range",data:= .fields #[.int i t,.int j t',.int (-1) t'']}).objs.size,[(s1.heap.push {cls:= .type "range",data:= .fields #[.int i t,.int j t',.int (-1) t'']}).objs.size],_,_,H1,rfl,
      I2.kept (t':=s1.toks) fun b o e=>qag _ e,zlq _ i (i - j).toNat,?_,fun b hb=> ?_,q⟩
    ·have e1:i - ((0:Nat):Int)=i:=by simp
     have e2:(((i - j).toNat:Nat):Int) - ((0:Nat):Int)=Builtin.Range.rangeSize i j (-1):=by rw [zhu];simp
     show IsRangeIter _ _ (i - ((0:Nat):Int)) ((((i - j).toNat:Nat):Int) - ((0:Nat):Int)) (-1)
     rw [e1,e2]
     exact qar _ rfl
    ·have e:b=(s1.heap.push {cls:= .type "range",data:= .fields #[.int i t,.int j t',.int (-1) t'']}).objs.size:=by simpa using hb
     subst e
     exact I2.fpOk (qaV _) (I2.hok.fresh (qaV _))
theorem zgE (hc:X.calm=true):zay X (.type "list") (fun xs H Q=> ∃ (p:Addr) (j:Int),xs=[.ref p]/\H p=some (.rng 0 j)/\0<=j/\j<1000/\ ∀ l,H l=none->Q (.ref l) (upd H l (.lst (((List.range j.toNat).map fun (k:Nat)=>(k:Int)).map V.int)))):=by
 intro pins s σ H xs us Q I r h
 obtain ⟨p,j,rfl,hp,h0,h1,q⟩:=h
 obtain ⟨u,rfl,rx⟩:=zcR r
 cases rx
 obtain ⟨t,u',v,hr⟩:=(show zbo X.prog X.w H s.heap p (.rng 0 j) from I.hok p _ hp)
 refine call_list_range (I.ok.hd hc) hr (small_one (by omega) (by omega) (by omega) (by omega)) (ziy h0) (by omega) fun h' tk acc c' hk hS hacc=> ?_
 have hl:acc.toList.length=j.toNat:=by rw [qas];exact hacc.1
 have I2:=I.laid (t':=tk) (h':=h') (a:=s.heap.objs.size) (o:= .lst (((List.range j.toNat).map fun (k:Nat)=>(k:Int)).map V.int)) hk (qaV _)
  (show zbo X.prog X.w _ h' _ (.lst _) from ⟨by rw [qaH,qaH,List.length_range];exact qaS (show j.toNat<=1000 by omega) (by decide),acc.toList,c',zdt _ _ (by rw [qaH,List.length_range,hl]) (fun k w e=> ?_),by simpa using hS⟩)
 ·exact ⟨.ref s.heap.objs.size,_,I2,rfl,q _ (I.hok.fresh (qaV _))⟩
 ·have hk':k<j.toNat:=by rw [<- hl];exact (qac.mp e).1
  obtain ⟨t,et⟩:=hacc.2 k w (by simpa using e)
  refine ⟨t,?_⟩
  rw [et]
  simp [hk']
end
end L2
namespace L3
open PySem PySem.Spec PyProof.Rows L2
section
variable {X:Cx} {E:XE} {e o:Expr} {f fo fe:FE} {pos apos cpos:Pos}
noncomputable def zj7 (lo:Int) (n:Nat):List D:=(List.range n).map fun (k:Nat)=>D.int (lo - (k:Int))
theorem znx {K:W.Frag} {ι:Io} {H:Hp} {lo:Int} {n:Nat}:zqM K ι H (Itd lo n) (zj7 lo n) where
 go:=fun ι' H' i s hi=>by show i<n;simpa [zj7] using hi
 yld:=fun ι' H' _ i x H2 s _ hi ⟨e,y⟩=>by
  subst e y
  have hi:i<n:=by simpa [zj7] using hi
  refine ⟨.inl rfl,.int (lo - i),?_,by simp [Rel]⟩
  simp [zj7,hi]
 stop:=fun ι' H' s=>by
  show n<=(zj7 lo n).length
  simp [zj7]
noncomputable def zmt:List D->M (List D)
 | [.int i,.int j,.int c]=>if (-1000<=i/\i<1000/\ -1000<=j/\j<1000)/\c= -1 then pure (zj7 i (i - j).toNat) else M.bad
 | _=>M.bad
noncomputable def zpP (fs:FA):FA:=fun sd=>do let ds<-fs sd;zmt ds
theorem zsN {tg a b c:Expr} {p:Pos} {fs:FA} (hm:X.mg "range"=none) (ha:SA X E [a,b,c] fs) (hg:Gl X "range":=by rfl) (hs:starEach [a,b,c] X.env=[(false,eval a X.env),(false,eval b X.env),(false,eval c X.env)]:=by rfl) (hs2:starEach [b,c] X.env=[(false,eval b X.env),(false,eval c X.env)]:=by rfl):
  SI X E tg (.Call (.Name "range" p) [a,b,c] [] pos) (zpP fs):=by
 refine PI.imp (zkY hg hm ha hs hs2) fun σ H Q ⟨ι,h,sd,L,hh,q⟩=>⟨ι,h,sd,L,hh,Fin.bind q fun ds h1 ι1 H1 e1 s1 hr1 q1 vs rv=> ?_⟩
 unfold zmt at q1
 split at q1
 ·rename_i i j c'
  simp only [zal,Rel] at rv
  obtain ⟨v,r,rfl,rfl,v',r',rfl,rfl,v'',r'',rfl,rfl,rfl⟩:=rv
  by_cases hj:(-1000<=i/\i<1000/\ -1000<=j/\j<1000)/\c'= -1
  ·rw [qa4 hj] at q1
   obtain ⟨hj,rfl⟩:=hj
   exact ⟨i,j,rfl,hj,Fin.out hr1 q1 _ znx⟩
  ·rw [qa5 hj] at q1
   exact qa0 q1
 ·exact qa0 q1
noncomputable def zdM:D->M D
 | .int j=>if 0<=j/\j<1000 then pure (.lst (zdh 0 j.toNat)) else M.bad
 | _=>M.bad
theorem zhd {p1 p2 pos pos2:Pos} (hc:X.calm=true) (hm1:X.mg "list"=none) (hm2:X.mg "range"=none) (he:SE X E e f) (hg1:Gl X "list":=by rfl) (hg2:Gl X "range":=by rfl)
  (h1:starEach [.Call (.Name "range" p2) [e] [] pos2] X.env=[(false,eval (.Call (.Name "range" p2) [e] [] pos2) X.env)]:=by rfl) (h2:starEach [e] X.env=[(false,eval e X.env)]:=by rfl):
  SE X E (.Call (.Name "list" p1) [.Call (.Name "range" p2) [e] [] pos2] [] pos) (cUn zdM f):=by
 refine PE.imp (zcd (zgE hc) hg1 hm1 PyProof.Rows.boot_list (zba (zcd zeJ hg2 hm2 boot_range (zba he zcn h2) (he:=h2)) zcn h1) (he:=h1)) fun σ H Q ⟨ι,h,sd,L,hh,q⟩=>⟨ι,h,sd,L,hh,Fin.bind q fun d h1 ι1 H1 e1 s1 hr1 q1 v rv=> ?_⟩
 cases d with
 | int j=>
  simp only [Rel] at rv
  obtain ⟨⟨c1,c2⟩,q2⟩:=Fin.guard q1
  refine ⟨j,by rw [rv],fun p hp=> ?_⟩
  have hr2:zaW X.K ι1 (upd H1 p (.rng 0 j)) h1:=hr1.laid hp
  exact ⟨p,j,rfl,zaC,c1,c2,fun l hl=>zqc hr2 zjj (Fin.step (hr1.laidS hp) q2) hl⟩
 | _=>exact qa0 q1
theorem zal.eraseIdx {K:W.Frag} {ι:Io} {H:Hp}: ∀ {ds:List D} {vs:List V} (i:Nat),zal K ι H ds vs->zal K ι H (ds.eraseIdx i) (vs.eraseIdx i)
 | [],vs,i,h=>by
  simp only [zal] at h
  subst h
  simpa using zal.nil
 | x::r,vs,i,h=>by
  simp only [zal] at h
  obtain ⟨v,vs',rfl,rv,rl⟩:=h
  cases i with
  | zero=>simpa using rl
  | succ i=>exact zal.cons rv (zal.eraseIdx i rl)
end
end L3
namespace L3
open PySem
open Sem (wp)
open AutoSeq1 (wpAny_loadPart')
section
variable {prog:Program} {w:World} {A:Around} {E:Value->Shared->Prop} {s:Shared}
end
noncomputable def zox (A:Around):List Addr:=match A.handled with
 | some (.ref a)=>[a]
 | _=>[]
theorem zne.keep {A:Around} {h h':Heap} (x:zne A h) (k: ∀ b∈zox A, ∀ o,h.get? b=some o->h'.get? b=some o):zne A h':=by
 rcases x with x | ⟨a,cls,head,x1,ob,vs,x2,x3⟩
 ·exact .inl x
 ·exact .inr ⟨a,cls,head,x1,ob,vs,k a (by unfold zox;rw [x1];simp) _ x2,x3⟩
end L3
namespace L3
open PySem
section
variable {prog:Program} {w:World} {A:Around} {E:Value->Shared->Prop} {s:Shared}
end
end L3
namespace L2
open PySem PySem.Spec PyProof.Rows
section
variable {X:Cx} {pins:List (Addr×Obj)} {σ:St} {H:Hp} {s:Shared} {h':Heap}
end
section
variable {X:Cx} {elts:List Expr} {k:Nat} {tpos:Pos}
end
end L2
namespace L3
open PySem PySem.Spec PyProof.Rows L2
section
variable {X:Cx} {E:XE} {elts:List Expr} {k:Nat} {tpos pos:Pos}
end
end L3
namespace L3
open PySem PyProof.Rows
noncomputable def pLt (p q:Int×List Int):Bool:=if p.1=q.1 then HT.zaV p.2 q.2 else decide (p.1<q.1)
theorem zbK: ∀ xs:List Int,HT.zaV xs xs=false
 | []=>rfl
 | x::r=>by rw [HT.za2,qa4 rfl,zbK r]
section
open PySem.SeqAt
open PySem.AutoSeq1 (wpAny_loadPart')
open PySem.MeetsSeq PySem.MeetsSeq2 PySem.MeetsSeq3
def ztk (A:Around) (s:Shared) (a b:Value) (e l:Bool):Prop:=EqAt A s a b e/\(e=false-> ∀ (prog:Program) (w:World) (E Q:Value->Shared->Prop),Q (.bool l) s->wpAny (model prog w) A (richCompare .Lt a b) Q E s)
theorem zhE (l b:Addr) (a0 a1 b0 b1:Value) (n n2:Nat) (dd dd2:Option Addr) (sl sl2:Array (Option Value)) (e0 l0 e1 l1:Bool):
  Meets (Builtin.«tuple.__lt__» ⟨[.ref l,.ref b],[]⟩)
   (fun A R s=>s.heap.get? l=some {cls:= .type "tuple",dict:=dd,data:= .seq #[a0,a1] n,slots:=sl}/\s.heap.get? b=some {cls:= .type "tuple",dict:=dd2,data:= .seq #[b0,b1] n2,slots:=sl2}/\
     ztk A.in1 s a0 b0 e0 l0/\ztk A.in1 s a1 b1 e1 l1/\R (.ok (.ret (.bool (if e0=true then (if e1=true then false else l1) else l0)))) s):=
 .of_wp fun prog w A R s h=>by
  obtain ⟨hp,g,d,tk,os⟩:=s;obtain ⟨hl,hb,c0,c1,h⟩:=h
  have f2:=AutoSeq1.sub_tuple_tuple
  wp_walk using wpAny_loadPart' hl,wpAny_loadPart' hb,wpAny_forIn_list _ (fun rest b s'=>b.1=none/\s'=⟨hp,g,d,tk,os⟩/\
    (rest=[(a0,b0),(a1,b1)]\/(rest=[(a1,b1)]/\e0=true)\/(rest=[]/\e0=true/\e1=true))) _
  case turn=>
   rintro ⟨y,x⟩ rest b s' ⟨hb',rfl,hz⟩
   rcases hz with hz | ⟨hz,z0⟩ | ⟨hz,_⟩
   ·cases hz
    refine qaW (c0.1 prog w _ _ ?_)
    cases e0 with
    | true=>
     wp_walk
     exact ⟨rfl,rfl,.inr (.inl ⟨rfl,rfl⟩)⟩
    | false=>
     have hri:=c0.2 rfl prog w
     wp_walk using hri
     exact ⟨_,rfl,by simpa using h⟩
   ·cases hz
    subst z0
    refine qaW (c1.1 prog w _ _ ?_)
    cases e1 with
    | true=>
     wp_walk
     exact ⟨rfl,rfl,.inr (.inr ⟨rfl,rfl,rfl⟩)⟩
    | false=>
     have hri:=c1.2 rfl prog w
     wp_walk using hri
     exact ⟨_,rfl,by simpa using h⟩
   ·cases hz
  case fin=>
   rintro ⟨b1',b2'⟩ s' ⟨hb',rfl,hz⟩
   simp only at hb'
   subst hb'
   rcases hz with hz | ⟨hz,_⟩ | ⟨_,z0,z1⟩
   ·cases hz
   ·cases hz
   ·subst z0 z1
    wp_walk
    exact ⟨_,rfl,by simpa [Builtin.Tuple.tupleCompareSizes] using h⟩
  case h=>
   exact ⟨rfl,rfl,.inl rfl⟩
section
variable {prog:Program} {w:World} {A:Around} {E:Value->Shared->Prop} {s:Shared}
theorem zsA {l b:Addr} {a0 a1 b0 b1:Value} {e0 l0 e1 l1:Bool} {Q:Value->Shared->Prop} (hl:IsTup s.heap l #[a0,a1]) (hb:IsTup s.heap b #[b0,b1]) (c0:ztk A.in1 s a0 b0 e0 l0) (c1:ztk A.in1 s a1 b1 e1 l1)
  (hu:A.units<cLine) (h:Q (.bool (if e0=true then (if e1=true then false else l1) else l0)) s):wpAny (model prog w) A (richCompare .Lt (.ref l) (.ref b)) Q E s:=by
 obtain ⟨⟨cls,dd,data,sl⟩,ho,hc,n,hd⟩:=id hl
 obtain ⟨⟨cls2,dd2,data2,sl2⟩,ho2,hc2,n2,hd2⟩:=id hb
 simp only at hc hd hc2 hd2
 subst hc hd hc2 hd2
 exact richCompare_meets_room (op:= .Lt) ⟨_,ho,rfl⟩ ⟨_,ho2,rfl⟩ PySem.F.slot_tuple_lt PySem.F.entry_tuple_lt (PySem.F.args_tuple_lt_2 _ _) (zhE l b a0 a1 b0 b1 n n2 dd dd2 sl sl2 e0 l0 e1 l1)
  ⟨ho,ho2,c0,c1,show Value.bool _≠Value.notImplemented/\Q (.bool _) s from ⟨(fun x=>nomatch x),h⟩⟩ hu
theorem zgi: ∀ {xs:List Value} {ns:List Int},IntsAre xs ns-> ∀ (j:Nat) (h:j<xs.length), ∃ (t:Tok) (i:Int),ns[j]? = some i/\xs[j]= .int i t
 | _,_,.nil,j,h=>by cases h
 | _,_,.cons a t r,0,_=>⟨t,a,rfl,rfl⟩
 | _,_,.cons a t r,j+1,h=>by
  obtain ⟨t',i,e1,e2⟩:=zgi r j (Nat.lt_of_succ_lt_succ h)
  exact ⟨t',i,e1,e2⟩
theorem zfP: ∀ {xs:List Value} {ns ms:List Int},IntsAre xs ns->IntsAre xs ms->ns=ms
 | _,_,_,.nil,h=>by cases h;rfl
 | _,_,_,.cons a t r,h=>by
  cases h with
  | cons _ _ r'=>rw [zfP r r']
theorem zeS {q r:Addr} {xs ys:List Value} {ns ms:List Int} (hq:IsTup s.heap q xs.toArray) (hr:IsTup s.heap r ys.toArray) (hi:IntsAre xs ns) (hj:IntsAre ys ms) (hu:A.units<cLine):EqAt A s (.ref q) (.ref r) (ns==ms):=by
 by_cases hqr:q=r
 ·subst hqr
  obtain ⟨o,e,_,n,d⟩:=hq
  obtain ⟨o',e',_,n',d'⟩:=hr
  rw [e] at e'
  cases e'
  rw [d] at d'
  injection d' with d' _
  have:xs=ys:=by simpa using d'
  subst this
  rw [zfP hi hj]
  simpa using EqAt.same (A:=A) (s:=s) (.ref q)
 ·have l1:=hi.length
  have l2:=hj.length
  have hc:=RcAt.tuples (A:=A) (s:=s) (e:=fun j=>ns[j]? == ms[j]?) hq hr hu fun j h1 h2=>by
   have h1':j<xs.length:=by simpa using h1
   have h2':j<ys.length:=by simpa using h2
   obtain ⟨t,i,e1,e2⟩:=zgi hi j h1'
   obtain ⟨u,k,e3,e4⟩:=zgi hj j h2'
   have g1:xs.toArray[j]= .int i t:=by simpa using e2
   have g2:ys.toArray[j]= .int k u:=by simpa using e4
   rw [g1,g2,e1,e3]
   have:(some i==some k)=(i==k):=rfl
   rw [this]
   exact EqAt.int_int i t k u
  have he:((List.range (min xs.toArray.size ys.toArray.size)).all (fun j=>ns[j]? == ms[j]?) && xs.toArray.size==ys.toArray.size)=(ns==ms):=by
   rw [Bool.eq_iff_iff,qaG,List.all_eq_true,beq_iff_eq,beq_iff_eq]
   simp only [qaA,beq_iff_eq,List.mem_range]
   constructor
   ·rintro ⟨h1,h2⟩
    refine List.ext_getElem? fun j=> ?_
    by_cases hjl:j<ns.length
    ·exact h1 j (by omega)
    ·rw [List.getElem?_eq_none (by omega),List.getElem?_eq_none (by omega)]
   ·intro e
    subst e
    exact ⟨fun _ _=>rfl,by omega⟩
  rw [<- he]
  exact EqAt.of_refs hqr hc
end
def zbD (h:Heap) (v:Value) (p:Int×List Int):Prop:= ∃ (a q:Addr) (t:Tok) (its:List Value),v= .ref a/\IsTup h a #[.int p.1 t,.ref q]/\IsTup h q its.toArray/\IntsAre its p.2
theorem zbD.keep {h h':Heap} {v:Value} {p:Int×List Int} (k: ∀ b o,h.get? b=some o->h'.get? b=some o):zbD h v p->zbD h' v p:=fun ⟨a,q,t,its,e,⟨o,x1,x2⟩,⟨o',y1,y2⟩,z⟩=>⟨a,q,t,its,e,⟨o,k _ _ x1,x2⟩,⟨o',k _ _ y1,y2⟩,z⟩
theorem ziF {prog:Program} {w:World} {A:Around} {E:Value->Shared->Prop} {s:Shared} {u v:Value} {p q:Int×List Int} {Q:Value->Shared->Prop} (hv:zbD s.heap v p) (hu:zbD s.heap u q) (hr:A.units+2<cLine) (h:Q (.bool (pLt p q)) s):wpAny (model prog w) A (richCompare .Lt v u) Q E s:=by
 obtain ⟨a,x,t,its,rfl,ha,hx,hi⟩:=hv
 obtain ⟨b,y,t',its',rfl,hb,hy,hj⟩:=hu
 have r1:A.in1.units<cLine:=by rw [Around.in1_units];omega
 refine zsA (e0:=(p.1==q.1)) (l0:=decide (p.1<q.1)) (e1:=(p.2==q.2)) (l1:=HT.zaV p.2 q.2) ha hb ⟨EqAt.int_int _ _ _ _,fun _ prog w E Q hq=>HT.zi7 _ _ _ _ _ _ prog w E Q hq⟩
  ⟨zeS hx hy hi hj r1,fun _ prog w E Q hq=>HT.zfz hx hy (by simpa using hi) (by simpa using hj) r1 hq⟩ (by omega) ?_
 have e:(if (p.1==q.1)=true then (if (p.2==q.2)=true then false else HT.zaV p.2 q.2) else decide (p.1<q.1))=pLt p q:=by
  unfold pLt
  by_cases h1:p.1=q.1
  ·rw [qa4 (by simpa using h1),qa4 h1]
   by_cases h2:p.2=q.2
   ·rw [qa4 (by simpa using h2),h2,zbK]
   ·rw [qa5 (by simpa using h2)]
  ·rw [qa5 (by simpa using h1),qa5 h1]
 rw [e]
 exact h
end
end L3
namespace L3
open PySem
section
variable {prog:Program} {w:World} {A:Around} {R:Result->Shared->Prop} {I:Addr} {fp wr:List Addr} {n:Nat} {P:Nat->Value->Prop} {St:Nat->Heap->Prop} {h0:Heap}
def zqg (prog:Program) (w:World) (A:Around) (h0:Heap) (P:Nat->Value->Prop) (bt:Nat->Nat->Bool):Prop:=
 ∀ i j vi vj (s:Shared) (Q:Value->Shared->Prop) (E:Value->Shared->Prop),(∀ b o,h0.get? b=some o->s.heap.get? b=some o)->P i vi->P j vj->Q (.bool (bt i j)) s->wpAny (model prog w) A (richCompare .Lt vi vj) Q E s
theorem zls (W:Walks prog w A.in1 I fp wr n P St) (bt:Nat->Nat->Bool) (hcmp:zqg prog w A.in1 h0 P bt) (S:Addr) (hSf:S∉fp) (h0w: ∀ b o,h0.get? b=some o->b∉wr/\b≠S):
  ∀ (k j:Nat) (s:Shared) (vb:Value) (c:Nat),n - (j+1)=k->j+1<=n->St (j+1) s.heap->P (argBest bt j) vb->(∀ b o,h0.get? b=some o->s.heap.get? b=some o)->
  s.heap.get? S=some {cls:= .type "list",dict:=none,data:= .seq #[vb,vb] c,slots:= #[]}->
  (∀ v h' tk,P (argBest bt (n - 1)) v->(∀ b o,b∉wr->b≠S->s.heap.get? b=some o->h'.get? b=some o)->R (.ok (.ret v)) {s with heap:=h',toks:=tk})->
  codeAny (model prog w) A (.builtin "min.loop" ⟨[.ref I,.none,.ref S],[]⟩) R s:=by
 have hSw:S∉wr:=fun h=>hSf (W.sub _ h)
 have hname:(toString "min"++toString ".loop":String)="min.loop":=by decide
 intro k
 induction k with
 | zero=>
  intro j s vb c hk hj hst hPb hx hS hR
  have hin:j+1=n:=by omega
  refine codeAny_builtin F.entry_min_loop ?_
  rw [qap F.plain_min_loop _]
  show wpAny _ A.in1 (seqItems? (.ref S)>>=_) _ _ s
  refine qaW (wpAny_seqItems hS rfl ?_)
  show wpAny _ A.in1 (tryCatch (pyNext (.ref I)) _>>=_) _ _ s
  refine qaW (wpAny_tryCatch (W.done s _ _ (hin▸hst) fun h' tk hk'=> ?_))
  show wpAny _ A.in1 (updateSeq S (fun _=> #[])>>=_) _ _ _
  refine qaW (wpAny_updateSeq (hk' S _ hSw hS) rfl (qaW (wpAny_letGo (qaX ?_))))
  exact hR vb _ tk (by rw [<- hin];exact hPb) fun b o hbw hbS e=>(qah _ _ (Ne.symm hbS)).trans (hk' b o hbw e)
 | succ k ih=>
  intro j s vb c hk hj hst hPb hx hS hR
  have hlt:j+1<n:=by omega
  refine codeAny_builtin F.entry_min_loop ?_
  rw [qap F.plain_min_loop _]
  show wpAny _ A.in1 (seqItems? (.ref S)>>=_) _ _ s
  refine qaW (wpAny_seqItems hS rfl ?_)
  show wpAny _ A.in1 (tryCatch (pyNext (.ref I)) _>>=_) _ _ s
  refine qaW (wpAny_tryCatch (W.item (j+1) s _ _ hlt hst fun v h' tk hP hst' hk'=> ?_))
  have hS':=hk' S _ hSw hS
  have hx': ∀ b o,h0.get? b=some o->h'.get? b=some o:=fun b o e=>hk' b o (h0w b o e).1 (hx b o e)
  show wpAny _ A.in1 (tryCatch (holding [v,v] (richCompare .Lt v vb>>=_)) _>>=_) _ _ _
  refine qaW (wpAny_tryCatch (qaO (qaW (hcmp (j+1) (argBest bt j) v vb _ _ _ hx' hP hPb ?_))))
  refine qaW (qaO (wpAny_truthy_bool ?_))
  refine qaW (wpAny_letGo (qaX ?_))
  cases hb:bt (j+1) (argBest bt j) with
  | true=>
   simp only [if_true]
   refine qaW (wpAny_updateSeq hS' rfl (qaW (wpAny_letGo ?_)))
   rw [hname]
   refine qaX ⟨plainId_quiet F.plain_min_loop _,ih (j+1) _ v _ (by omega) hlt (W.frame _ _ _ hst' fun b hbf o e=> ?_) (by simp only [argBest,hb,if_true];exact hP) (fun b o e=> ?_) (qal _ hS' rfl)
     fun v' h'' tk'' hP' hk''=> ?_⟩
   ·exact (qah _ _ (fun h:S=b=>hSf (by rw [h];exact hbf))).trans e
   ·exact (qah _ _ (Ne.symm (h0w b o e).2)).trans (hx' b o e)
   ·exact hR v' h'' tk'' hP' fun b o hbw hbS e=>hk'' b o hbw hbS ((qah _ _ (Ne.symm hbS)).trans (hk' b o hbw e))
  | false=>
   simp only [qax,if_false]
   refine qaW (wpAny_letGo ?_)
   rw [hname]
   exact qaX ⟨plainId_quiet F.plain_min_loop _,ih (j+1) _ vb c (by omega) hlt hst' (by simp only [argBest,hb,qax,if_false];exact hPb) hx' hS' fun v' h'' tk'' hP' hk''=>
     hR v' h'' tk'' hP' fun b o hbw hbS e=>hk'' b o hbw hbS (hk' b o hbw e)⟩
end
section
variable {prog:Program} {w:World} {A:Around} {E:Value->Shared->Prop} {s:Shared}
theorem zrb {x:Value} {Q:Value->Shared->Prop}
  (h:wpAny (model prog w) A.in1 (pyIter x) (fun it s₂=> ∃ I fp wr n P St bt h0,it= .ref I/\Walks prog w A.in1 I fp wr n P St/\St 0 s₂.heap/\(∀ b∈fp,b<s₂.heap.objs.size)/\0<n/\zqg prog w A.in1 h0 P bt/\(∀ b o,h0.get? b=some o->b∉wr/\s₂.heap.get? b=some o)/\
    ∀ v h' tk,P (argBest bt (n - 1)) v->(∀ b o,b∉wr->s₂.heap.get? b=some o->h'.get? b=some o)->Q v {s₂ with heap:=h',toks:=tk}) E s):
  wpAny (model prog w) A (call (.builtin "min") [x]) Q E s:=by
 have hname:(toString "min"++toString ".loop":String)="min.loop":=by decide
 refine call_function_tree F.kind_min F.plain_min F.entry_min (F.args_min1 _) ?_
 show wpAny _ A.in1 (Builtin.Builtins.bindParams "min" ["key","default"] 0 ⟨[],[]⟩>>=_) _ _ s
 refine qaW (wpAny_of_eq (show Builtin.Builtins.bindParams "min" ["key","default"] 0 ⟨[],[]⟩=pure [none,none] from rfl) ?_)
 refine qaW (qaX ?_)
 refine qaW (qaZ h (fun it s₂ h₂=> ?_) fun _ _ e=>e)
 obtain ⟨I,fp,wr,n,P,St,bt,h0,rfl,W,hst,hfp,hn,hcmp,hx,hQ⟩:=h₂
 refine qaW (qaC ?_)
 have hSf:s₂.heap.objs.size∉fp:=fun hm=>qaN _ (hfp _ hm)
 have hSw:s₂.heap.objs.size∉wr:=fun h=>hSf (W.sub _ h)
 have h0w: ∀ b o,h0.get? b=some o->b∉wr/\b≠s₂.heap.objs.size:=fun b o e=>⟨(hx b o e).1,qaR (qaQ (hx b o e).2)⟩
 rw [hname]
 refine qaX ⟨plainId_quiet F.plain_min_loop _,?_⟩
 refine codeAny_builtin F.entry_min_loop ?_
 rw [qap F.plain_min_loop _]
 show wpAny _ A.in1 (seqItems? (.ref s₂.heap.objs.size)>>=_) _ _ _
 refine qaW (wpAny_seqItems (qar _ rfl) rfl ?_)
 show wpAny _ A.in1 (tryCatch (pyNext (.ref I)) _>>=_) _ _ _
 refine qaW (wpAny_tryCatch (W.item 0 _ _ _ hn (W.frame _ _ _ hst fun b _ o e=>qag _ e) fun v h' tk hP hst' hk'=> ?_))
 have hS':=hk' s₂.heap.objs.size _ hSw (qar _ rfl)
 show wpAny _ A.in1 (updateSeq s₂.heap.objs.size (fun _=> #[v,v])>>=_) _ _ _
 refine qaW (wpAny_updateSeq hS' rfl ?_)
 rw [hname]
 refine qaX ⟨plainId_quiet F.plain_min_loop _,zls W bt hcmp s₂.heap.objs.size hSf h0w _ 0 _ v _ rfl hn (W.frame _ _ _ hst' fun b hbf o e=> ?_) hP (fun b o e=> ?_) (qal _ hS' rfl) fun v' h'' tk'' hP' hk''=> ?_⟩
 ·exact (qah _ _ (fun h:s₂.heap.objs.size=b=>hSf (by rw [h];exact hbf))).trans e
 ·exact (qah _ _ (Ne.symm (h0w b o e).2)).trans (hk' b o (h0w b o e).1 (qag _ (hx b o e).2))
 ·exact hQ v' h'' tk'' hP' fun b o hbw e=>hk'' b o hbw (qaR (qaQ e)) ((qah _ _ (Ne.symm (qaR (qaQ e)))).trans (hk' b o hbw (qag _ e)))
theorem znd {l:Addr} {items:Array Value} {bt:Nat->Nat->Bool} {Q:Value->Shared->Prop} (hh:zne A s.heap) (hl:s.heap.IsList l items) (hn:0<items.size) (hc:zqg prog w A.in1 s.heap (fun i v=>items[i]? = some v) bt)
  (k: ∀ v h' tk,items[argBest bt (items.size - 1)]? = some v->(∀ b o,s.heap.get? b=some o->h'.get? b=some o)->Q v {s with heap:=h',toks:=tk}):wpAny (model prog w) A (call (.builtin "min") [.ref l]) Q E s:=by
 have hlt:l<s.heap.objs.size:=by obtain ⟨_,e,_⟩:=hl;exact qaQ e
 have hlI:l≠s.heap.objs.size:=qaR hlt
 refine zrb (wpAny_pyIter_list hl ?_)
 have hfp: ∀ b∈[s.heap.objs.size,l],b<(s.heap.push {cls:= .type "list_iterator",data:= .fields #[.ref l,.int 0 0]}).objs.size:=fun b hb=>by
  rw [qaL]
  simp only [qaP,qaF,or_false] at hb
  rcases hb with rfl | rfl
  ·exact Nat.lt_succ_self _
  ·exact Nat.lt_succ_of_lt hlt
 have st1:(s.heap.push {cls:= .type "list_iterator",data:= .fields #[.ref l,.int 0 0]}).IsListIter s.heap.objs.size l 0:=⟨_,qar _ rfl,rfl,rfl⟩
 have hx: ∀ b o,s.heap.get? b=some o->b∉[s.heap.objs.size]/\(s.heap.push {cls:= .type "list_iterator",data:= .fields #[.ref l,.int 0 0]}).get? b=some o:=fun b o e=>
  ⟨fun hm=>qaN _ (by simp only [qaP,qaF,or_false] at hm;exact hm▸qaQ e),qag _ e⟩
 rcases hh with hh | ⟨ha,cls,head,hh,hX⟩
 ·exact ⟨_,_,_,_,_,_,bt,s.heap,rfl,Walks.list (A:=A.in1) hh _ l hlI items,⟨st1,hl.push _⟩,hfp,hn,hc,hx,fun v h' tk hv hk=>k v h' tk hv fun b o e=>hk b o (hx b o e).1 (hx b o e).2⟩
 ·obtain ⟨ob,vs,x1,x2⟩:=id hX
  have hX2:=hX.keep (h':=s.heap.push {cls:= .type "list_iterator",data:= .fields #[.ref l,.int 0 0]}) fun o e=>qag _ e
  refine ⟨_,_,_,_,_,_,bt,s.heap,rfl,zjq (A:=A.in1) (ha:=ha) (cls:=cls) (head:=head) hh _ l hlI (qaR (qaQ x1)) items,⟨st1,hl.push _,hX2⟩,fun b hb=> ?_,hn,hc,hx,fun v h' tk hv hk=>k v h' tk hv fun b o e=>hk b o (hx b o e).1 (hx b o e).2⟩
  simp only [qaP,qaF,or_false] at hb
  rcases hb with z | z | z
  ·exact hfp b (by simp [z])
  ·exact hfp b (by simp [z])
  ·rw [z]
   show ha<(s.heap.push _).objs.size
   rw [qaL]
   exact Nat.lt_succ_of_lt (qaQ x1)
end
end L3
namespace L2
open PySem PySem.Spec PyProof.Rows L3
section
variable {X:Cx}
def zko (K:W.Frag) (H:Hp) (v:V) (p:Int×List Int):Prop:= ∃ a q,v= .ref a/\SqT K H a [.int p.1,.ref q]/\SqT K H q (p.2.map V.int)
theorem zci {pins:List (Addr×Obj)} {σ:St} {H:Hp} {s:Shared} (I:Inv X pins σ H s) {v:V} {u:Value} {p:Int×List Int} (h:zko X.K H v p) (r:zbl v u):zbD s.heap u p:=by
 obtain ⟨a,q,rfl,h1,h2⟩:=h
 cases r
 obtain ⟨its,r1,p1,_⟩:=I.tuple h1
 obtain ⟨its2,r2,p2,_⟩:=I.tuple h2
 obtain ⟨u1,u2,rfl,e1,e2⟩:=zqr r1
 obtain ⟨t,rfl⟩:=e1
 cases e2
 exact ⟨a,q,t,its2,rfl,p1,p2,zbM r2⟩
theorem zkG (hu:X.A.units+60<cLine):zay X (.builtin "min") (fun xs H Q=> ∃ (a:Addr) (vs:List V) (ps:List (Int×List Int)),xs=[.ref a]/\SqL X.K H a vs/\ps.length=vs.length/\0<vs.length/\(∀ (i:Nat) v p,vs[i]? = some v->ps[i]? = some p->zko X.K H v p)/\
    ∀ v,vs[argBest (fun i j=>pLt (ps.getD i (0,[])) (ps.getD j (0,[]))) (ps.length - 1)]? = some v->Q v H):=by
 intro pins s σ H xs us Q I r h
 obtain ⟨a,vs,ps,rfl,hq,hlen,hpos,hp,q⟩:=h
 obtain ⟨u,rfl,rx⟩:=zcR r
 cases rx
 obtain ⟨its,r',pl,hz⟩:=I.list hq
 have hlen':=r'.length
 have back: ∀ (i:Nat) u,its.toArray[i]? = some u-> ∃ v,vs[i]? = some v/\zbl v u:=fun i u e=>by
  have e':its[i]? = some u:=by simpa using e
  have hi:i<vs.length:=by have:=(qac.mp e').1;omega
  obtain ⟨u',hu',ru⟩:=r'.get (x:=vs[i]) (i:=i) (by simp [hi])
  rw [e'] at hu'
  cases hu'
  exact ⟨vs[i],by simp [hi],ru⟩
 have key: ∀ (i:Nat) u,its.toArray[i]? = some u->zbD s.heap u (ps.getD i (0,[])):=fun i u e=>by
  obtain ⟨v,ev,ru⟩:=back i u e
  have hi:i<ps.length:=by have:=(qac.mp ev).1;omega
  refine zci I (hp i v _ ev ?_) ru
  simp [List.getD,hi]
 refine L3.znd I.hand pl.isList (by simp;omega) (bt:=fun i j=>pLt (ps.getD i (0,[])) (ps.getD j (0,[]))) (fun i j vi vj s' Q E hk hi hj hQ=>ziF ((key i vi hi).keep hk) ((key j vj hj).keep hk) (by rw [Around.in1_units];omega) hQ) fun v h' tk hv hk=> ?_
 have hs:its.toArray.size - 1=ps.length - 1:=by simp;omega
 rw [hs] at hv
 obtain ⟨v0,ev,ru⟩:=back _ _ hv
 exact ⟨v0,H,I.grown (s':={s with heap:=h',toks:=tk}) rfl rfl hk,ru,q v0 ev⟩
end
end L2
namespace L3
open PySem PySem.Spec PyProof.Rows L2
section
variable {X:Cx} {E:XE}
noncomputable def zbB:D->Option (Int×List Int)
 | .tup [.int i,.tup ds]=>(zcl ds).map fun ns=>(i,ns)
 | _=>none
noncomputable def zcM:List D->Option (List (Int×List Int))
 | []=>some []
 | d::r=>(zbB d).bind fun p=>(zcM r).map fun ps=>p::ps
noncomputable def zb3 (ps:List (Int×List Int)):Nat:=argBest (fun i j=>pLt (ps.getD i (0,[])) (ps.getD j (0,[]))) (ps.length - 1)
noncomputable def zo7:List D->M D:=zkQ fun d=>do
 let ds<-zkc d
 let ps<-ofO (match d with | .tup _=>none | _=>zcM ds)
 ofO (ds[zb3 ps]?)
theorem zbL {K:W.Frag} {ι:Io} {H:Hp} {d:D} {v:V} {p:Int×List Int} (r:Rel K ι H d v) (e:zbB d=some p):zko K H v p:=by
 unfold zbB at e
 split at e
 ·rename_i i ds
  cases z:zcl ds with
  | none=>rw [z] at e;cases e
  | some ns=>
   rw [z] at e
   cases e
   obtain ⟨a,vs,rfl,h1,h2⟩:=zcm r
   simp only [zal] at h2
   obtain ⟨v1,r1,rfl,g1,v2,r2,rfl,g2,rfl⟩:=h2
   simp only [Rel] at g1
   subst g1
   obtain ⟨q,ws,rfl,k1,k2⟩:=zcm g2
   have:=zdO k2 z
   subst this
   exact ⟨a,q,rfl,h1,k1⟩
 ·cases e
theorem zfr {K:W.Frag} {ι:Io} {H:Hp}: ∀ {ds:List D} {vs:List V} {ps:List (Int×List Int)},zal K ι H ds vs->zcM ds=some ps->ps.length=vs.length/\ ∀ (i:Nat) v p,vs[i]? = some v->ps[i]? = some p->zko K H v p
 | [],vs,ps,h,e=>by
  simp only [zal] at h
  subst h
  cases e
  exact ⟨rfl,fun i v p e1=>by simp at e1⟩
 | d::r,vs,ps,h,e=>by
  simp only [zal] at h
  obtain ⟨v,r',rfl,h1,h2⟩:=h
  unfold zcM at e
  cases z:zbB d with
  | none=>rw [z] at e;cases e
  | some p=>
   rw [z] at e
   cases z2:zcM r with
   | none=>rw [z2] at e;cases e
   | some qs=>
    rw [z2] at e
    cases e
    obtain ⟨g1,g2⟩:=zfr h2 z2
    refine ⟨by simp [g1],fun i v' p' e1 e2=> ?_⟩
    cases i with
    | zero=>
     simp at e1 e2
     subst e1 e2
     exact zbL h1 z
    | succ i=>
     simp at e1 e2
     exact g2 i v' p' e1 e2
theorem zj0 (hu:X.A.units+60<cLine):zay X (.builtin "min") (zgH X.K E zo7):=by
 refine zay.imp (zkG hu) fun xs H Q ⟨ι,h,ds,rl,hr,q⟩=> ?_
 obtain ⟨d,v,e,r,q⟩:=zbY rl q
 obtain ⟨a,vs,ds',e',hs,rl',q⟩:=zcE hr r q
 obtain ⟨ps,ep,q⟩:=Fin.ofOb q
 obtain ⟨x,ex⟩: ∃ x,ds'[zb3 ps]? = some x:=by
  cases ex:ds'[zb3 ps]? with
  | none=>rw [ex] at q;exact qa0 q
  | some x=>exact ⟨x,rfl⟩
 rw [ex] at q
 rcases hs with ⟨hs,hd⟩ | ⟨hs,hd⟩
 ·have ep':zcM ds'=some ps:=by
   cases d with
   | tup ts=>exact absurd rfl (hd ts)
   | _=>exact ep
  obtain ⟨g1,g2⟩:=zfr rl' ep'
  have hlt:=(qac.mp ex).1
  have hl:=rl'.length
  refine ⟨a,vs,ps,by rw [e,e'],hs,g1,by omega,g2,fun v0 ev=> ?_⟩
  obtain ⟨w,ew,rw'⟩:=zal.get rl' ex
  have ev':vs[zb3 ps]? = some v0:=ev
  rw [ew] at ev'
  cases ev'
  exact Fin.out hr q _ rw'
 ·subst hd
  cases ep
end
section
variable {X:Cx} {E:XE}
noncomputable def zt6 (d:D):M Bool:=do let ds<-zkc d;pure (!ds.isEmpty)
noncomputable def zqO (f:FE):FT:=fun sd=>do let d<-f sd;zt6 d
theorem zrh {e:Expr} {f:FE} (h:SE X E e f) (he: ∀ whole,isTrue e X.env whole=(do let v<-whole;standAt e.pos;holding [v] (truthy v)):=by intro _;rfl):ST X E e (zqO f):=by
 refine PT.imp (zm0 h he) fun σ H Q ⟨ι,h,sd,L,hh,q⟩=>⟨ι,h,sd,L,hh,Fin.bind q fun d h1 ι1 H1 e1 s1 hr1 q1 v rv=> ?_⟩
 obtain ⟨a,vs,ds',e',hs,rl',q2⟩:=zcE hr1 rv q1
 have hl:=rl'.length
 have ee:(!ds'.isEmpty)= !vs.isEmpty:=by
  cases ds' with
  | nil=>
   cases vs with
   | nil=>rfl
   | cons _ _=>simp at hl
  | cons _ _=>
   cases vs with
   | nil=>simp at hl
   | cons _ _=>rfl
 rw [ee] at q2
 refine ⟨!vs.isEmpty,?_,Fin.out hr1 q2⟩
 rw [e']
 rcases zmu hs with z | z
 ·exact .inl ⟨vs,z,rfl⟩
 ·exact .inr (.inl ⟨vs,z,rfl⟩)
end
end L3
section
namespace TS
set_option autoImplicit false
open PySem PyProof PyProof.Rows
noncomputable abbrev Ga:Bool->Keyed->Array Keyed->Nat->Nat->Nat->StateT SortSt Sem (Option Nat):=sortPriv% PySem.Builtin.gallop
noncomputable abbrev Lt:Keyed->Keyed->StateT SortSt Sem (Option Bool):=sortPriv% PySem.Builtin.lt
noncomputable abbrev El:Array Keyed->Nat->StateT SortSt Sem Keyed:=sortPriv% PySem.Builtin.elem
structure Cx where
 prog:Program
 w:World
 A:Around
 E:Value->Shared->Prop
 s:Shared
 kd:SortKind
 O:KeyOrd
 ky:Value->O.α
 ok:Value->Prop
 cmp: ∀ (E':Value->Shared->Prop) (x y:Value) (Q:Bool->Shared->Prop),ok x->ok y->Q (O.blt (ky x) (ky y)) s->wpAny (model prog w) A (keyLt' kd x y) Q E' s
noncomputable abbrev Cx.wp (c:Cx) {α:Type} (m:StateT SortSt Sem α) (Q:α->SortSt->Prop) (st:SortSt):Prop:=wpS (model c.prog c.w) c.A c.E c.s m Q st
noncomputable def Cx.lt (c:Cx) (x y:Keyed):Bool:=c.O.blt (c.ky x.1) (c.ky y.1)
def Cx.le (c:Cx) (x y:Keyed):Prop:=c.lt y x=false
section
variable {c:Cx}
theorem Cx.le_refl (x:Keyed):c.le x x:=c.O.irrefl _
theorem Cx.le_of_lt {x y:Keyed} (h:c.lt x y=true):c.le x y:=KeyOrd.klt_asymm (O:=c.O) h
theorem Cx.le_trans {x y z:Keyed} (h:c.le x y) (h2:c.le y z):c.le x z:=KeyOrd.kle_trans (O:=c.O) h h2
theorem Cx.lt_of_le_lt {x y z:Keyed} (h:c.le x y) (h2:c.lt y z=true):c.lt x z=true:=KeyOrd.klt_of_kle_of_klt (O:=c.O) h h2
theorem zlg {x y:Keyed} {Q:Option Bool->SortSt->Prop} {st:SortSt} (hk:kindOf st=c.kd) (hx:c.ok x.1) (hy:c.ok y.1) (h:Q (some (c.lt x y)) st):c.wp (Lt x y) Q st:=by
 have e:=lt'_eq x y
 unfold lt' at e
 show wpS _ _ _ _ (Lt x y) Q st
 unfold Lt
 rw [e]
 refine qa2 (wpS_get ?_)
 rw [hk]
 refine qa2 (wpS_lift (wpAny_attempt (c.cmp _ _ _ _ hx hy ⟨rfl,?_⟩)))
 exact qa3 h
theorem zbQ {arr:Array Keyed} {i:Nat} {x:Keyed} {Q:Keyed->SortSt->Prop} {st:SortSt} (hx:arr[i]? = some x) (h:Q x st):c.wp (El arr i) Q st:=by
 have e:=elem'_eq arr i
 unfold elem' at e
 show wpS _ _ _ _ (El arr i) Q st
 unfold El
 rw [e,hx]
 exact qa3 h
noncomputable def pb (c:Cx) (left:Bool) (key x:Keyed):Bool:=if left then c.lt x key else !c.lt key x
theorem ziE {left:Bool} {key:Keyed} {arr:Array Keyed} {i:Nat} {x:Keyed} {Q:Option Bool->SortSt->Prop} {st:SortSt} (hk:kindOf st=c.kd) (hx:arr[i]? = some x) (okk:c.ok key.1) (okx:c.ok x.1)
  (h:Q (some (pb c left key x)) st):
  c.wp (El arr i>>=fun x=>if left=true then Lt x key else Lt key x>>=fun r=>pure (Option.map (fun x=> !x) r)) Q st:=by
 refine qa2 (zbQ hx ?_)
 unfold pb at h
 cases left with
 | true=>exact zlg hk okx okk h
 | false=>exact qa2 (zlg hk okk okx (qa3 h))
theorem zgI {left:Bool} {key:Keyed} {arr:Array Keyed} {base n hint:Nat} {Q:Option Nat->SortSt->Prop} {st:SortSt} (f:Nat->Keyed) (hk:kindOf st=c.kd) (okk:c.ok key.1)
  (hf: ∀ i,i<n->arr[base+i]? = some (f i)/\c.ok (f i).1)
  (hm: ∀ i j,i<=j->j<n->pb c left key (f j)=true->pb c left key (f i)=true) (hh:hint<n)
  (h: ∀ k,k<=n->(∀ i,i<k->pb c left key (f i)=true)->(∀ i,k<=i->i<n->pb c left key (f i)=false)->Q (some k) st):
  c.wp (Ga left key arr base n hint) Q st:=by
 show wpS _ _ _ _ (Ga left key arr base n hint) Q st
 have hmf: ∀ i j,i<=j->j<n->pb c left key (f i)=false->pb c left key (f j)=false:=by
  intro i j hij hj hi
  cases e:pb c left key (f j) with
  | false=>rfl
  | true=>rw [hm i j hij hj e] at hi;exact hi
 have third: ∀ (lo hi:Nat) (st':SortSt),st'=st->lo<=hi->hi<=n->(∀ i,i<lo->pb c left key (f i)=true)->(∀ i,hi<=i->i<n->pb c left key (f i)=false)->
   c.wp (forIn [:n] ((none:Option (Option Nat)),lo,hi) fun x __s=>
       if __s.snd.fst>=__s.snd.snd then pure (ForInStep.done (none,__s.snd.fst,__s.snd.snd))
       else (El arr (base+(__s.snd.fst+(__s.snd.snd - __s.snd.fst) / 2))>>=fun x=>if left=true then Lt x key else Lt key x>>=fun r=>pure (Option.map (fun x=> !x) r))>>=fun __x=>
         match __x with
           | some more=>
             if more=true then pure (ForInStep.yield (none,__s.snd.fst+(__s.snd.snd - __s.snd.fst) / 2+1,__s.snd.snd))
             else pure (ForInStep.yield (none,__s.snd.fst,__s.snd.fst+(__s.snd.snd - __s.snd.fst) / 2))
           | x=>pure (ForInStep.done (some none,__s.snd.fst,__s.snd.snd)))
    (fun r st'=>st'=st/\r.1=none/\r.2.2<=n/\(∀ i,i<r.2.2->pb c left key (f i)=true)/\(∀ i,r.2.2<=i->i<n->pb c left key (f i)=false)) st':=by
  intro lo hi st' est hlh hhn h1 h2
  refine wpS_forRange (I:=fun x r st'=>st'=st/\r.1=none/\r.2.1<=r.2.2/\r.2.2<=n/\r.2.2 - r.2.1<=n - x/\(∀ i,i<r.2.1->pb c left key (f i)=true)/\(∀ i,r.2.2<=i->i<n->pb c left key (f i)=false)) ?_ ?_ ⟨est,rfl,hlh,hhn,by show hi - lo<=n - 0;omega,h1,h2⟩
  ·rintro i ⟨r,lo,hi⟩ st' _ hi2 ⟨rfl,rfl,a1,a2,a3,a4,a5⟩
   dsimp only at a1 a2 a3 a4 a5 ⊢
   split
   ·refine qa3 ⟨rfl,rfl,a2,?_,a5⟩
    intro j hj
    exact a4 j (by dsimp only at hj;omega)
   ·obtain ⟨g1,g2⟩:=hf (lo+(hi - lo) / 2) (by omega)
    refine qa2 (ziE hk g1 okk g2 ?_)
    dsimp only
    cases e:pb c left key (f (lo+(hi - lo) / 2)) with
    | true=>
     rw [qa4 rfl]
     refine qa3 ⟨rfl,rfl,?_,a2,?_,?_,a5⟩
     ·dsimp only;omega
     ·dsimp only;omega
     ·intro j hj;exact hm j _ (by dsimp only at hj;omega) (by omega) e
    | false=>
     rw [qa5 (by simp)]
     refine qa3 ⟨rfl,rfl,?_,?_,?_,a4,?_⟩
     ·dsimp only;omega
     ·dsimp only;omega
     ·dsimp only;omega
     ·intro j hj hjn;exact hmf _ j hj hjn e
  ·rintro ⟨r,lo,hi⟩ st' ⟨rfl,rfl,a1,a2,a3,a4,a5⟩
   refine ⟨rfl,rfl,a2,?_,a5⟩
   dsimp only at a1 a3 a4 ⊢
   intro j hj;exact a4 j (by omega)
 obtain ⟨g1,g2⟩:=hf hint hh
 refine qa2 ?_
 dsimp only
 refine ziE hk g1 okk g2 ?_
 dsimp only
 cases e:pb c left key (f hint) with
 | true=>
  rw [qa4 rfl]
  refine qa2 (wpS_mono (wpS_forRange (I:=fun x r st'=>st'=st/\r.1=(none:Option (Option Nat))/\x+1<=r.2.2/\r.2.1<r.2.2/\hint+r.2.1<n/\pb c left key (f (hint+r.2.1))=true)
    (Q:=fun r st'=>st'=st/\r.1=none/\r.2.1<r.2.2/\hint+r.2.1<n/\pb c left key (f (hint+r.2.1))=true/\(n<=hint+r.2.2\/pb c left key (f (hint+r.2.2))=false)) ?_ ?_ ⟨rfl,rfl,qaV _,Nat.zero_lt_one,hh,by exact e⟩) ?_)
  ·rintro i ⟨r,lo,hi⟩ st' _ hi2 ⟨rfl,rfl,a1,a2,a3,a4⟩
   dsimp only at a1 a2 a3 a4 ⊢
   split
   ·exact qa3 ⟨rfl,rfl,a2,a3,a4,.inl (by dsimp only;omega)⟩
   ·obtain ⟨g1,g2⟩:=hf (hint+hi) (by omega)
    refine qa2 (ziE hk g1 okk g2 ?_)
    dsimp only
    cases e:pb c left key (f (hint+hi)) with
    | true=>
     rw [qa5 (by simp)]
     exact qa3 ⟨rfl,rfl,by dsimp only;omega,by dsimp only;omega,by dsimp only;omega,e⟩
    | false=>
     rw [qa4 (by simp)]
     exact qa3 ⟨rfl,rfl,a2,a3,a4,.inr e⟩
  ·rintro ⟨r,lo,hi⟩ st' ⟨rfl,rfl,a1,a2,a3,a4⟩
   exact ⟨rfl,rfl,a2,a3,a4,.inl (by dsimp only at a1 ⊢; omega)⟩
  ·rintro ⟨r,lo,hi⟩ st' ⟨rfl,rfl,a2,a3,a4,a5⟩
   dsimp only at a2 a3 a4 a5 ⊢
   refine qa2 (wpS_mono (third _ _ _ rfl (by omega) (by omega) (fun i hi2=>hm i _ (by omega) a3 a4) ?_) ?_)
   ·intro i h1 h2
    rcases a5 with a5 | a5
    ·omega
    ·by_cases hq:hint+hi<n
     ·exact hmf _ i (by omega) h2 a5
     ·omega
   ·rintro ⟨r,lo,hi⟩ st' ⟨rfl,rfl,b1,b2,b3⟩
    exact qa3 (h _ b1 b2 b3)
 | false=>
  rw [qa5 (by simp)]
  refine qa2 (wpS_mono (wpS_forRange (I:=fun x r st'=>st'=st/\r.1=(none:Option (Option Nat))/\x+1<=r.2.2/\r.2.1<r.2.2/\r.2.1<=hint/\pb c left key (f (hint - r.2.1))=false)
    (Q:=fun r st'=>st'=st/\r.1=none/\r.2.1<r.2.2/\r.2.1<=hint/\pb c left key (f (hint - r.2.1))=false/\(hint<r.2.2\/pb c left key (f (hint - r.2.2))=true)) ?_ ?_ ⟨rfl,rfl,qaV _,Nat.zero_lt_one,Nat.zero_le _,by exact e⟩) ?_)
  ·rintro i ⟨r,lo,hi⟩ st' _ hi2 ⟨rfl,rfl,a1,a2,a3,a4⟩
   dsimp only at a1 a2 a3 a4 ⊢
   split
   ·exact qa3 ⟨rfl,rfl,a2,a3,a4,.inl (by dsimp only;omega)⟩
   ·obtain ⟨g1,g2⟩:=hf (hint - hi) (by omega)
    refine qa2 (ziE hk g1 okk g2 ?_)
    dsimp only
    cases e:pb c left key (f (hint - hi)) with
    | false=>
     rw [qa5 (by simp)]
     exact qa3 ⟨rfl,rfl,by dsimp only;omega,by dsimp only;omega,by dsimp only;omega,e⟩
    | true=>
     rw [qa4 rfl]
     exact qa3 ⟨rfl,rfl,a2,a3,a4,.inr e⟩
  ·rintro ⟨r,lo,hi⟩ st' ⟨rfl,rfl,a1,a2,a3,a4⟩
   exact ⟨rfl,rfl,a2,a3,a4,.inl (by dsimp only at a1 ⊢; omega)⟩
  ·rintro ⟨r,lo,hi⟩ st' ⟨rfl,rfl,a2,a3,a4,a5⟩
   dsimp only at a2 a3 a4 a5 ⊢
   refine qa2 (wpS_mono (third _ _ _ rfl (by omega) (by omega) ?_ (fun i h1 h2=>hmf _ i h1 h2 a4)) ?_)
   ·intro i h1
    rcases a5 with a5 | a5
    ·omega
    ·exact hm i _ (by omega) (by omega) a5
   ·rintro ⟨r,lo,hi⟩ st' ⟨rfl,rfl,b1,b2,b3⟩
    exact qa3 (h _ b1 b2 b3)
end
end TS
end
section
namespace TS
set_option autoImplicit false
open PySem PyProof PyProof.Rows
noncomputable abbrev ML:Array Keyed->Array Keyed->StateT SortSt Sem (Array Keyed):=sortPriv% PySem.Builtin.mergeLo
noncomputable abbrev MH:Array Keyed->Array Keyed->StateT SortSt Sem (Array Keyed):=sortPriv% PySem.Builtin.mergeHi
noncomputable abbrev Sg:Nat->StateT SortSt Sem Unit:=sortPriv% PySem.Builtin.setMinGallop
structure Sm (st st':SortSt):Prop where
 k:kindOf st'=kindOf st
 a:arrOf st'=arrOf st
 p:pendingOf st'=pendingOf st
 f:failedOf st'=failedOf st
theorem Sm.refl (st:SortSt):Sm st st:=⟨rfl,rfl,rfl,rfl⟩
theorem Sm.g {st st':SortSt} (h:Sm st st') (n:Nat):Sm st (SortSt.mk' (kindOf st') (arrOf st') (pendingOf st') n (failedOf st')):=⟨h.k,h.a,h.p,h.f⟩
structure Mg (r:Keyed->Keyed->Prop) (O L R T:List Keyed):Prop where
 s:O.Pairwise r
 l: ∀ x,x∈O-> ∀ y,y∈L->r x y
 r: ∀ x,x∈O-> ∀ y,y∈R->r x y
 p:(O++(L++R)).Perm T
section
variable {r:Keyed->Keyed->Prop} {O L R T X:List Keyed}
theorem Mg.symm (h:Mg r O L R T):Mg r O R L T:=⟨h.s,h.r,h.l,(List.Perm.append_left O List.perm_append_comm).trans h.p⟩
theorem Mg.stepL (h:Mg r O (X++L) R T) (hX:(X++L).Pairwise r) (hR: ∀ x,x∈X-> ∀ y,y∈R->r x y):Mg r (O++X) L R T:=by
 rw [qaq] at hX
 refine ⟨?_,?_,?_,?_⟩
 ·rw [qaq]
  exact ⟨h.s,hX.1,fun x hx y hy=>h.l x hx y (List.mem_append_left _ hy)⟩
 ·intro x hx y hy
  rcases qaK.mp hx with hx | hx
  ·exact h.l x hx y (qak _ hy)
  ·exact hX.2.2 x hx y hy
 ·intro x hx y hy
  rcases qaK.mp hx with hx | hx
  ·exact h.r x hx y hy
  ·exact hR x hx y hy
 ·have:=h.p
  simpa [List.append_assoc] using this
theorem Mg.fin (h:Mg r O L R T) (hs:(L++R).Pairwise r):(O++(L++R)).Pairwise r/\(O++(L++R)).Perm T:=by
 refine ⟨?_,h.p⟩
 rw [qaq]
 refine ⟨h.s,hs,fun x hx y hy=> ?_⟩
 rcases qaK.mp hy with hy | hy
 ·exact h.l x hx y hy
 ·exact h.r x hx y hy
end
section
variable {c:Cx}
theorem zjV {g:Nat} {Q:Unit->SortSt->Prop} {st:SortSt} (h:Q () (SortSt.mk' (kindOf st) (arrOf st) (pendingOf st) g (failedOf st))):c.wp (Sg g) Q st:=by
 exact wpS_modify h
theorem zd8 {n:String} {Q:Unit->SortSt->Prop} {st:SortSt} (h:Q () st):c.wp (liftM (rule n):StateT SortSt Sem Unit) Q st:=
 wpS_lift (wpAny_rule ⟨rfl,h⟩)
def srt (c:Cx) (a:Array Keyed):Prop:=a.toList.Pairwise c.le
def okA (c:Cx) (a:Array Keyed):Prop:= ∀ x,x∈a.toList->c.ok x.1
theorem zbt {a:Array Keyed} (h:okA c a) {i:Nat} (hi:i<a.size): ∃ x,a[i]? = some x/\c.ok x.1:=
 ⟨a[i],getElem?_pos a i hi,h _ (by simp)⟩
theorem zek {a:Array Keyed} (h:srt c a) {i j:Nat} {x y:Keyed} (hij:i<=j) (hx:a[i]? = some x) (hy:a[j]? = some y):c.le x y:=by
 rcases Nat.lt_or_ge i j with hlt | hge
 ·obtain ⟨hj,rfl⟩:=qab.mp hy
  obtain ⟨hi,rfl⟩:=qab.mp hx
  have:=List.pairwise_iff_getElem.mp h i j (by simpa using hi) (by simpa using hj) hlt
  simpa using this
 ·have:i=j:=by omega
  subst this
  rw [hx] at hy
  cases hy
  exact Cx.le_refl _
structure MgA (c:Cx) (a b out:Array Keyed) (ia ib:Nat):Prop where
 m:Mg c.le out.toList (a.toList.drop ia) (b.toList.drop ib) (a.toList++b.toList)
 z:out.size=ia+ib
 la:ia<=a.size
 lb:ib<=b.size
def Fi (c:Cx) (a b res:Array Keyed):Prop:=srt c res/\res.toList.Perm (a.toList++b.toList)
theorem zdx {l:List Keyed} {i k:Nat} {x:Keyed} (h:x∈(l.drop i).take k): ∃ j,j<k/\l[i+j]? = some x:=by
 obtain ⟨j,hj,e⟩:=List.getElem_of_mem h
 refine ⟨j,by simp at hj;omega,?_⟩
 rw [List.getElem_take,List.getElem_drop] at e
 rw [qaf (by simp at hj;omega),e]
theorem zfY {l:List Keyed} {i:Nat} {x:Keyed} (h:x∈l.drop i): ∃ j,l[i+j]? = some x:=by
 obtain ⟨j,hj,e⟩:=List.getElem_of_mem h
 refine ⟨j,?_⟩
 rw [List.getElem_drop] at e
 rw [qaf (by simp at hj;omega),e]
variable {a b out:Array Keyed} {ia ib k:Nat}
theorem MgA.appA (h:MgA c a b out ia ib) (ha:srt c a) (hb:srt c b) {y:Keyed} (hy:b[ib]? = some y) (hk:ia+k<=a.size)
  (hx: ∀ i x,i<k->a[ia+i]? = some x->c.le x y):MgA c a b (out++a.extract ia (ia+k)) (ia+k) ib:=by
 refine ⟨?_,?_,hk,h.lb⟩
 ·have e:a.toList.drop ia=(a.toList.drop ia).take k++a.toList.drop (ia+k):=by
   rw [<- List.drop_drop];exact (qam k _).symm
  have hm:=h.m
  rw [e] at hm
  have e2:(out++a.extract ia (ia+k)).toList=out.toList++(a.toList.drop ia).take k:=by
   simp [List.extract,Nat.add_sub_cancel_left]
  rw [e2]
  refine hm.stepL (by rw [<- e];exact List.Pairwise.sublist (List.drop_sublist _ _) ha) ?_
  intro x hxm z hz
  obtain ⟨j,hj,ej⟩:=zdx hxm
  obtain ⟨i,ei⟩:=zfY hz
  rw [qaj] at ej ei
  exact Cx.le_trans (hx j x hj ej) (zek hb (Nat.le_add_right _ _) hy ei)
 ·rw [Array.size_append,qaz,h.z]
  omega
theorem MgA.appB (h:MgA c a b out ia ib) (ha:srt c a) (hb:srt c b) {x:Keyed} (hx:a[ia]? = some x) (hk:ib+k<=b.size)
  (hy: ∀ i y,i<k->b[ib+i]? = some y->c.le y x):MgA c a b (out++b.extract ib (ib+k)) ia (ib+k):=by
 refine ⟨?_,?_,h.la,hk⟩
 ·have e:b.toList.drop ib=(b.toList.drop ib).take k++b.toList.drop (ib+k):=by
   rw [<- List.drop_drop];exact (qam k _).symm
  have hm:=h.m.symm
  rw [e] at hm
  have e2:(out++b.extract ib (ib+k)).toList=out.toList++(b.toList.drop ib).take k:=by
   simp [List.extract,Nat.add_sub_cancel_left]
  rw [e2]
  refine (hm.stepL (by rw [<- e];exact List.Pairwise.sublist (List.drop_sublist _ _) hb) ?_).symm
  intro x hxm z hz
  obtain ⟨j,hj,ej⟩:=zdx hxm
  obtain ⟨i,ei⟩:=zfY hz
  rw [qaj] at ej ei
  exact Cx.le_trans (hy j x hj ej) (zek ha (Nat.le_add_right _ _) hx ei)
 ·rw [Array.size_append,qaz,h.z]
  omega
theorem zf2 {i:Nat} {x:Keyed} (hx:a[i]? = some x):out.push x=out++a.extract i (i+1):=by
 obtain ⟨hi,rfl⟩:=qab.mp hx
 apply Array.ext'
 simp only [Array.toList_push,Array.toList_append,Array.toList_extract,List.extract,Nat.add_sub_cancel_left]
 rw [qae (by simpa using hi)]
 simp
theorem MgA.pushA (h:MgA c a b out ia ib) (ha:srt c a) (hb:srt c b) {x y:Keyed} (hx:a[ia]? = some x) (hy:b[ib]? = some y) (hxy:c.le x y):MgA c a b (out.push x) (ia+1) ib:=by
 rw [zf2 hx]
 refine h.appA ha hb hy (qab.mp hx).1 ?_
 intro i z hi hz
 have:i=0:=by omega
 subst this
 rw [Nat.add_zero,hx] at hz
 cases hz
 exact hxy
theorem MgA.pushB (h:MgA c a b out ia ib) (ha:srt c a) (hb:srt c b) {x y:Keyed} (hx:a[ia]? = some x) (hy:b[ib]? = some y) (hxy:c.le y x):MgA c a b (out.push y) ia (ib+1):=by
 rw [zf2 hy]
 refine h.appB ha hb hx (qab.mp hy).1 ?_
 intro i z hi hz
 have:i=0:=by omega
 subst this
 rw [Nat.add_zero,hy] at hz
 cases hz
 exact hxy
theorem MgA.done (h:MgA c a b out ia ib) (ha:srt c a) (hb:srt c b) (he:ia=a.size\/ib=b.size):Fi c a b (out++a.extract ia++b.extract ib):=by
 have e:(out++a.extract ia++b.extract ib).toList=out.toList++(a.toList.drop ia++b.toList.drop ib):=by
  simp [List.extract,List.take_of_length_le]
 have hs:(a.toList.drop ia++b.toList.drop ib).Pairwise c.le:=by
  rcases he with he | he
  ·rw [List.drop_eq_nil_of_le (by simp [he]),List.nil_append]
   exact List.Pairwise.sublist (List.drop_sublist _ _) hb
  ·rw [List.drop_eq_nil_of_le (as:=b.toList) (by simp [he]),List.append_nil]
   exact List.Pairwise.sublist (List.drop_sublist _ _) ha
 obtain ⟨h1,h2⟩:=h.m.fin hs
 exact ⟨by unfold srt;rw [e];exact h1,by rw [e];exact h2⟩
theorem MgA.last (h:MgA c a b out ia ib) (_ha:srt c a) (hb:srt c b) (he:ia+1=a.size) (hl: ∀ x,a[ia]? = some x-> ∀ y,y∈b.toList->c.le y x):Fi c a b (out++b.extract ib++a.extract ia):=by
 have e:(out++b.extract ib++a.extract ia).toList=out.toList++(b.toList.drop ib++a.toList.drop ia):=by
  simp [List.extract,List.take_of_length_le]
 have ed:a.toList.drop ia=[a[ia]]:=by
  rw [qae (by simp;omega),List.drop_eq_nil_of_le (by simp;omega)]
  simp
 have hs:(b.toList.drop ib++a.toList.drop ia).Pairwise c.le:=by
  rw [ed,qaq]
  refine ⟨List.Pairwise.sublist (List.drop_sublist _ _) hb,List.pairwise_singleton _ _,?_⟩
  intro x hx y hy
  rw [List.mem_singleton.mp hy]
  exact hl _ (getElem?_pos a ia (by omega)) x (List.mem_of_mem_drop hx)
 obtain ⟨h1,h2⟩:=h.m.symm.fin hs
 exact ⟨by unfold srt;rw [e];exact h1,by rw [e];exact h2⟩
end
end TS
end
section
namespace TS
set_option autoImplicit false
open PySem PyProof PyProof.Rows
section
variable {c:Cx} {a b:Array Keyed}
theorem zaD {α:Type} {p:Prop} [Decidable p] {x y:StateT SortSt Sem α} {Q:α->SortSt->Prop} {st:SortSt} (h1:p->c.wp x Q st) (h2: ¬p->c.wp y Q st):c.wp (if p then x else y) Q st:=by
 by_cases h:p
 ·rw [qa4 h];exact h1 h
 ·rw [qa5 h];exact h2 h
theorem za6 {α:Type} {i j:Nat} {x y:StateT SortSt Sem α} {Q:α->SortSt->Prop} {st:SortSt} (h1:i=j->c.wp x Q st) (h2: ¬i=j->c.wp y Q st):c.wp (if (i==j)=true then x else y) Q st:=
 zaD (fun h=>h1 (by simpa using h)) (fun h=>h2 (by simpa using h))
theorem zqE {st:SortSt} {base n hint:Nat} {y:Keyed} {Q:Option Nat->SortSt->Prop} (hk:kindOf st=c.kd) (oy:c.ok y.1) (hi:hint<n)
  (ha: ∀ i j x z,i<=j->j<n->a[base+i]? = some x->a[base+j]? = some z->c.le x z) (oa: ∀ i,i<n-> ∃ x,a[base+i]? = some x/\c.ok x.1)
  (h: ∀ k,k<=n->(∀ i x,i<k->a[base+i]? = some x->c.le x y)->(∀ i x,k<=i->i<n->a[base+i]? = some x->c.lt y x=true)->Q (some k) st):
  c.wp (Ga false y a base n hint) Q st:=by
 refine zgI (fun i=>a[base+i]?.getD y) hk oy ?_ ?_ hi ?_
 ·intro i hi2
  obtain ⟨x,ex,ox⟩:=oa i hi2
  exact ⟨by rw [ex];rfl,by rw [ex];exact ox⟩
 ·intro i j hij hj hp
  obtain ⟨x,ex,ox⟩:=oa i (by omega)
  obtain ⟨z,ez,oz⟩:=oa j hj
  rw [ez] at hp
  rw [ex]
  have hxz:=ha i j x z hij hj ex ez
  simp only [pb,qax,if_false,Bool.not_eq_true',Option.getD_some] at hp ⊢
  exact Cx.le_trans (c:=c) hxz hp
 ·intro k hk1 h1 h2
  refine h k hk1 ?_ ?_
  ·intro i x hi2 ex
   have:=h1 i hi2
   rw [ex] at this
   simpa [pb,Cx.le] using this
  ·intro i x hi2 hin ex
   have:=h2 i hi2 hin
   rw [ex] at this
   simpa [pb] using this
theorem zsM {st:SortSt} {ib n hint:Nat} {x:Keyed} {Q:Option Nat->SortSt->Prop} (hk:kindOf st=c.kd) (ox:c.ok x.1) (hi:hint<n)
  (hb: ∀ i j y z,i<=j->j<n->b[ib+i]? = some y->b[ib+j]? = some z->c.le y z) (ob: ∀ i,i<n-> ∃ y,b[ib+i]? = some y/\c.ok y.1)
  (h: ∀ k,k<=n->(∀ i y,i<k->b[ib+i]? = some y->c.lt y x=true)->(∀ i y,k<=i->i<n->b[ib+i]? = some y->c.le x y)->Q (some k) st):
  c.wp (Ga true x b ib n hint) Q st:=by
 refine zgI (fun i=>b[ib+i]?.getD x) hk ox ?_ ?_ hi ?_
 ·intro i hi2
  obtain ⟨y,ey,oy⟩:=ob i (by omega)
  exact ⟨by rw [ey];rfl,by rw [ey];exact oy⟩
 ·intro i j hij hj hp
  obtain ⟨y,ey,oy⟩:=ob i (by omega)
  obtain ⟨z,ez,oz⟩:=ob j (by omega)
  rw [ez] at hp
  rw [ey]
  have hyz:=hb i j y z hij hj ey ez
  simp only [pb,if_true,Option.getD_some] at hp ⊢
  exact Cx.lt_of_le_lt (c:=c) hyz hp
 ·intro k hk1 h1 h2
  refine h k hk1 ?_ ?_
  ·intro i y hi2 ey
   have:=h1 i hi2
   rw [ey] at this
   simpa [pb] using this
  ·intro i y hi2 hin ey
   have:=h2 i hi2 hin
   rw [ey] at this
   simpa [pb,Cx.le] using this
theorem zmC {st:SortSt} {ia:Nat} {y:Keyed} {Q:Option Nat->SortSt->Prop} (hk:kindOf st=c.kd) (ha:srt c a) (oa:okA c a) (oy:c.ok y.1) (hi:ia<a.size)
  (h: ∀ k,ia+k<=a.size->(∀ i x,i<k->a[ia+i]? = some x->c.le x y)->(∀ i x,k<=i->a[ia+i]? = some x->c.lt y x=true)->Q (some k) st):
  c.wp (Ga false y a ia (a.size - ia) 0) Q st:=
 zqE hk oy (by omega) (fun i j x z hij _ hx hz=>zek ha (by omega) hx hz) (fun i hi=>zbt oa (by omega)) fun k h1 h2 h3=>h k (by omega) h2 (fun i x hi hx=>h3 i x hi (by have:=(qab.mp hx).1;omega) hx)
theorem ziQ {st:SortSt} {ib n hint:Nat} {x:Keyed} {Q:Option Nat->SortSt->Prop} (hk:kindOf st=c.kd) (hb:srt c b) (ob:okA c b) (ox:c.ok x.1) (hi:hint<n) (hn:ib+n<=b.size)
  (h: ∀ k,k<=n->(∀ i y,i<k->b[ib+i]? = some y->c.lt y x=true)->(∀ i y,k<=i->i<n->b[ib+i]? = some y->c.le x y)->Q (some k) st):
  c.wp (Ga true x b ib n hint) Q st:=
 zsM hk ox hi (fun i j x z hij _ hx hz=>zek hb (by omega) hx hz) (fun i hi=>zbt ob (by omega)) h
noncomputable abbrev StL:=ForInStep (Option (Array Keyed)×Array Keyed×Nat×Nat×Nat×Nat×Nat)
structure Ex (c:Cx) (a b:Array Keyed) (N:Nat) (Q:StL->SortSt->Prop) (st:SortSt):Prop where
 d1: ∀ res t,Fi c a b res->Q (.done (some res,t)) st
 d2: ∀ o i j t,MgA c a b o i j->i+1<a.size->j<b.size->N<=o.size->Q (.done (none,o,i,j,t)) st/\Q (.yield (none,o,i,j,t)) st
 hl: ∀ (o:Array Keyed) (i j:Nat),MgA c a b o i j->i+1=a.size->Fi c a b (o++b.extract j++a.extract i)
 ha:srt c a
 hb:srt c b
 oa:okA c a
 ob:okA c b
 hk:kindOf st=c.kd
noncomputable def T4 (a b o:Array Keyed) (i j g k l:Nat):StateT SortSt Sem StL:=El a i>>=fun z=>
 if (i+1+1==a.size)=true then pure (.done (some (o.push z++b.extract j++a.extract (i+1)),o.push z,i+1,j,g,k,l))
 else if (decide (k<7) && decide (l<7))=true then pure (.done (none,o.push z,i+1,j,g,k,l)) else pure (.yield (none,o.push z,i+1,j,g,k,l))
noncomputable def T3 (a b o:Array Keyed) (i j g k v:Nat):StateT SortSt Sem StL:=El b j>>=fun y=>
 if (j+1==b.size)=true then pure (.done (some (o.push y++a.extract i++b.extract (j+1)),o.push y,i,j+1,g,k,v))
 else El a i>>=fun z=>Ga true z b (j+1) (b.size - (j+1)) 0>>=fun x=>match x with
  | some l=>if l>0 then
    if (j+1+l==b.size)=true then pure (.done (some (o.push y++b.extract (j+1) (j+1+l)++a.extract i++b.extract (j+1+l)),o.push y++b.extract (j+1) (j+1+l),i,j+1+l,g,k,l))
    else T4 a b (o.push y++b.extract (j+1) (j+1+l)) i (j+1+l) g k l
   else T4 a b (o.push y) i (j+1) g k l
  | _=>pure (.done (some (o.push y++a.extract i++b.extract (j+1)),o.push y,i,j+1,g,k,v))
noncomputable def T2 (a b o:Array Keyed) (i j g u v:Nat):StateT SortSt Sem StL:=El b j>>=fun y=>Ga false y a i (a.size - i) 0>>=fun x=>match x with
  | some k=>if k>0 then
    if (i+k+1==a.size)=true then pure (.done (some (o++a.extract i (i+k)++b.extract j++a.extract (i+k)),o++a.extract i (i+k),i+k,j,g,k,v))
    else if (i+k==a.size)=true then pure (.done (some (o++a.extract i (i+k)++a.extract (i+k)++b.extract j),o++a.extract i (i+k),i+k,j,g,k,v))
    else T3 a b (o++a.extract i (i+k)) (i+k) j g k v
   else T3 a b o i j g k v
  | _=>pure (.done (some (o++a.extract i++b.extract j),o,i,j,g,u,v))
section
variable {N:Nat} {Q:StL->SortSt->Prop} {st:SortSt} {o:Array Keyed} {i j g k l u v:Nat}
theorem zsv (x:Ex c a b N Q st) (m:MgA c a b o i j) (b1:i+1<a.size) (b2:j<b.size) (b3:N<=o.size) {z w:Keyed} (ew:b[j]? = some w) (ez:a[i]? = some z) (lzw:c.le z w):c.wp (T4 a b o i j g k l) Q st:=by
 refine qa2 (zbQ ez ?_)
 have m2:=m.pushA x.ha x.hb ez ew lzw
 have d:=fun b1=>x.d2 _ _ _ (g,k,l) m2 b1 b2 (by rw [Array.size_push];omega)
 refine za6 (fun p3=>qa3 (x.d1 _ _ (x.hl _ _ _ m2 p3))) (fun p3=>zaD (fun _=>qa3 (d (by omega)).1) (fun _=>qa3 (d (by omega)).2))
theorem zrn (x:Ex c a b N Q st) (m:MgA c a b o i j) (b1:i+1<a.size) (b2:j<b.size) (b3:N<=o.size) {y z:Keyed} (ey:b[j]? = some y) (ez:a[i]? = some z) (oz:c.ok z.1) (lyz:c.le y z):c.wp (T3 a b o i j g k v) Q st:=by
 refine qa2 (zbQ ey ?_)
 have m2:=m.pushB x.ha x.hb ez ey lyz
 have b4:N<=(o.push y).size:=by rw [Array.size_push];omega
 refine za6 (fun p=>qa3 (x.d1 _ _ (m2.done x.ha x.hb (.inr p)))) (fun p=> ?_)
 refine qa2 (zbQ ez (qa2 (ziQ x.hk x.hb x.ob oz (by omega) (by omega) ?_)))
 intro l hl1 hl2 hl3
 have m3:=m2.appB x.ha x.hb ez (by omega) (fun i y hi hy=>Cx.le_of_lt (hl2 i y hi hy))
 refine zaD (fun l0=>za6 (fun p2=>qa3 (x.d1 _ _ (m3.done x.ha x.hb (.inr p2)))) (fun p2=> ?_)) (fun l0=> ?_)
 ·obtain ⟨w,ew,ow⟩:=zbt x.ob (i:=j+1+l) (by omega)
  exact zsv x m3 b1 (by omega) (by rw [Array.size_append];omega) ew ez (hl3 l w (qaV _) (by omega) ew)
 ·have el:l=0:=by omega
  subst el
  obtain ⟨w,ew,ow⟩:=zbt x.ob (i:=j+1) (by omega)
  exact zsv x m2 b1 (by omega) b4 ew ez (hl3 0 w (qaV _) (by omega) ew)
theorem zrQ (x:Ex c a b N Q st) (m:MgA c a b o i j) (b1:i+1<a.size) (b2:j<b.size) (b3:N<=o.size):c.wp (T2 a b o i j g u v) Q st:=by
 obtain ⟨y,ey,oy⟩:=zbt x.ob b2
 refine qa2 (zbQ ey (qa2 (zmC x.hk x.ha x.oa oy (by omega) ?_)))
 intro k hk1 hk2 hk3
 have m2:=m.appA x.ha x.hb ey hk1 hk2
 refine zaD (fun k0=>za6 (fun q=>qa3 (x.d1 _ _ (x.hl _ _ _ m2 q))) (fun q=>za6 (fun q2=>qa3 (x.d1 _ _ (m2.done x.ha x.hb (.inl q2)))) (fun q2=> ?_))) (fun k0=> ?_)
 ·obtain ⟨z,ez,oz⟩:=zbt x.oa (i:=i+k) (by omega)
  exact zrn x m2 (by omega) b2 (by rw [Array.size_append];omega) ey ez oz (Cx.le_of_lt (hk3 k z (qaV _) ez))
 ·have ek:k=0:=by omega
  subst ek
  obtain ⟨z,ez,oz⟩:=zbt x.oa (i:=i) (by omega)
  exact zrn x m b1 b2 b3 ey ez oz (Cx.le_of_lt (hk3 0 z (qaV _) ez))
end
noncomputable abbrev S5:=Option (Array Keyed)×Array Keyed×Nat×Nat×Nat
noncomputable abbrev S6:=Option (Array Keyed)×Array Keyed×Nat×Nat×Nat×Nat
noncomputable abbrev S7:=Option (Array Keyed)×Array Keyed×Nat×Nat×Nat×Nat×Nat
noncomputable def zu6 (st:SortSt):Nat:=(sortPriv% PySem.Builtin.SortState.minGallop) st
noncomputable def A1 (a b:Array Keyed) (g:Nat) (o:Array Keyed) (i j u v:Nat):StateT SortSt Sem (ForInStep S6):=El b j>>=fun y=>El a i>>=fun z=>Lt y z>>=fun x=>match x with
 | some w=>if w=true then El b j>>=fun y=>if (j+1==b.size)=true then pure (.done (some (o.push y++a.extract i++b.extract (j+1)),o.push y,i,j+1,0,v+1)) else if v+1>=g then pure (.done (none,o.push y,i,j+1,0,v+1)) else pure (.yield (none,o.push y,i,j+1,0,v+1))
  else El a i>>=fun z=>if (i+1+1==a.size)=true then pure (.done (some (o.push z++b.extract j++a.extract (i+1)),o.push z,i+1,j,u+1,0)) else if u+1>=g then pure (.done (none,o.push z,i+1,j,u+1,0)) else pure (.yield (none,o.push z,i+1,j,u+1,0))
 | _=>pure (.done (some (o++a.extract i++b.extract j),o,i,j,u,v))
noncomputable def A2 (a b:Array Keyed) (o:Array Keyed) (i j g u v:Nat):StateT SortSt Sem (ForInStep S7):=
 if g>1 then Sg (g - 1)>>=fun _=>T2 a b o i j (g - 1) u v else Sg g>>=fun _=>T2 a b o i j g u v
noncomputable def A5 (r:S7):StateT SortSt Sem (ForInStep S5):=match r.1 with
 | some x=>pure (.done (some x,r.2.1,r.2.2.1,r.2.2.2.1,r.2.2.2.2.1))
 | none=>Sg (r.2.2.2.2.1+1)>>=fun _=>pure (.yield (none,r.2.1,r.2.2.1,r.2.2.2.1,r.2.2.2.2.1+1))
noncomputable def A4 (a b:Array Keyed) (g:Nat) (r:S6):StateT SortSt Sem (ForInStep S5):=match r.1 with
 | some x=>pure (.done (some x,r.2.1,r.2.2.1,r.2.2.2.1,g))
 | none=>(liftM (rule "list.sort.gallop"):StateT SortSt Sem Unit)>>=fun _=>forIn [0:a.size+b.size] ((none,r.2.1,r.2.2.1,r.2.2.2.1,g+1,r.2.2.2.2.1,r.2.2.2.2.2):S7) (fun _ r=>A2 a b r.2.1 r.2.2.1 r.2.2.2.1 r.2.2.2.2.1 r.2.2.2.2.2.1 r.2.2.2.2.2.2)>>=fun r=>A5 r
noncomputable def A3 (a b:Array Keyed) (o:Array Keyed) (i j g:Nat):StateT SortSt Sem (ForInStep S5):=
 forIn [0:a.size+b.size] ((none,o,i,j,0,0):S6) (fun _ r=>A1 a b g r.2.1 r.2.2.1 r.2.2.2.1 r.2.2.2.2.1 r.2.2.2.2.2)>>=fun r=>A4 a b g r
noncomputable def ML' (a b:Array Keyed):StateT SortSt Sem (Array Keyed):=(liftM (rule "list.sort.merge-lo"):StateT SortSt Sem Unit)>>=fun _=>El b 0>>=fun y=>
 if (1==b.size)=true then pure (#[y]++a.extract 0++b.extract 1) else if (0+1==a.size)=true then pure (#[y]++b.extract 1++a.extract 0)
 else get>>=fun st=>forIn [0:a.size+b.size] ((none, #[y],0,1,zu6 st):S5) (fun _ r=>A3 a b r.2.1 r.2.2.1 r.2.2.2.1 r.2.2.2.2)>>=fun r=>match r.1 with
  | some x=>pure x
  | none=>liftM (unsupported "internal:list.sort.merge-bound":Sem (Array Keyed))
theorem bnd {α β:Type} {m m':StateT SortSt Sem α} {f f':α->StateT SortSt Sem β} (h:m=m') (h2: ∀ x,f x=f' x):(m>>=f)=(m'>>=f'):=by
 rw [h,funext h2]
theorem zmI {β:Type} {n:Nat} {x:β} {f f':Nat->β->StateT SortSt Sem (ForInStep β)} (h: ∀ i r,f i r=f' i r):forIn [0:n] x f=forIn [0:n] x f':=by
 rw [show f=f' from funext fun i=>funext (h i)]
theorem zuC (a b:Array Keyed):ML a b=ML' a b:=by
 refine bnd rfl fun _=>bnd rfl fun y=> ?_
 by_cases h1:(1==b.size)=true
 ·exact (qa4 h1).trans (qa4 h1).symm
 refine (qa5 h1).trans (Eq.trans ?_ (qa5 h1).symm)
 by_cases h2:(0+1==a.size)=true
 ·exact (qa4 h2).trans (qa4 h2).symm
 refine (qa5 h2).trans (Eq.trans ?_ (qa5 h2).symm)
 refine bnd rfl fun st=>bnd (zmI fun _ r=> ?_) fun r=> ?_
 ·refine bnd (zmI fun _ r=> ?_) fun r'=> ?_
  ·rfl
  ·obtain ⟨q,r'⟩:=r'
   cases q with
   | some x=>rfl
   | none=>
    refine bnd rfl fun _=>bnd (zmI fun _ r=> ?_) fun r3=> ?_
    ·rfl
    ·obtain ⟨q,r'⟩:=r3
     cases q with
     | some x=>rfl
     | none=>rfl
 ·obtain ⟨q,r⟩:=r
  cases q with
  | some x=>rfl
  | none=>rfl
def Lo (c:Cx) (a b:Array Keyed) (N:Nat) (o:Array Keyed) (i j:Nat):Prop:=MgA c a b o i j/\i+1<a.size/\j<b.size/\N<=o.size
theorem zuP {st1:SortSt} {o:Array Keyed} {i j g u v N:Nat} {Q:ForInStep S6->SortSt->Prop} (hk:kindOf st1=c.kd) (ha:srt c a) (hb:srt c b) (oa:okA c a) (ob:okA c b)
  (hl: ∀ (o:Array Keyed) (i j:Nat),MgA c a b o i j->i+1=a.size->Fi c a b (o++b.extract j++a.extract i)) (m:Lo c a b N o i j)
  (d1: ∀ res t,Fi c a b res->Q (.done (some res,t)) st1) (d2: ∀ o i j t,Lo c a b (N+1) o i j->Q (.done (none,o,i,j,t)) st1/\Q (.yield (none,o,i,j,t)) st1):c.wp (A1 a b g o i j u v) Q st1:=by
 obtain ⟨m1,b1,b2,b3⟩:=m
 obtain ⟨y,ey,oy⟩:=zbt ob b2
 obtain ⟨z,ez,oz⟩:=zbt oa (i:=i) (by omega)
 refine qa2 (zbQ ey (qa2 (zbQ ez (qa2 (zlg hk oy oz ?_)))))
 refine zaD (fun eq=>qa2 (zbQ ey ?_)) (fun eq=>qa2 (zbQ ez ?_))
 ·have m2:=m1.pushB ha hb ez ey (Cx.le_of_lt eq)
  have d:=fun t q=>d2 _ _ _ t ⟨m2,b1,q,by rw [Array.size_push];omega⟩
  exact za6 (fun q=>qa3 (d1 _ _ (m2.done ha hb (.inr q)))) (fun q=>zaD (fun _=>qa3 (d _ (by omega)).1) (fun _=>qa3 (d _ (by omega)).2))
 ·have m2:=m1.pushA ha hb ez ey (by simpa [Cx.le] using eq)
  have d:=fun t q=>d2 _ _ _ t ⟨m2,q,b2,by rw [Array.size_push];omega⟩
  exact za6 (fun q=>qa3 (d1 _ _ (hl _ _ _ m2 q))) (fun q=>zaD (fun _=>qa3 (d _ (by omega)).1) (fun _=>qa3 (d _ (by omega)).2))
theorem zuU {st st1:SortSt} {o:Array Keyed} {i j g u v N:Nat} {Q:ForInStep S7->SortSt->Prop} (s0:Sm st st1) (hk:kindOf st=c.kd) (ha:srt c a) (hb:srt c b) (oa:okA c a) (ob:okA c b)
  (hl: ∀ (o:Array Keyed) (i j:Nat),MgA c a b o i j->i+1=a.size->Fi c a b (o++b.extract j++a.extract i)) (m:Lo c a b N o i j)
  (d1: ∀ st' res t,Sm st st'->Fi c a b res->Q (.done (some res,t)) st') (d2: ∀ st' o i j t,Sm st st'->Lo c a b N o i j->Q (.done (none,o,i,j,t)) st'/\Q (.yield (none,o,i,j,t)) st'):c.wp (A2 a b o i j g u v) Q st1:=by
 have E:=fun g=>Ex.mk (c:=c) (a:=a) (b:=b) (N:=N) (st:=SortSt.mk' (kindOf st1) (arrOf st1) (pendingOf st1) g (failedOf st1)) (Q:=Q) (fun res t f=>d1 _ res t (s0.g _) f) (fun o i j t m b1 b2 b3=>d2 _ o i j t (s0.g _) ⟨m,b1,b2,b3⟩) hl ha hb oa ob ((s0.g g).k.trans hk)
 exact zaD (fun _=>qa2 (zjV (zrQ (E _) m.1 m.2.1 m.2.2.1 m.2.2.2))) (fun _=>qa2 (zjV (zrQ (E _) m.1 m.2.1 m.2.2.1 m.2.2.2)))
theorem zum {st:SortSt} {Q:Array Keyed->SortSt->Prop} (hk:kindOf st=c.kd) (ha:srt c a) (hb:srt c b) (oa:okA c a) (ob:okA c b) (na:0<a.size) (nb:0<b.size)
  (hfirst: ∀ x y,a[0]? = some x->b[0]? = some y->c.le y x) (hlast: ∀ x,a[a.size - 1]? = some x-> ∀ y,y∈b.toList->c.le y x)
  (h: ∀ res st',Sm st st'->Fi c a b res->Q res st'):c.wp (ML a b) Q st:=by
 rw [zuC]
 obtain ⟨y0,ey0,oy0⟩:=zbt ob nb
 obtain ⟨x0,ex0,ox0⟩:=zbt oa na
 have hl: ∀ (o:Array Keyed) (i j:Nat),MgA c a b o i j->i+1=a.size->Fi c a b (o++b.extract j++a.extract i):=by
  intro o i j hm hi
  refine hm.last ha hb hi ?_
  intro x hx
  exact hlast x (by rw [<- hi];exact hx)
 have hst:MgA c a b #[y0] 0 1:=by
  have:=(MgA.mk (c:=c) (a:=a) (b:=b) (out:= #[]) (ia:=0) (ib:=0) ⟨List.Pairwise.nil,by simp,by simp,by simp⟩ rfl (Nat.zero_le _) (Nat.zero_le _)).pushB ha hb ex0 ey0 (hfirst _ _ ex0 ey0)
  exact this
 refine qa2 (zd8 (qa2 (zbQ ey0 (za6 (fun h1=>qa3 (h _ _ (Sm.refl _) (hst.done ha hb (.inr h1)))) (fun h1=>za6 (fun h2=>qa3 (h _ _ (Sm.refl _) (hl _ _ _ hst h2))) (fun h2=> ?_))))))
 refine qa2 (wpS_get ?_)
 refine qa2 (wpS_mono (wpS_forRange (I:=fun x r st'=>r.1=none/\Sm st st'/\Lo c a b (x+1) r.2.1 r.2.2.1 r.2.2.2.1) (Q:=fun r st'=> ∃ res,r.1=some res/\Sm st st'/\Fi c a b res) ?_ ?_ ⟨rfl,Sm.refl _,hst,show 0+1<a.size by omega,show 1<b.size by omega,qaV _⟩) ?_)
 ·rintro xo r st1 - hx1 ⟨-, s1,m1⟩
  refine qa2 (wpS_mono (wpS_forRange (I:=fun x r st'=>r.1=none/\Sm st st'/\Lo c a b (xo+1+x) r.2.1 r.2.2.1 r.2.2.2.1)
    (Q:=fun r st'=>(∃ res,r.1=some res/\Sm st st'/\Fi c a b res)\/(r.1=none/\Sm st st'/\Lo c a b (xo+2) r.2.1 r.2.2.1 r.2.2.2.1)) ?_ ?_ ⟨rfl,s1,m1⟩) ?_)
  ·rintro x r st1 - hx2 ⟨-, s1,m1⟩
   refine zuP (s1.k.trans hk) ha hb oa ob hl m1 (fun res t f=> .inl ⟨res,rfl,s1,f⟩) fun o i j t m=>⟨.inr ⟨rfl,s1,m.1,m.2.1,m.2.2.1,?_⟩,⟨rfl,s1,m⟩⟩
   have:=m.2.2.2
   show xo+2<=o.size
   omega
  ·rintro r st1 ⟨e,s1,m1,b1,b2,b3⟩
   refine .inr ⟨e,s1,m1,b1,b2,?_⟩
   omega
  ·rintro ⟨r,t⟩ st1 (⟨res,e,s1,f1⟩ | ⟨e,s1,m1⟩)
   ·cases e
    exact qa3 ⟨res,rfl,s1,f1⟩
   cases e
   refine qa2 (zd8 ?_)
   refine qa2 (wpS_mono (wpS_forRange (I:=fun x r st'=>r.1=none/\Sm st st'/\Lo c a b (xo+2) r.2.1 r.2.2.1 r.2.2.2.1)
     (Q:=fun r st'=>(∃ res,r.1=some res/\Sm st st'/\Fi c a b res)\/(r.1=none/\Sm st st'/\Lo c a b (xo+2) r.2.1 r.2.2.1 r.2.2.2.1)) ?_ ?_ ⟨rfl,s1,m1⟩) ?_)
   ·rintro x r st1 - hx2 ⟨-, s0,m1⟩
    exact zuU s0 hk ha hb oa ob hl m1 (fun st' res t s0 f=> .inl ⟨res,rfl,s0,f⟩) (fun st' o i j t s0 m=>⟨.inr ⟨rfl,s0,m⟩,⟨rfl,s0,m⟩⟩)
   ·rintro r st1 ⟨e,s1,m1⟩
    exact .inr ⟨e,s1,m1⟩
   ·rintro ⟨r,t⟩ st1 (⟨res,e,s1,f1⟩ | ⟨e,s1,m1⟩)
    ·cases e
     exact qa3 ⟨res,rfl,s1,f1⟩
    cases e
    exact qa2 (zjV (qa3 ⟨rfl,s1.g _,m1⟩))
 ·rintro r st1 ⟨e,s1,m1,b1,b2,b3⟩
  have z1:=m1.z
  omega
 ·rintro ⟨r,t⟩ st1 ⟨res,e,s1,f1⟩
  cases e
  exact qa3 (h _ _ s1 f1)
end
end TS
end
section
namespace TS
set_option autoImplicit false
open PySem PyProof PyProof.Rows
section
variable {c:Cx} {a b out:Array Keyed} {na nb at':Nat}
structure MgH (c:Cx) (a b out:Array Keyed) (na nb:Nat):Prop where
 m:Mg (fun x y=>c.le y x) out.toList (a.toList.take na).reverse (b.toList.take nb).reverse (a.toList++b.toList)
 z:out.size+na+nb=a.size+b.size
 la:na<=a.size
 lb:nb<=b.size
theorem zft {l:List Keyed} {i n:Nat} (h:i<=n):(l.take n).reverse=((l.take n).drop i).reverse++(l.take i).reverse:=by
 rw [<- List.reverse_append]
 congr 1
 have:l.take i=(l.take n).take i:=by rw [List.take_take,Nat.min_eq_left h]
 rw [this,qam]
theorem zhe {l:Array Keyed} (n:Nat) (h:srt c l):((l.toList.take n).reverse).Pairwise (fun x y=>c.le y x):=by
 rw [List.pairwise_reverse]
 exact List.Pairwise.sublist (List.take_sublist _ _) h
theorem zcU {l:List Keyed} {i n:Nat} {x:Keyed} (h:x∈((l.take n).drop i).reverse): ∃ j,i<=j/\j<n/\l[j]? = some x:=by
 rw [List.mem_reverse] at h
 obtain ⟨j,e⟩:=zfY h
 have hj:=qac.mp e
 obtain ⟨hj,e2⟩:=hj
 rw [List.length_take] at hj
 rw [List.getElem_take] at e2
 exact ⟨i+j,by omega,by omega,by rw [qaf (by omega),e2]⟩
theorem zee {l:List Keyed} {n:Nat} {x:Keyed} (h:x∈(l.take n).reverse): ∃ j,j<n/\l[j]? = some x:=by
 obtain ⟨j,_,h2,h3⟩:=zcU (i:=0) (by simpa using h)
 exact ⟨j,h2,h3⟩
theorem zlr {i n:Nat}:(out++(a.extract i n).reverse).toList=out.toList++((a.toList.take n).drop i).reverse:=by
 simp [List.extract,List.drop_take]
theorem MgH.appA (h:MgH c a b out na nb) (ha:srt c a) (hb:srt c b) {y:Keyed} (n0:0<nb) (hy:b[nb - 1]? = some y) (hk:at'<=na)
  (hx: ∀ i x,at'<=i->i<na->a[i]? = some x->c.le y x):MgH c a b (out++(a.extract at' na).reverse) at' nb:=by
 have hla:=h.la
 refine ⟨?_,?_,by omega,h.lb⟩
 ·have hm:=h.m
  have hp:=zhe na ha
  rw [zft hk] at hm hp
  rw [zlr]
  refine hm.stepL hp ?_
  intro x hxm z hz
  obtain ⟨j,j1,j2,ej⟩:=zcU hxm
  obtain ⟨i,i1,ei⟩:=zee hz
  rw [qaj] at ej ei
  exact Cx.le_trans (zek hb (by omega) ei hy) (hx j x j1 j2 ej)
 ·have:=h.z
  rw [Array.size_append,Array.size_reverse,qaz]
  omega
theorem MgH.appB (h:MgH c a b out na nb) (ha:srt c a) (hb:srt c b) {x:Keyed} (n0:0<na) (hx:a[na - 1]? = some x) (hk:at'<=nb)
  (hy: ∀ i y,at'<=i->i<nb->b[i]? = some y->c.le x y):MgH c a b (out++(b.extract at' nb).reverse) na at':=by
 have hlb:=h.lb
 refine ⟨?_,?_,h.la,by omega⟩
 ·have hm:=h.m.symm
  have hp:=zhe nb hb
  rw [zft hk] at hm hp
  rw [zlr]
  refine (hm.stepL hp ?_).symm
  intro y hym z hz
  obtain ⟨j,j1,j2,ej⟩:=zcU hym
  obtain ⟨i,i1,ei⟩:=zee hz
  rw [qaj] at ej ei
  exact Cx.le_trans (zek ha (by omega) ei hx) (hy j y j1 j2 ej)
 ·have:=h.z
  rw [Array.size_append,Array.size_reverse,qaz]
  omega
theorem ziM {x:Keyed} (n0:0<na) (hx:a[na - 1]? = some x):out.push x=out++(a.extract (na - 1) na).reverse:=by
 rw [zf2 hx,Nat.sub_add_cancel n0]
 congr 1
 apply Array.ext'
 obtain ⟨hi,rfl⟩:=qab.mp hx
 rw [Array.toList_reverse]
 simp only [Array.toList_extract,List.extract]
 rw [show na - (na - 1)=1 by omega,qae (by simpa using hi)]
 simp
theorem MgH.pushA (h:MgH c a b out na nb) (ha:srt c a) (hb:srt c b) {x y:Keyed} (n0:0<nb) (n1:0<na) (hx:a[na - 1]? = some x) (hy:b[nb - 1]? = some y) (hxy:c.le y x):MgH c a b (out.push x) (na - 1) nb:=by
 rw [ziM n1 hx]
 refine h.appA ha hb n0 hy (Nat.sub_le _ _) ?_
 intro i z h1 h2 hz
 have:i=na - 1:=by omega
 subst this
 rw [hx] at hz
 cases hz
 exact hxy
theorem MgH.pushB (h:MgH c a b out na nb) (ha:srt c a) (hb:srt c b) {x y:Keyed} (n0:0<nb) (n1:0<na) (hx:a[na - 1]? = some x) (hy:b[nb - 1]? = some y) (hxy:c.le x y):MgH c a b (out.push y) na (nb - 1):=by
 rw [ziM n0 hy]
 refine h.appB ha hb n1 hx (Nat.sub_le _ _) ?_
 intro i z h1 h2 hz
 have:i=nb - 1:=by omega
 subst this
 rw [hy] at hz
 cases hz
 exact hxy
theorem zlM {r:List Keyed} {O L R T:List Keyed} (h:Mg (fun x y=>c.le y x) O L R T) (hs:(L++R).Pairwise (fun x y=>c.le y x)) (e:r=(O++(L++R)).reverse):r.Pairwise c.le/\r.Perm T:=by
 obtain ⟨h1,h2⟩:=h.fin hs
 subst e
 exact ⟨by rw [List.pairwise_reverse];exact h1,(List.reverse_perm _).trans h2⟩
theorem MgH.done (h:MgH c a b out na nb) (ha:srt c a) (hb:srt c b) (he:na=0\/nb=0):Fi c a b (a.extract 0 na++b.extract 0 nb++out.reverse):=by
 have hs:((b.toList.take nb).reverse++(a.toList.take na).reverse).Pairwise (fun x y=>c.le y x):=by
  rcases he with he | he
  ·subst he;simpa using zhe nb hb
  ·subst he;simpa using zhe na ha
 exact zlM h.m.symm hs (by simp [List.extract])
theorem MgH.first (h:MgH c a b out na nb) (ha:srt c a) (_hb:srt c b) (he:nb=1) (hl: ∀ y,b[0]? = some y-> ∀ x,x∈a.toList->c.le y x):Fi c a b (b.extract 0 nb++a.extract 0 na++out.reverse):=by
 subst he
 have hlb:=h.lb
 have ed:b.toList.take 1=[b[0]]:=by
  obtain ⟨l⟩:=b
  cases l with
  | nil=>simp at hlb
  | cons x l=>simp
 have hs:((a.toList.take na).reverse++(b.toList.take 1).reverse).Pairwise (fun x y=>c.le y x):=by
  rw [ed,qaq]
  refine ⟨zhe na ha,List.pairwise_singleton _ _,?_⟩
  intro x hx y hy
  rw [List.mem_singleton.mp hy]
  exact hl _ (getElem?_pos b 0 (by omega)) x (List.mem_of_mem_take (List.mem_reverse.mp hx))
 exact zlM h.m hs (by simp [List.extract])
noncomputable abbrev H5:=Option (Array Keyed)×Nat×Nat×Array Keyed×Nat
noncomputable abbrev H6:=Option (Array Keyed)×Nat×Nat×Array Keyed×Nat×Nat
noncomputable abbrev H7:=Option (Array Keyed)×Nat×Nat×Array Keyed×Nat×Nat×Nat
def Hi (c:Cx) (a b:Array Keyed) (N:Nat) (p q:Nat) (o:Array Keyed):Prop:=MgH c a b o p q/\0<p/\1<q/\N<=o.size
structure Ey (c:Cx) (a b:Array Keyed) (N:Nat) (Q:ForInStep H7->SortSt->Prop) (st:SortSt):Prop where
 d1: ∀ res t,Fi c a b res->Q (.done (some res,t)) st
 d2: ∀ p q o t,Hi c a b N p q o->Q (.done (none,p,q,o,t)) st/\Q (.yield (none,p,q,o,t)) st
 hl: ∀ (o:Array Keyed) (i j:Nat),MgH c a b o i j->j=1->Fi c a b (b.extract 0 j++a.extract 0 i++o.reverse)
 ha:srt c a
 hb:srt c b
 oa:okA c a
 ob:okA c b
 hk:kindOf st=c.kd
noncomputable def U4 (a b:Array Keyed) (p q:Nat) (o:Array Keyed) (g k l:Nat):StateT SortSt Sem (ForInStep H7):=El a (p - 1)>>=fun z=>
 if (p - 1==0)=true then pure (.done (some (a.extract 0 (p - 1)++b.extract 0 q++(o.push z).reverse),p - 1,q,o.push z,g,k,l))
 else if (decide (k<7) && decide (l<7))=true then pure (.done (none,p - 1,q,o.push z,g,k,l)) else pure (.yield (none,p - 1,q,o.push z,g,k,l))
noncomputable def U3 (a b:Array Keyed) (p q:Nat) (o:Array Keyed) (g k v:Nat):StateT SortSt Sem (ForInStep H7):=El b (q - 1)>>=fun y=>
 if (q - 1==1)=true then pure (.done (some (b.extract 0 (q - 1)++a.extract 0 p++(o.push y).reverse),p,q - 1,o.push y,g,k,v))
 else El a (p - 1)>>=fun z=>Ga true z b 0 (q - 1) (q - 1 - 1)>>=fun x=>match x with
  | some l=>if q - 1 - l>0 then
    if (l==1)=true then pure (.done (some (b.extract 0 l++a.extract 0 p++(o.push y++(b.extract l (q - 1)).reverse).reverse),p,l,o.push y++(b.extract l (q - 1)).reverse,g,k,q - 1 - l))
    else if (l==0)=true then pure (.done (some (a.extract 0 p++b.extract 0 l++(o.push y++(b.extract l (q - 1)).reverse).reverse),p,l,o.push y++(b.extract l (q - 1)).reverse,g,k,q - 1 - l))
    else U4 a b p l (o.push y++(b.extract l (q - 1)).reverse) g k (q - 1 - l)
   else U4 a b p (q - 1) (o.push y) g k (q - 1 - l)
  | _=>pure (.done (some (a.extract 0 p++b.extract 0 (q - 1)++(o.push y).reverse),p,q - 1,o.push y,g,k,v))
noncomputable def U2 (a b:Array Keyed) (p q:Nat) (o:Array Keyed) (g u v:Nat):StateT SortSt Sem (ForInStep H7):=El b (q - 1)>>=fun y=>Ga false y a 0 p (p - 1)>>=fun x=>match x with
  | some k=>if p - k>0 then
    if (k==0)=true then pure (.done (some (a.extract 0 k++b.extract 0 q++(o++(a.extract k p).reverse).reverse),k,q,o++(a.extract k p).reverse,g,p - k,v))
    else U3 a b k q (o++(a.extract k p).reverse) g (p - k) v
   else U3 a b p q o g (p - k) v
  | _=>pure (.done (some (a.extract 0 p++b.extract 0 q++o.reverse),p,q,o,g,u,v))
noncomputable def Z1 (a b:Array Keyed) (g:Nat) (p q:Nat) (o:Array Keyed) (u v:Nat):StateT SortSt Sem (ForInStep H6):=El b (q - 1)>>=fun y=>El a (p - 1)>>=fun z=>Lt y z>>=fun x=>match x with
 | some w=>if w=true then El a (p - 1)>>=fun z=>if (p - 1==0)=true then pure (.done (some (a.extract 0 (p - 1)++b.extract 0 q++(o.push z).reverse),p - 1,q,o.push z,u+1,0)) else if u+1>=g then pure (.done (none,p - 1,q,o.push z,u+1,0)) else pure (.yield (none,p - 1,q,o.push z,u+1,0))
  else El b (q - 1)>>=fun y=>if (q - 1==1)=true then pure (.done (some (b.extract 0 (q - 1)++a.extract 0 p++(o.push y).reverse),p,q - 1,o.push y,0,v+1)) else if v+1>=g then pure (.done (none,p,q - 1,o.push y,0,v+1)) else pure (.yield (none,p,q - 1,o.push y,0,v+1))
 | _=>pure (.done (some (a.extract 0 p++b.extract 0 q++o.reverse),p,q,o,u,v))
noncomputable def Z2 (a b:Array Keyed) (p q:Nat) (o:Array Keyed) (g u v:Nat):StateT SortSt Sem (ForInStep H7):=
 if g>1 then Sg (g - 1)>>=fun _=>U2 a b p q o (g - 1) u v else Sg g>>=fun _=>U2 a b p q o g u v
noncomputable def Z5 (r:H7):StateT SortSt Sem (ForInStep H5):=match r.1 with
 | some x=>pure (.done (some x,r.2.1,r.2.2.1,r.2.2.2.1,r.2.2.2.2.1))
 | none=>Sg (r.2.2.2.2.1+1)>>=fun _=>pure (.yield (none,r.2.1,r.2.2.1,r.2.2.2.1,r.2.2.2.2.1+1))
noncomputable def Z4 (a b:Array Keyed) (g:Nat) (r:H6):StateT SortSt Sem (ForInStep H5):=match r.1 with
 | some x=>pure (.done (some x,r.2.1,r.2.2.1,r.2.2.2.1,g))
 | none=>(liftM (rule "list.sort.gallop"):StateT SortSt Sem Unit)>>=fun _=>forIn [0:a.size+b.size] ((none,r.2.1,r.2.2.1,r.2.2.2.1,g+1,r.2.2.2.2.1,r.2.2.2.2.2):H7) (fun _ r=>Z2 a b r.2.1 r.2.2.1 r.2.2.2.1 r.2.2.2.2.1 r.2.2.2.2.2.1 r.2.2.2.2.2.2)>>=fun r=>Z5 r
noncomputable def Z3 (a b:Array Keyed) (p q:Nat) (o:Array Keyed) (g:Nat):StateT SortSt Sem (ForInStep H5):=
 forIn [0:a.size+b.size] ((none,p,q,o,0,0):H6) (fun _ r=>Z1 a b g r.2.1 r.2.2.1 r.2.2.2.1 r.2.2.2.2.1 r.2.2.2.2.2)>>=fun r=>Z4 a b g r
noncomputable def MH' (a b:Array Keyed):StateT SortSt Sem (Array Keyed):=(liftM (rule "list.sort.merge-hi"):StateT SortSt Sem Unit)>>=fun _=>El a (a.size - 1)>>=fun z=>
 if (a.size - 1==0)=true then pure (a.extract 0 (a.size - 1)++b.extract 0 b.size++(#[z]:Array Keyed).reverse) else if (b.size==1)=true then pure (b.extract 0 b.size++a.extract 0 (a.size - 1)++(#[z]:Array Keyed).reverse)
 else get>>=fun st=>forIn [0:a.size+b.size] ((none,a.size - 1,b.size, #[z],zu6 st):H5) (fun _ r=>Z3 a b r.2.1 r.2.2.1 r.2.2.2.1 r.2.2.2.2)>>=fun r=>match r.1 with
  | some x=>pure x
  | none=>liftM (unsupported "internal:list.sort.merge-bound":Sem (Array Keyed))
theorem zuu (a b:Array Keyed):MH a b=MH' a b:=by
 refine bnd rfl fun _=>bnd rfl fun y=> ?_
 by_cases h1:(a.size - 1==0)=true
 ·exact (qa4 h1).trans (qa4 h1).symm
 refine (qa5 h1).trans (Eq.trans ?_ (qa5 h1).symm)
 by_cases h2:(b.size==1)=true
 ·exact (qa4 h2).trans (qa4 h2).symm
 refine (qa5 h2).trans (Eq.trans ?_ (qa5 h2).symm)
 refine bnd rfl fun st=>bnd (zmI fun _ r=> ?_) fun r=> ?_
 ·refine bnd (zmI fun _ r=> ?_) fun r'=> ?_
  ·rfl
  ·obtain ⟨q,r'⟩:=r'
   cases q with
   | some x=>rfl
   | none=>
    refine bnd rfl fun _=>bnd (zmI fun _ r=> ?_) fun r3=> ?_
    ·rfl
    ·obtain ⟨q,r'⟩:=r3
     cases q with
     | some x=>rfl
     | none=>rfl
 ·obtain ⟨q,r⟩:=r
  cases q with
  | some x=>rfl
  | none=>rfl
section
variable {N:Nat} {Q:ForInStep H7->SortSt->Prop} {st:SortSt} {o:Array Keyed} {p q g k l u v:Nat}
theorem zrO (x:Ey c a b N Q st) (m:Hi c a b N p q o) {z w:Keyed} (ew:b[q - 1]? = some w) (ez:a[p - 1]? = some z) (lwz:c.le w z):c.wp (U4 a b p q o g k l) Q st:=by
 obtain ⟨m,b1,b2,b3⟩:=m
 refine qa2 (zbQ ez ?_)
 have m2:=m.pushA x.ha x.hb (by omega) b1 ez ew lwz
 have d:=fun b1=>x.d2 _ _ _ (g,k,l) ⟨m2,b1,b2,by rw [Array.size_push];omega⟩
 exact za6 (fun p3=>qa3 (x.d1 _ _ (m2.done x.ha x.hb (.inl p3)))) (fun p3=>zaD (fun _=>qa3 (d (by omega)).1) (fun _=>qa3 (d (by omega)).2))
theorem zr5 (x:Ey c a b N Q st) (m:Hi c a b N p q o) {y z:Keyed} (ey:b[q - 1]? = some y) (ez:a[p - 1]? = some z) (oz:c.ok z.1) (lzy:c.le z y):c.wp (U3 a b p q o g k v) Q st:=by
 obtain ⟨m,b1,b2,b3⟩:=m
 have lb:=m.lb
 refine qa2 (zbQ ey ?_)
 have m2:=m.pushB x.ha x.hb (by omega) b1 ez ey lzy
 have b4:N<=(o.push y).size:=by rw [Array.size_push];omega
 refine za6 (fun t=>qa3 (x.d1 _ _ (x.hl _ _ _ m2 t))) (fun t=> ?_)
 refine qa2 (zbQ ez (qa2 (ziQ x.hk x.hb x.ob oz (by omega) (by omega) ?_)))
 intro l hl1 hl2 hl3
 simp only [Nat.zero_add] at hl2 hl3
 have m3:=m2.appB x.ha x.hb b1 ez hl1 (fun i y h1 h2 hy=>hl3 i y h1 h2 hy)
 refine zaD (fun l0=>za6 (fun t2=>qa3 (x.d1 _ _ (x.hl _ _ _ m3 t2))) (fun t2=>za6 (fun t3=>qa3 (x.d1 _ _ (m3.done x.ha x.hb (.inr t3)))) (fun t3=> ?_))) (fun l0=> ?_)
 ·obtain ⟨f,ef,of⟩:=zbt x.ob (i:=l - 1) (by omega)
  exact zrO x ⟨m3,b1,by omega,by rw [Array.size_append];omega⟩ ef ez (Cx.le_of_lt (hl2 (l - 1) f (by omega) ef))
 ·have el:l=q - 1:=by omega
  subst el
  obtain ⟨f,ef,of⟩:=zbt x.ob (i:=q - 1 - 1) (by omega)
  exact zrO x ⟨m2,b1,by omega,b4⟩ ef ez (Cx.le_of_lt (hl2 _ f (by omega) ef))
theorem zre (x:Ey c a b N Q st) (m:Hi c a b N p q o):c.wp (U2 a b p q o g u v) Q st:=by
 obtain ⟨m,b1,b2,b3⟩:=m
 have la:=m.la
 have lb:=m.lb
 obtain ⟨y,ey,oy⟩:=zbt x.ob (i:=q - 1) (by omega)
 refine qa2 (zbQ ey (qa2 (zqE x.hk oy (by omega) (fun i j x' z hij _ hx hz=>zek x.ha (by omega) hx hz) (fun i hi=>zbt x.oa (by omega)) ?_)))
 intro k hk1 hk2 hk3
 simp only [Nat.zero_add] at hk2 hk3
 have m2:=m.appA x.ha x.hb (by omega) ey hk1 (fun i x h1 h2 hx=>Cx.le_of_lt (hk3 i x h1 h2 hx))
 refine zaD (fun k0=>za6 (fun w=>qa3 (x.d1 _ _ (m2.done x.ha x.hb (.inl w)))) (fun w=> ?_)) (fun k0=> ?_)
 ·obtain ⟨z,ez,oz⟩:=zbt x.oa (i:=k - 1) (by omega)
  exact zr5 x ⟨m2,by omega,b2,by rw [Array.size_append];omega⟩ ey ez oz (hk2 (k - 1) z (by omega) ez)
 ·have ek:k=p:=by omega
  subst ek
  obtain ⟨z,ez,oz⟩:=zbt x.oa (i:=k - 1) (by omega)
  exact zr5 x ⟨m,b1,b2,b3⟩ ey ez oz (hk2 (k - 1) z (by omega) ez)
end
theorem ztJ {st1:SortSt} {o:Array Keyed} {p q g u v N:Nat} {Q:ForInStep H6->SortSt->Prop} (hk:kindOf st1=c.kd) (ha:srt c a) (hb:srt c b) (oa:okA c a) (ob:okA c b)
  (hl: ∀ (o:Array Keyed) (i j:Nat),MgH c a b o i j->j=1->Fi c a b (b.extract 0 j++a.extract 0 i++o.reverse)) (m:Hi c a b N p q o)
  (d1: ∀ res t,Fi c a b res->Q (.done (some res,t)) st1) (d2: ∀ p q o t,Hi c a b (N+1) p q o->Q (.done (none,p,q,o,t)) st1/\Q (.yield (none,p,q,o,t)) st1):c.wp (Z1 a b g p q o u v) Q st1:=by
 obtain ⟨m1,b1,b2,b3⟩:=m
 have la:=m1.la
 have lb:=m1.lb
 obtain ⟨y,ey,oy⟩:=zbt ob (i:=q - 1) (by omega)
 obtain ⟨z,ez,oz⟩:=zbt oa (i:=p - 1) (by omega)
 refine qa2 (zbQ ey (qa2 (zbQ ez (qa2 (zlg hk oy oz ?_)))))
 refine zaD (fun eq=>qa2 (zbQ ez ?_)) (fun eq=>qa2 (zbQ ey ?_))
 ·have m2:=m1.pushA ha hb (by omega) b1 ez ey (Cx.le_of_lt eq)
  have d:=fun t w=>d2 _ _ _ t ⟨m2,w,b2,by rw [Array.size_push];omega⟩
  exact za6 (fun w=>qa3 (d1 _ _ (m2.done ha hb (.inl w)))) (fun w=>zaD (fun _=>qa3 (d _ (by omega)).1) (fun _=>qa3 (d _ (by omega)).2))
 ·have m2:=m1.pushB ha hb (by omega) b1 ez ey (by simpa [Cx.le] using eq)
  have d:=fun t w=>d2 _ _ _ t ⟨m2,b1,w,by rw [Array.size_push];omega⟩
  exact za6 (fun w=>qa3 (d1 _ _ (hl _ _ _ m2 w))) (fun w=>zaD (fun _=>qa3 (d _ (by omega)).1) (fun _=>qa3 (d _ (by omega)).2))
theorem ztC {st st1:SortSt} {o:Array Keyed} {p q g u v N:Nat} {Q:ForInStep H7->SortSt->Prop} (s0:Sm st st1) (hk:kindOf st=c.kd) (ha:srt c a) (hb:srt c b) (oa:okA c a) (ob:okA c b)
  (hl: ∀ (o:Array Keyed) (i j:Nat),MgH c a b o i j->j=1->Fi c a b (b.extract 0 j++a.extract 0 i++o.reverse)) (m:Hi c a b N p q o)
  (d1: ∀ st' res t,Sm st st'->Fi c a b res->Q (.done (some res,t)) st') (d2: ∀ st' p q o t,Sm st st'->Hi c a b N p q o->Q (.done (none,p,q,o,t)) st'/\Q (.yield (none,p,q,o,t)) st'):c.wp (Z2 a b p q o g u v) Q st1:=by
 have E:=fun g=>Ey.mk (c:=c) (a:=a) (b:=b) (N:=N) (st:=SortSt.mk' (kindOf st1) (arrOf st1) (pendingOf st1) g (failedOf st1)) (Q:=Q) (fun res t f=>d1 _ res t (s0.g _) f) (fun p q o t m=>d2 _ p q o t (s0.g _) m) hl ha hb oa ob ((s0.g g).k.trans hk)
 exact zaD (fun _=>qa2 (zjV (zre (E _) m))) (fun _=>qa2 (zjV (zre (E _) m)))
theorem ztK {st:SortSt} {Q:Array Keyed->SortSt->Prop} (hk:kindOf st=c.kd) (ha:srt c a) (hb:srt c b) (oa:okA c a) (ob:okA c b) (na:0<a.size) (nb:0<b.size)
  (hfirst: ∀ y,b[0]? = some y-> ∀ x,x∈a.toList->c.le y x) (hlast: ∀ x y,a[a.size - 1]? = some x->b[b.size - 1]? = some y->c.le y x)
  (h: ∀ res st',Sm st st'->Fi c a b res->Q res st'):c.wp (MH a b) Q st:=by
 rw [zuu]
 obtain ⟨y0,ey0,oy0⟩:=zbt ob (i:=b.size - 1) (by omega)
 obtain ⟨x0,ex0,ox0⟩:=zbt oa (i:=a.size - 1) (by omega)
 have hl: ∀ (o:Array Keyed) (i j:Nat),MgH c a b o i j->j=1->Fi c a b (b.extract 0 j++a.extract 0 i++o.reverse):=fun o i j hm hi=>hm.first ha hb hi hfirst
 have hst:MgH c a b #[x0] (a.size - 1) b.size:=by
  have:=(MgH.mk (c:=c) (a:=a) (b:=b) (out:= #[]) (na:=a.size) (nb:=b.size) ⟨List.Pairwise.nil,by simp,by simp,by
    simp only [List.nil_append]
    rw [<- qas, <-qas,List.take_length,List.take_length]
    exact (List.reverse_perm _).append (List.reverse_perm _)⟩ (by simp) (qaV _) (qaV _)).pushA ha hb nb na ex0 ey0 (hlast _ _ ex0 ey0)
  exact this
 refine qa2 (zd8 (qa2 (zbQ ex0 (za6 (fun h1=>qa3 (h _ _ (Sm.refl _) (hst.done ha hb (.inl h1)))) (fun h1=>za6 (fun h2=>qa3 (h _ _ (Sm.refl _) (hl _ _ _ hst h2))) (fun h2=> ?_))))))
 refine qa2 (wpS_get ?_)
 refine qa2 (wpS_mono (wpS_forRange (I:=fun x r st'=>r.1=none/\Sm st st'/\Hi c a b (x+1) r.2.1 r.2.2.1 r.2.2.2.1) (Q:=fun r st'=> ∃ res,r.1=some res/\Sm st st'/\Fi c a b res) ?_ ?_ ⟨rfl,Sm.refl _,hst,show 0<a.size - 1 by omega,show 1<b.size by omega,qaV _⟩) ?_)
 ·rintro xo r st1 - hx1 ⟨-, s1,m1⟩
  refine qa2 (wpS_mono (wpS_forRange (I:=fun x r st'=>r.1=none/\Sm st st'/\Hi c a b (xo+1+x) r.2.1 r.2.2.1 r.2.2.2.1)
    (Q:=fun r st'=>(∃ res,r.1=some res/\Sm st st'/\Fi c a b res)\/(r.1=none/\Sm st st'/\Hi c a b (xo+2) r.2.1 r.2.2.1 r.2.2.2.1)) ?_ ?_ ⟨rfl,s1,m1⟩) ?_)
  ·rintro x r st1 - hx2 ⟨-, s1,m1⟩
   refine ztJ (s1.k.trans hk) ha hb oa ob hl m1 (fun res t f=> .inl ⟨res,rfl,s1,f⟩) fun p q o t m=>⟨.inr ⟨rfl,s1,m.1,m.2.1,m.2.2.1,?_⟩,⟨rfl,s1,m⟩⟩
   have:=m.2.2.2
   show xo+2<=o.size
   omega
  ·rintro r st1 ⟨e,s1,m1,b1,b2,b3⟩
   refine .inr ⟨e,s1,m1,b1,b2,?_⟩
   omega
  ·rintro ⟨r,t⟩ st1 (⟨res,e,s1,f1⟩ | ⟨e,s1,m1⟩)
   ·cases e
    exact qa3 ⟨res,rfl,s1,f1⟩
   cases e
   refine qa2 (zd8 ?_)
   refine qa2 (wpS_mono (wpS_forRange (I:=fun x r st'=>r.1=none/\Sm st st'/\Hi c a b (xo+2) r.2.1 r.2.2.1 r.2.2.2.1)
     (Q:=fun r st'=>(∃ res,r.1=some res/\Sm st st'/\Fi c a b res)\/(r.1=none/\Sm st st'/\Hi c a b (xo+2) r.2.1 r.2.2.1 r.2.2.2.1)) ?_ ?_ ⟨rfl,s1,m1⟩) ?_)
   ·rintro x r st1 - hx2 ⟨-, s0,m1⟩
    exact ztC s0 hk ha hb oa ob hl m1 (fun st' res t s0 f=> .inl ⟨res,rfl,s0,f⟩) (fun st' p q o t s0 m=>⟨.inr ⟨rfl,s0,m⟩,⟨rfl,s0,m⟩⟩)
   ·rintro r st1 ⟨e,s1,m1⟩
    exact .inr ⟨e,s1,m1⟩
   ·rintro ⟨r,t⟩ st1 (⟨res,e,s1,f1⟩ | ⟨e,s1,m1⟩)
    ·cases e
     exact qa3 ⟨res,rfl,s1,f1⟩
    cases e
    exact qa2 (zjV (qa3 ⟨rfl,s1.g _,m1⟩))
 ·rintro r st1 ⟨e,s1,m1,b1,b2,b3⟩
  have z1:=m1.z
  omega
 ·rintro ⟨r,t⟩ st1 ⟨res,e,s1,f1⟩
  cases e
  exact qa3 (h _ _ s1 f1)
end
end TS
end
section
namespace TS
set_option autoImplicit false
open PySem PyProof PyProof.Rows
noncomputable abbrev MAt:Nat->StateT SortSt Sem Bool:=sortPriv% PySem.Builtin.mergeAt
theorem zoS {s:Nat}: ∀ (l:List Keyed) (n:Nat) (xs:Array Keyed),s+n+l.length<=xs.size-> ∀ k:Nat,
  ((l.zipIdx n).foldl (fun a x=>a.setIfInBounds (s+x.2) x.1) xs)[k]? = if s+n<=k/\k<s+n+l.length then l[k - (s+n)]? else xs[k]?
 | [],n,xs,_,k=>by rw [qa5 (by simp)];rfl
 | x::l,n,xs,h,k=>by
  rw [qaE] at h
  rw [List.zipIdx_cons,List.foldl_cons,zoS l (n+1) _ (by rw [Array.size_setIfInBounds];omega)]
  dsimp only
  rw [qaE,Array.getElem?_setIfInBounds]
  by_cases h1:k=s+n
  ·subst h1
   rw [qa5 (by omega),qa4 rfl,qa4 (by omega),qa4 (by omega),Nat.sub_self]
   rfl
  ·by_cases h2:s+n<=k/\k<s+n+(l.length+1)
   ·rw [qa4 h2,qa4 (by omega)]
    obtain ⟨d,hd⟩: ∃ d,k - (s+n)=d+1:=⟨k - (s+n) - 1,by omega⟩
    rw [hd,List.getElem?_cons_succ]
    congr 1
    omega
   ·rw [qa5 h2,qa5 (by omega),qa5 (by omega)]
structure Loc (xs ys:Array Keyed) (lo hi:Nat):Prop where
 p:ys.toList.Perm xs.toList
 o: ∀ i,i<lo\/hi<=i->ys[i]? = xs[i]?
theorem Loc.refl (xs:Array Keyed) (lo hi:Nat):Loc xs xs lo hi:=⟨List.Perm.refl _,fun _ _=>rfl⟩
theorem Loc.trans {xs ys zs:Array Keyed} {lo hi:Nat} (h:Loc xs ys lo hi) (h2:Loc ys zs lo hi):Loc xs zs lo hi:=⟨h2.p.trans h.p,fun i hi=>(h2.o i hi).trans (h.o i hi)⟩
theorem Loc.size {xs ys:Array Keyed} {lo hi:Nat} (h:Loc xs ys lo hi):ys.size=xs.size:=by simpa using h.p.length_eq
theorem Loc.wide {xs ys:Array Keyed} {lo hi lo' hi':Nat} (h:Loc xs ys lo hi) (h1:lo'<=lo) (h2:hi<=hi'):Loc xs ys lo' hi':=⟨h.p,fun i hi=>h.o i (by omega)⟩
section
variable {c:Cx}
def sg (c:Cx) (xs:Array Keyed) (lo hi:Nat):Prop:= ∀ i j x y,lo<=i->i<=j->j<hi->xs[i]? = some x->xs[j]? = some y->c.le x y
theorem zk7 {xs:Array Keyed} {lo hi:Nat} (h:sg c xs lo hi) (hi2:hi<=xs.size):srt c (xs.extract lo hi):=by
 unfold srt
 rw [List.pairwise_iff_getElem]
 intro i j hi1 hj1 hij
 simp only [qas,qaz] at hi1 hj1
 have e: ∀ m (hm:m<(xs.extract lo hi).toList.length),xs[lo+m]? = some (xs.extract lo hi).toList[m]:=by
  intro m hm
  simp only [qas,qaz] at hm
  rw [Array.getElem_toList,Array.getElem_extract]
  exact getElem?_pos _ _ _
 exact h (lo+i) (lo+j) _ _ (by omega) (by omega) (by omega) (e i _) (e j _)
theorem zeX {xs:Array Keyed} {lo hi:Nat} {x:Keyed} (h:x∈(xs.extract lo hi).toList): ∃ p,lo<=p/\p<hi/\xs[p]? = some x:=by
 obtain ⟨m,hm,e⟩:=List.getElem_of_mem h
 simp only [qas,qaz] at hm
 rw [Array.getElem_toList,Array.getElem_extract] at e
 exact ⟨lo+m,by omega,by omega,by rw [<- e];exact getElem?_pos _ _ _⟩
theorem zd0 {xs:Array Keyed} {lo hi i:Nat} {x:Keyed} (h:(xs.extract lo hi)[i]? = some x):lo+i<hi/\xs[lo+i]? = some x:=by
 obtain ⟨hm,e⟩:=qab.mp h
 simp only [qaz] at hm
 rw [Array.getElem_extract] at e
 exact ⟨by omega,by rw [<- e];exact getElem?_pos _ _ _⟩
theorem zji {xs:Array Keyed} {lo hi:Nat} (h:okA c xs):okA c (xs.extract lo hi):=by
 intro x hx
 obtain ⟨p,_,_,e⟩:=zeX hx
 obtain ⟨hp,rfl⟩:=qab.mp e
 exact h _ (by simp)
noncomputable def zm2 (xs m:Array Keyed) (s:Nat):Array Keyed:=m.toList.zipIdx.foldl (fun a x=>a.setIfInBounds (s+x.2) x.1) xs
theorem zgu {xs m:Array Keyed} {s:Nat} (h:s+m.size<=xs.size) (k:Nat):(zm2 xs m s)[k]? = if s<=k/\k<s+m.size then m[k - s]? else xs[k]? := by
 have:=zoS (s:=s) m.toList 0 xs (by simpa using h) k
 simpa [zm2] using this
theorem zjm {xs m:Array Keyed} {s mid e:Nat} (h1:s<=mid) (h2:mid<=e) (he:e<=xs.size) (hm:m.toList.Perm ((xs.extract s mid).toList++(xs.extract mid e).toList)):Loc xs (zm2 xs m s) s e/\m.size=e - s:=by
 have hs:m.size=e - s:=by
  have:=hm.length_eq
  simp only [qav,qas,qaz] at this
  omega
 refine ⟨⟨?_,?_⟩,hs⟩
 ·have e1:(zm2 xs m s).toList=xs.toList.take s++(m.toList++xs.toList.drop e):=by
   apply List.ext_getElem?
   intro k
   rw [qaj,zgu (by omega)]
   by_cases a1:k<s
   ·rw [qa5 (by omega),qad (by simp;omega),List.getElem?_take,qa4 a1,qaj]
   ·rw [qaa (by simp;omega)]
    have e3:(xs.toList.take s).length=s:=by simp;omega
    rw [e3]
    by_cases a2:k<e
    ·rw [qa4 (by omega),qad (by simp;omega),qaj]
    ·rw [qa5 (by omega),qaa (by simp;omega),List.getElem?_drop,qaj]
     congr 1
     simp only [qas]
     omega
  have e2:xs.toList=xs.toList.take s++(((xs.extract s mid).toList++(xs.extract mid e).toList)++xs.toList.drop e):=by
   apply List.ext_getElem?
   intro k
   by_cases a1:k<s
   ·rw [qad (by simp;omega),List.getElem?_take,qa4 a1]
   ·rw [qaa (by simp;omega)]
    have e3:(xs.toList.take s).length=s:=by simp;omega
    rw [e3]
    by_cases a2:k<e
    ·rw [qad (by simp;omega)]
     by_cases a3:k<mid
     ·rw [qad (by simp;omega),qaj,qaj,Array.getElem?_extract,qa4 (by omega)]
      congr 1;omega
     ·rw [qaa (by simp;omega),qaj,qaj,Array.getElem?_extract,qa4 (by simp;omega)]
      congr 1;simp;omega
    ·rw [qaa (by simp;omega),List.getElem?_drop]
     congr 1
     simp
     omega
  rw [e1]
  conv=>rhs;rw [e2]
  exact List.Perm.append_left _ (List.Perm.append_right _ hm)
 ·intro i hi
  rw [zgu (by omega),qa5 (by omega)]
theorem zqa {xs m:Array Keyed} {sa s mid e hi:Nat} (h0:sa<=s) (h1:s<=mid) (h2:mid<=e) (h3:e<=hi) (he:hi<=xs.size) (hm:m.toList.Perm ((xs.extract s mid).toList++(xs.extract mid e).toList)) (hsr:srt c m)
  (ha:sg c xs sa mid) (hb:sg c xs mid hi)
  (g1: ∀ i j x y,sa<=i->i<s->mid<=j->j<hi->xs[i]? = some x->xs[j]? = some y->c.le x y)
  (g2: ∀ i j x y,sa<=i->i<mid->e<=j->j<hi->xs[i]? = some x->xs[j]? = some y->c.le x y):sg c (zm2 xs m s) sa hi:=by
 obtain ⟨hl,hs⟩:=zjm h1 h2 (by omega) hm
 have mem: ∀ i x,s<=i->i<e->(zm2 xs m s)[i]? = some x-> ∃ p,s<=p/\p<e/\xs[p]? = some x:=by
  intro i x i1 i2 ex
  rw [zgu (by omega),qa4 (by omega)] at ex
  obtain ⟨hx,rfl⟩:=qab.mp ex
  have:=hm.mem_iff.mp (show m[i - s]∈m.toList by simp)
  rcases qaK.mp this with h | h
  ·obtain ⟨p,p1,p2,p3⟩:=zeX h
   exact ⟨p,p1,by omega,p3⟩
  ·obtain ⟨p,p1,p2,p3⟩:=zeX h
   exact ⟨p,by omega,p2,p3⟩
 have fir: ∀ i p x y,sa<=i->i<s->s<=p->p<hi->xs[i]? = some x->xs[p]? = some y->c.le x y:=by
  intro i p x y i1 i2 p1 p2 ex ey
  by_cases hp:p<mid
  ·exact ha i p x y i1 (by omega) hp ex ey
  ·exact g1 i p x y i1 i2 (by omega) p2 ex ey
 have las: ∀ p j x y,sa<=p->p<e->e<=j->j<hi->xs[p]? = some x->xs[j]? = some y->c.le x y:=by
  intro p j x y p1 p2 j1 j2 ex ey
  by_cases hp:p<mid
  ·exact g2 p j x y p1 hp j1 j2 ex ey
  ·exact hb p j x y (by omega) (by omega) j2 ex ey
 intro i j x y i1 i2 i3 ex ey
 by_cases a1:i<s
 ·rw [hl.o i (.inl a1)] at ex
  by_cases b1:j<s
  ·rw [hl.o j (.inl b1)] at ey
   exact ha i j x y i1 i2 (by omega) ex ey
  ·by_cases b2:j<e
   ·obtain ⟨p,p1,p2,p3⟩:=mem j y (by omega) b2 ey
    exact fir i p x y i1 a1 p1 (by omega) ex p3
   ·rw [hl.o j (.inr (by omega))] at ey
    exact fir i j x y i1 a1 (by omega) i3 ex ey
 ·by_cases a2:i<e
  ·by_cases b2:j<e
   ·rw [zgu (by omega),qa4 (by omega)] at ex ey
    exact zek hsr (by omega) ex ey
   ·obtain ⟨p,p1,p2,p3⟩:=mem i x (by omega) a2 ex
    rw [hl.o j (.inr (by omega))] at ey
    exact las p j x y (by omega) p2 (by omega) i3 p3 ey
  ·rw [hl.o i (.inr (by omega))] at ex
   rw [hl.o j (.inr (by omega))] at ey
   exact hb i j x y (by omega) i2 i3 ex ey
theorem zpz {Q:PUnit->SortSt->Prop} {st st1:SortSt} (h:Q ⟨⟩ st1):c.wp (set st1:StateT SortSt Sem PUnit) Q st:=by
 show wpS _ _ _ _ _ _ _
 unfold wpS;rw [StateT.run_set];exact qaX ⟨rfl,h⟩
theorem zuO {st:SortSt} {i sa na nb pa pb:Nat} {Q:Bool->SortSt->Prop} (hk:kindOf st=c.kd) (hfl:failedOf st=none) (hok:okA c (arrOf st))
  (hi:(pendingOf st)[i]? = some (sa,na,pa)) (hj:(pendingOf st)[i+1]? = some (sa+na,nb,pb)) (n1:0<na) (n2:0<nb) (hsz:sa+na+nb<=(arrOf st).size)
  (ha:sg c (arrOf st) sa (sa+na)) (hb:sg c (arrOf st) (sa+na) (sa+na+nb))
  (h: ∀ st',kindOf st'=c.kd->failedOf st'=none->pendingOf st'=((pendingOf st).setIfInBounds i (sa,na+nb,pa)).eraseIdxIfInBounds (i+1)->Loc (arrOf st) (arrOf st') sa (sa+na+nb)->sg c (arrOf st') sa (sa+na+nb)->Q true st'):
  c.wp (MAt i) Q st:=by
 refine qa2 (wpS_get ?_)
 dsimp only
 rw [hi,hj]
 dsimp only
 refine qa2 (zpz ?_)
 refine (fun H: ∀ st1,kindOf st1=c.kd->failedOf st1=none->arrOf st1=arrOf st->pendingOf st1=((pendingOf st).setIfInBounds i (sa,na+nb,pa)).eraseIdxIfInBounds (i+1)->c.wp _ Q st1=>H (SortSt.mk' (kindOf st) (arrOf st) (((pendingOf st).setIfInBounds i (sa,na+nb,pa)).eraseIdxIfInBounds (i+1)) (gallopOf st) (failedOf st)) hk hfl rfl rfl) ?_
 intro st1 k1 f1 a1 p1
 clear hi hj
 obtain ⟨y,ey,oy⟩:=zbt hok (i:=sa+na) (by omega)
 refine qa2 (zbQ ey (qa2 (zqE k1 oy n1 (fun i j x z hij hj hx hz=>ha _ _ x z (by omega) (by omega) (by omega) hx hz) (fun i hi=>zbt hok (by omega)) ?_)))
 intro k hk1 hk2 hk3
 have g1: ∀ p q x z,sa<=p->p<sa+k->sa+na<=q->q<sa+na+nb->(arrOf st)[p]? = some x->(arrOf st)[q]? = some z->c.le x z:=by
  intro p q x z h1 h2 h3 h4 ex ez
  exact Cx.le_trans (hk2 (p - sa) x (by omega) (by rw [show sa+(p - sa)=p by omega];exact ex)) (hb (sa+na) q y z (by omega) h3 h4 ey ez)
 refine za6 (fun q=> ?_) (fun q=> ?_)
 ·refine qa3 (h st1 k1 f1 p1 (by rw [a1];exact Loc.refl _ _ _) ?_)
  rw [a1]
  intro p r x z h1 h2 h3 ex ez
  by_cases hr:r<sa+na
  ·exact ha p r x z h1 h2 hr ex ez
  ·by_cases hp:p<sa+na
   ·exact g1 p r x z h1 (by omega) (by omega) h3 ex ez
   ·exact hb p r x z (by omega) h2 h3 ex ez
 obtain ⟨z,ez,oz⟩:=zbt hok (i:=sa+na - 1) (by omega)
 have ez':(arrOf st)[sa+k+(na - k) - 1]? = some z:=by rw [<- ez];congr 1;omega
 refine qa2 (zbQ ez' (qa2 (zsM k1 oz (by omega) (fun i j x z hij hj hx hz=>hb _ _ x z (by omega) (by omega) (by omega) hx hz) (fun i hi=>zbt hok (by omega)) ?_)))
 intro l hl1 hl2 hl3
 have g2: ∀ p q x w,sa<=p->p<sa+na->sa+na+l<=q->q<sa+na+nb->(arrOf st)[p]? = some x->(arrOf st)[q]? = some w->c.le x w:=by
  intro p q x w h1 h2 h3 h4 ex ew
  exact Cx.le_trans (ha p (sa+na - 1) x z h1 (by omega) (by omega) ex ez) (hl3 (q - (sa+na)) w (by omega) (by omega) (by rw [show sa+na+(q - (sa+na))=q by omega];exact ew))
 refine za6 (fun q2=> ?_) (fun q2=> ?_)
 ·refine qa3 (h st1 k1 f1 p1 (by rw [a1];exact Loc.refl _ _ _) ?_)
  rw [a1]
  intro p r x w h1 h2 h3 ex ew
  by_cases hr:r<sa+na
  ·exact ha p r x w h1 h2 hr ex ew
  ·by_cases hp:p<sa+na
   ·exact g2 p r x w h1 hp (by omega) h3 ex ew
   ·exact hb p r x w (by omega) h2 h3 ex ew
 have sA:srt c ((arrOf st).extract (sa+k) (sa+na)):=zk7 (fun i j x y h1 h2 h3=>ha i j x y (by omega) h2 h3) (by omega)
 have sB:srt c ((arrOf st).extract (sa+na) (sa+na+l)):=zk7 (fun i j x y h1 h2 h3=>hb i j x y h1 h2 (by omega)) (by omega)
 have zA:((arrOf st).extract (sa+k) (sa+na)).size=na - k:=by rw [qaz];omega
 have zB:((arrOf st).extract (sa+na) (sa+na+l)).size=l:=by rw [qaz];omega
 have pA:0<((arrOf st).extract (sa+k) (sa+na)).size:=by omega
 have pB:0<((arrOf st).extract (sa+na) (sa+na+l)).size:=by omega
 have fstB: ∀ p x,sa+k<=p->p<sa+na->(arrOf st)[p]? = some x->c.le y x:=by
  intro p x h1 h2 ex
  exact Cx.le_of_lt (hk3 (p - sa) x (by omega) (by omega) (by rw [show sa+(p - sa)=p by omega];exact ex))
 have lstA: ∀ p x,sa+na<=p->p<sa+na+l->(arrOf st)[p]? = some x->c.le x z:=by
  intro p x h1 h2 ex
  exact Cx.le_of_lt (hl2 (p - (sa+na)) x (by omega) (by rw [show sa+na+(p - (sa+na))=p by omega];exact ex))
 have fin: ∀ (res:Array Keyed) (st':SortSt),Sm st1 st'->Fi c ((arrOf st).extract (sa+k) (sa+na)) ((arrOf st).extract (sa+na) (sa+na+l)) res->
   c.wp (modify (fun s=>SortSt.mk' (kindOf s) (zm2 (arrOf s) res (sa+k)) (pendingOf s) (gallopOf s) (failedOf s))>>=fun _=>get>>=fun s=>pure (failedOf s).isNone) Q st':=by
  intro res st' hs hf
  refine qa2 (wpS_modify (qa2 (wpS_get (qa3 ?_))))
  have e:(failedOf st').isNone=true:=by rw [hs.f,f1];rfl
  show Q (failedOf st').isNone _
  rw [e]
  refine h _ (hs.k.trans k1) (hs.f.trans f1) (hs.p.trans p1) ?_ ?_
  ·show Loc _ (zm2 (arrOf st') res (sa+k)) _ _
   rw [hs.a,a1]
   exact (zjm (by omega) (by omega) (by omega) hf.2).1.wide (by omega) (by omega)
  ·show sg c (zm2 (arrOf st') res (sa+k)) _ _
   rw [hs.a,a1]
   exact zqa (by omega) (by omega) (by omega) (by omega) hsz hf.2 hf.1 ha hb g1 g2
 refine zaD (fun _=> ?_) (fun _=> ?_)
 ·refine qa2 (zum k1 sA sB (zji hok) (zji hok) pA pB ?_ ?_ fin)
  ·intro x w ex ew
   obtain ⟨_,ex⟩:=zd0 ex
   obtain ⟨_,ew⟩:=zd0 ew
   rw [Nat.add_zero,ey] at ew
   cases ew
   exact fstB _ x (by omega) (by omega) ex
  ·intro x ex w hw
   obtain ⟨_,ex⟩:=zd0 ex
   rw [show sa+k+(((arrOf st).extract (sa+k) (sa+na)).size - 1)=sa+na - 1 by omega,ez] at ex
   cases ex
   obtain ⟨p,p1,p2,p3⟩:=zeX hw
   exact lstA p w p1 p2 p3
 ·refine qa2 (ztK k1 sA sB (zji hok) (zji hok) pA pB ?_ ?_ fin)
  ·intro w ew x hx
   obtain ⟨_,ew⟩:=zd0 ew
   rw [Nat.add_zero,ey] at ew
   cases ew
   obtain ⟨p,p1,p2,p3⟩:=zeX hx
   exact fstB p x p1 p2 p3
  ·intro x w ex ew
   obtain ⟨_,ex⟩:=zd0 ex
   obtain ⟨_,ew⟩:=zd0 ew
   rw [show sa+k+(((arrOf st).extract (sa+k) (sa+na)).size - 1)=sa+na - 1 by omega,ez] at ex
   cases ex
   exact lstA _ w (by omega) (by omega) ew
end
end TS
end
section
namespace TS
set_option autoImplicit false
open PySem PyProof PyProof.Rows
noncomputable abbrev CR:Nat->Nat->StateT SortSt Sem (Option Nat):=sortPriv% PySem.Builtin.countRun
noncomputable abbrev BS:Nat->Nat->Nat->StateT SortSt Sem Bool:=sortPriv% PySem.Builtin.binarySort
noncomputable abbrev LtA:Nat->Nat->StateT SortSt Sem (Option Bool):=sortPriv% PySem.Builtin.ltAt
noncomputable abbrev RS:Nat->Nat->StateT SortSt Sem Unit:=sortPriv% PySem.Builtin.reverseSlice
noncomputable abbrev MD:Nat->Nat->StateT SortSt Sem Unit:=sortPriv% PySem.Builtin.moveDown
structure St (c:Cx) (a0:Array Keyed) (p0:Array (Nat×Nat×Nat)) (lo hi:Nat) (st:SortSt):Prop where
 k:kindOf st=c.kd
 f:failedOf st=none
 p:pendingOf st=p0
 l:Loc a0 (arrOf st) lo hi
section
variable {c:Cx} {a0:Array Keyed} {p0:Array (Nat×Nat×Nat)} {lo hi:Nat}
noncomputable def KV (c:Cx) (xs:Array Keyed) (i:Nat):c.O.α:=c.ky (xs[i]?.getD (.none,.none)).1
def up (c:Cx) (xs:Array Keyed) (lo hi:Nat):Prop:= ∀ i j,lo<=i->i<=j->j<hi->c.O.kle (KV c xs i) (KV c xs j)
def dn (c:Cx) (xs:Array Keyed) (lo hi:Nat):Prop:= ∀ i j,lo<=i->i<=j->j<hi->c.O.kle (KV c xs j) (KV c xs i)
def ek (c:Cx) (xs:Array Keyed) (lo hi:Nat):Prop:= ∀ i,lo<=i->i<hi->KV c xs i=KV c xs (hi - 1)
theorem zt0 {xs:Array Keyed} (h:up c xs lo hi):sg c xs lo hi:=by
 intro i j x y h1 h2 h3 ex ey
 have:=h i j h1 h2 h3
 unfold KV at this
 rw [ex,ey] at this
 exact this
theorem zdF {xs ys:Array Keyed} {i j:Nat} (h:xs[i]? = ys[j]?):KV c xs i=KV c ys j:=by unfold KV;rw [h]
theorem zr1 {xs:Array Keyed} {n:Nat} (n0:0<n) (h:up c xs lo (lo+n)) (hl:c.O.blt (KV c xs (lo+n)) (KV c xs (lo+n - 1))=false):up c xs lo (lo+(n+1)):=by
 intro i j h1 h2 h3
 by_cases hj:j<lo+n
 ·exact h i j h1 h2 hj
 ·have:j=lo+n:=by omega
  subst this
  by_cases hi:i=lo+n
  ·subst hi;exact KeyOrd.kle_refl _
  ·exact KeyOrd.kle_trans (h i (lo+n - 1) h1 (by omega) (by omega)) hl
theorem zi4 {xs:Array Keyed} {n:Nat} (n0:0<n) (h:dn c xs lo (lo+n)) (hl:c.O.kle (KV c xs (lo+n)) (KV c xs (lo+n - 1))):dn c xs lo (lo+(n+1)):=by
 intro i j h1 h2 h3
 by_cases hj:j<lo+n
 ·exact h i j h1 h2 hj
 ·have:j=lo+n:=by omega
  subst this
  by_cases hi:i=lo+n
  ·subst hi;exact KeyOrd.kle_refl _
  ·exact KeyOrd.kle_trans hl (h i (lo+n - 1) h1 (by omega) (by omega))
theorem zln {xs:Array Keyed} {i j:Nat} (hj:j<=xs.size) (k:Nat):KV c (mirror xs i j ((j - i) / 2)) k=if i<=k/\k<j then KV c xs (i+j - 1 - k) else KV c xs k:=by
 have e:=getElem?_mirror_all (i:=i) hj k
 by_cases h:i<=k/\k<j
 ·rw [qa4 h] at e ⊢; exact zdF e
 ·rw [qa5 h] at e ⊢; exact zdF e
theorem ze8 {xs:Array Keyed} {i j:Nat} (hj:j<=xs.size) (h:ek c xs i j) (k:Nat):KV c (mirror xs i j ((j - i) / 2)) k=KV c xs k:=by
 rw [zln hj]
 by_cases h1:i<=k/\k<j
 ·rw [qa4 h1,h (i+j - 1 - k) (by omega) (by omega),h k h1.1 h1.2]
 ·rw [qa5 h1]
theorem zf8 {xs:Array Keyed} {i j:Nat} (hj:j<=xs.size) (h1:lo<=i) (h2:j<=hi):Loc xs (mirror xs i j ((j - i) / 2)) lo hi:=by
 refine ⟨Array.perm_iff_toList_perm.mp (mirror_perm _ _ _ _),fun k hk=> ?_⟩
 rw [getElem?_mirror_all hj,qa5 (by omega)]
theorem St.set {st:SortSt} {xs:Array Keyed} (h:St c a0 p0 lo hi st) (hl:Loc (arrOf st) xs lo hi):St c a0 p0 lo hi (setArr st xs):=⟨h.k,h.f,h.p,h.l.trans hl⟩
theorem St.ok {st:SortSt} (h:St c a0 p0 lo hi st) (ho:okA c a0):okA c (arrOf st):=fun x hx=>ho x (h.l.p.mem_iff.mp hx)
theorem zgS {st:SortSt} {i j:Nat} {Q:Option Bool->SortSt->Prop} (h:St c a0 p0 lo hi st) (ho:okA c a0) (hi:i<a0.size) (hj:j<a0.size)
  (hq:Q (some (c.O.blt (KV c (arrOf st) i) (KV c (arrOf st) j))) st):c.wp (LtA i j) Q st:=by
 have hz:=h.l.size
 obtain ⟨x,ex,ox⟩:=zbt (h.ok ho) (i:=i) (by omega)
 obtain ⟨y,ey,oy⟩:=zbt (h.ok ho) (i:=j) (by omega)
 refine qa2 (wpS_get ?_)
 refine qa2 (zbQ ex (qa2 (zbQ ey (zlg h.k ox oy ?_))))
 unfold KV at hq
 rw [ex,ey] at hq
 exact hq
theorem zmN {st:SortSt} {i j:Nat} {Q:Unit->SortSt->Prop} (h:Q () (setArr st (mirror (arrOf st) i j ((j - i) / 2)))):c.wp (RS i j) Q st:=wpS_modify h
theorem ztX {st:SortSt} {i j:Nat} {Q:Unit->SortSt->Prop} (h:Q () (setArr st (bubble (arrOf st) i (i - j)))):c.wp (MD i j) Q st:=wpS_modify h
theorem zmn {st:SortSt} {nrem n:Nat} (h:St c a0 p0 lo (lo+nrem) st) (ho:okA c a0) (hz:lo+nrem<=a0.size) (n0:0<n) (hn:n<=nrem) (hu:up c (arrOf st) lo (lo+n)):
  c.wp (forIn [n:nrem] ((none:Option (Option Nat)),n) fun _ r=>LtA (lo+r.2) (lo+r.2 - 1)>>=fun y=>match y with
    | some s=>if s=true then pure (ForInStep.done (none,r.2)) else pure (ForInStep.yield (none,r.2+1))
    | _=>pure (ForInStep.done (some none,r.2)))
   (fun r st'=>st'=st/\r.1=none/\n<=r.2/\r.2<=nrem/\up c (arrOf st) lo (lo+r.2)/\(r.2=nrem\/c.O.klt (KV c (arrOf st) (lo+r.2)) (KV c (arrOf st) (lo+r.2 - 1)))) st:=by
 refine wpS_forRange (I:=fun x r st'=>st'=st/\r.1=none/\r.2=x/\n<=r.2/\up c (arrOf st) lo (lo+r.2)) ?_ ?_ ⟨rfl,rfl,rfl,qaV _,hu⟩
 ·rintro x ⟨r,m⟩ st' h1 h2 ⟨e1,e2,e3,e4,e5⟩
  dsimp only at e1 e2 e3 e4 e5 ⊢
  subst e1 e2 e3
  refine qa2 (zgS h ho (by omega) (by omega) ?_)
  refine zaD (fun q=> ?_) (fun q=> ?_)
  ·exact qa3 ⟨rfl,rfl,e4,by dsimp only;omega,e5,.inr q⟩
  ·exact qa3 ⟨rfl,rfl,rfl,by dsimp only;omega,zr1 (by omega) e5 (by simpa using q)⟩
 ·rintro ⟨r,m⟩ st' ⟨e1,e2,e3,e4,e5⟩
  dsimp only at e1 e2 e3 e4 e5 ⊢
  have:m=nrem:=by omega
  exact ⟨e1,e2,e4,by omega,e5,.inl this⟩
theorem zn6 {st:SortSt} {nrem:Nat} {Q:Option Nat->SortSt->Prop} (h:St c a0 p0 lo (lo+nrem) st) (ho:okA c a0) (hz:lo+nrem<=a0.size) (hn:0<nrem)
  (hq: ∀ n st',0<n->n<=nrem->St c a0 p0 lo (lo+nrem) st'->up c (arrOf st') lo (lo+n)->Q (some n) st'):c.wp (CR lo nrem) Q st:=by
 refine qa2 (wpS_mono (zmn h ho hz Nat.zero_lt_one hn ?_) ?_)
 ·intro i j h1 h2 h3
  have:i=j:=by omega
  subst this
  exact KeyOrd.kle_refl _
 rintro ⟨r,n⟩ st1 ⟨e1,e2,e3,e4,e5,e6⟩
 dsimp only at e1 e2 e3 e4 e5 e6 ⊢
 subst e1 e2
 refine za6 (fun q=> ?_) (fun q=> ?_)
 ·exact qa3 (hq _ _ (by omega) e4 h e5)
 rcases e6 with e6 | e6
 ·exact absurd e6 q
 have d1: ∀ xs:Array Keyed,(∀ k,KV c xs k=KV c (arrOf st1) k)->(∀ i,lo<=i->i<lo+n->KV c (arrOf st1) i=KV c (arrOf st1) (lo+n - 1))->dn c xs lo (lo+(n+1)):=by
  intro xs h1 h2
  refine zi4 (by omega) ?_ ?_
  ·intro i j i1 i2 i3
   rw [h1,h1,h2 i i1 (by omega),h2 j (by omega) i3]
   exact KeyOrd.kle_refl _
  ·rw [h1,h1]
   exact KeyOrd.kle_of_klt e6
 have hzz:=h.l.size
 refine zaD (fun q2=>qa2 (zgS h ho (by omega) (by omega) (zaD (fun q3=> ?_) (fun q3=>qa2 (zmN ?_))))) (fun q2=> ?_)
 ·exact qa3 (hq _ _ (by omega) e4 h e5)
 have hek:ek c (arrOf st1) lo (lo+n):=by
  intro i i1 i2
  refine KeyOrd.kle_antisymm (e5 i _ i1 (by omega) (by omega)) ?_
  exact KeyOrd.kle_trans (by simpa [KeyOrd.kle] using q3) (e5 lo i (qaV _) i1 i2)
 have b1:=h.set (zf8 (xs:=arrOf st1) (i:=lo) (j:=lo+n) (by omega) (qaV _) (by omega))
 have b2:=d1 _ (ze8 (by omega) hek) hek
 replace b2:dn c (arrOf (setArr st1 (mirror (arrOf st1) lo (lo+n) ((lo+n - lo) / 2)))) lo (lo+(n+1)):=b2
 generalize setArr st1 (mirror (arrOf st1) lo (lo+n) ((lo+n - lo) / 2))=st2 at b1 b2 ⊢
 rotate_left
 have b1:=h
 have b2:dn c (arrOf st1) lo (lo+(n+1)):=d1 _ (fun _=>rfl) (fun i i1 i2=>by
   have:i=lo+n - 1:=by omega
   rw [this])
 generalize st1=st2 at b1 b2 ⊢
 all_goals
  refine qa2 (zd8 ?_)
  refine qa2 (wpS_mono (wpS_forRange
    (I:=fun x r st'=>r.1=none/\r.2.1=x/\St c a0 p0 lo (lo+nrem) st'/\0<r.2.1/\r.2.2<r.2.1/\dn c (arrOf st') lo (lo+r.2.1)/\ek c (arrOf st') (lo+r.2.1 - (r.2.2+1)) (lo+r.2.1))
    (Q:=fun r st'=>r.1=none/\r.2.1<=nrem/\St c a0 p0 lo (lo+nrem) st'/\0<r.2.1/\r.2.2<r.2.1/\dn c (arrOf st') lo (lo+r.2.1)/\ek c (arrOf st') (lo+r.2.1 - (r.2.2+1)) (lo+r.2.1)) ?_ ?_
    ⟨rfl,rfl,b1,Nat.succ_pos _,Nat.succ_pos _,b2,?_⟩) ?_)
  ·rintro x ⟨r,m,u⟩ st3 x1 x2 ⟨g1,g2,g3,g4,g5,g6,g7⟩
   dsimp only at g1 g2 g3 g4 g5 g6 g7 ⊢
   subst g1 g2
   have z3:=g3.l.size
   refine qa2 (zgS g3 ho (by omega) (by omega) ?_)
   refine zaD (fun w=>zaD (fun w2=>qa2 (zmN (qa3 ?_))) (fun w2=>qa3 ?_)) (fun w=>qa2 (zgS g3 ho (by omega) (by omega) (zaD (fun w2=>qa3 ?_) (fun w2=>qa3 ?_))))
   ·have kk:=ze8 (c:=c) (xs:=arrOf st3) (by omega) g7
    refine ⟨rfl,rfl,g3.set (zf8 (by omega) (by omega) (by omega)),Nat.succ_pos _,Nat.succ_pos _,zi4 g4 ?_ ?_,?_⟩
    ·intro i j i1 i2 i3
     show c.O.kle (KV c (mirror _ _ _ _) j) (KV c (mirror _ _ _ _) i)
     rw [kk,kk]
     exact g6 i j i1 i2 i3
    ·show c.O.kle (KV c (mirror _ _ _ _) _) (KV c (mirror _ _ _ _) _)
     rw [kk,kk]
     exact KeyOrd.kle_of_klt w
    ·intro i i1 i2
     dsimp only at i1 i2 ⊢
     rw [show i=lo+(m+1) - 1 by omega]
   ·refine ⟨rfl,rfl,g3,Nat.succ_pos _,Nat.succ_pos _,zi4 g4 g6 (KeyOrd.kle_of_klt w),?_⟩
    intro i i1 i2
    dsimp only at i1 i2 ⊢
    rw [show i=lo+(m+1) - 1 by omega]
   ·exact ⟨rfl,by dsimp only;omega,g3,g4,g5,g6,g7⟩
   ·have w1:c.O.blt (KV c (arrOf st3) (lo+m)) (KV c (arrOf st3) (lo+m - 1))=false:=by simpa using w
    have w3:c.O.blt (KV c (arrOf st3) (lo+m - 1)) (KV c (arrOf st3) (lo+m))=false:=by simpa using w2
    have ee:=c.O.total _ _ w1 w3
    refine ⟨rfl,rfl,g3,Nat.succ_pos _,by dsimp only;omega,zi4 g4 g6 w3,?_⟩
    intro i i1 i2
    dsimp only at i1 i2 ⊢
    rw [show lo+(m+1) - 1=lo+m by omega]
    by_cases hi:i=lo+m
    ·rw [hi]
    ·rw [g7 i (by omega) (by omega),ee]
  ·rintro ⟨r,m,u⟩ st3 ⟨g1,g2,g3,g4,g5,g6,g7⟩
   exact ⟨g1,by dsimp only at g2 ⊢; omega,g3,g4,g5,g6,g7⟩
  ·intro i i1 i2
   dsimp only at i1 i2 ⊢
   rw [show i=lo+(n+1) - 1 by omega]
  ·rintro ⟨r,m,u⟩ st3 ⟨g1,g2,g3,g4,g5,g6,g7⟩
   dsimp only at g1 g2 g3 g4 g5 g6 g7 ⊢
   subst g1
   have z3:=g3.l.size
   refine zaD (fun w2=>qa2 (zmN ?_)) (fun w2=> ?_)
   have kk:=ze8 (c:=c) (xs:=arrOf st3) (by omega) g7
   have c1:=g3.set (zf8 (xs:=arrOf st3) (i:=lo+m - (u+1)) (j:=lo+m) (by omega) (by omega) (by omega))
   have c2:dn c (arrOf (setArr st3 (mirror (arrOf st3) (lo+m - (u+1)) (lo+m) ((lo+m - (lo+m - (u+1))) / 2)))) lo (lo+m):=by
    intro i j i1 i2 i3
    show c.O.kle (KV c (mirror _ _ _ _) j) (KV c (mirror _ _ _ _) i)
    rw [kk,kk]
    exact g6 i j i1 i2 i3
   generalize setArr st3 (mirror (arrOf st3) (lo+m - (u+1)) (lo+m) ((lo+m - (lo+m - (u+1))) / 2))=st4 at c1 c2 ⊢
   rotate_left
   have c1:=g3
   have c2:=g6
   generalize st3=st4 at c1 c2 ⊢
   all_goals
    have z4:=c1.l.size
    refine qa2 (zmN ?_)
    have c3:=c1.set (zf8 (xs:=arrOf st4) (i:=lo) (j:=lo+m) (by omega) (qaV _) (by omega))
    refine qa2 (wpS_mono (zmn c3 ho hz g4 g2 ?_) ?_)
    ·intro i j i1 i2 i3
     show c.O.kle (KV c (mirror _ _ _ _) i) (KV c (mirror _ _ _ _) j)
     rw [zln (by omega),zln (by omega),qa4 (by omega),qa4 (by omega)]
     exact c2 _ _ (by omega) (by omega) (by omega)
    ·rintro ⟨r,k⟩ st5 ⟨f1,f2,f3,f4,f5,f6⟩
     dsimp only at f1 f2 f3 f4 f5 ⊢
     subst f1 f2
     exact qa3 (hq _ _ (by omega) f4 c3 f5)
theorem zoo {xs:Array Keyed} {src d:Nat} (hs:src<xs.size) (hd:d<=src) (k:Nat):
  KV c (bubble xs src d) k=if k=src - d then KV c xs src else if src - d<k/\k<=src then KV c xs (k - 1) else KV c xs k:=by
 have e:=getElem?_bubble hs d hd k
 by_cases h1:k=src - d
 ·rw [qa4 h1] at e ⊢; exact zdF e
 ·rw [qa5 h1] at e ⊢
  by_cases h2:src - d<k/\k<=src
  ·rw [qa4 h2] at e ⊢; exact zdF e
  ·rw [qa5 h2] at e ⊢; exact zdF e
theorem zs7 {st:SortSt} {n ok:Nat} {Q:Bool->SortSt->Prop} (h:St c a0 p0 lo hi st) (ho:okA c a0) (hz:hi<=a0.size) (h0:0<ok) (hok:ok<=n) (hn:lo+n<=hi) (hu:up c (arrOf st) lo (lo+ok))
  (hq: ∀ st',St c a0 p0 lo hi st'->up c (arrOf st') lo (lo+n)->Q true st'):c.wp (BS lo n ok) Q st:=by
 refine qa2 (wpS_mono (wpS_forRange (I:=fun k r st'=>r.1=none/\St c a0 p0 lo hi st'/\up c (arrOf st') lo (lo+k))
   (Q:=fun r st'=>r.1=none/\St c a0 p0 lo hi st'/\up c (arrOf st') lo (lo+n)) ?_ ?_ ⟨rfl,h,by rw [Nat.max_eq_left h0];exact hu⟩) ?_)
 ·rintro k ⟨r,u⟩ st1 k1 k2 ⟨e1,e2,e3⟩
  dsimp only at e1 e2 e3 ⊢
  subst e1
  have hzz:=e2.l.size
  refine qa2 (wpS_mono (wpS_forRange (I:=fun x r st'=>r.1=(none:Option Bool)/\st'=st1/\r.2.1<=r.2.2/\r.2.2<=k/\r.2.2 - r.2.1<=k - x/\
      (∀ i,i<r.2.1->c.O.kle (KV c (arrOf st1) (lo+i)) (KV c (arrOf st1) (lo+k)))/\(∀ i,r.2.2<=i->i<k->c.O.kle (KV c (arrOf st1) (lo+k)) (KV c (arrOf st1) (lo+i))))
    (Q:=fun r st'=>r.1=none/\st'=st1/\r.2.1<=k/\
      (∀ i,i<r.2.1->c.O.kle (KV c (arrOf st1) (lo+i)) (KV c (arrOf st1) (lo+k)))/\(∀ i,r.2.1<=i->i<k->c.O.kle (KV c (arrOf st1) (lo+k)) (KV c (arrOf st1) (lo+i)))) ?_ ?_
    ⟨rfl,rfl,Nat.zero_le _,qaV _,qaV _,by intro i hi;dsimp only at hi;omega,by intro i hi;dsimp only at hi;omega⟩) ?_)
  ·rintro x ⟨r,a,b⟩ st2 x1 x2 ⟨g1,g2,g3,g4,g5,g6,g7⟩
   dsimp only at g1 g2 g3 g4 g5 g6 g7 ⊢
   subst g1 g2
   refine zaD (fun w=>qa3 ?_) (fun w=>qa2 (zgS e2 ho (by omega) (by omega) (zaD (fun v=>qa3 ?_) (fun v=>qa3 ?_))))
   ·have:a=b:=by omega
    subst this
    exact ⟨rfl,rfl,g4,g6,g7⟩
   ·refine ⟨rfl,rfl,by dsimp only;omega,by dsimp only;omega,by dsimp only;omega,g6,?_⟩
    intro i i1 i2
    dsimp only at i1
    exact KeyOrd.kle_trans (KeyOrd.kle_of_klt v) (e3 _ _ (by omega) (by omega) (by omega))
   ·refine ⟨rfl,rfl,by dsimp only;omega,g4,by dsimp only;omega,?_,g7⟩
    intro i i1
    dsimp only at i1
    exact KeyOrd.kle_trans (e3 _ _ (by omega) (by omega) (by omega)) (KeyOrd.kle_of_not_klt v)
  ·rintro ⟨r,a,b⟩ st2 ⟨g1,g2,g3,g4,g5,g6,g7⟩
   dsimp only at g1 g2 g3 g4 g5 g6 g7 ⊢
   have:a=b:=by omega
   subst this
   exact ⟨g1,g2,g4,g6,g7⟩
  ·rintro ⟨r,a,b⟩ st2 ⟨g1,g2,g3,g4,g5⟩
   dsimp only at g1 g2 g3 g4 g5 ⊢
   subst g1 g2
   refine qa2 (ztX (qa3 ⟨rfl,e2.set ⟨Array.perm_iff_toList_perm.mp (bubble_perm _ _ _),fun i hi=> ?_⟩,?_⟩))
   ·rw [getElem?_bubble (by omega) _ (by omega),qa5 (by omega),qa5 (by omega)]
   ·intro i j i1 i2 i3
    show c.O.kle (KV c (bubble _ _ _) i) (KV c (bubble _ _ _) j)
    have hl:lo+k - (lo+k - (lo+a))=lo+a:=by omega
    rw [zoo (by omega) (by omega),zoo (by omega) (by omega),hl]
    have o1: ∀ p,lo<=p->p<lo+a->c.O.kle (KV c (arrOf st2) p) (KV c (arrOf st2) (lo+k)):=by
     intro p p1 p2
     have:=g4 (p - lo) (by omega)
     rwa [show lo+(p - lo)=p by omega] at this
    have o2: ∀ p,lo+a<=p->p<lo+k->c.O.kle (KV c (arrOf st2) (lo+k)) (KV c (arrOf st2) p):=by
     intro p p1 p2
     have:=g5 (p - lo) (by omega) (by omega)
     rwa [show lo+(p - lo)=p by omega] at this
    by_cases q1:i=lo+a
    ·rw [qa4 q1]
     by_cases q2:j=lo+a
     ·rw [qa4 q2];exact KeyOrd.kle_refl _
     ·rw [qa5 q2,qa4 (by omega)]
      exact o2 _ (by omega) (by omega)
    ·rw [qa5 q1]
     by_cases q3:i<lo+a
     ·rw [qa5 (by omega)]
      by_cases q2:j=lo+a
      ·rw [qa4 q2];exact o1 _ i1 q3
      ·rw [qa5 q2]
       by_cases q4:j<lo+a
       ·rw [qa5 (by omega)]
        exact e3 _ _ i1 i2 (by omega)
       ·rw [qa4 (by omega)]
        exact e3 _ _ i1 (by omega) (by omega)
     ·rw [qa4 (by omega),qa5 (by omega),qa4 (by omega)]
      exact e3 _ _ (by omega) (by omega) (by omega)
 ·rintro ⟨r,u⟩ st1 ⟨e1,e2,e3⟩
  refine ⟨e1,e2,?_⟩
  rw [show max (max ok 1) n=n by omega] at e3
  exact e3
 ·rintro ⟨r,u⟩ st1 ⟨e1,e2,e3⟩
  dsimp only at e1 ⊢
  subst e1
  exact qa3 (hq _ e2 e3)
end
end TS
end
section
namespace TS
set_option autoImplicit false
open PySem PyProof PyProof.Rows
noncomputable abbrev SR:StateT SortSt Sem Unit:=sortPriv% PySem.Builtin.sortRuns
section
variable {c:Cx}
noncomputable def chn (c:Cx) (xs:Array Keyed):List (Nat×Nat×Nat)->Nat->Nat->Prop
 | [],a,b=>a=b
 | t::r,a,b=>t.1=a/\0<t.2.1/\sg c xs a (a+t.2.1)/\chn c xs r (a+t.2.1) b
theorem zgv {xs:Array Keyed}: ∀ {p q:List (Nat×Nat×Nat)} {a b:Nat},chn c xs (p++q) a b↔ ∃ m,chn c xs p a m/\chn c xs q m b
 | [],q,a,b=>⟨fun h=>⟨a,rfl,h⟩,fun ⟨m,e,h⟩=>by cases e;exact h⟩
 | t::r,q,a,b=>by
  show (_/\_/\_/\chn c xs (r++q) _ b)↔ ∃ m,(_/\_/\_/\chn c xs r _ m)/\_
  rw [zgv]
  constructor
  ·rintro ⟨h1,h2,h3,m,h4,h5⟩;exact ⟨m,⟨h1,h2,h3,h4⟩,h5⟩
  ·rintro ⟨m,⟨h1,h2,h3,h4⟩,h5⟩;exact ⟨h1,h2,h3,m,h4,h5⟩
theorem zez {xs:Array Keyed}: ∀ {p:List (Nat×Nat×Nat)} {a b:Nat},chn c xs p a b->a+p.length<=b
 | [],a,b,h=>by cases h;simp
 | t::r,a,b,h=>by
  have:=zez h.2.2.2
  have:=h.2.1
  rw [qaE];omega
theorem zdJ {xs ys:Array Keyed}: ∀ {p:List (Nat×Nat×Nat)} {a b:Nat},chn c xs p a b->(∀ i,a<=i->i<b->ys[i]? = xs[i]?)->chn c ys p a b
 | [],a,b,h,_=>h
 | t::r,a,b,h,he=>by
  have hl:=zez h.2.2.2
  refine ⟨h.1,h.2.1,?_,zdJ h.2.2.2 (fun i i1 i2=>he i (by omega) i2)⟩
  intro i j x y i1 i2 i3 ex ey
  rw [he i i1 (by omega)] at ex
  rw [he j (by omega) (by omega)] at ey
  exact h.2.2.1 i j x y i1 i2 i3 ex ey
theorem zl9 {xs:Array Keyed} {f:Nat×Nat×Nat->Nat×Nat×Nat} (hf: ∀ t,(f t).1=t.1/\(f t).2.1=t.2.1): ∀ {p:List (Nat×Nat×Nat)} {i a b:Nat},chn c xs p a b->chn c xs (p.modify i f) a b
 | [],i,a,b,h=>by cases i<;>exact h
 | t::r,0,a,b,h=>by
  show chn c xs (f t::r) a b
  refine ⟨(hf t).1.trans h.1,?_,?_,?_⟩
  ·rw [(hf t).2];exact h.2.1
  ·rw [(hf t).2];exact h.2.2.1
  ·rw [(hf t).2];exact h.2.2.2
 | t::r,i+1,a,b,h=>by
  show chn c xs (t::r.modify i f) a b
  exact ⟨h.1,h.2.1,h.2.2.1,zl9 hf h.2.2.2⟩
structure Rn (c:Cx) (a0:Array Keyed) (lo:Nat) (st:SortSt):Prop where
 k:kindOf st=c.kd
 f:failedOf st=none
 p:(arrOf st).toList.Perm a0.toList
 h:chn c (arrOf st) (pendingOf st).toList 0 lo
theorem Rn.size {a0:Array Keyed} {lo:Nat} {st:SortSt} (h:Rn c a0 lo st):(arrOf st).size=a0.size:=by simpa using h.p.length_eq
theorem Rn.ok {a0:Array Keyed} {lo:Nat} {st:SortSt} (h:Rn c a0 lo st) (ho:okA c a0):okA c (arrOf st):=fun x hx=>ho x (h.p.mem_iff.mp hx)
theorem zr9 {α:Type} {l:List α} {i:Nat} (h:i+1<l.length): ∃ P x y S,l=P++x::y::S/\P.length=i:=by
 refine ⟨l.take i,l[i],l[i+1],l.drop (i+2),?_,by rw [List.length_take];omega⟩
 rw [<- qae, <-qae,qam]
theorem zoV {a0:Array Keyed} {st:SortSt} {lo i:Nat} {Q:Bool->SortSt->Prop} (h:Rn c a0 lo st) (ho:okA c a0) (hlo:lo<=a0.size) (hi:i+1<(pendingOf st).size)
  (hq: ∀ st',Rn c a0 lo st'->(pendingOf st').size+1=(pendingOf st).size->Loc (arrOf st) (arrOf st') 0 lo->Q true st'):c.wp (MAt i) Q st:=by
 obtain ⟨P,⟨sa,na,pa⟩,⟨sb,nb,pb⟩,S,eL,eP⟩:=zr9 (l:=(pendingOf st).toList) (i:=i) (by simpa using hi)
 have hh:=h.h
 rw [eL,zgv] at hh
 obtain ⟨m,h1,h2,h3,h4,h5,h6,h7,h8⟩:=hh
 dsimp only at h2 h3 h4 h5 h6 h7 h8
 subst h2 h5
 have hl1:=zez h1
 have hl2:=zez h8
 have hz:=h.size
 have g1:(pendingOf st)[i]? = some (sa,na,pa):=by
  rw [<- qaj,eL,qaa (by omega),eP,Nat.sub_self];rfl
 have g2:(pendingOf st)[i+1]? = some (sa+na,nb,pb):=by
  rw [<- qaj,eL,qaa (by omega),eP,show i+1 - i=1 by omega];rfl
 refine zuO h.k h.f (h.ok ho) g1 g2 h3 h6 (by omega) h4 h7 ?_
 intro st' k1 k2 k3 k4 k5
 have e3:(pendingOf st').toList=P++(sa,na+nb,pa)::S:=by
  rw [k3]
  simp only [Array.toList_eraseIdxIfInBounds,Array.toList_setIfInBounds]
  rw [eL, <-eP]
  simp only [List.set_append_right _ _ (qaV _),Nat.sub_self,List.set_cons_zero]
  rw [List.eraseIdx_append_of_length_le (by omega),show P.length+1 - P.length=1 by omega]
  rfl
 refine hq st' ⟨k1,k2,k4.p.trans h.p,?_⟩ ?_ (k4.wide (Nat.zero_le _) (by omega))
 ·rw [e3,zgv]
  refine ⟨sa,zdJ h1 (fun i _ i2=>k4.o i (.inl i2)),rfl,?_,?_,?_⟩
  ·dsimp only;omega
  ·show sg c (arrOf st') sa (sa+(na+nb))
   rw [<- Nat.add_assoc];exact k5
  ·show chn c (arrOf st') S (sa+(na+nb)) lo
   rw [<- Nat.add_assoc]
   exact zdJ h8 (fun i i1 _=>k4.o i (.inr i1))
 ·have l1:(pendingOf st').size=(pendingOf st').toList.length:=by simp
  have l2:(pendingOf st).size=(pendingOf st).toList.length:=by simp
  rw [l1,l2,e3,eL]
  simp only [qav,qaE]
  omega
theorem zt9 {a0:Array Keyed} {st:SortSt} {Q:Unit->SortSt->Prop} (hk:kindOf st=c.kd) (hf:failedOf st=none) (hp:pendingOf st= #[]) (ha:arrOf st=a0) (ho:okA c a0)
  (hq: ∀ st',failedOf st'=none->(arrOf st').toList.Perm a0.toList->sg c (arrOf st') 0 a0.size->Q () st'):c.wp SR Q st:=by
 refine qa2 (wpS_get ?_)
 have ez:(arrOf st).size=a0.size:=by rw [ha]
 generalize hN:(arrOf st).size=N at ez
 dsimp only
 generalize (sortPriv% PySem.Builtin.minRun) N N 0=mr
 refine qa2 (wpS_mono (wpS_forRange (I:=fun x r st'=>r.1=none/\Rn c a0 r.2 st'/\r.2<=N/\(x<=r.2\/r.2=N))
   (Q:=fun r st'=>r.1=none/\Rn c a0 N st') ?_ ?_ ⟨rfl,⟨hk,hf,by rw [ha],by rw [hp];rfl⟩,Nat.zero_le _,.inl (qaV _)⟩) ?_)
 ·rintro x ⟨r,lo⟩ st1 x1 x2 ⟨e1,e2,e3,e4⟩
  dsimp only at e1 e2 e3 e4 ⊢
  subst e1
  have z1:=e2.size
  refine zaD (fun w=>qa3 ⟨rfl,?_⟩) (fun w=> ?_)
  ·have:lo=N:=by omega
   rw [<- this]
   exact e2
  refine qa2 (zn6 (a0:=arrOf st1) (p0:=pendingOf st1) ⟨e2.k,e2.f,rfl,Loc.refl _ _ _⟩ (e2.ok ho) (by omega) (by omega) ?_)
  intro n st2 n1 n2 s2 u2
  dsimp only
  have fin: ∀ (n:Nat) (st3:SortSt),0<n->n<=N - lo->St c (arrOf st1) (pendingOf st1) lo (lo+(N - lo)) st3->up c (arrOf st3) lo (lo+n)->Rn c a0 lo st3/\sg c (arrOf st3) lo (lo+n):=by
   intro n st3 m1 m2 m3 m4
   refine ⟨⟨m3.k,m3.f,m3.l.p.trans e2.p,?_⟩,zt0 m4⟩
   rw [m3.p]
   exact zdJ e2.h (fun i _ i2=>m3.l.o i (.inl i2))
  refine zaD (fun w2=>qa2 (zd8 (qa2 (zs7 s2 (e2.ok ho) (by omega) n1 (n:=min (N - lo) mr) (by omega) (by omega) u2 ?_)))) (fun w2=> ?_)
  intro st3 s3 u3
  rw [qa5 (by simp)]
  have hm:0<min (N - lo) mr/\min (N - lo) mr<=N - lo:=by omega
  obtain ⟨r3,g3⟩:=fin _ st3 hm.1 hm.2 s3 u3
  generalize min (N - lo) mr=m at hm g3 ⊢
  rotate_left
  obtain ⟨r3,g3⟩:=fin _ st2 n1 n2 s2 u2
  have hm:0<n/\n<=N - lo:=⟨n1,n2⟩
  generalize n=m at hm g3 ⊢
  generalize st2=st3 at r3 g3 ⊢
  all_goals
   have push: ∀ st4:SortSt,Rn c a0 lo st4->sg c (arrOf st4) lo (lo+m)->Rn c a0 (lo+m) (SortSt.mk' (kindOf st4) (arrOf st4) ((pendingOf st4).push (lo,m,0)) (gallopOf st4) (failedOf st4)):=by
    intro st4 r4 g4
    refine ⟨r4.k,r4.f,r4.p,?_⟩
    show chn c (arrOf st4) ((pendingOf st4).push (lo,m,0)).toList 0 (lo+m)
    rw [Array.toList_push,zgv]
    exact ⟨lo,r4.h,rfl,hm.1,g4,rfl⟩
   refine qa2 (wpS_get ?_)
   split
   ·refine qa2 (wpS_mono (wpS_forRange (I:=fun _ r st'=>r.1=none/\Rn c a0 lo st'/\sg c (arrOf st') lo (lo+m))
      (Q:=fun r st'=>r.1=none/\Rn c a0 lo st'/\sg c (arrOf st') lo (lo+m)) ?_ ?_ ⟨rfl,r3,g3⟩) ?_)
    ·rintro y ⟨r,u⟩ st4 y1 y2 ⟨f1,f2,f3⟩
     dsimp only at f1 f2 f3 ⊢
     subst f1
     refine qa2 (wpS_get ?_)
     split
     ·rename_i hs
      have hs2:(pendingOf st4).size>1:=by
       by_cases hc:(pendingOf st4).size>1
       ·exact hc
       ·rw [qa5 hc] at hs;cases hs
      refine zaD (fun _=>qa3 ⟨rfl,f2,f3⟩) (fun _=>qa2 (zoV f2 ho (by omega) (by show (pendingOf st4).size - 2+1<(pendingOf st4).size;omega) ?_))
      intro st5 r5 _ l5
      rw [qa5 (by simp)]
      refine qa3 ⟨rfl,r5,?_⟩
      intro i j a b i1 i2 i3 ea eb
      rw [l5.o i (.inr i1)] at ea
      rw [l5.o j (.inr (by omega))] at eb
      exact f3 i j a b i1 i2 i3 ea eb
     ·exact qa3 ⟨rfl,f2,f3⟩
    ·intro r st4 hh
     exact hh
    ·rintro ⟨r,u⟩ st4 ⟨f1,f2,f3⟩
     dsimp only at f1 f2 f3 ⊢
     subst f1
     refine qa2 (wpS_modify (qa2 (wpS_modify (qa3 ⟨rfl,?_,by dsimp only;omega,by dsimp only;omega⟩))))
     refine push _ ⟨f2.k,f2.f,f2.p,?_⟩ f3
     show chn c (arrOf st4) ((pendingOf st4).modify _ _).toList 0 lo
     rw [Array.toList_modify]
     refine zl9 ?_ f2.h
     exact fun _=>⟨rfl,rfl⟩
   ·exact qa2 (wpS_modify (qa3 ⟨rfl,push _ r3 g3,by dsimp only;omega,by dsimp only;omega⟩))
 ·rintro ⟨r,lo⟩ st1 ⟨e1,e2,e3,e4⟩
  dsimp only at e1 e2 e3 e4 ⊢
  have:lo=N:=by omega
  exact ⟨e1,this▸e2⟩
 ·rintro ⟨r,lo⟩ st1 ⟨e1,e2⟩
  dsimp only at e1 e2 ⊢
  subst e1
  refine qa2 (wpS_mono (wpS_forRange (I:=fun x r st'=>r.1=none/\Rn c a0 N st'/\((pendingOf st').size<=1\/(pendingOf st').size+x<=N))
    (Q:=fun r st'=>r.1=none/\Rn c a0 N st'/\(pendingOf st').size<=1) ?_ ?_ ⟨rfl,e2,.inr ?_⟩) ?_)
  ·rintro x ⟨r,u⟩ st2 x1 x2 ⟨f1,f2,f3⟩
   dsimp only at f1 f2 f3 ⊢
   subst f1
   refine qa2 (wpS_get ?_)
   refine zaD (fun w=>qa3 ⟨rfl,f2,w⟩) (fun w=>qa2 (zoV f2 ho (by omega) ?_ ?_))
   ·replace w: ¬(pendingOf st2).size<=1:=w
    have hx: ∀ (p:Prop) [Decidable p],(if p then (pendingOf st2).size - 2 - 1 else (pendingOf st2).size - 2)+1<(pendingOf st2).size:=by
     intro p _
     split<;>omega
    exact hx _
   ·intro st3 r3 p3 _
    rw [qa5 (by simp)]
    exact qa3 ⟨rfl,r3,by omega⟩
  ·rintro ⟨r,u⟩ st2 ⟨f1,f2,f3⟩
   exact ⟨f1,f2,by omega⟩
  ·have:=zez e2.h
   simp only [qas] at this
   omega
  ·rintro ⟨r,u⟩ st2 ⟨f1,f2,f3⟩
   dsimp only at f1 f2 f3 ⊢
   subst f1
   refine qa3 (hq _ f2.f f2.p ?_)
   have hh:=f2.h
   have hl:(pendingOf st2).toList.length<=1:=by simpa using f3
   rw [<- ez]
   match hL:(pendingOf st2).toList,hl with
   | [],_=>
    rw [hL] at hh
    have:0=N:=hh
    intro i j x y i1 i2 i3
    omega
   | [t],_=>
    rw [hL] at hh
    obtain ⟨t1,t2,t3,t4⟩:=hh
    have t5:0+t.2.1=N:=t4
    rw [t5] at t3
    exact t3
end
end TS
end
section
namespace TS
set_option autoImplicit false
open PySem PyProof PyProof.Rows
noncomputable def h6 (h:Heap) (a:Addr) (vs:List Value):Heap:=((h.update a (Obj.mapSeq fun _=> #[])).push (seqObj "tuple" vs.toArray 0)).push (seqObj "list" #[] 0)
theorem zmK (c:Cx) {s:Shared} {a:Addr} {vs:List Value} {n:Nat} {P:Fin->Shared->Prop} (ho:s.heap.get? a=some (seqObj "list" vs.toArray n)) (hs:c.s={s with heap:=h6 s.heap a vs})
  (hok: ∀ v,v∈vs->c.ok v) (hkk:2<=vs.length-> ∀ Q:SortKind->Shared->Prop,Q c.kd c.s->wpAny (model c.prog c.w) c.A (keyKind' vs.toArray) Q c.E c.s) (hz:vs.length<=sizeLine)
  (h: ∀ xs:Array Keyed,xs.toList.Perm (pairsOf vs).toList->sg c xs 0 vs.length->P (.done (.ret .none)) {s with heap:=sortedHeap s.heap a vs (xs.map (·.2))}):
  wpAny (model c.prog c.w) c.A (Builtin.«list.sort» ⟨[.ref a],[]⟩) P c.E s:=by
 rw [list_sort_plain]
 have ha:a<s.heap.objs.size:=qaQ ho
 have zz:vs.toArray.size=vs.length:=by simp
 refine qaW (listItems_at ho rfl ?_)
 refine qaW (listUpdate_at ho rfl ?_ (by rw [zz];exact hz) (Nat.zero_le _))
 obtain ⟨e1,ho1⟩: ∃ e1,(s.heap.update a (Obj.mapSeq fun _=> #[])).get? a=some (seqObj "list" #[] e1):=⟨_,get?_update_seq ho (fun _=> #[])⟩
 refine qaW (seqEpoch_at ho1 rfl ?_)
 refine qaW (wpAny_newTuple ?_ (by simpa using hz))
 refine qaW (wpAny_newList ?_)
 refine qaO ?_
 have ho6:(h6 s.heap a vs).get? a=some (seqObj "list" #[] e1):=by
  unfold h6
  rw [Heap.get?_push_ne _ _ _ (by rw [size_push',Heap.size_update];exact qaR (Nat.lt_succ_of_lt ha)),Heap.get?_push_ne _ _ _ (by rw [Heap.size_update];exact qaR ha)]
  exact ho1
 show wpAny (model c.prog c.w) c.A _ P c.E {s with heap:=h6 s.heap a vs}
 rw [<- hs]
 have ho7:c.s.heap.get? a=some (seqObj "list" #[] e1):=by rw [hs];exact ho6
 dsimp only
 have zx: ∀ xs:Array Keyed,xs.toList.Perm (pairsOf vs).toList->(xs.map (·.2)).size<=sizeLine+1:=by
  intro xs hp
  have:=hp.length_eq
  simp only [qas,pairsOf_size] at this
  rw [Array.size_map];omega
 have e2: ∀ out:Array Value,({c.s with heap:=c.s.heap.update a (Obj.mapSeq fun _=>out)}:Shared)={s with heap:=sortedHeap s.heap a vs out}:=by
  intro out;rw [hs];rfl
 by_cases h2:vs.toArray.size<2
 ·rw [qa4 h2,qa4 h2]
  refine qaW (qaX ?_)
  rw [StateT.run_pure]
  refine qaW (qaX ?_)
  dsimp only
  refine qaW (seqEpoch_at ho7 rfl ?_)
  refine qaW (listUpdate_at ho7 rfl ?_ (hsz2:=zx _ (List.Perm.refl _)))
  simp only [bne_self_eq_false,qax,if_false]
  refine qaX ?_
  rw [e2]
  refine h (vs.toArray.zip vs.toArray) (List.Perm.refl _) ?_
  intro i j x y i1 i2 i3 ex ey
  have:i=j:=by omega
  subst this
  rw [ex] at ey
  cases ey
  exact Cx.le_refl _
 ·rw [qa5 h2,qa5 h2]
  refine qaW (hkk (by omega) _ ?_)
  refine qaW (qaZ (zt9 (c:=c) (a0:=pairsOf vs) (st:=SortSt.mk' c.kd (vs.toArray.zip vs.toArray) #[] 7 none) (Q:=fun _ st'=>failedOf st'=none/\(arrOf st').toList.Perm (pairsOf vs).toList/\sg c (arrOf st') 0 (pairsOf vs).size)
    rfl rfl rfl rfl ?_ fun st' b1 b2 b3=>⟨b1,b2,b3⟩) ?_ fun _ _ e=>e)
  ·intro x hx
   rw [pairsOf_toList] at hx
   exact hok _ (mem_zip_self hx).2
  rintro ⟨⟨⟩,st'⟩ s' ⟨rfl,hf,hp,hg⟩
  rw [pairsOf_size] at hg
  dsimp only
  refine qaW (seqEpoch_at ho7 rfl ?_)
  refine qaW (listUpdate_at ho7 rfl ?_ (hsz2:=zx _ hp))
  rw [hf]
  simp only [bne_self_eq_false,qax,if_false]
  refine qaX ?_
  rw [e2]
  exact h _ hp hg
theorem ztS {c:Cx} {xs:Array Keyed} (h:sg c xs 0 xs.size):xs.toList.Pairwise c.le:=by
 have:=zk7 h (qaV _)
 unfold srt at this
 rwa [Array.extract_size] at this
def Srt (prog:Program) (w:World) (A:Around) (vs:List Value) (s1:Shared) (kd:SortKind) (O:KeyOrd) (ky:Value->O.α) (ok:Value->Prop):Prop:=
 (∀ v,v∈vs->ok v)/\ ∀ s2:Shared,(∀ b o,s1.heap.get? b=some o->s2.heap.get? b=some o)->
  (2<=vs.length-> ∀ (E:Value->Shared->Prop) (Q:SortKind->Shared->Prop),Q kd s2->wpAny (model prog w) A (keyKind' vs.toArray) Q E s2)/\
  ∀ (E:Value->Shared->Prop) (x y:Value) (Q:Bool->Shared->Prop),ok x->ok y->Q (O.blt (ky x) (ky y)) s2->wpAny (model prog w) A (keyLt' kd x y) Q E s2
theorem zjz {prog:Program} {w:World} {A:Around} {E:Value->Shared->Prop} {s:Shared} {x:Value} {Q:Value->Shared->Prop} (hc: ∀ E':Value->Shared->Prop,wpAny (model prog w) A.in1 (collect x) (fun vs s1=>
      vs.length<=sizeLine/\ ∃ kd O ky ok,Srt prog w A.in1.in1 vs s1 kd O ky ok/\
      ∀ (out:List Value) e h',out.Perm vs->out.Pairwise (fun x y=>O.kle (ky x) (ky y))->(∀ b ob,s1.heap.get? b=some ob->h'.get? b=some ob)->h'.get? s1.heap.objs.size=some (seqObj "list" out.toArray e)->Q (.ref s1.heap.objs.size) {s1 with heap:=h'}) E' s):
  wpAny (model prog w) A (call (.builtin "sorted") [x]) Q E s:=by
 refine Calls.call_function_entry kind_sorted plain_sorted entry_sorted (args_sorted1 _) ?_
 unfold Builtin.«sorted»
 refine qaW (m:=checkCount "sorted" 1 1 _) (qaX ?_)
 refine qaW (m:=collect x) (qaZ (hc _) (fun vs s1 ⟨hz,kd,O,ky,ok,⟨hS,hS2⟩,q⟩=> ?_) fun _ _ z=>z)
 refine qaW (wpAny_newList ?_ hz)
 have at0:(s1.heap.push {cls:= .type "list",data:= .seq vs.toArray}).get? s1.heap.objs.size=some (seqObj "list" vs.toArray 0):=qar _ rfl
 have keep: ∀ b ob,s1.heap.get? b=some ob->(h6 (s1.heap.push {cls:= .type "list",data:= .seq vs.toArray}) s1.heap.objs.size vs).get? b=some ob:=by
  intro b ob eb
  have lt:=qaQ eb
  unfold h6
  refine qag _ (qag _ ?_)
  exact (qah _ _ (Ne.symm (qaR lt))).trans (qag _ eb)
 obtain ⟨g1,g2⟩:=hS2 {s1 with heap:=h6 (s1.heap.push {cls:= .type "list",data:= .seq vs.toArray}) s1.heap.objs.size vs} keep
 refine qaW (qaO (wpAny_call_entry slot_list_sort ⟨_,at0,rfl⟩ entry_list_sort (zmK (s:={s1 with heap:=s1.heap.push {cls:= .type "list",data:= .seq vs.toArray}})
   ⟨prog,w,A.in1.in1,_,_,kd,O,ky,ok,g2⟩ at0 rfl hS (fun h2 Q hQ=>g1 h2 _ Q hQ) hz fun xs hp hg=>⟨_,rfl,?_⟩) (args_list_sort _)))
 obtain ⟨e,he⟩:=sortedHeap_at (out:=xs.map (·.2)) at0
 have hl:xs.size=vs.length:=by
  have:=hp.length_eq
  simpa [pairsOf_size] using this
 rw [<- hl] at hg
 have hpw:=ztS hg
 have hmem: ∀ p,p∈xs.toList->p.1=p.2:=fun p hp'=>(mem_zip_self (by rw [<- pairsOf_toList];exact hp.mem_iff.mp hp')).1
 refine qaX ⟨_,rfl,q (xs.map (·.2)).toList e _ ?_ ?_ (fun b ob eb=> ?_) (by rw [Array.toArray_toList];exact he)⟩
 ·rw [Array.toList_map]
  have:=hp.map (·.2)
  rw [pairsOf_toList] at this
  refine this.trans (List.Perm.of_eq ?_)
  exact List.map_snd_zip (qaV _)
 ·rw [Array.toList_map,List.pairwise_map]
  refine List.Pairwise.imp_of_mem ?_ hpw
  intro u v hu hv huv
  rw [<- hmem u hu, <-hmem v hv]
  exact huv
 ·have lt:=qaQ eb
  rw [sortedHeap_old (qaR lt) (by rw [qaL];exact Nat.lt_succ_of_lt lt)]
  exact qag _ eb
end TS
end
namespace TS
set_option autoImplicit false
open PySem PyProof PyProof.Rows PySem.SeqAt
open PySem.MeetsSeq PySem.MeetsSeq2 PySem.MeetsSeq3
inductive Rs (A:Around) (s:Shared) (b:Bool):List ((Value×Value)×Nat)->Bool->Bool->Prop
 | nil (d:Bool):Rs A s b [] d d
 | eq {p q:Value} {i:Nat} {rest:List ((Value×Value)×Nat)} {d r:Bool} (h:EqAt A s p q true) (t:Rs A s b rest d r):Rs A s b (((p,q),i)::rest) d r
 | ne {p q:Value} {i:Nat} {rest:List ((Value×Value)×Nat)} {d l:Bool} (h:EqAt A s p q false) (t: ∀ (prog:Program) (w:World) (E:Value->Shared->Prop) (Q:Bool->Shared->Prop),Q l s->wpAny (model prog w) A (oneLt' (b && i==0) p q) Q E s):Rs A s b (((p,q),i)::rest) d l
section
variable {prog:Program} {w:World} {A:Around} {s:Shared}
theorem zki {b:Bool} {F:((Value×Value)×Nat)->(Option Bool×Unit)->Sem (ForInStep (Option Bool×Unit))}
  (hF: ∀ p q i c,F ((p,q),i) c=(eqBool p q>>=fun e=>if (!e)=true then oneLt' (b && i==0) p q>>=fun r=>pure (.done (some r,())) else pure (.yield (none,())))) {E:Value->Shared->Prop}:
  ∀ {L:List ((Value×Value)×Nat)} {d r:Bool},Rs A s b L d r->wpAny (model prog w) A (forIn L ((none:Option Bool),()) F) (fun c s'=>s'=s/\(c.1=some r\/(c.1=none/\d=r))) E s
 | _,_,_,.nil d=>by
  rw [List.forIn_nil]
  exact qaX ⟨rfl,.inr ⟨rfl,rfl⟩⟩
 | _,_,_,.eq h t=>by
  rw [List.forIn_cons,hF,bind_assoc]
  refine qaW (h prog w _ _ ?_)
  rw [qa5 (by simp),pure_bind]
  exact zki hF t
 | _,_,_,.ne h t=>by
  rw [List.forIn_cons,hF,bind_assoc]
  refine qaW (h prog w _ _ ?_)
  rw [qa4 (by simp),bind_assoc]
  refine qaW (t prog w _ _ ?_)
  rw [pure_bind]
  exact qaX ⟨rfl,.inl rfl⟩
theorem zlb {b r:Bool} {E:Value->Shared->Prop} {Q:Bool->Shared->Prop} {a q:Addr} {xs ys:Array Value} (hx:IsTup s.heap a xs) (hy:IsTup s.heap q ys) (h:Rs A s b (xs.toList.zip ys.toList).zipIdx (decide (xs.size<ys.size)) r) (hq:Q r s):
  wpAny (model prog w) A (keyLt' (tuples' b) (.ref a) (.ref q)) Q E s:=by
 obtain ⟨o1,e1,_,n1,d1⟩:=hx
 obtain ⟨o2,e2,_,n2,d2⟩:=hy
 refine qaW (listItems_at e1 d1 (qaW (listItems_at e2 d2 ?_)))
 refine qaW (qaZ (zki (b:=b) ?_ h) ?_ fun _ _ e=>e)
 ·exact fun p q i c=>rfl
 ·rintro ⟨c,u⟩ s' ⟨rfl,e | ⟨e,e3⟩⟩
  ·cases e
   exact qaX hq
  ·cases e
   subst e3
   exact qaX hq
theorem zmF {x y:Value} {l:Bool} (h: ∀ (prog:Program) (w:World) (E Q:Value->Shared->Prop),Q (.bool l) s->wpAny (model prog w) A (richCompare .Lt x y) Q E s) {E:Value->Shared->Prop} {Q:Bool->Shared->Prop} (hq:Q l s):
  wpAny (model prog w) A (oneLt' false x y) Q E s:=by
 rw [oneLt'_eq]
 simp only [qax,if_false]
 exact qaW (h prog w _ _ (wpAny_truthy_bool hq))
theorem zjy {E:Value->Shared->Prop} {Q:Bool->Shared->Prop} {u v:Value} {p q:Int×List Int} (hv:L3.zbD s.heap v p) (hu:L3.zbD s.heap u q) (hr:A.units+2<cLine) (h:Q (L3.pLt p q) s):
  wpAny (model prog w) A (keyLt' (tuples' true) v u) Q E s:=by
 obtain ⟨a,x,t,its,rfl,ha,hx,hi⟩:=hv
 obtain ⟨b,y,t',its',rfl,hb,hy,hj⟩:=hu
 refine zlb ha hb (r:=L3.pLt p q) ?_ h
 show Rs A s true [((.int p.1 t,.int q.1 t'),0),((.ref x,.ref y),1)] (decide (2<2)) _
 unfold L3.pLt
 have c0:EqAt A s (.int p.1 t) (.int q.1 t') (p.1==q.1):=EqAt.int_int _ _ _ _
 have c1:EqAt A s (.ref x) (.ref y) (p.2==q.2):=L3.zeS hx hy hi hj (by omega)
 by_cases h1:p.1=q.1
 ·rw [qa4 h1]
  rw [show (p.1==q.1)=true by simpa using h1] at c0
  refine .eq c0 ?_
  by_cases h2:p.2=q.2
  ·rw [show (p.2==q.2)=true by simpa using h2] at c1
   rw [h2,L3.zbK]
   exact .eq c1 (.nil _)
  ·rw [show (p.2==q.2)=false by simpa using h2] at c1
   exact .ne c1 (fun prog w E Q hq=>zmF (fun prog w E Q hq=>HT.zfz hx hy (by simpa using hi) (by simpa using hj) (by omega) hq) hq)
 ·rw [qa5 h1]
  rw [show (p.1==q.1)=false by simpa using h1] at c0
  exact .ne c0 (fun prog w E Q hq=>oneLt_int hq)
def zpJ (h:Heap) (v:Value) (ns:List Int):Prop:= ∃ (a:Addr) (its:List Value),v= .ref a/\IsTup h a its.toArray/\IntsAre its ns
end
end TS
namespace TS
set_option autoImplicit false
open PySem PyProof PyProof.Rows PySem.SeqAt
def zhx (h:Heap) (v:Value):Prop:= ∃ (a:Addr) (xs:Array Value) (n:Int) (t:Tok),v= .ref a/\IsTup h a xs/\xs[0]? = some (.int n t)
section
variable {prog:Program} {w:World} {A:Around} {s:Shared}
theorem zmy {v:Value} (h:zhx s.heap v) {E:Value->Shared->Prop}:wpAny (model prog w) A (firstOfTuple' v) (fun r s'=>s'=s/\ ∃ n t,r=some (.int n t)) E s:=by
 obtain ⟨a,xs,n,t,rfl,⟨o,e1,e2,m,d⟩,hx⟩:=h
 refine qaW (wpAny_typeOf (T:="tuple") ⟨o,e1,e2⟩ ?_)
 have:(Value.type "tuple" != Value.type "tuple")=false:=by rfl
 rw [this]
 refine qaW (listItems_at e1 d (qaX ⟨rfl,n,t,hx⟩))
theorem zhk {E:Value->Shared->Prop}: ∀ (vs:List Value),(∀ v,v∈vs->zhx s.heap v)->wpAny (model prog w) A (vs.mapM firstOfTuple') (fun r s'=>s'=s/\ ∃ us ns,IntsAre us ns/\r=us.map some/\us.length=vs.length) E s
 | [],_=>by rw [List.mapM_nil];exact qaX ⟨rfl,[],[],.nil,rfl,rfl⟩
 | v::vs,h=>by
  rw [List.mapM_cons]
  refine qaW (qaZ (zmy (h v (qau ..))) ?_ fun _ _ e=>e)
  rintro r s' ⟨es,n,t,rfl⟩
  rw [es]
  refine qaW (qaZ (zhk vs fun u hu=>h u (qan _ hu)) ?_ fun _ _ e=>e)
  rintro r s' ⟨es,us,ns,h1,rfl,h3⟩
  rw [es]
  exact qaX ⟨rfl,.int n t::us,n::ns,.cons n t h1,rfl,by simp [h3]⟩
theorem zpy {vs:List Value} (h: ∀ v,v∈vs->zhx s.heap v) (h0:2<=vs.length) {E:Value->Shared->Prop} {Q:SortKind->Shared->Prop} (hq:Q (tuples' true) s):wpAny (model prog w) A (keyKind' vs.toArray) Q E s:=by
 rw [keyKind'_eq,List.mapM_toArray,map_eq_pure_bind,bind_assoc]
 refine qaW (qaZ (zhk vs h) ?_ fun _ _ e=>e)
 rintro r s' ⟨rfl,us,ns,h1,rfl,h3⟩
 rw [pure_bind]
 rw [qa4 (by simp)]
 refine qaW (wpAny_rule ?_)
 have e1:Array.filterMap id (us.map some).toArray=us.toArray:=by simp
 rw [e1,oneTypeOnly'_eq,List.mapM_toArray,mapM_typeOf_ints h1]
 simp only [map_pure,pure_bind]
 obtain ⟨u,us',rfl⟩: ∃ u us',us=u::us':=by
  cases us with
  | nil=>simp at h3;omega
  | cons u us'=>exact ⟨u,us',rfl⟩
 have hall:((List.map (fun _=>Value.type "int") (u::us')).toArray.all fun x=>x==Value.type "int")=true:=by
  simp only [List.all_toArray,List.all_map,List.all_eq_true]
  intro _ _
  rfl
 have h0':(List.map (fun _=>Value.type "int") (u::us')).toArray[0]? = some (Value.type "int"):=by simp
 rw [h0']
 simp only [hall,if_true,pure_bind]
 exact qaX hq
end
theorem zod: ∀ a b c:List Int,HT.zaV a b=true->HT.zaV b c=true->HT.zaV a c=true
 | [],[],_,h,_=>by cases h
 | [],_::_,[],_,h=>by cases h
 | [],_::_,_::_,_,_=>rfl
 | _::_,[],_,h,_=>by cases h
 | _::_,_::_,[],_,h=>by cases h
 | x::a,y::b,z::c,h1,h2=>by
  rw [HT.za2] at h1 h2 ⊢
  have ih:=zod a b c
  split at h1<;>split at h2<;>split<;>simp_all<;>omega
theorem zn9: ∀ a b c:List Int,HT.zaV a c=true->HT.zaV a b=true\/HT.zaV b c=true
 | [],_,[],h=>by cases h
 | [],[],_::_,_=> .inr rfl
 | [],_::_,_::_,_=> .inl rfl
 | _::_,_,[],h=>by cases h
 | _::_,[],_::_,_=> .inr rfl
 | x::a,y::b,z::c,h=>by
  rw [HT.za2] at h ⊢
  rw [HT.za2]
  have ih:=zn9 a b c
  split at h<;>split<;>split<;>simp_all<;>omega
theorem zoI: ∀ a b:List Int,HT.zaV a b=false->HT.zaV b a=false->a=b
 | [],[],_,_=>rfl
 | [],_::_,h,_=>by cases h
 | _::_,[],_,h=>by cases h
 | x::a,y::b,h1,h2=>by
  rw [HT.za2] at h1 h2
  have ih:=zoI a b
  split at h1<;>split at h2<;>simp_all<;>omega
theorem zpF (a:Int×List Int):L3.pLt a a=false:=by unfold L3.pLt;rw [qa4 rfl,L3.zbK]
theorem zsW (a b c:Int×List Int) (h1:L3.pLt a b=true) (h2:L3.pLt b c=true):L3.pLt a c=true:=by
 unfold L3.pLt at*
 have:=zod a.2 b.2 c.2
 split at h1<;>split at h2<;>split<;>simp_all<;>omega
theorem zsV (a b c:Int×List Int) (h:L3.pLt a c=true):L3.pLt a b=true\/L3.pLt b c=true:=by
 unfold L3.pLt at*
 have:=zn9 a.2 b.2 c.2
 split at h<;>split<;>split<;>simp_all<;>omega
theorem zsd (a b:Int×List Int) (h1:L3.pLt a b=false) (h2:L3.pLt b a=false):a=b:=by
 unfold L3.pLt at*
 have:=zoI a.2 b.2
 split at h1<;>split at h2<;>simp_all<;>first | omega | exact Prod.ext (Eq.symm (by assumption)) (by assumption)
noncomputable def zoL:KeyOrd:=⟨Int×List Int,L3.pLt,zpF,zsW,zsV,zsd⟩
theorem zmH {h:Heap} {v:Value} {p q:Int×List Int} (h1:L3.zbD h v p) (h2:L3.zbD h v q):p=q:=by
 obtain ⟨a,x,t,its,rfl,⟨o,e1,_,n1,d1⟩,⟨o2,e2,_,n2,d2⟩,hi⟩:=h1
 obtain ⟨b,y,t',its',eb,⟨o',e1',_,n1',d1'⟩,⟨o2',e2',_,n2',d2'⟩,hj⟩:=h2
 cases eb
 rw [e1] at e1'
 cases e1'
 rw [d1] at d1'
 injection d1' with z1 _
 have z2:[Value.int p.1 t,.ref x]=[.int q.1 t',.ref y]:=by simpa using congrArg Array.toList z1
 injection z2 with y1 z3
 injection z3 with y2 _
 injection y1 with y1 _
 injection y2 with y2
 subst y2
 rw [e2] at e2'
 cases e2'
 rw [d2] at d2'
 injection d2' with z4 _
 have z5:its=its':=by simpa using congrArg Array.toList z4
 subst z5
 exact Prod.ext y1 (L3.zfP hi hj)
theorem zpJ.keep {h h':Heap} {v:Value} {p:List Int} (k: ∀ b o,h.get? b=some o->h'.get? b=some o):zpJ h v p->zpJ h' v p:=fun ⟨a,its,e,⟨o,x1,x2⟩,z⟩=>⟨a,its,e,⟨o,k _ _ x1,x2⟩,z⟩
theorem zj6 {h:Heap} {v:Value} {p:Int×List Int} (h1:L3.zbD h v p):zhx h v:=by
 obtain ⟨a,x,t,its,rfl,ha,_,_⟩:=h1
 exact ⟨a,_,p.1,t,rfl,ha,rfl⟩
structure KR where
 O:KeyOrd
 dflt:O.α
 At:Heap->Value->O.α->Prop
 inj: ∀ {h v p q},At h v p->At h v q->p=q
 keep: ∀ {h h':Heap} {v p},(∀ b o,h.get? b=some o->h'.get? b=some o)->At h v p->At h' v p
 first: ∀ {h v p},At h v p->zhx h v
 lt: ∀ {prog:Program} {w:World} {A:Around} {s:Shared} {E:Value->Shared->Prop} {Q:Bool->Shared->Prop} {u v p q},At s.heap v p->At s.heap u q->A.units+2<cLine->Q (O.blt p q) s->wpAny (model prog w) A (keyLt' (tuples' true) v u) Q E s
noncomputable def krP:KR:=⟨zoL,(0,[]),L3.zbD,zmH,L3.zbD.keep,zj6,zjy⟩
open Classical in
noncomputable def KR.ky (k:KR) (h:Heap) (v:Value):k.O.α:=if e: ∃ p,k.At h v p then e.choose else k.dflt
theorem KR.ky_eq {k:KR} {h:Heap} {v:Value} {p:k.O.α} (e:k.At h v p):k.ky h v=p:=by
 unfold KR.ky
 rw [dif_pos ⟨p,e⟩]
 exact k.inj (Exists.choose_spec ⟨p,e⟩) e
theorem KR.srt (k:KR) {prog:Program} {w:World} {A:Around} {vs:List Value} {s1:Shared} (hr:A.units+2<cLine) (h: ∀ v,v∈vs-> ∃ p,k.At s1.heap v p):Srt prog w A vs s1 (tuples' true) k.O (k.ky s1.heap) (fun v=> ∃ p,k.At s1.heap v p):=by
 refine ⟨h,fun s2 hk=>⟨fun h2 E Q hq=>zpy (fun v hv=> ?_) h2 hq,fun E x y Q hx hy hq=> ?_⟩⟩
 ·obtain ⟨p,hp⟩:=h v hv
  exact k.first (k.keep hk hp)
 ·obtain ⟨p,hp⟩:=hx
  obtain ⟨q,hq'⟩:=hy
  rw [KR.ky_eq hp,KR.ky_eq hq'] at hq
  exact k.lt (k.keep hk hp) (k.keep hk hq') hr hq
end TS
namespace TS
set_option autoImplicit false
open PySem PyProof.Rows
theorem zkH {α β:Type} {R:α->β->Prop} {l l':List β} (hp:l'.Perm l): ∀ {as:List α},PySem.Paired R as l-> ∃ as',as'.Perm as/\PySem.Paired R as' l':=by
 induction hp with
 | nil=>intro as h;exact ⟨as,.refl _,h⟩
 | cons x _ ih=>
  intro as h
  cases h with
  | cons r t=>
   obtain ⟨as',h1,h2⟩:=ih t
   exact ⟨_::as',h1.cons _,.cons r h2⟩
 | swap x y l=>
  intro as h
  cases h with
  | cons r t=>
   cases t with
   | cons r2 t2=>exact ⟨_,.swap _ _ _,.cons r2 (.cons r t2)⟩
 | trans _ _ ih1 ih2=>
  intro as h
  obtain ⟨a1,g1,g2⟩:=ih2 h
  obtain ⟨a2,g3,g4⟩:=ih1 g2
  exact ⟨a2,g3.trans g1,g4⟩
noncomputable def zqI {α:Type} (lt:α->α->Bool) (x:α):List α->List α
 | []=>[x]
 | y::r=>if lt x y then x::y::r else y::zqI lt x r
noncomputable def zdn {α:Type} (lt:α->α->Bool):List α->List α
 | []=>[]
 | x::r=>zqI lt x (zdn lt r)
theorem zeZ {α:Type} (lt:α->α->Bool) (x:α): ∀ l:List α,(zqI lt x l).Perm (x::l)
 | []=> .refl _
 | y::r=>by
  unfold zqI
  split
  ·exact .refl _
  ·exact ((zeZ lt x r).cons y).trans (.swap _ _ _)
theorem zce {α:Type} (lt:α->α->Bool): ∀ l:List α,(zdn lt l).Perm l
 | []=> .refl _
 | x::r=>(zeZ lt x _).trans ((zce lt r).cons x)
theorem zkr (O:KeyOrd) (x:O.α): ∀ l:List O.α,l.Pairwise O.kle->(zqI O.blt x l).Pairwise O.kle
 | [],_=>List.pairwise_singleton _ _
 | y::r,h=>by
  unfold zqI
  have h':=qay.mp h
  split
  ·rename_i hl
   refine qay.mpr ⟨fun z hz=> ?_,h⟩
   rcases qaP.mp hz with rfl | hz
   ·exact KeyOrd.kle_of_klt hl
   ·exact KeyOrd.kle_trans (KeyOrd.kle_of_klt hl) (h'.1 z hz)
  ·rename_i hl
   refine qay.mpr ⟨fun z hz=> ?_,zkr O x r h'.2⟩
   rcases qaP.mp ((zeZ _ _ _).mem_iff.mp hz) with rfl | hz
   ·exact KeyOrd.kle_of_not_klt hl
   ·exact h'.1 z hz
theorem zc3 (O:KeyOrd): ∀ l:List O.α,(zdn O.blt l).Pairwise O.kle
 | []=> .nil
 | x::r=>zkr O x _ (zc3 O r)
theorem zfU (O:KeyOrd) {l l':List O.α} (hp:l'.Perm l) (hs:l'.Pairwise O.kle):l'=zdn O.blt l:=
 List.Perm.eq_of_pairwise (le:=O.kle) (fun a b _ _ h1 h2=>KeyOrd.kle_antisymm h1 h2) hs (zc3 O l) (hp.trans (zce _ _).symm)
end TS
namespace L2
open PySem PySem.Spec PyProof.Rows TS
section
variable {X:L2.Cx}
theorem zhH (k:KR) {VA:W.Frag->Hp->V->k.O.α->Prop} (of: ∀ {pins:List (Addr×Obj)} {σ:L2.St} {H:Hp} {s:Shared} {v:V} {u:Value} {p:k.O.α},Inv X pins σ H s->VA X.K H v p->zbl v u->k.At s.heap u p) (hu:X.A.units+60<cLine):
  zay X (.builtin "sorted") (fun xs H Q=> ∃ (a:Addr) (zs:List (V×k.O.α)),xs=[.ref a]/\SqL X.K H a (zs.map (·.1))/\(∀ z,z∈zs->VA X.K H z.1 z.2)/\
    ∀ zs':List (V×k.O.α),zs'.Perm zs->zs'.Pairwise (fun x y=>k.O.kle x.2 y.2)-> ∀ l,H l=none->Q (.ref l) (upd H l (.lst (zs'.map (·.1))))):=by
 intro pins s σ H xs us Q I r h
 obtain ⟨a,zs,rfl,hq,hv,q⟩:=h
 obtain ⟨u,rfl,rx⟩:=zcR r
 cases rx
 obtain ⟨its,r',pl,hz⟩:=I.list hq
 have lz:its.length=zs.length:=by rw [<- r'.length,qaH]
 have mk: ∀ {zs:List (V×k.O.α)} {its:List Value},zaK (zs.map (·.1)) its->(∀ z,z∈zs->VA X.K H z.1 z.2)->PySem.Paired (fun z u=>zbl z.1 u/\k.At s.heap u z.2) zs its:=by
  intro zs
  induction zs with
  | nil=>intro its h _;cases h;exact .nil
  | cons z zs ih=>
   intro its h hv
   cases h with
   | cons r t=>exact .cons ⟨r,of I (hv z (qau ..)) r⟩ (ih t fun y hy=>hv y (qan _ hy))
 have hp:=mk r' hv
 have back: ∀ {zs:List (V×k.O.α)} {its:List Value},PySem.Paired (fun z u=>zbl z.1 u/\k.At s.heap u z.2) zs its->zaK (zs.map (·.1)) its/\(its.Pairwise (fun x y=>k.O.kle (k.ky s.heap x) (k.ky s.heap y))->zs.Pairwise (fun x y=>k.O.kle x.2 y.2))/\(∀ u,u∈its-> ∃ p,k.At s.heap u p)/\ ∀ y,y∈zs-> ∃ u,u∈its/\k.ky s.heap u=y.2:=by
  intro zs its h
  induction h with
  | nil=>exact ⟨.nil,fun _=> .nil,fun u hu=>(qaF hu).elim,fun u hu=>(qaF hu).elim⟩
  | cons r t ih=>
   obtain ⟨i1,i2,i3,i4⟩:=ih
   refine ⟨.cons r.1 i1,fun hh=> ?_,fun u hu=> ?_,fun y hy=> ?_⟩
   ·have hh':=qay.mp hh
    refine qay.mpr ⟨fun y hy=> ?_,i2 hh'.2⟩
    obtain ⟨u,u1,u2⟩:=i4 y hy
    have:=hh'.1 u u1
    rw [u2,KR.ky_eq r.2] at this
    exact this
   ·rcases qaP.mp hu with rfl | hu
    ·exact ⟨_,r.2⟩
    ·exact i3 u hu
   ·rcases qaP.mp hy with rfl | hy
    ·exact ⟨_,qau .., KR.ky_eq r.2⟩
    ·obtain ⟨u,u1,u2⟩:=i4 y hy
     exact ⟨u,qan _ u1,u2⟩
 have zl:its.length<=sizeLine:=by rw [lz, <-qaH (f:=(·.1))];exact hz
 refine zjz fun E'=>collect_list pl.isList ?_ zl
 have kp: ∀ b ob,s.heap.get? b=some ob->((s.heap.push (seqObj "list" #[] 0)).update s.heap.objs.size (Obj.mapSeq fun x=>x++its.toArray)).get? b=some ob:=fun b ob eb=>
  (qah _ _ (fun z=>qaN _ (z▸qaQ eb))).trans (qag _ eb)
 refine ⟨zl,_,_,_,_,k.srt (by rw [Around.in1_units,Around.in1_units];omega) (fun v hv=> ?_),fun out e h' ho hs k2 e2=> ?_⟩
 ·obtain ⟨p,hp'⟩:=(back hp).2.2.1 v hv
  exact ⟨p,k.keep kp hp'⟩
 ·obtain ⟨zs',g1,g2⟩:=zkH ho hp
  obtain ⟨b1,b2,b3,_⟩:=back g2
  have I1:=I.grown (s':={s with heap:=(s.heap.push (seqObj "list" #[] 0)).update s.heap.objs.size (Obj.mapSeq fun x=>x++its.toArray)}) rfl rfl kp
  refine ⟨.ref _,_,I1.laid (t':=s.toks) (o:= .lst (zs'.map (·.1))) k2 (qaV _) ⟨?_,out,e,b1,e2⟩,rfl,q zs' g1 (b2 ?_) _ (I1.hok.fresh (qaV _))⟩
  ·rw [qaH,g1.length_eq, <-lz]
   exact zl
  ·refine List.Pairwise.imp_of_mem ?_ hs
   intro x y hx hy hxy
   obtain ⟨p,hp'⟩:=b3 x hx
   obtain ⟨q',hq'⟩:=b3 y hy
   rw [KR.ky_eq (k.keep kp hp'),KR.ky_eq (k.keep kp hq')] at hxy
   rw [KR.ky_eq hp',KR.ky_eq hq']
   exact hxy
end
end L2
namespace L3
open PySem PySem.Spec PyProof.Rows L2 TS
section
variable {X:L2.Cx} {E:XE}
noncomputable def mkP (p:Int×List Int):D:= .tup [.int p.1,.tup (p.2.map D.int)]
theorem zjl: ∀ {ds:List D} {ns:List Int},zcl ds=some ns->ds=ns.map D.int
 | [],ns,e=>by cases e;rfl
 | d::r,ns,e=>by
  unfold zcl at e
  cases d with
  | int i=>
   dsimp only at e
   cases z:zcl r with
   | none=>rw [z] at e;cases e
   | some ms=>
    rw [z] at e
    cases e
    rw [qaM,zjl z]
  | _=>cases e
theorem zk8 {d:D} {p:Int×List Int} (e:zbB d=some p):d=mkP p:=by
 unfold zbB at e
 split at e
 ·rename_i i ds
  cases z:zcl ds with
  | none=>rw [z] at e;cases e
  | some ns=>
   rw [z] at e
   cases e
   rw [zjl z]
   rfl
 ·cases e
noncomputable def zf5 {α:Type} (f:D->Option α):List D->Option (List α)
 | []=>some []
 | d::r=>(f d).bind fun p=>(zf5 f r).map fun ps=>p::ps
theorem zeM: ∀ ds:List D,zf5 zbB ds=zcM ds
 | []=>rfl
 | d::r=>by unfold zf5 zcM;rw [zeM r]
noncomputable def zi9 {α:Type} (f:D->Option α) (mk:α->D) (lt:α->α->Bool):List D->M D:=zkQ fun d=>do
 let ds<-zkc d
 let ps<-ofO (match d with | .tup _=>none | _=>zf5 f ds)
 pure (.lst ((zdn lt ps).map mk))
noncomputable def zeF:List D->M D:=zi9 zbB mkP pLt
theorem zhz {α:Type} {f:D->Option α} {mk:α->D} {K:W.Frag} {ι:Io} {H:Hp} {VA:V->α->Prop} (hf: ∀ {d v p},Rel K ι H d v->f d=some p->d=mk p/\VA v p): ∀ {ds:List D} {vs:List V} {ps:List α},zal K ι H ds vs->zf5 f ds=some ps->
  ∃ zs:List (V×α),zs.map (·.1)=vs/\zs.map (·.2)=ps/\ ∀ z,z∈zs->VA z.1 z.2/\Rel K ι H (mk z.2) z.1
 | [],vs,ps,h,e=>by
  simp only [zal] at h
  subst h
  cases e
  exact ⟨[],rfl,rfl,fun z hz=>(qaF hz).elim⟩
 | d::r,vs,ps,h,e=>by
  simp only [zal] at h
  obtain ⟨v,r',rfl,h1,h2⟩:=h
  unfold zf5 at e
  cases z:f d with
  | none=>rw [z] at e;cases e
  | some p=>
   rw [z] at e
   cases z2:zf5 f r with
   | none=>rw [z2] at e;cases e
   | some qs=>
    rw [z2] at e
    cases e
    obtain ⟨zs,g1,g2,g3⟩:=zhz hf h2 z2
    obtain ⟨k1,k2⟩:=hf h1 z
    refine ⟨(v,p)::zs,by rw [qaM,g1],by rw [qaM,g2],fun y hy=> ?_⟩
    rcases qaP.mp hy with rfl | hy
    ·exact ⟨k2,k1▸h1⟩
    ·exact g3 y hy
theorem ziG {α:Type} {mk:α->D} {K:W.Frag} {ι:Io} {H:Hp}: ∀ {zs:List (V×α)},(∀ z,z∈zs->Rel K ι H (mk z.2) z.1)->zal K ι H ((zs.map (·.2)).map mk) (zs.map (·.1))
 | [],_=>by simp [zal]
 | z::zs,h=>by
  simp only [qaM,zal]
  exact ⟨_,_,rfl,h z (qau ..),ziG fun y hy=>h y (qan _ hy)⟩
theorem zig (k:KR) {f:D->Option k.O.α} {mk:k.O.α->D} {VA:W.Frag->Hp->V->k.O.α->Prop} (of: ∀ {pins:List (Addr×Obj)} {σ:L2.St} {H:Hp} {s:Shared} {v:V} {u:Value} {p:k.O.α},Inv X pins σ H s->VA X.K H v p->zbl v u->k.At s.heap u p)
  (hf: ∀ {ι:Io} {H:Hp} {d:D} {v:V} {p:k.O.α},Rel X.K ι H d v->f d=some p->d=mk p/\VA X.K H v p) (hu:X.A.units+60<cLine):zay X (.builtin "sorted") (zgH X.K E (zi9 f mk k.O.blt)):=by
 refine zay.imp (zhH k of hu) fun xs H Q ⟨ι,h,ds,rl,hr,q⟩=> ?_
 obtain ⟨d,v,e,r,q⟩:=zbY rl q
 obtain ⟨a,vs,ds',e',hs,rl',q⟩:=zcE hr r q
 obtain ⟨ps,ep,q⟩:=Fin.ofOb q
 rcases hs with ⟨hs,hd⟩ | ⟨hs,hd⟩
 ·have ep':zf5 f ds'=some ps:=by
   cases d with
   | tup ts=>exact absurd rfl (hd ts)
   | _=>exact ep
  obtain ⟨zs,g1,g2,g3⟩:=zhz (VA:=VA X.K H) hf rl' ep'
  refine ⟨a,zs,by rw [e,e'],by rw [g1];exact hs,fun z hz=>(g3 z hz).1,fun zs' hp hw l hl=> ?_⟩
  have e3:zs'.map (·.2)=zdn k.O.blt ps:=by
   refine zfU k.O ?_ ?_
   ·rw [<- g2];exact hp.map _
   ·rw [List.pairwise_map];exact hw
  refine zqc (E:=E) hr (ziG (mk:=mk) (zs:=zs') fun z hz=>(g3 z (hp.mem_iff.mp hz)).2) ?_ hl
  rw [e3]
  exact q
 ·subst hd
  cases ep
theorem ze9 (hu:X.A.units+60<cLine):zay X (.builtin "sorted") (zgH X.K E zeF):=
 zig krP (VA:=zko) (fun I h r=>zci I h r) (fun r e=>⟨zk8 e,zbL r e⟩) hu
end
end L3
namespace L3
open PySem PySem.Spec PyProof.Rows L2
section
variable {X:Cx} {E:XE}
end
section
variable {X:Cx} {E:XE} {scope:Scope} {N:List Str} {src:List (Option Nat)} {tg iter elt:Expr} {ifs:List Expr} {pos:Pos}
end
end L3
namespace L3
open PySem
open Sem (wp)
open AutoSeq1 (wpAny_loadPart')
section
variable {prog:Program} {w:World} {A:Around} {E:Value->Shared->Prop} {s:Shared}
end
end L3
namespace L2
open PySem PySem.Spec PyProof.Rows
section
variable {X:Cx} {elts:List Expr} {k:Nat} {tpos:Pos}
end
end L2
namespace L3
open PySem PySem.Spec PyProof.Rows L2
section
variable {X:Cx} {E:XE} {elts:List Expr} {k:Nat} {tpos pos:Pos}
end
end L3
namespace L2
open PySem PySem.Spec PyProof.Rows
section
variable {κ:Type} [DecidableEq κ]
noncomputable def zn7 (kvs:List (κ×V)) (k:κ) (v:V):List (κ×V):=
 if (kvs.any fun kv=>decide (kv.1=k))=true then kvs.map (fun kv=>if kv.1=k then (kv.1,v) else kv) else kvs++[(k,v)]
theorem zh9 (kvs:List (κ×V)) (k:κ) (v:V):(zn7 kvs k v).length<=kvs.length+1:=by
 unfold zn7
 split
 ·rw [qaH];omega
 ·rw [qav,qaE,qaJ];omega
theorem KV.any {kvs:List (κ×V)} {vs:List (κ×Value)} (r:KV kvs vs) (k:κ):(kvs.any fun kv=>decide (kv.1=k))=vs.any fun kv=>decide (kv.1=k):=by
 unfold KV at r
 induction r with
 | nil=>rfl
 | cons h t ih=>rw [List.any_cons,List.any_cons,ih,h.1]
theorem KV.repl {kvs:List (κ×V)} {vs:List (κ×Value)} (r:KV kvs vs) (k:κ) {y:V} {u:Value} (ry:zbl y u):
  KV (kvs.map fun kv=>if kv.1=k then (kv.1,y) else kv) (vs.map fun kv=>if kv.1=k then (kv.1,u) else kv):=by
 unfold KV at r ⊢
 induction r with
 | nil=>exact .nil
 | @cons p q ps qs h t ih=>
  rw [qaM,qaM]
  refine .cons ?_ ih
  obtain ⟨h1,h2⟩:=h
  by_cases e:p.1=k
  ·rw [qa4 e,qa4 (h1.symm.trans e)];exact ⟨h1,ry⟩
  ·rw [qa5 e,qa5 (fun z=>e (h1.trans z))];exact ⟨h1,h2⟩
theorem KV.put {kvs:List (κ×V)} {vs:List (κ×Value)} (r:KV kvs vs) (k:κ) {y:V} {u:Value} (ry:zbl y u):KV (zn7 kvs k y) (stored vs k u):=by
 unfold zn7 stored
 rw [r.any k]
 by_cases e:(vs.any fun kv=>decide (kv.1=k))=true
 ·rw [qa4 e,qa4 e];exact r.repl k ry
 ·rw [qa5 e,qa5 e];exact Paired.snoc r ⟨rfl,ry⟩
theorem KV.length {kvs:List (κ×V)} {vs:List (κ×Value)} (r:KV kvs vs):kvs.length=vs.length:=Paired.length r
end
theorem zuB {P:Program} {w:World} {k:Key} {u:Value} (r:zbl (kV k) u):(zd3 P w).is k u=true:=by
 cases k with
 | inl i=>obtain ⟨t,e⟩:=(show ∃ t,u=Value.int i t from r);subst e;exact zis P w i t
 | inr x=>obtain ⟨t,e⟩:=(show ∃ t,u=Value.str x t from r);subst e;exact zhW P w x t
section
variable {X:Cx}
theorem zo2:zqx X (fun x y v H Q=> ∃ a kvs k,x= .ref a/\y=kV k/\H a=some (.dK kvs)/\kvs.length<sizeLine/\Q (upd H a (.dK (zn7 kvs k v)))):=by
 intro pins s σ H o i v ov iv u Q I ro ri rv h
 obtain ⟨a,kvs,k,rfl,rfl,e,l,q⟩:=h
 cases ro
 obtain ⟨z,hd,vs,rel,dd⟩:=(show zbo X.prog X.w H s.heap a (.dK kvs) from I.hok a _ e)
 have hz:vs.length<=sizeLine:=by rw [<- rel.length];exact z
 have hl:(zn7 kvs k v).length<=sizeLine:=by have:=zh9 kvs k v;omega
 refine wpAny_setItem_pairs (hsz:=hz) (zuB ri) dd fun h' dd' hs=>⟨_,?_,q⟩
 have he: ∃ q,h'.get? a=some q:=let ⟨q,_,_,hq,_⟩:=dd';⟨q,hq⟩
 exact I.write (x:=a) (e:=a) (by rw [e];exact True.intro) (.inl rfl) (fun b q hb z=>(hs.2 b hb).trans z) he ⟨hl,hd,_,rel.put k rv,dd'⟩
theorem zlB:zay X (.builtin "len") (fun xs H Q=> ∃ a kvs,xs=[V.ref a]/\H a=some (.dK kvs)/\Q (.int kvs.length) H):=by
 intro pins s σ H xs us Q I r h
 obtain ⟨a,kvs,rfl,ha,q⟩:=h
 obtain ⟨u,rfl,ru⟩:=zcR r
 cases ru
 obtain ⟨z,hd,vs,rel,dd⟩:=(show zbo X.prog X.w H s.heap a (.dK kvs) from I.hok a _ ha)
 refine PySem.call_len_dict hd dd (by rw [<- rel.length];rw [sizeLine_eq] at z;omega) ?_
 rw [<- rel.length]
 exact ⟨.int kvs.length,H,I.tok _,⟨_,rfl⟩,q⟩
end
end L2
namespace L3
open PySem PySem.Spec PyProof.Rows L2
section
variable {X:L2.Cx} {E:XE}
noncomputable def zkv (kvs:List (Int×D)) (k:Int) (d:D):List (Int×D):=
 if (kvs.any fun p=>decide (p.1=k))=true then kvs.map (fun p=>if p.1=k then (p.1,d) else p) else kvs++[(k,d)]
noncomputable def zch (n:Nat):M (List (Int×D)):=fun h=>match h[n]? with
 | some (.dic kvs)=> .ok kvs h
 | _=> .bad
noncomputable def zeE (n:Nat) (kvs:List (Int×D)):M Unit:=fun h=> .ok () (h.set n (.dic kvs))
noncomputable def zuf:FE:=fun _ h=> .ok (.cel h.length) (h++[.dic []])
theorem zuc {pos:Pos}:SE X E (.Dict [] [] pos) zuf:=by
 refine PE.imp ziU fun σ H Q ⟨ι,h,sd,L,hh,q⟩ p hp=> ?_
 exact zsI (E:=E) hh (c0:= .dic []) ⟨[],rfl,.nil⟩ q hp
noncomputable def zmP (o k d:D):M Unit:=match o,k with
 | .cel n,.int k=>do
  let kvs<-zch n
  fits (kvs.length+1)
  zeE n (zkv kvs k d)
 | _,_=>M.bad
noncomputable def ztE (fo fi:FE):D->Sd->M Sd:=fun d sd=>do let x<-fo sd;let y<-fi sd;zmP x y d;pure sd
theorem zpd {K:W.Frag} {ι:Io} {H:Hp} {kvs:List (Int×D)} {vs:List (Key×V)} {k:Int} {d:D} {v:V} (r:Paired (fun (p:Int×D) (q:Key×V)=>q.1= .inl p.1/\Rel K ι H p.2 q.2) kvs vs) (rv:Rel K ι H d v):
  Paired (fun (p:Int×D) (q:Key×V)=>q.1= .inl p.1/\Rel K ι H p.2 q.2) (zkv kvs k d) (zn7 vs (.inl k) v):=by
 have ha:(kvs.any fun p=>decide (p.1=k))=(vs.any fun p=>decide (p.1=(.inl k:Key))):=by
  induction r with
  | nil=>rfl
  | @cons p q ps qs h t ih=>
   rw [List.any_cons,List.any_cons,ih,h.1]
   congr 1
   rw [Bool.eq_iff_iff]
   simp only [qaD]
   exact ⟨fun z=>by rw [z],fun z=>by injection z⟩
 unfold zkv zn7
 rw [ha]
 by_cases e:(vs.any fun p=>decide (p.1=(.inl k:Key)))=true
 ·rw [qa4 e,qa4 e]
  clear ha e
  induction r with
  | nil=>exact .nil
  | @cons p q ps qs h t ih=>
   rw [qaM,qaM]
   refine .cons ?_ ih
   by_cases e:p.1=k
   ·rw [qa4 e,qa4 (by rw [h.1,e])];exact ⟨h.1,rv⟩
   ·rw [qa5 e,qa5 (fun z=>e (by rw [h.1] at z;injection z))];exact h
 ·rw [qa5 e,qa5 e]
  exact Paired.snoc r ⟨rfl,rv⟩
theorem zrK {o i:Expr} {pos:Pos} {fo fi:FE} (ho:SE X E o fo) (hi:SE X E i fi)
  (ha: ∀ v,assign (.Subscript o i pos) X.env v=(do
    let ov<-holding [v] (eval o X.env)
    let iv<-holding [v,ov] (eval i X.env)
    standAt pos
    holding [v,ov,iv] (setItem ov iv v)
    release [v,ov,iv] []):=by intro _;rfl):SG X E (.Subscript o i pos) (ztE fo fi):=by
 refine PG.imp (zoE ho hi zo2 ha) fun v σ H Q ⟨ι,h,sd,d,L,hr,rd,q⟩=>⟨ι,h,sd,L,hr,Fin.bind q fun x h1 ι1 H1 e1 s1 hr1 q1 xv rx=> ?_⟩
 refine ⟨ι1,h1,sd,L.step s1,hr1,Fin.bind q1 fun y h2 ι2 H2 e2 s2 hr2 q2 yv ry=> ?_⟩
 cases x with
 | cel n=>
  cases y with
  | int k=>
   have rx2:=rx.step s2
   have q3:Fin X.K E ι2 H2 ((zch n>>=fun kvs=>(fits (kvs.length+1)>>=fun _=>zeE n (zkv kvs k d)>>=fun _=>pure sd)) h2) (fun sd' ι' H'=> ∀ σ',zco X.K ι' H' sd' σ'->Q σ' H'):=by
    have e:(do zmP (.cel n) (.int k) d;pure sd:M Sd)=(zch n>>=fun kvs=>(fits (kvs.length+1)>>=fun _=>zeE n (zkv kvs k d)>>=fun _=>pure sd)):=by
     show ((zch n>>=fun kvs=>(fits (kvs.length+1)>>=fun _=>zeE n (zkv kvs k d)))>>=fun _=>pure sd)=_
     rw [bind_assoc]
     congr 1
     funext kvs
     rw [bind_assoc]
    rw [<- e]
    exact q2
   simp only [Rel] at rx2 ry
   obtain ⟨a,rfl,hn⟩:=rx2
   have q4:Fin X.K E ι2 H2 (M.bind (zch n) (fun kvs=>(fits (kvs.length+1)>>=fun _=>zeE n (zkv kvs k d)>>=fun _=>pure sd)) h2) (fun sd' ι' H'=> ∀ σ',zco X.K ι' H' sd' σ'->Q σ' H'):=q3
   unfold M.bind zch at q4
   rcases hn with hn | hn
   ·have hl:=hr2.len
    have hlt:=(qac.mp hn).1
    obtain ⟨c,hc⟩: ∃ c,h2[n]? = some c:=⟨h2[n],by simp [hl,hlt]⟩
    rw [hc] at q4
    obtain ⟨ob,e3,co⟩:=hr2.at_ n a c hn hc
    cases c with
    | dic kvs=>
     obtain ⟨vs,rfl,rp⟩:=co
     obtain ⟨hf,q5⟩:=Fin.fits q4
     have hlen:kvs.length=vs.length:=Paired.length rp
     refine ⟨a,vs,.inl k,rfl,ry,e3,by omega,?_⟩
     have rd2:=(rd.step s1).step s2
     refine q5 ι2 _ (hr2.cellS hn) (hr2.cellO hn (c':= .dic (zkv kvs k d)) ⟨_,rfl,zpd rp rd2⟩) σ ?_
     exact ((L.step s1).step s2).step (hr2.cellS hn)
    | lst ds=>exact qa0 q4
    | dead=>exact qa0 q4
   ·rw [hr2.dead n hn] at q4
    exact qa0 q4
  | _=>exact qa0 q2
 | _=>exact qa0 q2
noncomputable def zql:List D->M D:=zkQ fun d=>match d with
 | .cel n=>do let kvs<-zch n;pure (.int kvs.length)
 | _=>M.bad
theorem zjx:zay X (.builtin "len") (zgH X.K E zql):=by
 refine zay.imp zlB fun xs H Q ⟨ι,h,ds,rl,hr,q⟩=> ?_
 obtain ⟨d,v,e,r,q⟩:=zbY rl q
 cases d with
 | cel n=>
  have q4:Fin X.K E ι H (M.bind (zch n) (fun kvs=>pure (D.int kvs.length)) h) (fun d ι' H'=> ∀ v,Rel X.K ι' H' d v->Q v H'):=q
  unfold M.bind zch at q4
  simp only [Rel] at r
  obtain ⟨a,rfl,hn⟩:=r
  rcases hn with hn | hn
  ·have hl:=hr.len
   have hlt:=(qac.mp hn).1
   obtain ⟨c,hc⟩: ∃ c,h[n]? = some c:=⟨h[n],by simp [hl,hlt]⟩
   rw [hc] at q4
   obtain ⟨ob,e3,co⟩:=hr.at_ n a c hn hc
   cases c with
   | dic kvs=>
    obtain ⟨vs,rfl,rp⟩:=co
    have hlen:kvs.length=vs.length:=Paired.length rp
    refine ⟨a,vs,e,e3,?_⟩
    rw [<- hlen]
    exact Fin.out hr q4 _ (by simp [Rel])
   | lst ds=>exact qa0 q4
   | dead=>exact qa0 q4
  ·rw [hr.dead n hn] at q4
   exact qa0 q4
 | _=>exact qa0 q
end
open LT
section
variable {h:Hh}
theorem zkT {n:Nat} {kvs:List (Int×D)} {P:List (Int×D)->Hh->Prop} (e:h[n]? = some (.dic kvs)):wp (zch n) h P↔P kvs h:=by
 unfold wp zch
 rw [e]
 exact ⟨fun ⟨b,h',e,q⟩=>by cases e;exact q,fun q=>⟨_,_,rfl,q⟩⟩
theorem zqq {n:Nat} {kvs:List (Int×D)} {P:Unit->Hh->Prop}:wp (zeE n kvs) h P↔P () (h.set n (.dic kvs)):=⟨fun ⟨b,h',e,q⟩=>by cases (show R.ok () (h.set n (.dic kvs))=R.ok b h' from e);exact q,fun q=>⟨_,_,rfl,q⟩⟩
theorem zo5 {sd:Sd} {P:D->Hh->Prop}:wp (zuf sd) h P↔P (.cel h.length) (h++[.dic []]):=⟨fun ⟨b,h',e,q⟩=>by cases (show R.ok (D.cel h.length) (h++[C.dic []])=R.ok b h' from e);exact q,fun q=>⟨_,_,rfl,q⟩⟩
theorem zta {a b:FE} {d:D} {sd:Sd}:ztE a b d sd=(do let x<-a sd;let y<-b sd;zmP x y d;pure sd):=rfl
theorem zsE {n:Nat}:zql [.cel n]=(do let kvs<-zch n;pure (.int kvs.length)):=rfl
theorem zsz {n:Nat} {k:Int} {d:D}:zmP (.cel n) (.int k) d=(do let kvs<-zch n;fits (kvs.length+1);zeE n (zkv kvs k d)):=rfl
end
noncomputable def zcK (ks:List Int):List (Int×D):=ks.map fun k=>(k,.bl true)
theorem zns (ks:List Int) (k:Int):zkv (zcK ks) k (.bl true)=zcK (step_dedup ks k):=by
 have e:((zcK ks).any fun p=>decide (p.1=k))=ks.any (· == k):=by
  unfold zcK
  rw [List.any_map]
  congr 1
 unfold zkv step_dedup
 rw [e]
 by_cases h:ks.any (· == k)=true
 ·rw [qa4 h,qa4 h]
  unfold zcK
  rw [qaT]
  refine List.map_congr_left fun x _=> ?_
  simp only [Function.comp]
  split<;>rfl
 ·rw [qa5 h,qa5 h]
  unfold zcK
  rw [List.map_append]
  rfl
theorem zkk (ns:List Int):(ns.foldl step_dedup []).length=(zdc ns).length:=by
 unfold zdc
 rw [(zaI _).length_eq]
end L3
namespace L3
open PySem PySem.Spec PyProof.Rows L2
structure Fd (K:W.Frag) (x:Str) (st:Stmt) (a:Addr) (d:FuncData):Prop where
 e:W.nsIn K mainGlobals x=some (some (.ref a))
 F:Fun K x x st a d
section
variable {X:Cx} {E:XE}
end
end L3
namespace L3
open PySem PyProof.Rows HT
theorem zix (A:Around) (s:Shared) (a:Int) (t:Tok) (c:Int) (u:Tok) (prog:Program) (w:World) (E:Value->Shared->Prop) (Q:Value->Shared->Prop) (h:Q (.bool (decide (c<a))) s):
  wpAny (model prog w) A (richCompare .Gt (.int a t) (.int c u)) Q E s:=(gt_int h:wpAny (model prog w) A (compareOp .Gt (.int a t) (.int c u)) Q E s)
section
open PySem.SeqAt
open PySem.AutoSeq1 (wpAny_loadPart')
open PySem.MeetsSeq PySem.MeetsSeq2 PySem.MeetsSeq3
theorem zgc (l b:Addr) (items items2:Array Value) (n n2:Nat) (dd dd2:Option Addr) (sl sl2:Array (Option Value)) (ns ms:List Int) (hi:IntsAre items.toList ns) (hj:IntsAre items2.toList ms):
  Meets (Builtin.«tuple.__gt__» ⟨[.ref l,.ref b],[]⟩)
   (fun _ R s=>s.heap.get? l=some {cls:= .type "tuple",dict:=dd,data:= .seq items n,slots:=sl}/\s.heap.get? b=some {cls:= .type "tuple",dict:=dd2,data:= .seq items2 n2,slots:=sl2}/\
     R (.ok (.ret (.bool (zaV ms ns)))) s):=
 .of_wp fun prog w A R s h=>by
  obtain ⟨hp,g,d,tk,os⟩:=s;obtain ⟨hl,hb,h⟩:=h
  have f2:=AutoSeq1.sub_tuple_tuple
  have z1:items.size=ns.length:=by rw [<- hi.length];simp
  have z2:items2.size=ms.length:=by rw [<- hj.length];simp
  wp_walk using wpAny_loadPart' hl,wpAny_loadPart' hb,wpAny_forIn_list _ (fun rest b s'=>b.1=none/\s'=⟨hp,g,d,tk,os⟩/\ ∃ (vs ws:List Value) (ns' ms':List Int),rest=vs.zip ws/\
    IntsAre vs ns'/\IntsAre ws ms'/\ns'.length+items2.size=ms'.length+items.size/\R (.ok (.ret (.bool (zaV ms' ns')))) ⟨hp,g,d,tk,os⟩) _
  case turn=>
   rintro ⟨y,x⟩ rest b s' ⟨hb',rfl,vs,ws,ns',ms',hz,hvi,hwi,hlen,hR⟩
   cases hvi with
   | nil=>rw [List.zip_nil_left] at hz;cases hz
   | cons a t hvi'=>
    cases hwi with
    | nil=>rw [List.zip_nil_right] at hz;cases hz
    | cons c u hwi'=>
     rw [List.zip_cons_cons] at hz
     injection hz with hyx hrest
     injection hyx with hy hx
     subst hy hx
     rw [za2] at hR
     simp only [qaE] at hlen
     obtain ⟨e,he,hiff⟩:=zjf A.in1 ⟨hp,g,d,tk,os⟩ a t c u
     refine qaW (he prog w _ _ ?_)
     cases e with
     | true=>
      rw [qa4 ((hiff.mp rfl).symm)] at hR
      wp_walk
      exact ⟨rfl,rfl,_,_,_,_,hrest,hvi',hwi',by omega,hR⟩
     | false=>
      rw [qa5 (fun q=>absurd (hiff.mpr q.symm) Bool.false_ne_true)] at hR
      have hri:=zix A.in1 ⟨hp,g,d,tk,os⟩ a t c u prog w
      wp_walk using hri
      exact ⟨_,rfl,by simpa using hR⟩
  case fin=>
   rintro ⟨b1,b2⟩ s' ⟨hb',rfl,vs,ws,ns',ms',hz,hvi,hwi,hlen,hR⟩
   simp only at hb'
   subst hb'
   have hv:zaV ms' ns'=decide (items.size>items2.size):=by
    cases hvi with
    | nil=>
     cases hwi with
     | nil=>
      simp only [qaJ] at hlen
      rw [zdD]
      exact (decide_eq_false (by omega)).symm
     | cons c u hw=>
      simp only [qaJ,qaE] at hlen
      rw [zdf]
      exact (decide_eq_false (by omega)).symm
    | cons a t hv=>
     cases hwi with
     | nil=>
      simp only [qaJ,qaE] at hlen
      rw [zdk]
      exact (decide_eq_true (by omega)).symm
     | cons c u hw=>
      rw [List.zip_cons_cons] at hz
      cases hz
   rw [hv] at hR
   wp_walk
   exact ⟨_,rfl,by simpa [Builtin.Tuple.tupleCompareSizes] using hR⟩
  case h=>
   exact ⟨rfl,rfl,items.toList,items2.toList,ns,ms,rfl,hi,hj,by omega,h⟩
end
section
variable {prog:Program} {w:World} {A:Around} {E:Value->Shared->Prop} {s:Shared}
theorem zjD {l b:Addr} {items items2:Array Value} {ns ms:List Int} {Q:Value->Shared->Prop} (hl:IsTup s.heap l items) (hb:IsTup s.heap b items2) (hi:IntsAre items.toList ns) (hj:IntsAre items2.toList ms)
  (hu:A.units<cLine) (h:Q (.bool (zaV ms ns)) s):wpAny (model prog w) A (compareOp .Gt (.ref l) (.ref b)) Q E s:=by
 obtain ⟨⟨cls,dd,data,sl⟩,ho,hc,n,hd⟩:=id hl
 obtain ⟨⟨cls2,dd2,data2,sl2⟩,ho2,hc2,n2,hd2⟩:=id hb
 simp only at hc hd hc2 hd2
 subst hc hd hc2 hd2
 exact richCompare_meets_room (op:= .Gt) ⟨_,ho,rfl⟩ ⟨_,ho2,rfl⟩ PySem.F.slot_tuple_gt PySem.F.entry_tuple_gt (PySem.F.args_tuple_gt_2 _ _) (zgc l b items items2 n n2 dd dd2 sl sl2 ns ms hi hj)
  ⟨ho,ho2,show Value.bool (zaV ms ns)≠Value.notImplemented/\Q (.bool (zaV ms ns)) s from ⟨(fun x=>nomatch x),h⟩⟩ hu
end
end L3
namespace L3
open PySem PyProof.Rows
section
open PySem.SeqAt
open PySem.AutoSeq1 (wpAny_loadPart')
open PySem.MeetsSeq PySem.MeetsSeq2 PySem.MeetsSeq3
def ztl (A:Around) (s:Shared) (a b:Value) (e l:Bool):Prop:=EqAt A s a b e/\(e=false-> ∀ (prog:Program) (w:World) (E Q:Value->Shared->Prop),Q (.bool l) s->wpAny (model prog w) A (richCompare .Gt a b) Q E s)
theorem zg9 (l b:Addr) (a0 a1 b0 b1:Value) (n n2:Nat) (dd dd2:Option Addr) (sl sl2:Array (Option Value)) (e0 l0 e1 l1:Bool):
  Meets (Builtin.«tuple.__gt__» ⟨[.ref l,.ref b],[]⟩)
   (fun A R s=>s.heap.get? l=some {cls:= .type "tuple",dict:=dd,data:= .seq #[a0,a1] n,slots:=sl}/\s.heap.get? b=some {cls:= .type "tuple",dict:=dd2,data:= .seq #[b0,b1] n2,slots:=sl2}/\
     ztl A.in1 s a0 b0 e0 l0/\ztl A.in1 s a1 b1 e1 l1/\R (.ok (.ret (.bool (if e0=true then (if e1=true then false else l1) else l0)))) s):=
 .of_wp fun prog w A R s h=>by
  obtain ⟨hp,g,d,tk,os⟩:=s;obtain ⟨hl,hb,c0,c1,h⟩:=h
  have f2:=AutoSeq1.sub_tuple_tuple
  wp_walk using wpAny_loadPart' hl,wpAny_loadPart' hb,wpAny_forIn_list _ (fun rest b s'=>b.1=none/\s'=⟨hp,g,d,tk,os⟩/\
    (rest=[(a0,b0),(a1,b1)]\/(rest=[(a1,b1)]/\e0=true)\/(rest=[]/\e0=true/\e1=true))) _
  case turn=>
   rintro ⟨y,x⟩ rest b s' ⟨hb',rfl,hz⟩
   rcases hz with hz | ⟨hz,z0⟩ | ⟨hz,_⟩
   ·cases hz
    refine qaW (c0.1 prog w _ _ ?_)
    cases e0 with
    | true=>
     wp_walk
     exact ⟨rfl,rfl,.inr (.inl ⟨rfl,rfl⟩)⟩
    | false=>
     have hri:=c0.2 rfl prog w
     wp_walk using hri
     exact ⟨_,rfl,by simpa using h⟩
   ·cases hz
    subst z0
    refine qaW (c1.1 prog w _ _ ?_)
    cases e1 with
    | true=>
     wp_walk
     exact ⟨rfl,rfl,.inr (.inr ⟨rfl,rfl,rfl⟩)⟩
    | false=>
     have hri:=c1.2 rfl prog w
     wp_walk using hri
     exact ⟨_,rfl,by simpa using h⟩
   ·cases hz
  case fin=>
   rintro ⟨b1',b2'⟩ s' ⟨hb',rfl,hz⟩
   simp only at hb'
   subst hb'
   rcases hz with hz | ⟨hz,_⟩ | ⟨_,z0,z1⟩
   ·cases hz
   ·cases hz
   ·subst z0 z1
    wp_walk
    exact ⟨_,rfl,by simpa [Builtin.Tuple.tupleCompareSizes] using h⟩
  case h=>
   exact ⟨rfl,rfl,.inl rfl⟩
section
variable {prog:Program} {w:World} {A:Around} {E:Value->Shared->Prop} {s:Shared}
theorem zso {l b:Addr} {a0 a1 b0 b1:Value} {e0 l0 e1 l1:Bool} {Q:Value->Shared->Prop} (hl:IsTup s.heap l #[a0,a1]) (hb:IsTup s.heap b #[b0,b1]) (c0:ztl A.in1 s a0 b0 e0 l0) (c1:ztl A.in1 s a1 b1 e1 l1)
  (hu:A.units<cLine) (h:Q (.bool (if e0=true then (if e1=true then false else l1) else l0)) s):wpAny (model prog w) A (richCompare .Gt (.ref l) (.ref b)) Q E s:=by
 obtain ⟨⟨cls,dd,data,sl⟩,ho,hc,n,hd⟩:=id hl
 obtain ⟨⟨cls2,dd2,data2,sl2⟩,ho2,hc2,n2,hd2⟩:=id hb
 simp only at hc hd hc2 hd2
 subst hc hd hc2 hd2
 exact richCompare_meets_room (op:= .Gt) ⟨_,ho,rfl⟩ ⟨_,ho2,rfl⟩ PySem.F.slot_tuple_gt PySem.F.entry_tuple_gt (PySem.F.args_tuple_gt_2 _ _) (zg9 l b a0 a1 b0 b1 n n2 dd dd2 sl sl2 e0 l0 e1 l1)
  ⟨ho,ho2,c0,c1,show Value.bool _≠Value.notImplemented/\Q (.bool _) s from ⟨(fun x=>nomatch x),h⟩⟩ hu
theorem zmh {u v:Value} {p q:Int×List Int} {Q:Value->Shared->Prop} (hv:zbD s.heap v p) (hu:zbD s.heap u q) (hr:A.units+2<cLine) (h:Q (.bool (pLt q p)) s):wpAny (model prog w) A (richCompare .Gt v u) Q E s:=by
 obtain ⟨a,x,t,its,rfl,ha,hx,hi⟩:=hv
 obtain ⟨b,y,t',its',rfl,hb,hy,hj⟩:=hu
 have r1:A.in1.units<cLine:=by rw [Around.in1_units];omega
 refine zso (e0:=(p.1==q.1)) (l0:=decide (q.1<p.1)) (e1:=(p.2==q.2)) (l1:=HT.zaV q.2 p.2) ha hb ⟨EqAt.int_int _ _ _ _,fun _ prog w E Q hq=>zix _ _ _ _ _ _ prog w E Q hq⟩
  ⟨zeS hx hy hi hj r1,fun _ prog w E Q hq=>zjD hx hy (by simpa using hi) (by simpa using hj) r1 hq⟩ (by omega) ?_
 have e:(if (p.1==q.1)=true then (if (p.2==q.2)=true then false else HT.zaV q.2 p.2) else decide (q.1<p.1))=pLt q p:=by
  unfold pLt
  by_cases h1:p.1=q.1
  ·rw [qa4 (by simpa using h1),qa4 h1.symm]
   by_cases h2:p.2=q.2
   ·rw [qa4 (by simpa using h2),h2,zbK]
   ·rw [qa5 (by simpa using h2)]
  ·rw [qa5 (by simpa using h1),qa5 (Ne.symm h1)]
 rw [e]
 exact h
end
end
open PySem.Spec L2
section
variable {X:Cx} {E:XE}
noncomputable def zrf (x y:D):M D:=do
 let p<-ofO (zbB x)
 let q<-ofO (zbB y)
 pure (.bl (pLt p q))
noncomputable def zrE (x y:D):M D:=do
 let p<-ofO (zbB x)
 let q<-ofO (zbB y)
 pure (.bl (pLt q p))
theorem zrJ (hu:X.A.units+60<cLine):OpR X (compareOp .Lt) (zda X.K E zrf):=by
 intro pins s σ H x y v u Q I rx ry ⟨ι,h,d1,d2,r1,r2,hr,q⟩
 unfold zrf at q
 obtain ⟨p,ep,q⟩:=Fin.ofOb q
 obtain ⟨p2,ep2,q⟩:=Fin.ofOb q
 exact ziF (zci I (zbL r1 ep) rx) (zci I (zbL r2 ep2) ry) (by omega) ⟨.bl (pLt p p2),H,I,rfl,Fin.out hr q _ (by simp [Rel])⟩
theorem zr8 (hu:X.A.units+60<cLine):OpR X (compareOp .Gt) (zda X.K E zrE):=by
 intro pins s σ H x y v u Q I rx ry ⟨ι,h,d1,d2,r1,r2,hr,q⟩
 unfold zrE at q
 obtain ⟨p,ep,q⟩:=Fin.ofOb q
 obtain ⟨p2,ep2,q⟩:=Fin.ofOb q
 exact zmh (zci I (zbL r1 ep) rx) (zci I (zbL r2 ep2) ry) (by omega) ⟨.bl (pLt p2 p),H,I,rfl,Fin.out hr q _ (by simp [Rel])⟩
end
open LT
def Gro (h h':Hh):Prop:= ∃ t,h'=h++t
theorem Gro.refl {h:Hh}:Gro h h:=⟨[],by simp⟩
theorem Gro.trans {h h1 h2:Hh} (a:Gro h h1) (b:Gro h1 h2):Gro h h2:=by
 obtain ⟨t,rfl⟩:=a
 obtain ⟨u,rfl⟩:=b
 exact ⟨t++u,by simp⟩
theorem Gro.get {h h':Hh} {n:Nat} {c:C} (g:Gro h h') (e:h[n]? = some c):h'[n]? = some c:=by
 obtain ⟨t,rfl⟩:=g
 rw [qad (qac.mp e).1]
 exact e
theorem Gro.ext {b:Nat} {h h':Hh} (q:Bx b h) (g:Gro h h'):Ext b h h':=by
 obtain ⟨z,e⟩:=q
 exact ⟨⟨z,g.get e⟩,fun n c _ e=>g.get e⟩
def Ev {α:Type} (m:M α) (a:α):Prop:= ∀ h, ∃ h',m h= .ok a h'/\Gro h h'
section
variable {α β:Type} {m:M α} {a:α} {f:α->M β} {b:β} {h:Hh} {P:α->Hh->Prop}
theorem Ev.pure:Ev (Pure.pure a:M α) a:=fun h=>⟨h,rfl,.refl⟩
theorem Ev.of (e:m=Pure.pure a):Ev m a:=e▸ .pure
theorem Ev.bind (x:Ev m a) (y:Ev (f a) b):Ev (m>>=f) b:=fun h=>by
 obtain ⟨h1,e1,g1⟩:=x h
 obtain ⟨h2,e2,g2⟩:=y h1
 refine ⟨h2,?_,g1.trans g2⟩
 show M.bind m f h=_
 unfold M.bind
 rw [e1]
 exact e2
theorem Ev.wp (x:Ev m a) (k: ∀ h',Gro h h'->P a h'):wp m h P:=by
 obtain ⟨h1,e1,g1⟩:=x h
 exact ⟨a,h1,e1,k h1 g1⟩
theorem Ev.of_wp (x: ∀ h,L3.wp m h fun r h'=>r=a/\Gro h h'):Ev m a:=fun h=>by
 obtain ⟨r,h1,e1,rfl,g⟩:=x h
 exact ⟨h1,e1,g⟩
theorem Ev.noX (x:Ev m a):Ev (L3.noX m) a:=fun h=>by
 obtain ⟨h1,e1,g1⟩:=x h
 refine ⟨h1,?_,g1⟩
 unfold L3.noX
 rw [e1]
end
@[simp] theorem zno {α:Type} {a:α}:noX (pure a:M α)=pure a:=rfl
noncomputable def zfw {α:Type} (c:String):M α:=fun h=> .exc c h
@[simp] theorem zjS {α β:Type} {c:String} {f:α->M β}:((zfw c:M α)>>=f)=zfw c:=rfl
@[simp] theorem znW {c:String} {sd:Sd}:zfx c sd=zfw c:=rfl
theorem zpC {names:List String} {gb:FS} {F:List D->M D} {sd:Sd} {i:Nat} {o:Out} (x:Ev (gb sd) o):Ev (ziv names gb i F sd) o:=fun h=>by
 obtain ⟨h1,e1,g1⟩:=x h
 refine ⟨h1,?_,g1⟩
 unfold ziv
 rw [e1]
theorem zsO {n:Nat} {Fs:List (List D->M D)} {fi:FE} {fs:FA} {sd:Sd}:zn0 n Fs fi fs sd=(do let i<-fi sd;let F<-zju Fs i;let ds<-fs sd;zam n F ds):=rfl
noncomputable def tI (xs:List Int):D:= .tup (xs.map D.int)
noncomputable def zcJ (o:List Int×Int):D:= .tup [tI o.1,.int o.2]
noncomputable def zaO (m:Int) (os:List (List Int×Int)):D:= .tup [.int m,.tup (os.map zcJ)]
structure Stk (m:Int) (os:List (List Int×Int)):Prop where
 m0:1<=m
 m1:m<=10
 len:os.length<=12
 up: ∀ o∈os,o.1.Pairwise (· < ·)
 bd: ∀ o∈os, ∀ x∈o.1,0<=x/\x<m
 ne: ∀ o∈os,o.1≠[]
 pos: ∀ o∈os,0<o.2
theorem Stk.olen {m:Int} {os:List (List Int×Int)} (s:Stk m os): ∀ o∈os,o.1.length<=10:=fun o ho=>by
 have h:=zf1 (m:=m) (ts:=o.1.map D.int) (l:=0) (zbz.mpr ⟨s.up o ho,fun x hx=>s.bd o ho x hx⟩) (by have:=s.m0;omega)
 rw [qaH] at h
 have:=s.m1
 omega
theorem zkJ {fo fe:FE} {sd:Sd}:zh2 fo fe sd=(do let x<-fo sd;zeL x;let y<-fe sd;zdq x y):=rfl
theorem zo4 {n:Nat}:zeL (.cel n)=(do let _<-zai n;pure ()):=rfl
theorem zmQ {n:Nat} {zs:List D}:zdq (.cel n) (.tup zs)=(do let ds<-zai n;fits (ds.length+zs.length);zbu n (ds++zs);pure .non):=rfl
theorem zfs {xs:List Int} {m:Int} (m0:0<=m) (h:xs.Pairwise (· < ·)) (b: ∀ x∈xs,0<=x/\x<m):(xs.length:Int)<=m:=by
 have:=zf1 (m:=m) (ts:=xs.map D.int) (l:=0) (zbz.mpr ⟨h,b⟩) m0
 rw [qaH] at this
 omega
theorem znL {xs:List Int} {m:Int} (m0:0<=m) (b: ∀ x∈xs,0<=x/\x<m):((zdc xs).length:Int)<=m:=zfs m0 (zeb xs) fun x hx=>b x (zdB.mp hx)
theorem zil {xs:List Int} {m:Int} (m0:0<=m) (m1:m<=60) (b: ∀ x∈xs,0<=x/\x<m):(xs.foldl step_dedup []).length<64:=by
 have h:=znL m0 b
 unfold zdc at h
 rw [(zaI _).length_eq] at h
 omega
theorem zgF {n:Nat} {h:Hh} {xs:List Int} {P:D->Hh->Prop} (e:h[n]? = some (.lst (xs.map D.int))) (h1:(xs.foldl step_dedup []).length<64) (h2:xs.length<4000) (k:P (.lst ((zdc xs).map D.int)) h):wp (zbx (.cel n)) h P:=by
 unfold zbx
 show wp (zai n>>=_) h P
 rw [zaq,zed e]
 show wp (do let ns<-ofO (zcl (xs.map D.int));if (ns.foldl step_dedup []).length<64/\ns.length<4000 then pure (.lst ((zdc ns).map D.int)) else M.bad:M D) h P
 rw [zcg]
 show wp (if (xs.foldl step_dedup []).length<64/\xs.length<4000 then (pure (.lst ((zdc xs).map D.int)):M D) else M.bad) h P
 rw [qa4 ⟨h1,h2⟩,zap]
 exact k
theorem zst: ∀ {xs ys:List Int},xs.Pairwise (· < ·)->ys.Pairwise (· < ·)->(∀ k,k∈xs↔k∈ys)->xs=ys:=by
 intro xs ys hx hy hm
 have nx:xs.Nodup:=hx.imp fun z=>by omega
 have ny:ys.Nodup:=hy.imp fun z=>by omega
 have p:List.Perm xs ys:=(List.perm_ext_iff_of_nodup nx ny).mpr hm
 exact (zdE p (hx.imp fun z=>by omega)).trans (zdE (List.Perm.refl ys) (hy.imp fun z=>by omega)).symm
theorem zky {x y:D} {a b:PyData} (e1:pd x=some a) (e2:pd y=some b) (h:zh0 a b=true):dEq x y=pure (.bl (PyData.eqv a b)):=by
 show zke false x y=_
 unfold zke
 rw [e1,e2]
 simp only [h,if_true]
 rfl
theorem zqG (xs:List Int):pd (tI xs)=some (.tuple (xs.map PyData.int)):=by unfold tI pd;rw [zcr];rfl
theorem zqh (x y:Str) (hx:PyData.strOk x=true) (hy:PyData.strOk y=true):dEq (.str x) (.str y)=pure (.bl (x==y)):=by
 rw [zky (x:= .str x) (y:= .str y) rfl rfl (by unfold zh0;simp [PyData.canLay0,PyData.depth,hx,hy])]
 rfl
theorem zhP (xs ys:List Int):dEq (.lst (xs.map D.int)) (.lst (ys.map D.int))=pure (.bl (xs==ys)):=by
 have e1:pd (.lst (xs.map D.int))=some (.list (xs.map PyData.int)):=by unfold pd;rw [zcr];rfl
 have e2:pd (.lst (ys.map D.int))=some (.list (ys.map PyData.int)):=by unfold pd;rw [zcr];rfl
 rw [zky e1 e2 (by unfold zh0;simp [PyData.canLay0,zbd,PyData.depth,zbN])]
 simp only [PyData.eqv,zgf]
theorem zpc (xs:List Int):zuT [.lst (xs.map D.int)]=pure (.int xs.sum):=by
 show (do let bs<-ofO (zcl (xs.map D.int));pure (.int bs.sum):M D)=_
 rw [zcg]
 rfl
def gk (d:D):Prop:=kn d=true/\ ∀ ds,d= .tup ds->ds.length<64/\ ∀ x∈ds,kn x=true
theorem zpI {xs:List Int} (h:xs.length<64):gk (tI xs):=⟨rfl,fun ds e=>by
  cases e
  exact ⟨by rw [qaH];exact h,fun x hx=>by obtain ⟨i,_,rfl⟩:=qaU.mp hx;rfl⟩⟩
noncomputable def zik (n:Nat):D->Bool
 | .tup ds=>zbn n 0 ds
 | _=>false
theorem zh7 {n:Nat} {d:D} (h:zik n d=true): ∃ ls:List Int,d=tI ls/\ls.Pairwise (· < ·)/\ ∀ x∈ls,0<=x/\x<n:=by
 cases d with
 | tup ds=>
  obtain ⟨ls,rfl⟩:=zin (zgr (show zbn n 0 ds=true from h))
  exact ⟨ls,rfl,zbz.mp h⟩
 | _=>cases h
theorem zgp {os:List (List Int×Int)} {i:Int} (h0:0<=i) (h1:i<os.length):atI (os.map zcJ) i=some (zcJ (os.getD i.toNat ([],0))):=by
 have hl:i.toNat<os.length:=by omega
 have:=zdr (xs:=os.map zcJ) (j:=i.toNat) (v:=zcJ (os.getD i.toNat ([],0))) (by simp [hl,List.getD])
 rw [<- this]
 congr 1
 omega
noncomputable def za4 (os:List (List Int×Int)) (ls:List Int):List (List Int×Int):=ls.map fun i=>os.getD i.toNat ([],0)
theorem zcc {os:List (List Int×Int)} {ls:List Int} (b: ∀ x∈ls,0<=x/\x<os.length): ∀ o∈za4 os ls,o∈os:=fun o ho=>by
 obtain ⟨i,hi,rfl⟩:=qaU.mp ho
 have:=b i hi
 have hl:i.toNat<os.length:=by omega
 simp [List.getD,hl]
theorem zjC {xs:List Int} (h:xs.Nodup):(zd6 xs).Pairwise (· < ·):=by
 have h1:=zdN xs
 have h2:(zd6 xs).Nodup:=(zaI xs).nodup_iff.mpr h
 exact (List.pairwise_and_iff.mpr ⟨h1,h2⟩).imp fun z=>by have:=z.1;have:=z.2;omega
theorem zmc {xs:List Int} {m:Int} (m0:0<=m) (h:xs.Nodup) (b: ∀ x∈xs,0<=x/\x<m):(xs.length:Int)<=m:=by
 rw [<- (zaI xs).length_eq]
 exact zfs m0 (zjC h) fun x hx=>b x ((zaI xs).mem_iff.mp hx)
theorem zjA {j:Int} (h0:0<=j) (h1:j<1000):ziq (.int j)=pure (tI ((List.range j.toNat).map fun (k:Nat)=>(k:Int))):=by
 show (if 0<=j/\j<1000 then _ else _)=_
 rw [qa4 ⟨h0,h1⟩,zcy]
 rfl
theorem zfV (xs:List D) (lo hi:Option Int):(L3.zeu xs lo hi).length<=xs.length:=by
 unfold L3.zeu
 rw [List.length_take,List.length_drop]
 omega
theorem zpB {xs:List D} {lo hi:Option Int} {d:D} (h:d∈L3.zeu xs lo hi):d∈xs:=List.mem_of_mem_drop (List.mem_of_mem_take h)
theorem zlw {xs:List D} {t:Int} (t0:0<=t) (t1:t<(xs.length:Int)): ∃ d,atI xs t=some d/\d∈xs:=by
 have ht:t.toNat<xs.length:=by omega
 refine ⟨xs[t.toNat],?_,List.getElem_mem ht⟩
 have:=zdr (xs:=xs) (j:=t.toNat) (v:=xs[t.toNat]) (by simp [ht])
 rw [<- this]
 congr 1
 omega
theorem zks {xs:List D} {t:Int} {h:Hh} {P:D->Hh->Prop} (t0:0<=t) (t1:t<(xs.length:Int)) (k: ∀ d∈xs,P d h):wp (ofO (atI xs t)) h P:=by
 obtain ⟨d,ed,hd⟩:=zlw t0 t1
 rw [ed,zih,zap]
 exact k d hd
theorem zt4 {i j:Int}:zpQ [.int i,.int j]=pure (.int (if j<i then j else i)):=rfl
theorem zuq {i j:Int}:zqC [.int i,.int j]=pure (.int (if j>i then j else i)):=rfl
theorem znA (xs:List Int):dNe (tI xs) (.tup [])=pure (.bl (!xs.isEmpty)):=by
 show zke true _ _=_
 unfold zke
 rw [zqG xs,show pd (.tup [])=some (.tuple []) from rfl]
 have c:zh0 (.tuple (xs.map PyData.int)) (.tuple [])=true:=by
  unfold zh0
  simp [PyData.canLay0,PyData.canLayAll0,zbd,PyData.depth,PyData.depthAll,zbN]
 simp only [c,if_true,PyData.eqv]
 cases xs<;>rfl
theorem zkO {b:Nat} {turn:D->M (Option D)} (ht: ∀ (i:Int) {h:Hh} {Q:Option D->Hh->Prop},Bx b h->(∀ o h',Ext b h h'->(o=none\/o=some (.int i))->Q o h')->wp (turn (.int i)) h Q):
  ∀ (is:List Int) {h:Hh} {P:List D->Hh->Prop},Bx b h->(∀ (ys:List Int) h',Ext b h h'->ys.Sublist is->P (ys.map D.int) h')->wp (zdb turn (is.map D.int)) h P
 | [],h,P,q,k=>by
  rw [List.map_nil,zdb,zap]
  exact k [] h (Ext.refl q) .slnil
 | i::r,h,P,q,k=>by
  rw [qaM,zdb,zaq]
  refine ht i q fun o h2 x2 ho=> ?_
  rw [zaq]
  refine zkO ht r x2.1 fun ys h3 x3 hl=> ?_
  rw [zap]
  rcases ho with rfl | rfl
  ·exact k ys h3 (x2.trans x3) (.cons _ hl)
  ·exact k (i::ys) h3 (x2.trans x3) (.cons₂ _ hl)
noncomputable def gkB:D->Bool
 | .tup ds=>decide (ds.length<64) && ds.all kn
 | d=>kn d
theorem znZ {d:D} (h:gkB d=true):gk d:=by
 cases d with
 | tup ds=>
  simp only [gkB,qaG,qaD,List.all_eq_true] at h
  exact ⟨rfl,fun es e=>by cases e;exact h⟩
 | _=>exact ⟨by simpa [gkB] using h,fun es e=>by cases e⟩
theorem gkT {ds:List D} (h:ds.length<64) (k: ∀ x∈ds,kn x=true):gk (.tup ds):=⟨rfl,fun es e=>by cases e;exact ⟨h,k⟩⟩
theorem zcV (n:Nat):((List.range n).map fun (k:Nat)=>(k:Int)).Pairwise (· < ·):=by
 rw [List.pairwise_map]
 exact List.pairwise_lt_range.imp fun z=>by omega
theorem zcW {n:Nat}: ∀ x∈(List.range n).map fun (k:Nat)=>(k:Int),0<=x/\x<n:=fun x hx=>by
 obtain ⟨k,hk,rfl⟩:=qaU.mp hx
 have:=List.mem_range.mp hk
 omega
def EvX {α:Type} (m:M α) (c:String):Prop:= ∀ h, ∃ h',m h= .exc c h'/\Gro h h'
section
variable {α β:Type} {m:M α} {a:α} {f:α->M β} {c:String}
theorem EvX.raise:EvX (zfw c:M α) c:=fun h=>⟨h,rfl,.refl⟩
theorem EvX.of (e:m=zfw c):EvX m c:=e▸ .raise
theorem EvX.left (x:EvX m c):EvX (m>>=f) c:=fun h=>by
 obtain ⟨h1,e1,g1⟩:=x h
 refine ⟨h1,?_,g1⟩
 show M.bind m f h=_
 unfold M.bind
 rw [e1]
theorem Ev.bindX (x:Ev m a) (y:EvX (f a) c):EvX (m>>=f) c:=fun h=>by
 obtain ⟨h1,e1,g1⟩:=x h
 obtain ⟨h2,e2,g2⟩:=y h1
 refine ⟨h2,?_,g1.trans g2⟩
 show M.bind m f h=_
 unfold M.bind
 rw [e1]
 exact e2
end
theorem zn5 {names:List String} {gb:FS} {F:List D->M D} {sd:Sd} {i:Nat} {c:String} {d:D} (x:EvX (gb sd) c) (hc:names.contains c=true) (ek:F [.exn c]=pure d):Ev (ziv names gb i F sd) (.nx ((List.replicate sd.length none).set i (some d))):=fun h=>by
 obtain ⟨h1,e1,g1⟩:=x h
 refine ⟨h1,?_,g1⟩
 unfold ziv
 rw [e1]
 show (if names.contains c=true then (do let d<-noX (F [.exn c]);pure (.nx ((List.replicate sd.length none).set i (some d))):M Out) h1 else .bad)=_
 rw [qa4 hc,ek]
 rfl
theorem zsc {g:FS} {sd:Sd}:zuN g sd=noX (g sd):=rfl
theorem zsJ {g:FE} {sd:Sd}:zvh g sd=noX (g sd):=rfl
theorem ziP (xs:List D) {k:Int} (h:0<=k):L3.zeu xs none (some k)=xs.take k.toNat:=by
 have e:=HT.zkP xs.length xs.length k.toNat
 rw [Int.toNat_of_nonneg h] at e
 unfold L3.zeu
 have e0:HT.sIx xs.length 0 none=0:=rfl
 rw [e0,e]
 simp
theorem ziL (xs:List D) {k:Int} (h:0<=k):L3.zeu xs (some k) none=xs.drop k.toNat:=by
 have e:=HT.zkP xs.length 0 k.toNat
 rw [Int.toNat_of_nonneg h] at e
 unfold L3.zeu
 have e0:HT.sIx xs.length xs.length none=xs.length:=rfl
 rw [e0,e]
 by_cases hk:k.toNat<=xs.length
 ·rw [Nat.min_eq_left hk,List.take_of_length_le (by rw [List.length_drop];omega)]
 ·rw [Nat.min_eq_right (by omega),List.drop_eq_nil_of_le (show xs.length<=k.toNat by omega)]
  simp
theorem zl2 {xs:List Int} {m:Int} (m0:0<=m) (h:xs.Pairwise (· < ·)) (b: ∀ x∈xs,0<=x/\x<m):(xs==(List.range m.toNat).map fun (k:Nat)=>(k:Int))=((xs.length:Int)==m):=by
 rw [Bool.eq_iff_iff,beq_iff_eq,beq_iff_eq]
 constructor
 ·intro e
  rw [e]
  simp
  omega
 ·intro e
  refine zst h (zcV _) fun k=>⟨fun hk=> ?_,fun hk=> ?_⟩
  ·obtain ⟨h1,h2⟩:=b k hk
   exact qaU.mpr ⟨k.toNat,List.mem_range.mpr (by omega),by omega⟩
  ·have hb:=zcW k hk
   by_cases c:k∈xs
   ·exact c
   ·exfalso
    have:=zmc (xs:=k::xs) m0 (List.nodup_cons.mpr ⟨c,h.imp fun z=>by omega⟩) fun x hx=>by
     rcases qaP.mp hx with rfl | hx
     ·omega
     ·exact b x hx
    rw [qaE] at this
    omega
end L3
namespace K13
open PySem PySem.Spec PyProof.Rows L2 L3
noncomputable def zde:List String:=["NoStock","NoOffer","NoThing","NoCover","NoNumber","NotFull","NoRow"]
noncomputable def G_24:FS:=zan (sIf (zeq dLt (zaf 1) (zaA zeh (zab (zaf 0) zak))) (zcj (cOp dIx (zaf 0) (zaf 1))) zf0) (zcj (cOp zcq (cOp zo9 (cK (.int 6151)) (zaf 1)) (cK (.int 29))))
noncomputable def F_24:List D->M D:=zc6 2 G_24
theorem d_24 (x0 x1:D):F_24 [x0,x1]=(do let o<-G_24 [some x0,some x1];zc2 o):=rfl
noncomputable def G_25:FS:=zan (zbq 2 (cOp zcq (cOp zfS (cOp zcq (zaf 0) (cK (.int 1))) (cK (.int 40692))) (cOp zfS (cK (.int 104729)) (zaf 1)))) (zan (zbq 2 (cOp zcq (cOp zqP (cOp zfS (zaf 2) (zaf 2)) (cK (.int 2147483399))) (zaf 1))) (zcj (cOp zqP (cOp zfS (zaf 2) (cOp zcq (zaf 2) (cK (.int 31)))) (cK (.int 2147483563)))))
noncomputable def F_25:List D->M D:=zc6 3 G_25
theorem d_25 (x0 x1:D):F_25 [x0,x1]=(do let o<-G_25 [some x0,some x1,none];zc2 o):=rfl
noncomputable def zc1:FS:=zbq 3 (cOp zcq (cOp zfS (zaf 3) (cK (.int 2147483647))) (zaA (zam 2 F_25) (zab (zaf 2) (zab (zaf 4) zak))))
noncomputable def G_26:FS:=zan (zbq 2 (zaA (zam 2 F_24) (zab (zaf 0) (zab (zaf 1) zak)))) (zan (sIf (zeq dEq (cOp zqP (zaf 2) (cK (.int 2))) (cK (.int 0))) (zcj (zia (zab (cOp zp6 (zaf 2) (cK (.int 2))) zak))) zf0) (zan (zbq 3 (cK (.int 0))) (zan (zhO (zkd (zab (cK (.int 24)) zak)) (zaX 4) zc1) (zcj (zia (zab (zaf 3) zak))))))
noncomputable def F_26:List D->M D:=zc6 5 G_26
theorem d_26 (x0 x1:D):F_26 [x0,x1]=(do let o<-G_26 [some x0,some x1,none,none,none];zc2 o):=rfl
noncomputable def G_27:FS:=zan (zqQ (zaA ze2 (zab (cOp dIx (zaf 0) (cK (.int 0))) (zab (zaf 1) zak))) (zhF 2 (zcG (zaX 2) (zcG (zaX 3) zgD)))) (zan (zqQ (zaf 2) (zps (zaf 0) (cK (.int 0)))) (zcj (zaf 3)))
noncomputable def F_27:List D->M D:=zc6 4 G_27
theorem d_27 (x0 x1:D):F_27 [x0,x1]=(do let o<-G_27 [some x0,some x1,none,none];zc2 o):=rfl
noncomputable def zb4:FE:=zaf 0
noncomputable def zb1:FT:=zeq dLe (zaA (zam 2 F_27) (zab (zaf 1) (zab (cK (.int 4)) zak))) (zaf 2)
noncomputable def za8:FS:=zan (zbq 8 (zaP (zkd (zab (zaf 3) zak)) (zaX 0) zb1 zb4 [none,some 0,some 5])) (zan (sIf (zeq dEq (zaf 8) (zfd zak)) (zbq 8 (zfd (zab (zaA (zam 2 F_27) (zab (zaf 0) (zab (zaf 3) zak))) zak))) zf0) (zfk (zdW (zaf 6) (zcH (zab (zaA zdj (zab (zaf 8) zak)) (zab (cOp zcq (cK (.int 1)) (zaA (zam 2 F_27) (zab (zaf 0) (zab (zaf 4) zak)))) zak))))))
noncomputable def G_28:FS:=zan (zbq 3 (cOp zcq (cK (.int 1)) (zaA (zam 2 F_27) (zab (zaf 0) (zab (zaf 1) zak))))) (zan (zbq 4 (cOp dIx (zfd (zab (cK (.int 1)) (zab (cK (.int 3)) (zab (cK (.int 20)) (zab (cOp zor (cK (.int 10)) (cK (.int 20))) zak))))) (zaA (zam 2 F_27) (zab (zaf 0) (zab (cK (.int 4)) zak))))) (zan (zbq 5 (zaA (zam 2 F_27) (zab (zaf 0) (zab (cK (.int 3)) zak)))) (zan (zbq 6 (zia zak)) (zan (zhO (zkd (zab (zaA (zam 2 F_27) (zab (zaf 0) (zab (cOp zcq (zaf 2) (cK (.int 1))) zak))) zak)) (zaX 7) za8) (zcj (zcH (zab (zaf 3) (zab (zaA zdj (zab (zaf 6) zak)) zak))))))))
noncomputable def F_28:List D->M D:=zc6 9 G_28
theorem d_28 (x0 x1 x2:D):F_28 [x0,x1,x2]=(do let o<-G_28 [some x0,some x1,some x2,none,none,none,none,none,none];zc2 o):=rfl
noncomputable def zbF:FE:=zaf 0
noncomputable def zbJ:FT:=zeq dIn (zaf 1) (cOp dIx (zaf 0) (cK (.int 0)))
noncomputable def zdI:FE:=zaf 0
noncomputable def zcF:FT:=zeq dEq (zaP (iSq (zaf 1)) (zaX 0) zbJ zbF [none,some 0]) (zfd zak)
noncomputable def G_29:FS:=zan (zqQ (zaA (zam 3 F_28) (zab (zaf 0) (zab (zaf 1) (zab (cOp ztb (zaf 2) (cK (.int 1))) zak)))) (zhF 2 (zcG (zaX 3) (zcG (zaX 4) zgD)))) (zan (zbq 5 (zaA zdj (zab (zaP (zkd (zab (zaf 3) zak)) (zaX 0) zcF zdI [none,some 4]) zak))) (zan (zbq 6 (zaA (zam 2 F_27) (zab (zaf 0) (zab (cOp zcq (zaA zeh (zab (zaf 4) zak)) (cK (.int 1))) zak)))) (zan (sIf (zeq dNe (zaf 5) (zcH zak)) (zbq 4 (cOp zcq (cOp zcq (cSl (zaf 4) zeQ (zeC (zaf 6))) (zcH (zab (zcH (zab (zaf 5) (zab (cOp zcq (cK (.int 1)) (zaA (zam 2 F_27) (zab (zaf 0) (zab (cK (.int 9)) zak)))) zak))) zak))) (cSl (zaf 4) (zeC (zaf 6)) zeQ))) zf0) (zcj (zcH (zab (zaf 3) (zab (zaf 4) zak)))))))
noncomputable def F_29:List D->M D:=zc6 7 G_29
theorem d_29 (x0 x1 x2:D):F_29 [x0,x1,x2]=(do let o<-G_29 [some x0,some x1,some x2,none,none,none,none];zc2 o):=rfl
noncomputable def zbm:FE:=zaf 0
noncomputable def zbj:FT:=zeq dEq (cOp zqP (cOp zur (zaf 1) (zaf 0)) (cK (.int 2))) (cK (.int 1))
noncomputable def zbg:FS:=zqQ (cK (.bl true)) (ztE (zaf 4) (zaf 7))
noncomputable def zbk:FS:=zan (zbq 5 (cOp zcq (zaf 5) (cOp dIx (cOp dIx (cOp dIx (zaf 0) (cK (.int 1))) (zaf 6)) (cK (.int 1))))) (zhO (iSq (cOp dIx (cOp dIx (cOp dIx (zaf 0) (cK (.int 1))) (zaf 6)) (cK (.int 0)))) (zaX 7) zbg)
noncomputable def zbh:FS:=zan (zbq 3 (zaA zdj (zab (zaP (zkd (zab (zaA zeh (zab (cOp dIx (zaf 0) (cK (.int 1))) zak)) zak)) (zaX 0) zbj zbm [none,some 2]) zak))) (zan (zbq 4 zuf) (zan (zbq 5 (cK (.int 0))) (zan (zhO (iSq (zaf 3)) (zaX 6) zbk) (sIf (zeq dEq (zaA zql (zab (zaf 4) zak)) (cOp dIx (zaf 0) (cK (.int 0)))) (zfk (zdW (zaf 1) (zcH (zab (zaf 5) (zab (zaf 3) zak))))) zf0))))
noncomputable def G_30:FS:=zan (zbq 1 (zia zak)) (zan (zhO (zkd (zab (cOp zuX (cK (.int 1)) (zaA zeh (zab (cOp dIx (zaf 0) (cK (.int 1))) zak))) zak)) (zaX 2) zbh) (zcj (zaA zeF (zab (zaf 1) zak))))
noncomputable def F_30:List D->M D:=zc6 8 G_30
theorem d_30 (x0:D):F_30 [x0]=(do let o<-G_30 [some x0,none,none,none,none,none,none,none];zc2 o):=rfl
noncomputable def zaR:FS:=zfk (zh2 (zaf 1) (cOp dIx (zaf 2) (cK (.int 0))))
noncomputable def G_14:FS:=zan (zbq 1 (zia zak)) (zan (zhO (iSq (zaf 0)) (zaX 2) zaR) (zcj (zaA zdj (zab (cUn zbx (zaf 1)) zak))))
noncomputable def F_14:List D->M D:=zc6 3 G_14
theorem d_14 (x0:D):F_14 [x0]=(do let o<-G_14 [some x0,none,none];zc2 o):=rfl
noncomputable def G_15:FS:=zcj (cOp dEq (zaA zeh (zab (zaA (zam 1 F_14) (zab (zaf 1) zak)) zak)) (cOp dIx (zaf 0) (cK (.int 0))))
noncomputable def F_15:List D->M D:=zc6 2 G_15
theorem d_15 (x0 x1:D):F_15 [x0,x1]=(do let o<-G_15 [some x0,some x1];zc2 o):=rfl
noncomputable def G_8:FS:=zcj (zqL (cUn (zjh "int") (zaf 0)) (ztf (cUn (zjh "bool") (zaf 0))))
noncomputable def F_8:List D->M D:=zc6 1 G_8
theorem d_8 (x0:D):F_8 [x0]=(do let o<-G_8 [some x0];zc2 o):=rfl
noncomputable def za0:FS:=zan (sIf (tOr (zjT (zkq (zaA (zam 1 F_8) (zab (zaf 3) zak)))) (tOr (zeq dLt (zaf 3) (zaf 2)) (zeq dGe (zaf 3) (zaf 1)))) (zcj (cK (.bl false))) zf0) (zbq 2 (cOp zcq (zaf 3) (cK (.int 1))))
noncomputable def G_9:FS:=zan (sIf (zjT (zkq (cUn (zjh "tuple") (zaf 0)))) (zcj (cK (.bl false))) zf0) (zan (zbq 2 (cK (.int 0))) (zan (zhO (iSq (zaf 0)) (zaX 3) za0) (zcj (cK (.bl true)))))
noncomputable def F_9:List D->M D:=zc6 4 G_9
theorem d_9 (x0 x1:D):F_9 [x0,x1]=(do let o<-G_9 [some x0,some x1,none,none];zc2 o):=rfl
noncomputable def G_10:FS:=zcj (zaA (zam 2 F_9) (zab (zaf 1) (zab (zaA zeh (zab (cOp dIx (zaf 0) (cK (.int 1))) zak)) zak)))
noncomputable def F_10:List D->M D:=zc6 2 G_10
theorem d_10 (x0 x1:D):F_10 [x0,x1]=(do let o<-G_10 [some x0,some x1];zc2 o):=rfl
noncomputable def G_12:FS:=sIf (zjT (zkq (zaA (zam 2 fun ds=>noX (F_10 ds)) (zab (zaf 0) (zab (zaf 1) zak))))) (zfx "NoCover") zf0
noncomputable def F_12:List D->M D:=zc6 2 G_12
theorem d_12 (x0 x1:D):F_12 [x0,x1]=(do let o<-G_12 [some x0,some x1];zc2 o):=rfl
noncomputable def zdC:FE:=cOp dIx (cOp dIx (zaf 1) (cK (.int 1))) (zaf 0)
noncomputable def G_13:FS:=zan (zfk (zaA (zam 2 F_12) (zab (zaf 0) (zab (zaf 1) zak)))) (zcj (zaP (iSq (zaf 1)) (zaX 0) (fun _=>pure true) zdC [none,some 0]))
noncomputable def F_13:List D->M D:=zc6 2 G_13
theorem d_13 (x0 x1:D):F_13 [x0,x1]=(do let o<-G_13 [some x0,some x1];zc2 o):=rfl
noncomputable def G_16:FS:=zcj (zqL (zaA (zam 2 fun ds=>noX (F_10 ds)) (zab (zaf 0) (zab (zaf 1) zak))) (zaA (zam 2 fun ds=>noX (F_15 ds)) (zab (zaf 0) (zab (zaA (zam 2 F_13) (zab (zaf 0) (zab (zaf 1) zak))) zak))))
noncomputable def F_16:List D->M D:=zc6 2 G_16
theorem d_16 (x0 x1:D):F_16 [x0,x1]=(do let o<-G_16 [some x0,some x1];zc2 o):=rfl
noncomputable def G_17:FS:=sIf (zjT (zkq (zaA (zam 2 F_16) (zab (zaf 0) (zab (zaf 1) zak))))) (zfx "NoCover") zf0
noncomputable def F_17:List D->M D:=zc6 2 G_17
theorem d_17 (x0 x1:D):F_17 [x0,x1]=(do let o<-G_17 [some x0,some x1];zc2 o):=rfl
noncomputable def zcT:FE:=cOp dIx (zaf 0) (cK (.int 1))
noncomputable def G_11:FS:=zcj (zaA zuT (zab (zaP (iSq (zaA (zam 2 F_13) (zab (zaf 0) (zab (zaf 1) zak)))) (zaX 0) (fun _=>pure true) zcT [none]) zak))
noncomputable def F_11:List D->M D:=zc6 2 G_11
theorem d_11 (x0 x1:D):F_11 [x0,x1]=(do let o<-G_11 [some x0,some x1];zc2 o):=rfl
noncomputable def zcD:FS:=zan (zbq 2 (cOp zo9 (zaf 2) (cK (.int 2)))) (sIf (zeq dIn (zaf 3) (zaf 1)) (zbq 2 (cOp zcq (zaf 2) (cK (.int 1)))) zf0)
noncomputable def G_20:FS:=zan (zbq 2 (cK (.int 0))) (zan (zhO (zkd (zab (zaf 0) zak)) (zaX 3) zcD) (zcj (zaf 2)))
noncomputable def F_20:List D->M D:=zc6 4 G_20
theorem d_20 (x0 x1:D):F_20 [x0,x1]=(do let o<-G_20 [some x0,some x1,none,none];zc2 o):=rfl
noncomputable def zb7:FE:=zcH (zab (cOp zcq (cOp dIx (zaf 1) (cK (.int 1))) (cOp dIx (zaf 0) (cK (.int 0)))) (zab (cOp zcq (zcH (zab (zaf 2) zak)) (cOp dIx (zaf 0) (cK (.int 1)))) (zab (cOp dOr (zaf 3) (cOp dIx (zaf 0) (cK (.int 2)))) zak)))
noncomputable def za7:FS:=zan (zbq 3 (cOp dIx (cOp dIx (zaf 0) (cK (.int 1))) (zaf 2))) (zan (zbq 4 (zaA (zam 2 F_20) (zab (cOp dIx (zaf 0) (cK (.int 0))) (zab (cOp dIx (zaf 3) (cK (.int 0))) zak)))) (zan (zbq 5 (zaP (iSq (zaf 1)) (zaX 0) (fun _=>pure true) zb7 [none,some 3,some 2,some 4])) (zbq 1 (cOp zcq (cOp zcq (cSl (zaf 1) zeQ (zeC (cK (.int 1)))) (zaf 5)) (cSl (zaf 1) (zeC (cK (.int 1))) zeQ)))))
noncomputable def G_19:FS:=zan (zbq 1 (zfd (zab (zcH (zab (cK (.int 0)) (zab (zcH zak) (zab (cK (.int 0)) zak)))) zak))) (zan (zhO (zpP (zab (cOp ztb (zaA zeh (zab (cOp dIx (zaf 0) (cK (.int 1))) zak)) (cK (.int 1))) (zab (cUn zm3 (cK (.int 1))) (zab (cUn zm3 (cK (.int 1))) zak)))) (zaX 2) za7) (zcj (zaf 1)))
noncomputable def F_19:List D->M D:=zc6 6 G_19
theorem d_19 (x0:D):F_19 [x0]=(do let o<-G_19 [some x0,none,none,none,none,none];zc2 o):=rfl
noncomputable def zbs:FE:=zcH (zab (cOp dIx (zaf 0) (cK (.int 0))) (zab (cOp dIx (zaf 0) (cK (.int 1))) zak))
noncomputable def zbv:FT:=zeq dEq (cOp dIx (zaf 0) (cK (.int 2))) (zaf 1)
noncomputable def G_18:FS:=zan (zbq 1 (zaA (zam 2 F_20) (zab (cOp dIx (zaf 0) (cK (.int 0))) (zab (cUn zdM (cOp dIx (zaf 0) (cK (.int 0)))) zak)))) (zcj (zaP (iSq (zaA (zam 1 F_19) (zab (zaf 0) zak))) (zaX 0) zbv zbs [none,some 1]))
noncomputable def F_18:List D->M D:=zc6 2 G_18
theorem d_18 (x0:D):F_18 [x0]=(do let o<-G_18 [some x0,none];zc2 o):=rfl
noncomputable def zcs:FE:=zaf 0
noncomputable def zcA:FT:=zeq zrf (zaf 0) (zaf 1)
noncomputable def G_22:FS:=zan (zfk (zaA (zam 2 F_17) (zab (zaf 0) (zab (zaf 1) zak)))) (zan (zbq 2 (zcH (zab (zaA (zam 2 F_11) (zab (zaf 0) (zab (zaf 1) zak))) (zab (zaf 1) zak)))) (zcj (zaA zeh (zab (zaP (iSq (zaA (zam 1 fun ds=>noX (F_18 ds)) (zab (zaf 0) zak))) (zaX 0) zcA zcs [none,some 2]) zak))))
noncomputable def F_22:List D->M D:=zc6 3 G_22
theorem d_22 (x0 x1:D):F_22 [x0,x1]=(do let o<-G_22 [some x0,some x1,none];zc2 o):=rfl
noncomputable def G_31:FS:=zcj (zqL (cUn (zjh "int") (zaf 0)) (ztf (cUn (zjh "bool") (zaf 0))))
noncomputable def F_31:List D->M D:=zc6 1 G_31
theorem d_31 (x0:D):F_31 [x0]=(do let o<-G_31 [some x0];zc2 o):=rfl
noncomputable def G_21:FS:=zan (zbq 2 (zaA zeF (zab (zaA (zam 1 fun ds=>noX (F_18 ds)) (zab (zaf 0) zak)) zak))) (zan (sIf (tOr (zjT (zkq (zaA (zam 1 fun ds=>noX (F_8 ds)) (zab (zaf 1) zak)))) (tOr (zeq dLt (zaf 1) (cK (.int 0))) (zeq dGe (zaf 1) (zaA zeh (zab (zaf 2) zak))))) (zfx "NoNumber") zf0) (zcj (cOp dIx (cOp dIx (zaf 2) (zaf 1)) (cK (.int 1)))))
noncomputable def F_21:List D->M D:=zc6 3 G_21
theorem d_21 (x0 x1:D):F_21 [x0,x1]=(do let o<-G_21 [some x0,some x1,none];zc2 o):=rfl
noncomputable def zb9:FE:=zaf 0
noncomputable def zb0:FT:=zeq zrE (zaf 0) (zaf 1)
noncomputable def G_23:FS:=zan (zfk (zaA (zam 2 F_17) (zab (zaf 0) (zab (zaf 1) zak)))) (zan (zbq 2 (zcH (zab (zaA (zam 2 F_11) (zab (zaf 0) (zab (zaf 1) zak))) (zab (zaf 1) zak)))) (zan (zuN (zbq 3 (zaP (iSq (zaA (zam 1 F_18) (zab (zaf 0) zak))) (zaX 0) zb0 zb9 [none,some 2]))) (zcj (cIf (zqO (zaf 3)) (cOp dIx (zaA zo7 (zab (zaf 3) zak)) (cK (.int 1))) (cK .non)))))
noncomputable def F_23:List D->M D:=zc6 4 G_23
theorem d_23 (x0 x1:D):F_23 [x0,x1]=(do let o<-G_23 [some x0,some x1,none,none];zc2 o):=rfl
noncomputable def G_33:FS:=zan (zbq 1 (zfd (zab (cUn (zoH zde "NoNumber") (zaf 0)) (zab (cUn (zoH zde "NoCover") (zaf 0)) (zab (cUn (zoH zde "NotFull") (zaf 0)) (zab (cUn (zoH zde "NoOffer") (zaf 0)) zak)))))) (zan (zbq 1 (cOp zcq (zaf 1) (zfd (zab (cUn (zoH zde "NoThing") (zaf 0)) (zab (cUn (zoH zde "NoStock") (zaf 0)) (zab (cUn (zoH zde "NoRow") (zaf 0)) (zab (cK (.bl true)) zak))))))) (zcj (cOp dIx (zfd (zab (cK (.str "number")) (zab (cK (.str "cover")) (zab (cK (.str "full")) (zab (cK (.str "offer")) (zab (cK (.str "thing")) (zab (cK (.str "stock")) (zab (cK (.str "row")) (zab (cK (.str "other")) zak))))))))) (cUn zrw (zaf 1)))))
noncomputable def F_33:List D->M D:=zc6 2 G_33
theorem d_33 (x0:D):F_33 [x0]=(do let o<-G_33 [some x0,none];zc2 o):=rfl
noncomputable def G_37:FS:=zan (zbq 3 (cK (.str "told"))) (zan (ziv zde (zfk (zn0 2 [F_21,F_22,F_23] (zaf 0) (zab (zaf 1) (zab (zaf 2) zak)))) 3 F_33) (zcj (zaf 3)))
noncomputable def F_37:List D->M D:=zc6 5 G_37
theorem d_37 (x0 x1 x2:D):F_37 [x0,x1,x2]=(do let o<-G_37 [some x0,some x1,some x2,none,none];zc2 o):=rfl
noncomputable def G_32:FS:=zan (zbq 1 (zfd (zab (cK .non) (zab (cK (.bl true)) (zab (cK (.bl false)) (zab (cUn zm3 (cK (.int 1))) (zab (cK (.int 0)) (zab (cK (.int 1)) (zab (cK (.int 2)) (zab (cK (.str "")) (zab (cK (.str "0")) (zab (zcH zak) (zab (zcH (zab (cK (.int 0)) zak)) (zab (zcH (zab (cK (.int 0)) (zab (cK (.int 1)) zak))) (zab (zcH (zab (cK (.int 1)) (zab (cK (.int 0)) zak))) (zab (zcH (zab (cK (.int 0)) (zab (cK (.int 0)) zak))) (zab (zcH (zab (cK (.bl true)) zak)) (zab (zfd (zab (cK (.int 0)) zak)) (zab (cK .dct) (zab (zcH (zab (zcH (zab (cK (.int 0)) zak)) zak)) zak)))))))))))))))))))) (zan (zbq 1 (cOp zcq (zaf 1) (zfd (zab (zcH (zab (cK .non) zak)) (zab (cOp zor (cK (.int 10)) (cK (.int 39))) (zab (zcH (zab (cK (.int 12)) zak)) (zab (zcH (zab (cUn zm3 (cK (.int 1))) zak)) (zab (zcH (zab (cK (.int 0)) (zab (cK (.str "1")) zak))) (zab (zfd (zab (cK (.int 0)) (zab (cK (.int 1)) zak))) (zab (zcH (zab (cK (.int 0)) (zab (cK (.int 1)) (zab (cK (.int 2)) zak)))) zak)))))))))) (zcj (cOp dIx (zaf 1) (zaA (zam 2 F_27) (zab (zaf 0) (zab (zaA zeh (zab (zaf 1) zak)) zak))))))
noncomputable def F_32:List D->M D:=zc6 2 G_32
theorem d_32 (x0:D):F_32 [x0]=(do let o<-G_32 [some x0,none];zc2 o):=rfl
noncomputable def G_36:FS:=zan (zbq 3 (zaA (zam 2 F_27) (zab (zaf 0) (zab (cOp zcq (zaA zeh (zab (zaf 2) zak)) (cK (.int 1))) zak)))) (zan (zbq 4 (zaA (zam 1 F_32) (zab (zaf 0) zak))) (zan (zbq 5 (zfd (zab (cOp zcq (cSl (zaf 2) zeQ (zeC (zaf 3))) (cSl (zaf 2) (zeC (cOp zcq (zaf 3) (cK (.int 1)))) zeQ)) (zab (cOp zcq (zaf 2) (zcH (zab (zaA zeh (zab (cOp dIx (zaf 1) (cK (.int 1))) zak)) zak))) (zab (cUn ztm (zaf 2)) (zab (zaA zlA (zab (zaf 2) zak)) (zab (cOp zcq (zaf 2) (cSl (zaf 2) (zeC (cUn zm3 (cK (.int 1)))) zeQ)) (zab (zaf 4) (zab (cOp zcq (zaf 2) (zcH (zab (zaf 4) zak))) zak))))))))) (zan (zbq 5 (cOp zcq (zaf 5) (zfd (zab (cOp zcq (cOp zcq (cSl (zaf 2) zeQ (zeC (zaf 3))) (zcH (zab (zaf 4) zak))) (cSl (zaf 2) (zeC (zaf 3)) zeQ)) (zab (cUn ziq (zaA zeh (zab (cOp dIx (zaf 1) (cK (.int 1))) zak))) (zab (zaf 2) (zab (cK .non) (zab (zcH (zab (zaf 2) zak)) zak)))))))) (zcj (cOp dIx (zaf 5) (zaA (zam 2 F_27) (zab (zaf 0) (zab (zaA zeh (zab (zaf 5) zak)) zak))))))))
noncomputable def F_36:List D->M D:=zc6 6 G_36
theorem d_36 (x0 x1 x2:D):F_36 [x0,x1,x2]=(do let o<-G_36 [some x0,some x1,some x2,none,none,none];zc2 o):=rfl
noncomputable def zcQ:FE:=zaA (zam 1 F_31) (zab (zaf 0) zak)
noncomputable def zbS:FE:=zgJ dLe dLt (cK (.int 0)) (zaf 0) (zaA zeh (zab (cOp dIx (zaf 1) (cK (.int 1))) zak))
noncomputable def G_34:FS:=zan (sIf (tOr (zjT (zkq (cUn (zjh "tuple") (zaf 1)))) (zjT (zkq (zaA ztj (zab (zaP (iSq (zaf 1)) (zaX 0) (fun _=>pure true) zcQ [none]) zak))))) (zcj (cK (.bl false))) zf0) (zcj (zqL (cOp dEq (zaA zlA (zab (zaf 1) zak)) (cUn zbx (zaf 1))) (zaA ztj (zab (zaP (iSq (zaf 1)) (zaX 0) (fun _=>pure true) zbS [none,some 0]) zak))))
noncomputable def F_34:List D->M D:=zc6 2 G_34
theorem d_34 (x0 x1:D):F_34 [x0,x1]=(do let o<-G_34 [some x0,some x1];zc2 o):=rfl
noncomputable def za1:FS:=zbq 2 (cOp zcq (zaf 2) (zaA zlA (zab (cOp dIx (cOp dIx (cOp dIx (zaf 0) (cK (.int 1))) (zaf 3)) (cK (.int 0))) zak)))
noncomputable def G_35:FS:=zan (sIf (zjT (zkq (zaA (zam 2 F_34) (zab (zaf 0) (zab (zaf 1) zak))))) (zcj (cK (.bl false))) zf0) (zan (zbq 2 (zfd zak)) (zan (zhO (iSq (zaf 1)) (zaX 3) za1) (zcj (cOp dEq (cUn zbx (zaf 2)) (cUn zdM (cOp dIx (zaf 0) (cK (.int 0))))))))
noncomputable def F_35:List D->M D:=zc6 4 G_35
theorem d_35 (x0 x1:D):F_35 [x0,x1]=(do let o<-G_35 [some x0,some x1,none,none];zc2 o):=rfl
noncomputable def zio:FE:=zaf 1
noncomputable def zeO:FS:=zan (zbq 6 (zaA (zam 2 F_22) (zab (zaf 3) (zab (cOp dIx (zaf 4) (zaf 5)) zak)))) (zan (sIf (tOr (zeq dNe (zaA (zam 2 F_21) (zab (zaf 3) (zab (zaf 5) zak))) (cOp dIx (zaf 4) (zaf 5))) (tOr (zjT (zkq (zaA (zam 1 F_31) (zab (zaf 6) zak)))) (zeq dNe (zaf 6) (zaf 5)))) (zcj (cK (.bl false))) zf0) (sIf (zeq dNe (zaA (zam 2 F_23) (zab (zaf 3) (zab (cOp dIx (zaf 4) (zaf 5)) zak))) (cOp dIx (cOp zcq (zaf 4) (zfd (zab (cK .non) zak))) (cOp zcq (zaf 5) (cK (.int 1))))) (zcj (cK (.bl false))) zf0))
noncomputable def zeU:FS:=sIf (zeq dNe (zaA (zam 3 F_37) (zab (zaf 9) (zab (zaf 3) (zab (zaf 8) zak)))) (cOp dIx (zfd (zab (cK (.str "cover")) (zab (cK (.str "told")) zak))) (zaA zny (zab (zaA (zam 2 F_35) (zab (zaf 3) (zab (zaf 8) zak))) zak)))) (zcj (cK (.bl false))) zf0
noncomputable def ze3:FS:=zan (zbq 2 (zaA (zam 2 F_26) (zab (zaf 0) (zab (zaf 1) zak)))) (zan (zbq 3 (zaA (zam 3 F_29) (zab (zaf 2) (zab (cK (.int 6)) (zab (cK (.int 8)) zak))))) (zan (zbq 4 (zaP (iSq (zaA (zam 1 F_30) (zab (zaf 3) zak))) (zhF 2 (zcG (zaX 0) (zcG (zaX 1) zgD))) (fun _=>pure true) zio [none,none])) (zan (zhO (iSq (zfd (zab (cK (.int 0)) (zab (cOp ztb (zaA zeh (zab (zaf 4) zak)) (cK (.int 1))) (zab (zaA (zam 2 F_27) (zab (zaf 2) (zab (zaA zeh (zab (zaf 4) zak)) zak))) (zab (zaA (zam 2 F_27) (zab (zaf 2) (zab (zaA zeh (zab (zaf 4) zak)) zak))) zak)))))) (zaX 5) zeO) (zan (zbq 7 (cOp dIx (zfd (zab (zaA zeh (zab (zaf 4) zak)) (zab (cUn zm3 (cK (.int 1))) (zab (cK (.bl true)) (zab (cK .non) (zab (cK (.str "0")) (zab (zcH (zab (cK (.int 0)) zak)) (zab (cOp zor (cK (.int 10)) (cK (.int 39))) zak)))))))) (zaA (zam 2 F_27) (zab (zaf 2) (zab (cK (.int 7)) zak))))) (zan (sIf (zeq dNe (zaA (zam 3 F_37) (zab (cK (.int 0)) (zab (zaf 3) (zab (zaf 7) zak)))) (cK (.str "number"))) (zcj (cK (.bl false))) zf0) (zan (zbq 8 (zaA (zam 3 F_36) (zab (zaf 2) (zab (zaf 3) (zab (cOp dIx (zaf 4) (cK (.int 0))) zak))))) (zhO (iSq (zfd (zab (cK (.int 1)) (zab (cK (.int 2)) zak)))) (zaX 9) zeU)))))))
noncomputable def G_38:FS:=zan (zhO (zkd (zab (zaA zqC (zab (cK (.int 1)) (zab (zaA zpQ (zab (zaA zeh (zab (zaf 0) zak)) (zab (cK (.int 4)) zak))) zak))) zak)) (zaX 1) ze3) (zcj (cOp dEq (zaA (zam 3 F_37) (zab (cK (.int 1)) (zab (zcH (zab (cK (.int 2)) (zab (zcH zak) zak))) (zab (zcH zak) zak)))) (cK (.str "cover"))))
noncomputable def F_38:List D->M D:=zc6 10 G_38
theorem d_38 (x0:D):F_38 [x0]=(do let o<-G_38 [some x0,none,none,none,none,none,none,none,none,none];zc2 o):=rfl
end K13
set_option genInjectivity false
set_option genSizeOf false
set_option genSizeOfSpec false
namespace K13
open PySem PySem.Spec PyProof.Rows L2 L3
noncomputable def top (i:Nat):Stmt:=PySem.Challenge.pw_cheapcovers_k13_covers_by_number.main.body.getD i (.Pass ⟨0,0,0,0⟩)
theorem ze6 {A:Around} {k:Nat} (hr:zdg k A):A.units+60<cLine:=by have:=hr.units;omega
theorem zro {P:Program} {w:World} {K:W.Frag} {mg:Str->Option Value} {base:Heap} {N:List Str} {qual:Str} {scope:Scope} {f:Addr} {cd:Value} {A:Around} {outer:List Env} {s:Shared} {H:Hp} {E:XK}:zeK (zhM CX0 P w K mg base N qual scope f cd A outer s H E).nox:=⟨rfl,rfl,rfl⟩
theorem zow:bootBuiltins "all"=some (.builtin "all"):=by decide +kernel
theorem zkB:bootBuiltins "bool"=some (.type "bool"):=by decide +kernel
theorem zlS:bootBuiltins "divmod"=some (.builtin "divmod"):=by decide +kernel
theorem zlK:bootBuiltins "int"=some (.type "int"):=by decide +kernel
theorem za9:bootBuiltins "len"=some (.builtin "len"):=by decide +kernel
theorem zhZ:bootBuiltins "list"=some (.type "list"):=by decide +kernel
theorem zsj:bootBuiltins "max"=some (.builtin "max"):=by decide +kernel
theorem zoW:bootBuiltins "min"=some (.builtin "min"):=by decide +kernel
theorem zgR:bootBuiltins "sorted"=some (.builtin "sorted"):=by decide +kernel
theorem zrV:bootBuiltins "sum"=some (.builtin "sum"):=by decide +kernel
theorem zcz:bootBuiltins "tuple"=some (.type "tuple"):=by decide +kernel
noncomputable abbrev s_24:Stmt:=top 30
noncomputable abbrev s_25:Stmt:=top 31
noncomputable abbrev s_26:Stmt:=top 32
noncomputable abbrev s_27:Stmt:=top 33
noncomputable abbrev s_28:Stmt:=top 34
noncomputable abbrev s_29:Stmt:=top 35
noncomputable abbrev s_30:Stmt:=top 36
noncomputable abbrev s_14:Stmt:=top 17
noncomputable abbrev s_15:Stmt:=top 18
noncomputable abbrev s_8:Stmt:=top 10
noncomputable abbrev s_9:Stmt:=top 11
noncomputable abbrev s_10:Stmt:=top 13
noncomputable abbrev s_12:Stmt:=top 15
noncomputable abbrev s_13:Stmt:=top 16
noncomputable abbrev s_16:Stmt:=top 20
noncomputable abbrev s_17:Stmt:=top 21
noncomputable abbrev s_11:Stmt:=top 14
noncomputable abbrev s_20:Stmt:=top 24
noncomputable abbrev s_19:Stmt:=top 23
noncomputable abbrev s_18:Stmt:=top 22
noncomputable abbrev s_22:Stmt:=top 27
noncomputable abbrev s_31:Stmt:=top 37
noncomputable abbrev s_21:Stmt:=top 26
noncomputable abbrev s_23:Stmt:=top 28
noncomputable abbrev s_33:Stmt:=top 39
noncomputable abbrev s_37:Stmt:=top 43
noncomputable abbrev s_32:Stmt:=top 38
noncomputable abbrev s_36:Stmt:=top 42
noncomputable abbrev s_34:Stmt:=top 40
noncomputable abbrev s_35:Stmt:=top 41
noncomputable abbrev s_38:Stmt:=top 44
structure Ad where
 a_0:Addr
 a_1:Addr
 a_2:Addr
 a_3:Addr
 a_4:Addr
 a_5:Addr
 a_6:Addr
 a_7:Addr
 a_24:Addr
 d_24:FuncData
 a_25:Addr
 d_25:FuncData
 a_26:Addr
 d_26:FuncData
 a_27:Addr
 d_27:FuncData
 a_28:Addr
 d_28:FuncData
 a_29:Addr
 d_29:FuncData
 a_30:Addr
 d_30:FuncData
 a_14:Addr
 d_14:FuncData
 a_15:Addr
 d_15:FuncData
 a_8:Addr
 d_8:FuncData
 a_9:Addr
 d_9:FuncData
 a_10:Addr
 d_10:FuncData
 a_12:Addr
 d_12:FuncData
 a_13:Addr
 d_13:FuncData
 a_16:Addr
 d_16:FuncData
 a_17:Addr
 d_17:FuncData
 a_11:Addr
 d_11:FuncData
 a_20:Addr
 d_20:FuncData
 a_19:Addr
 d_19:FuncData
 a_18:Addr
 d_18:FuncData
 a_22:Addr
 d_22:FuncData
 a_31:Addr
 d_31:FuncData
 a_21:Addr
 d_21:FuncData
 a_23:Addr
 d_23:FuncData
 a_33:Addr
 d_33:FuncData
 a_37:Addr
 d_37:FuncData
 a_32:Addr
 d_32:FuncData
 a_36:Addr
 d_36:FuncData
 a_34:Addr
 d_34:FuncData
 a_35:Addr
 d_35:FuncData
 a_38:Addr
 d_38:FuncData
structure Tx (K:W.Frag) (mg:Str->Option Value) (t:Ad):Prop where
 n_all:mg "all"=none
 n_bool:mg "bool"=none
 n_divmod:mg "divmod"=none
 n_int:mg "int"=none
 n_isinstance:mg "isinstance"=none
 n_len:mg "len"=none
 n_list:mg "list"=none
 n_max:mg "max"=none
 n_min:mg "min"=none
 n_range:mg "range"=none
 n_set:mg "set"=none
 n_sorted:mg "sorted"=none
 n_sum:mg "sum"=none
 n_tuple:mg "tuple"=none
 g_0:mg "CoverError"=some (.ref t.a_0)
 g_1:mg "NoStock"=some (.ref t.a_1)
 g_2:mg "NoOffer"=some (.ref t.a_2)
 g_3:mg "NoThing"=some (.ref t.a_3)
 g_4:mg "NoCover"=some (.ref t.a_4)
 g_5:mg "NoNumber"=some (.ref t.a_5)
 g_6:mg "NotFull"=some (.ref t.a_6)
 g_7:mg "NoRow"=some (.ref t.a_7)
 k_1:zb8 K "NoStock" t.a_1
 k_2:zb8 K "NoOffer" t.a_2
 k_3:zb8 K "NoThing" t.a_3
 k_4:zb8 K "NoCover" t.a_4
 k_5:zb8 K "NoNumber" t.a_5
 k_6:zb8 K "NotFull" t.a_6
 k_7:zb8 K "NoRow" t.a_7
 x_exc:zmW K t.a_0 zde
 m_24:mg "_law_cell"=some (.ref t.a_24)
 F_24:Fun K "_law_cell" "_law_cell" s_24 t.a_24 t.d_24
 b_24:zaG K t.d_24 ["script","k"] []
 m_25:mg "_law_mix"=some (.ref t.a_25)
 F_25:Fun K "_law_mix" "_law_mix" s_25 t.a_25 t.d_25
 b_25:zaG K t.d_25 ["cell","k"] []
 m_26:mg "_law_box"=some (.ref t.a_26)
 F_26:Fun K "_law_box" "_law_box" s_26 t.a_26 t.d_26
 b_26:zaG K t.d_26 ["script","k"] []
 m_27:mg "_law_take"=some (.ref t.a_27)
 F_27:Fun K "_law_take" "_law_take" s_27 t.a_27 t.d_27
 b_27:zaG K t.d_27 ["box","many"] []
 m_28:mg "_law_stock"=some (.ref t.a_28)
 F_28:Fun K "_law_stock" "_law_stock" s_28 t.a_28 t.d_28
 b_28:zaG K t.d_28 ["box","most_things","most_offers"] []
 m_29:mg "_law_full"=some (.ref t.a_29)
 F_29:Fun K "_law_full" "_law_full" s_29 t.a_29 t.d_29
 b_29:zaG K t.d_29 ["box","most_things","most_offers"] []
 m_30:mg "_law_covers"=some (.ref t.a_30)
 F_30:Fun K "_law_covers" "_law_covers" s_30 t.a_30 t.d_30
 b_30:zaG K t.d_30 ["stock"] []
 m_14:mg "things_together"=some (.ref t.a_14)
 F_14:Fun K "things_together" "things_together" s_14 t.a_14 t.d_14
 b_14:zaG K t.d_14 ["offers"] []
 m_15:mg "have_all"=some (.ref t.a_15)
 F_15:Fun K "have_all" "have_all" s_15 t.a_15 t.d_15
 b_15:zaG K t.d_15 ["stock","offers"] []
 m_8:mg "is_whole"=some (.ref t.a_8)
 F_8:Fun K "is_whole" "is_whole" s_8 t.a_8 t.d_8
 b_8:zaG K t.d_8 ["thing"] []
 m_9:mg "is_rising"=some (.ref t.a_9)
 F_9:Fun K "is_rising" "is_rising" s_9 t.a_9 t.d_9
 b_9:zaG K t.d_9 ["thing","bound"] []
 m_10:mg "is_lot"=some (.ref t.a_10)
 F_10:Fun K "is_lot" "is_lot" s_10 t.a_10 t.d_10
 b_10:zaG K t.d_10 ["stock","thing"] []
 m_12:mg "need_lot"=some (.ref t.a_12)
 F_12:Fun K "need_lot" "need_lot" s_12 t.a_12 t.d_12
 b_12:zaG K t.d_12 ["stock","lot"] []
 m_13:mg "offers_of"=some (.ref t.a_13)
 F_13:Fun K "offers_of" "offers_of" s_13 t.a_13 t.d_13
 b_13:zaG K t.d_13 ["stock","lot"] []
 m_16:mg "is_cover"=some (.ref t.a_16)
 F_16:Fun K "is_cover" "is_cover" s_16 t.a_16 t.d_16
 b_16:zaG K t.d_16 ["stock","thing"] []
 m_17:mg "need_cover"=some (.ref t.a_17)
 F_17:Fun K "need_cover" "need_cover" s_17 t.a_17 t.d_17
 b_17:zaG K t.d_17 ["stock","cover"] []
 m_11:mg "price_of"=some (.ref t.a_11)
 F_11:Fun K "price_of" "price_of" s_11 t.a_11 t.d_11
 b_11:zaG K t.d_11 ["stock","lot"] []
 m_20:mg "bits_of"=some (.ref t.a_20)
 F_20:Fun K "bits_of" "bits_of" s_20 t.a_20 t.d_20
 b_20:zaG K t.d_20 ["many","things"] []
 m_19:mg "known_lots"=some (.ref t.a_19)
 F_19:Fun K "known_lots" "known_lots" s_19 t.a_19 t.d_19
 b_19:zaG K t.d_19 ["stock"] []
 m_18:mg "priced_covers"=some (.ref t.a_18)
 F_18:Fun K "priced_covers" "priced_covers" s_18 t.a_18 t.d_18
 b_18:zaG K t.d_18 ["stock"] []
 m_22:mg "number_of"=some (.ref t.a_22)
 F_22:Fun K "number_of" "number_of" s_22 t.a_22 t.d_22
 b_22:zaG K t.d_22 ["stock","cover"] []
 m_31:mg "_law_whole"=some (.ref t.a_31)
 F_31:Fun K "_law_whole" "_law_whole" s_31 t.a_31 t.d_31
 b_31:zaG K t.d_31 ["found"] []
 m_21:mg "cover_at"=some (.ref t.a_21)
 F_21:Fun K "cover_at" "cover_at" s_21 t.a_21 t.d_21
 b_21:zaG K t.d_21 ["stock","number"] []
 m_23:mg "next_cover"=some (.ref t.a_23)
 F_23:Fun K "next_cover" "next_cover" s_23 t.a_23 t.d_23
 b_23:zaG K t.d_23 ["stock","cover"] []
 m_33:mg "_law_kind"=some (.ref t.a_33)
 F_33:Fun K "_law_kind" "_law_kind" s_33 t.a_33 t.d_33
 b_33:zaG K t.d_33 ["e"] []
 m_37:mg "_law_said"=some (.ref t.a_37)
 F_37:Fun K "_law_said" "_law_said" s_37 t.a_37 t.d_37
 b_37:zaG K t.d_37 ["way","stock","thing"] []
 m_32:mg "_law_odd"=some (.ref t.a_32)
 F_32:Fun K "_law_odd" "_law_odd" s_32 t.a_32 t.d_32
 b_32:zaG K t.d_32 ["box"] []
 m_36:mg "_law_bent"=some (.ref t.a_36)
 F_36:Fun K "_law_bent" "_law_bent" s_36 t.a_36 t.d_36
 b_36:zaG K t.d_36 ["box","stock","lot"] []
 m_34:mg "_law_is_lot"=some (.ref t.a_34)
 F_34:Fun K "_law_is_lot" "_law_is_lot" s_34 t.a_34 t.d_34
 b_34:zaG K t.d_34 ["stock","thing"] []
 m_35:mg "_law_is_cover"=some (.ref t.a_35)
 F_35:Fun K "_law_is_cover" "_law_is_cover" s_35 t.a_35 t.d_35
 b_35:zaG K t.d_35 ["stock","thing"] []
 m_38:mg "law"=some (.ref t.a_38)
 F_38:Fun K "law" "law" s_38 t.a_38 t.d_38
 b_38:zaG K t.d_38 ["script"] []
section
variable {P:Program} {w:World} {K:W.Frag} {mg:Str->Option Value} {base:Heap} {t:Ad}
theorem sc_24:zao ["script","k"] ["script","k"] (zae s_24):=⟨rfl,rfl,rfl,by decide +kernel,rfl,by decide +kernel,by decide +kernel⟩
theorem ok_24 (T:Tx K mg t):zbw P w K mg base CX0 1 t.a_24 t.d_24 ["script","k"] (zcp K 2 F_24):=by
 refine zbX (k:=0) (G:=G_24) (N:=["script","k"]) (ps:=["script","k"]) (st:=s_24) T.F_24 sc_24 fun cdv A outer s H E hr=> ?_
 refine zag ?_ ?_
 refine zgW ?_ ?_ zby
 refine za3 (ziA) (zac 1) ?_
 refine zax (id:="len") zav za9 T.n_len ?_
 exact zaa (zac 0) zad
 refine zaj ?_
 refine zaT ?_
 exact zbA (zac 0) (zac 1)
 refine zaj ?_
 refine zaT ?_
 refine zbr (zar) ?_ zah
 exact zbr (zkX) zah (zac 1)
theorem nd_25:(["cell","k","number"]:List Str).Nodup:=by decide +kernel
theorem sc_25:zao ["cell","k","number"] ["cell","k"] (zae s_25):=⟨rfl,rfl,rfl,by decide +kernel,rfl,by decide +kernel,by decide +kernel⟩
theorem ok_25 (T:Tx K mg t):zbw P w K mg base CX0 1 t.a_25 t.d_25 ["cell","k"] (zcp K 2 F_25):=by
 refine zbX (k:=0) (G:=G_25) (N:=["cell","k","number"]) (ps:=["cell","k"]) (st:=s_25) T.F_25 sc_25 fun cdv A outer s H E hr=> ?_
 refine zag ?_ ?_
 refine zaF 2 nd_25 ?_
 refine zbr (zar) ?_ ?_
 refine zbr (ze4) ?_ zah
 exact zbr (zar) (zac 0) zah
 exact zbr (ze4) zah (zac 1)
 refine zag ?_ ?_
 refine zaF 2 nd_25 ?_
 refine zbr (zar) ?_ (zac 1)
 refine zbr (zgk) ?_ zah
 exact zbr (ze4) (zac 2) (zac 2)
 refine zaj ?_
 refine zaT ?_
 refine zbr (zgk) ?_ zah
 refine zbr (ze4) (zac 2) ?_
 exact zbr (zar) (zac 2) zah
theorem nd_26:(["script","k","here","number","j"]:List Str).Nodup:=by decide +kernel
theorem sc_26:zao ["script","k","here","number","j"] ["script","k"] (zae s_26):=⟨rfl,rfl,rfl,by decide +kernel,rfl,by decide +kernel,by decide +kernel⟩
theorem ok_26 (T:Tx K mg t):zbw P w K mg base CX0 2 t.a_26 t.d_26 ["script","k"] (zcp K 2 F_26):=by
 have G_24:=ok_24 (P:=P) (w:=w) (base:=base) T
 have G_25:=ok_25 (P:=P) (w:=w) (base:=base) T
 refine zbX (k:=1) (G:=G_26) (N:=["script","k","here","number","j"]) (ps:=["script","k"]) (st:=s_26) T.F_26 sc_26 fun cdv A outer s H E hr=> ?_
 refine zag ?_ ?_
 refine zaF 2 nd_26 ?_
 refine zaz (k:=1) (g:=t.a_24) (fd:=t.d_24) (ps:=["script","k"]) G_24 (hr.mono (by decide)) T.m_24 T.F_24.kp T.b_24 ?_
 refine zaa ?_ ?_
 exact zac 0
 exact zaa (zac 1) zad
 refine zag ?_ ?_
 refine zgW ?_ ?_ zby
 refine za3 (zdd (ze6 hr)) ?_ zah
 exact zbr (zgk) (zac 2) zah
 refine zaj ?_
 refine zaT ?_
 refine zht ?_
 refine zaa ?_ zad
 exact zbr (zm9) (zac 2) zah
 refine zag ?_ ?_
 exact zaF 3 nd_26 zah
 refine zag ?_ ?_
 refine zec rfl PassesOwn.never ?_ (zau 4 nd_26) ?_
 refine zhp T.n_range ?_
 exact zaa zah zad
 refine zaj ?_
 refine zaF 3 nd_26 ?_
 refine zbr (zar) ?_ ?_
 exact zbr (ze4) (zac 3) zah
 refine zaz (k:=1) (g:=t.a_25) (fd:=t.d_25) (ps:=["cell","k"]) G_25 (hr.mono (by decide)) T.m_25 T.F_25.kp T.b_25 ?_
 refine zaa ?_ ?_
 exact zac 2
 exact zaa (zac 4) zad
 refine zaj ?_
 refine zaT ?_
 refine zht ?_
 exact zaa (zac 3) zad
theorem nd_27:(["box","many","left","digit"]:List Str).Nodup:=by decide +kernel
theorem sc_27:zao ["box","many","left","digit"] ["box","many"] (zae s_27):=⟨rfl,rfl,rfl,by decide +kernel,rfl,by decide +kernel,by decide +kernel⟩
theorem ok_27 (T:Tx K mg t):zbw P w K mg base CX0 1 t.a_27 t.d_27 ["box","many"] (zcp K 2 F_27):=by
 refine zbX (k:=0) (G:=G_27) (N:=["box","many","left","digit"]) (ps:=["box","many"]) (st:=s_27) T.F_27 sc_27 fun cdv A outer s H E hr=> ?_
 refine zag ?_ ?_
 refine znC ?_ ?_
 refine zax (id:="divmod") zgY zlS T.n_divmod ?_
 refine zaa ?_ ?_
 exact zbA (zac 0) zah
 exact zaa (zac 1) zad
 refine zk6 rfl ?_
 refine zc5 (zau 2 nd_27) ?_
 exact zc5 (zau 3 nd_27) zit
 refine zag ?_ ?_
 refine znC (zac 2) ?_
 exact zra (zac 0) zah
 refine zaj ?_
 exact zaT (zac 3)
theorem nd_28:(["box","most_things","most_offers","many","kind","full","offers","turn","things"]:List Str).Nodup:=by decide +kernel
theorem ztF:(["thing","box","full"]:List Str).Nodup:=by decide +kernel
theorem sc_28:zao ["box","most_things","most_offers","many","kind","full","offers","turn","things"] ["box","most_things","most_offers"] (zae s_28):=⟨rfl,rfl,rfl,by decide +kernel,rfl,by decide +kernel,by decide +kernel⟩
theorem ok_28 (T:Tx K mg t):zbw P w K mg base CX0 2 t.a_28 t.d_28 ["box","most_things","most_offers"] (zcp K 3 F_28):=by
 have G_27:=ok_27 (P:=P) (w:=w) (base:=base) T
 refine zbX (k:=1) (G:=G_28) (N:=["box","most_things","most_offers","many","kind","full","offers","turn","things"]) (ps:=["box","most_things","most_offers"]) (st:=s_28) T.F_28 sc_28 fun cdv A outer s H E hr=> ?_
 refine zag ?_ ?_
 refine zaF 3 nd_28 ?_
 refine zbr (zar) zah ?_
 refine zaz (k:=1) (g:=t.a_27) (fd:=t.d_27) (ps:=["box","many"]) G_27 (hr.mono (by decide)) T.m_27 T.F_27.kp T.b_27 ?_
 refine zaa ?_ ?_
 exact zac 0
 exact zaa (zac 1) zad
 refine zag ?_ ?_
 refine zaF 4 nd_28 ?_
 refine zbA ?_ ?_
 refine zcf ?_
 refine zaa ?_ ?_
 exact zah
 refine zaa ?_ ?_
 exact zah
 refine zaa ?_ ?_
 exact zah
 refine zaa ?_ zad
 exact zbr (zhR) zah zah
 refine zaz (k:=1) (g:=t.a_27) (fd:=t.d_27) (ps:=["box","many"]) G_27 (hr.mono (by decide)) T.m_27 T.F_27.kp T.b_27 ?_
 refine zaa ?_ ?_
 exact zac 0
 exact zaa zah zad
 refine zag ?_ ?_
 refine zaF 5 nd_28 ?_
 refine zaz (k:=1) (g:=t.a_27) (fd:=t.d_27) (ps:=["box","many"]) G_27 (hr.mono (by decide)) T.m_27 T.F_27.kp T.b_27 ?_
 refine zaa ?_ ?_
 exact zac 0
 exact zaa zah zad
 refine zag ?_ ?_
 refine zaF 6 nd_28 ?_
 exact zht zad
 refine zag ?_ ?_
 refine zec rfl PassesOwn.never ?_ (zau 7 nd_28) ?_
 refine zhp T.n_range ?_
 refine zaa ?_ zad
 refine zaz (k:=1) (g:=t.a_27) (fd:=t.d_27) (ps:=["box","many"]) G_27 (hr.mono (by decide)) T.m_27 T.F_27.kp T.b_27 ?_
 refine zaa ?_ ?_
 exact zac 0
 refine zaa ?_ zad
 exact zbr (zar) (zac 2) zah
 refine zag ?_ ?_
 refine zdH 8 (N:=["thing","box","full"]) rfl nd_28 ?_ (zaZ.name (i:=0) rfl) ?_ ?_ ?_ ?_
 exact (BOk.of (Xn:=(zae s_28).names) (XN:=["box","most_things","most_offers","many","kind","full","offers","turn","things"]) rfl rfl rfl (by decide +kernel))
 refine zhp T.n_range ?_
 exact zaa (zac 3) zad
 intro _ _ _
 exact zau 0 ztF
 intro _ _ _
 refine ze0 ?_
 refine za3 (zoi) ?_ (zac 2)
 refine zaz (k:=1) (g:=t.a_27) (fd:=t.d_27) (ps:=["box","many"]) G_27 (hr.mono (by decide)) T.m_27 T.F_27.kp T.b_27 ?_
 refine zaa ?_ ?_
 exact zac 1
 exact zaa zah zad
 intro _ _ _
 exact zac 0
 refine zag ?_ ?_
 refine zgW ?_ ?_ zby
 refine za3 (zdd (ze6 hr)) (zac 8) ?_
 exact zcf zad
 refine zaj ?_
 refine zaF 8 nd_28 ?_
 refine zcf ?_
 refine zaa ?_ zad
 refine zaz (k:=1) (g:=t.a_27) (fd:=t.d_27) (ps:=["box","many"]) G_27 (hr.mono (by decide)) T.m_27 T.F_27.kp T.b_27 ?_
 refine zaa ?_ ?_
 exact zac 0
 exact zaa (zac 3) zad
 refine zaj ?_
 refine zeR ?_
 refine zjc (zac 6) ?_
 refine zaY ?_
 refine zaa ?_ ?_
 refine zbI (T:="tuple") zbV zcz T.n_tuple ?_
 exact zaa (zac 8) zad
 refine zaa ?_ zad
 refine zbr (zar) zah ?_
 refine zaz (k:=1) (g:=t.a_27) (fd:=t.d_27) (ps:=["box","many"]) G_27 (hr.mono (by decide)) T.m_27 T.F_27.kp T.b_27 ?_
 refine zaa ?_ ?_
 exact zac 0
 exact zaa (zac 4) zad
 refine zaj ?_
 refine zaT ?_
 refine zaY ?_
 refine zaa ?_ ?_
 exact zac 3
 refine zaa ?_ zad
 refine zbI (T:="tuple") zbV zcz T.n_tuple ?_
 exact zaa (zac 6) zad
theorem nd_29:(["box","most_things","most_offers","many","offers","left","at"]:List Str).Nodup:=by decide +kernel
theorem zuJ:(["thing","offers"]:List Str).Nodup:=by decide +kernel
theorem ztZ:(["one","thing"]:List Str).Nodup:=by decide +kernel
theorem sc_29:zao ["box","most_things","most_offers","many","offers","left","at"] ["box","most_things","most_offers"] (zae s_29):=⟨rfl,rfl,rfl,by decide +kernel,rfl,by decide +kernel,by decide +kernel⟩
theorem ok_29 (T:Tx K mg t):zbw P w K mg base CX0 3 t.a_29 t.d_29 ["box","most_things","most_offers"] (zcp K 3 F_29):=by
 have G_28:=ok_28 (P:=P) (w:=w) (base:=base) T
 have G_27:=ok_27 (P:=P) (w:=w) (base:=base) T
 refine zbX (k:=2) (G:=G_29) (N:=["box","most_things","most_offers","many","offers","left","at"]) (ps:=["box","most_things","most_offers"]) (st:=s_29) T.F_29 sc_29 fun cdv A outer s H E hr=> ?_
 refine zag ?_ ?_
 refine znC ?_ ?_
 refine zaz (k:=2) (g:=t.a_28) (fd:=t.d_28) (ps:=["box","most_things","most_offers"]) G_28 (hr.mono (by decide)) T.m_28 T.F_28.kp T.b_28 ?_
 refine zaa ?_ ?_
 exact zac 0
 refine zaa ?_ ?_
 exact zac 1
 refine zaa ?_ zad
 exact zbr (zir) (zac 2) zah
 refine zk6 rfl ?_
 refine zc5 (zau 3 nd_29) ?_
 exact zc5 (zau 4 nd_29) zit
 refine zag ?_ ?_
 refine zaF 5 nd_29 ?_
 refine zbI (T:="tuple") zbV zcz T.n_tuple ?_
 refine zaa ?_ zad
 refine zdv (N:=["thing","offers"]) rfl ?_ (zaZ.name (i:=0) rfl) ?_ ?_ ?_ ?_
 exact (BOk.of (Xn:=(zae s_29).names) (XN:=["box","most_things","most_offers","many","offers","left","at"]) rfl rfl rfl (by decide +kernel))
 refine zhp T.n_range ?_
 exact zaa (zac 3) zad
 intro _ _ _
 exact zau 0 zuJ
 intro _ _ _
 refine ze0 ?_
 refine za3 (zdd (ze6 hr)) ?_ ?_
 refine zdv (N:=["one","thing"]) rfl ?_ (zaZ.name (i:=0) rfl) ?_ ?_ ?_ ?_
 exact (BOk.of (N:=["one","thing"]) (src:=[none,some 0]) rfl rfl rfl (by rfl))
 exact zcP (zac 1)
 intro _ _ _
 exact zau 0 ztZ
 intro _ _ _
 refine ze0 ?_
 refine za3 (zn8 (ze6 hr)) (zac 1) ?_
 exact zbA (zac 0) zah
 intro _ _ _
 exact zac 0
 exact zcf zad
 intro _ _ _
 exact zac 0
 refine zag ?_ ?_
 refine zaF 6 nd_29 ?_
 refine zaz (k:=1) (g:=t.a_27) (fd:=t.d_27) (ps:=["box","many"]) G_27 (hr.mono (by decide)) T.m_27 T.F_27.kp T.b_27 ?_
 refine zaa ?_ ?_
 exact zac 0
 refine zaa ?_ zad
 refine zbr (zar) ?_ zah
 refine zax (id:="len") zav za9 T.n_len ?_
 exact zaa (zac 4) zad
 refine zag ?_ ?_
 refine zgW ?_ ?_ zby
 refine za3 (zfF (ze6 hr)) (zac 5) ?_
 exact zaY zad
 refine zaj ?_
 refine zaF 4 nd_29 ?_
 refine zbr (zar) ?_ ?_
 refine zbr (zar) ?_ ?_
 refine zbH (zac 4) (zcw) ?_
 exact zct (zac 6)
 refine zaY ?_
 refine zaa ?_ zad
 refine zaY ?_
 refine zaa ?_ ?_
 exact zac 5
 refine zaa ?_ zad
 refine zbr (zar) zah ?_
 refine zaz (k:=1) (g:=t.a_27) (fd:=t.d_27) (ps:=["box","many"]) G_27 (hr.mono (by decide)) T.m_27 T.F_27.kp T.b_27 ?_
 refine zaa ?_ ?_
 exact zac 0
 exact zaa zah zad
 refine zbH (zac 4) ?_ (zcw)
 exact zct (zac 6)
 refine zaj ?_
 refine zaT ?_
 refine zaY ?_
 refine zaa ?_ ?_
 exact zac 3
 exact zaa (zac 4) zad
theorem nd_30:(["stock","found","bits","lot","had","paid","offer","thing"]:List Str).Nodup:=by decide +kernel
theorem zrL:(["offer","bits"]:List Str).Nodup:=by decide +kernel
theorem sc_30:zao ["stock","found","bits","lot","had","paid","offer","thing"] ["stock"] (zae s_30):=⟨rfl,rfl,rfl,by decide +kernel,rfl,by decide +kernel,by decide +kernel⟩
theorem ok_30 (T:Tx K mg t):zbw P w K mg base CX0 1 t.a_30 t.d_30 ["stock"] (zcp K 1 F_30):=by
 refine zbX (k:=0) (G:=G_30) (N:=["stock","found","bits","lot","had","paid","offer","thing"]) (ps:=["stock"]) (st:=s_30) T.F_30 sc_30 fun cdv A outer s H E hr=> ?_
 refine zag ?_ ?_
 refine zaF 1 nd_30 ?_
 exact zht zad
 refine zag ?_ ?_
 refine zec rfl PassesOwn.never ?_ (zau 2 nd_30) ?_
 refine zhp T.n_range ?_
 refine zaa ?_ zad
 refine zbr (zqH) zah ?_
 refine zax (id:="len") zav za9 T.n_len ?_
 refine zaa ?_ zad
 exact zbA (zac 0) zah
 refine zag ?_ ?_
 refine zaF 3 nd_30 ?_
 refine zbI (T:="tuple") zbV zcz T.n_tuple ?_
 refine zaa ?_ zad
 refine zdv (N:=["offer","bits"]) rfl ?_ (zaZ.name (i:=0) rfl) ?_ ?_ ?_ ?_
 exact (BOk.of (Xn:=(zae s_30).names) (XN:=["stock","found","bits","lot","had","paid","offer","thing"]) rfl rfl rfl (by decide +kernel))
 refine zhp T.n_range ?_
 refine zaa ?_ zad
 refine zax (id:="len") zav za9 T.n_len ?_
 refine zaa ?_ zad
 exact zbA (zac 0) zah
 intro _ _ _
 exact zau 0 zrL
 intro _ _ _
 refine ze0 ?_
 refine za3 (zdd (ze6 hr)) ?_ zah
 refine zbr (zgk) ?_ zah
 exact zbr (zqF) (zac 1) (zac 0)
 intro _ _ _
 exact zac 0
 refine zag ?_ ?_
 refine zaF 4 nd_30 ?_
 exact zuc
 refine zag ?_ ?_
 exact zaF 5 nd_30 zah
 refine zag ?_ ?_
 refine zec rfl PassesOwn.never ?_ (zau 6 nd_30) ?_
 exact zcP (zac 3)
 refine zag ?_ ?_
 refine zaF 5 nd_30 ?_
 refine zbr (zar) (zac 5) ?_
 refine zbA ?_ zah
 refine zbA ?_ (zac 6)
 exact zbA (zac 0) zah
 refine zaj ?_
 refine zec rfl PassesOwn.never ?_ (zau 7 nd_30) ?_
 refine zcP ?_
 refine zbA ?_ zah
 refine zbA ?_ (zac 6)
 exact zbA (zac 0) zah
 refine zaj ?_
 refine znC zic ?_
 exact zrK (zac 4) (zac 7)
 refine zaj ?_
 refine zgW ?_ ?_ zby
 refine za3 (zdd (ze6 hr)) ?_ ?_
 refine zax (id:="len") zjx za9 T.n_len ?_
 exact zaa (zac 4) zad
 exact zbA (zac 0) zah
 refine zaj ?_
 refine zeR ?_
 refine zjc (zac 1) ?_
 refine zaY ?_
 refine zaa ?_ ?_
 exact zac 5
 exact zaa (zac 3) zad
 refine zaj ?_
 refine zaT ?_
 refine zax (id:="sorted") ?_ zgR T.n_sorted ?_
 exact (ze9 (ze6 hr))
 exact zaa (zac 1) zad
theorem nd_14:(["offers","things","offer"]:List Str).Nodup:=by decide +kernel
theorem sc_14:zao ["offers","things","offer"] ["offers"] (zae s_14):=⟨rfl,rfl,rfl,by decide +kernel,rfl,by decide +kernel,by decide +kernel⟩
theorem ok_14 (T:Tx K mg t):zbw P w K mg base CX0 1 t.a_14 t.d_14 ["offers"] (zcp K 1 F_14):=by
 refine zbX (k:=0) (G:=G_14) (N:=["offers","things","offer"]) (ps:=["offers"]) (st:=s_14) T.F_14 sc_14 fun cdv A outer s H E hr=> ?_
 refine zag ?_ ?_
 refine zaF 1 nd_14 ?_
 exact zht zad
 refine zag ?_ ?_
 refine zec rfl PassesOwn.never ?_ (zau 2 nd_14) ?_
 exact zcP (zac 0)
 refine zaj ?_
 refine zeR ?_
 refine znI (zac 1) ?_
 exact zbA (zac 2) zah
 refine zaj ?_
 refine zaT ?_
 refine zbI (T:="tuple") zbV zcz T.n_tuple ?_
 refine zaa ?_ zad
 exact zeA rfl T.n_sorted T.n_set (zac 1)
theorem sc_15:zao ["stock","offers"] ["stock","offers"] (zae s_15):=⟨rfl,rfl,rfl,by decide +kernel,rfl,by decide +kernel,by decide +kernel⟩
theorem ok_15 (T:Tx K mg t):zbw P w K mg base CX0 2 t.a_15 t.d_15 ["stock","offers"] (zcp K 2 F_15):=by
 have G_14:=ok_14 (P:=P) (w:=w) (base:=base) T
 refine zbX (k:=1) (G:=G_15) (N:=["stock","offers"]) (ps:=["stock","offers"]) (st:=s_15) T.F_15 sc_15 fun cdv A outer s H E hr=> ?_
 refine zaj ?_
 refine zaT ?_
 refine znB (zdd (ze6 hr)) ?_ ?_
 refine zax (id:="len") zav za9 T.n_len ?_
 refine zaa ?_ zad
 refine zaz (k:=1) (g:=t.a_14) (fd:=t.d_14) (ps:=["offers"]) G_14 (hr.mono (by decide)) T.m_14 T.F_14.kp T.b_14 ?_
 exact zaa (zac 1) zad
 exact zbA (zac 0) zah
theorem sc_8:zao ["thing"] ["thing"] (zae s_8):=⟨rfl,rfl,rfl,by decide +kernel,rfl,by decide +kernel,by decide +kernel⟩
theorem ok_8 (T:Tx K mg t):zbw P w K mg base CX0 1 t.a_8 t.d_8 ["thing"] (zcp K 1 F_8):=by
 refine zbX (k:=0) (G:=G_8) (N:=["thing"]) (ps:=["thing"]) (st:=s_8) T.F_8 sc_8 fun cdv A outer s H E hr=> ?_
 refine zaj ?_
 refine zaT ?_
 refine zmU ?_ ?_
 refine zjQ ?_ zlK T.n_isinstance T.n_int (zac 0)
 exact zlv
 refine zni ?_
 refine zsl ?_
 refine zjQ ?_ zkB T.n_isinstance T.n_bool (zac 0)
 exact zjb
theorem nd_9:(["thing","bound","least","number"]:List Str).Nodup:=by decide +kernel
theorem sc_9:zao ["thing","bound","least","number"] ["thing","bound"] (zae s_9):=⟨rfl,rfl,rfl,by decide +kernel,rfl,by decide +kernel,by decide +kernel⟩
theorem ok_9 (T:Tx K mg t):zbw P w K mg base CX0 2 t.a_9 t.d_9 ["thing","bound"] (zcp K 2 F_9):=by
 have G_8:=ok_8 (P:=P) (w:=w) (base:=base) T
 refine zbX (k:=1) (G:=G_9) (N:=["thing","bound","least","number"]) (ps:=["thing","bound"]) (st:=s_9) T.F_9 sc_9 fun cdv A outer s H E hr=> ?_
 refine zag ?_ ?_
 refine zgW ?_ ?_ zby
 refine zdP ?_
 refine zdz ?_
 refine zjQ ?_ zcz T.n_isinstance T.n_tuple (zac 0)
 exact zhs
 refine zaj ?_
 exact zaT zic
 refine zag ?_ ?_
 exact zaF 2 nd_9 zah
 refine zag ?_ ?_
 refine zec rfl PassesOwn.never ?_ (zau 3 nd_9) ?_
 exact zcP (zac 0)
 refine zag ?_ ?_
 refine zgW ?_ ?_ zby
 refine zfW ?_
 refine zh8 ?_ ?_
 refine zdP ?_
 refine zdz ?_
 refine zaz (k:=1) (g:=t.a_8) (fd:=t.d_8) (ps:=["thing"]) G_8 (hr.mono (by decide)) T.m_8 T.F_8.kp T.b_8 ?_
 exact zaa (zac 3) zad
 refine zh8 ?_ ?_
 exact za3 (ziA) (zac 3) (zac 2)
 refine ziZ ?_
 exact za3 (zoQ) (zac 3) (zac 1)
 refine zaj ?_
 exact zaT zic
 refine zaj ?_
 refine zaF 2 nd_9 ?_
 exact zbr (zar) (zac 3) zah
 refine zaj ?_
 exact zaT zic
theorem sc_10:zao ["stock","thing"] ["stock","thing"] (zae s_10):=⟨rfl,rfl,rfl,by decide +kernel,rfl,by decide +kernel,by decide +kernel⟩
theorem ok_10 (T:Tx K mg t):zbw P w K mg base CX0 3 t.a_10 t.d_10 ["stock","thing"] (zcp K 2 F_10):=by
 have G_9:=ok_9 (P:=P) (w:=w) (base:=base) T
 refine zbX (k:=2) (G:=G_10) (N:=["stock","thing"]) (ps:=["stock","thing"]) (st:=s_10) T.F_10 sc_10 fun cdv A outer s H E hr=> ?_
 refine zaj ?_
 refine zaT ?_
 refine zaz (k:=2) (g:=t.a_9) (fd:=t.d_9) (ps:=["thing","bound"]) G_9 (hr.mono (by decide)) T.m_9 T.F_9.kp T.b_9 ?_
 refine zaa ?_ ?_
 exact zac 1
 refine zaa ?_ zad
 refine zax (id:="len") zav za9 T.n_len ?_
 refine zaa ?_ zad
 exact zbA (zac 0) zah
theorem sc_12:zao ["stock","lot"] ["stock","lot"] (zae s_12):=⟨rfl,rfl,rfl,by decide +kernel,rfl,by decide +kernel,by decide +kernel⟩
theorem ok_12 (T:Tx K mg t):zbw P w K mg base (CXE P w) 4 t.a_12 t.d_12 ["stock","lot"] (spE K 2 F_12):=by
 have G_10:=ok_10 (P:=P) (w:=w) (base:=base) T
 refine zen (k:=3) (G:=G_12) (N:=["stock","lot"]) (ps:=["stock","lot"]) (st:=s_12) T.F_12 sc_12 fun cdv A outer s H E hr=> ?_
 refine zaj ?_
 refine zgW ?_ ?_ zby
 refine zdP ?_
 refine zdz ?_
 refine zd5 (k:=3) (g:=t.a_10) (fd:=t.d_10) (ps:=["stock","thing"]) G_10 (hr.mono (by decide)) T.m_10 T.F_10.kp T.b_10 ?_
 refine zaa ?_ ?_
 exact zac 0
 exact zaa (zac 1) zad
 refine zaj ?_
 exact zh6 (c:="NoCover") rfl zgw T.x_exc (by decide +kernel) T.k_4
theorem ztw:(["number","stock"]:List Str).Nodup:=by decide +kernel
theorem sc_13:zao ["stock","lot"] ["stock","lot"] (zae s_13):=⟨rfl,rfl,rfl,by decide +kernel,rfl,by decide +kernel,by decide +kernel⟩
theorem ok_13 (T:Tx K mg t):zbw P w K mg base (CXE P w) 5 t.a_13 t.d_13 ["stock","lot"] (spE K 2 F_13):=by
 have G_12:=ok_12 (P:=P) (w:=w) (base:=base) T
 refine zen (k:=4) (G:=G_13) (N:=["stock","lot"]) (ps:=["stock","lot"]) (st:=s_13) T.F_13 sc_13 fun cdv A outer s H E hr=> ?_
 refine zag ?_ ?_
 refine zeR ?_
 refine zbP (k:=4) (g:=t.a_12) (fd:=t.d_12) (ps:=["stock","lot"]) G_12 (zcS) (hr.mono (by decide)) T.m_12 T.F_12.kp T.b_12 ?_
 refine zaa ?_ ?_
 exact zac 0
 exact zaa (zac 1) zad
 refine zaj ?_
 refine zaT ?_
 refine zdv (N:=["number","stock"]) rfl ?_ (zaZ.name (i:=0) rfl) ?_ ?_ ?_ ?_
 exact (BOk.of (Xn:=(zae s_13).names) (XN:=["stock","lot"]) rfl rfl rfl (by decide +kernel))
 exact zcP (zac 1)
 intro _ _ _
 exact zau 0 ztw
 intro _ _ _
 exact zfM
 intro _ _ _
 refine zbA ?_ (zac 0)
 exact zbA (zac 1) zah
theorem sc_16:zao ["stock","thing"] ["stock","thing"] (zae s_16):=⟨rfl,rfl,rfl,by decide +kernel,rfl,by decide +kernel,by decide +kernel⟩
theorem ok_16 (T:Tx K mg t):zbw P w K mg base (CXE P w) 6 t.a_16 t.d_16 ["stock","thing"] (spE K 2 F_16):=by
 have G_15:=ok_15 (P:=P) (w:=w) (base:=base) T
 have G_13:=ok_13 (P:=P) (w:=w) (base:=base) T
 have G_10:=ok_10 (P:=P) (w:=w) (base:=base) T
 refine zen (k:=5) (G:=G_16) (N:=["stock","thing"]) (ps:=["stock","thing"]) (st:=s_16) T.F_16 sc_16 fun cdv A outer s H E hr=> ?_
 refine zaj ?_
 refine zaT ?_
 refine zmU ?_ ?_
 refine zd5 (k:=3) (g:=t.a_10) (fd:=t.d_10) (ps:=["stock","thing"]) G_10 (hr.mono (by decide)) T.m_10 T.F_10.kp T.b_10 ?_
 refine zaa ?_ ?_
 exact zac 0
 exact zaa (zac 1) zad
 refine zni ?_
 refine zd5 (k:=2) (g:=t.a_15) (fd:=t.d_15) (ps:=["stock","offers"]) G_15 (hr.mono (by decide)) T.m_15 T.F_15.kp T.b_15 ?_
 refine zaa ?_ ?_
 exact zac 0
 refine zaa ?_ zad
 refine zbP (k:=5) (g:=t.a_13) (fd:=t.d_13) (ps:=["stock","lot"]) G_13 (zcS) (hr.mono (by decide)) T.m_13 T.F_13.kp T.b_13 ?_
 refine zaa ?_ ?_
 exact zac 0
 exact zaa (zac 1) zad
theorem sc_17:zao ["stock","cover"] ["stock","cover"] (zae s_17):=⟨rfl,rfl,rfl,by decide +kernel,rfl,by decide +kernel,by decide +kernel⟩
theorem ok_17 (T:Tx K mg t):zbw P w K mg base (CXE P w) 7 t.a_17 t.d_17 ["stock","cover"] (spE K 2 F_17):=by
 have G_16:=ok_16 (P:=P) (w:=w) (base:=base) T
 refine zen (k:=6) (G:=G_17) (N:=["stock","cover"]) (ps:=["stock","cover"]) (st:=s_17) T.F_17 sc_17 fun cdv A outer s H E hr=> ?_
 refine zaj ?_
 refine zgW ?_ ?_ zby
 refine zdP ?_
 refine zdz ?_
 refine zbP (k:=6) (g:=t.a_16) (fd:=t.d_16) (ps:=["stock","thing"]) G_16 (zcS) (hr.mono (by decide)) T.m_16 T.F_16.kp T.b_16 ?_
 refine zaa ?_ ?_
 exact zac 0
 exact zaa (zac 1) zad
 refine zaj ?_
 exact zh6 (c:="NoCover") rfl zgw T.x_exc (by decide +kernel) T.k_4
theorem zuL:(["offer"]:List Str).Nodup:=by decide +kernel
theorem sc_11:zao ["stock","lot"] ["stock","lot"] (zae s_11):=⟨rfl,rfl,rfl,by decide +kernel,rfl,by decide +kernel,by decide +kernel⟩
theorem ok_11 (T:Tx K mg t):zbw P w K mg base (CXE P w) 6 t.a_11 t.d_11 ["stock","lot"] (spE K 2 F_11):=by
 have G_13:=ok_13 (P:=P) (w:=w) (base:=base) T
 refine zen (k:=5) (G:=G_11) (N:=["stock","lot"]) (ps:=["stock","lot"]) (st:=s_11) T.F_11 sc_11 fun cdv A outer s H E hr=> ?_
 refine zaj ?_
 refine zaT ?_
 refine zax (id:="sum") (zll rfl) zrV T.n_sum ?_
 refine zaa ?_ zad
 refine zdv (N:=["offer"]) rfl ?_ (zaZ.name (i:=0) rfl) ?_ ?_ ?_ ?_
 exact (BOk.of (Xn:=(zae s_11).names) (XN:=["stock","lot"]) rfl rfl rfl (by decide +kernel))
 refine zcP ?_
 refine zbP (k:=5) (g:=t.a_13) (fd:=t.d_13) (ps:=["stock","lot"]) G_13 (zcS) (hr.mono (by decide)) T.m_13 T.F_13.kp T.b_13 ?_
 refine zaa ?_ ?_
 exact zac 0
 exact zaa (zac 1) zad
 intro _ _ _
 exact zau 0 zuL
 intro _ _ _
 exact zfM
 intro _ _ _
 exact zbA (zac 0) zah
theorem nd_20:(["many","things","bits","thing"]:List Str).Nodup:=by decide +kernel
theorem sc_20:zao ["many","things","bits","thing"] ["many","things"] (zae s_20):=⟨rfl,rfl,rfl,by decide +kernel,rfl,by decide +kernel,by decide +kernel⟩
theorem ok_20 (T:Tx K mg t):zbw P w K mg base CX0 1 t.a_20 t.d_20 ["many","things"] (zcp K 2 F_20):=by
 refine zbX (k:=0) (G:=G_20) (N:=["many","things","bits","thing"]) (ps:=["many","things"]) (st:=s_20) T.F_20 sc_20 fun cdv A outer s H E hr=> ?_
 refine zag ?_ ?_
 exact zaF 2 nd_20 zah
 refine zag ?_ ?_
 refine zec rfl PassesOwn.never ?_ (zau 3 nd_20) ?_
 refine zhp T.n_range ?_
 exact zaa (zac 0) zad
 refine zag ?_ ?_
 refine zaF 2 nd_20 ?_
 exact zbr (zkX) (zac 2) zah
 refine zaj ?_
 refine zgW ?_ ?_ zby
 exact za3 (zn8 (ze6 hr)) (zac 3) (zac 1)
 refine zaj ?_
 refine zaF 2 nd_20 ?_
 exact zbr (zar) (zac 2) zah
 refine zaj ?_
 exact zaT (zac 2)
theorem nd_19:(["stock","lots","number","offer","bits","longer"]:List Str).Nodup:=by decide +kernel
theorem zuk:(["known","offer","number","bits"]:List Str).Nodup:=by decide +kernel
theorem sc_19:zao ["stock","lots","number","offer","bits","longer"] ["stock"] (zae s_19):=⟨rfl,rfl,rfl,by decide +kernel,rfl,by decide +kernel,by decide +kernel⟩
theorem ok_19 (T:Tx K mg t):zbw P w K mg base CX0 2 t.a_19 t.d_19 ["stock"] (zcp K 1 F_19):=by
 have G_20:=ok_20 (P:=P) (w:=w) (base:=base) T
 refine zbX (k:=1) (G:=G_19) (N:=["stock","lots","number","offer","bits","longer"]) (ps:=["stock"]) (st:=s_19) T.F_19 sc_19 fun cdv A outer s H E hr=> ?_
 refine zag ?_ ?_
 refine zaF 1 nd_19 ?_
 refine zcf ?_
 refine zaa ?_ zad
 refine zaY ?_
 refine zaa ?_ ?_
 exact zah
 refine zaa ?_ ?_
 exact zaY zad
 exact zaa zah zad
 refine zag ?_ ?_
 refine zec rfl PassesOwn.never ?_ (zau 2 nd_19) ?_
 refine zsN T.n_range ?_
 refine zaa ?_ ?_
 refine zbr (zir) ?_ zah
 refine zax (id:="len") zav za9 T.n_len ?_
 refine zaa ?_ zad
 exact zbA (zac 0) zah
 refine zaa ?_ ?_
 exact zjI zah
 refine zaa ?_ zad
 exact zjI zah
 refine zag ?_ ?_
 refine zaF 3 nd_19 ?_
 refine zbA ?_ (zac 2)
 exact zbA (zac 0) zah
 refine zag ?_ ?_
 refine zaF 4 nd_19 ?_
 refine zaz (k:=1) (g:=t.a_20) (fd:=t.d_20) (ps:=["many","things"]) G_20 (hr.mono (by decide)) T.m_20 T.F_20.kp T.b_20 ?_
 refine zaa ?_ ?_
 exact zbA (zac 0) zah
 refine zaa ?_ zad
 exact zbA (zac 3) zah
 refine zag ?_ ?_
 refine zdH 5 (N:=["known","offer","number","bits"]) rfl nd_19 ?_ (zaZ.name (i:=0) rfl) ?_ ?_ ?_ ?_
 exact (BOk.of (Xn:=(zae s_19).names) (XN:=["stock","lots","number","offer","bits","longer"]) rfl rfl rfl (by decide +kernel))
 exact zcP (zac 1)
 intro _ _ _
 exact zau 0 zuk
 intro _ _ _
 exact zfM
 intro _ _ _
 refine zaY ?_
 refine zaa ?_ ?_
 refine zbr (zar) ?_ ?_
 exact zbA (zac 1) zah
 exact zbA (zac 0) zah
 refine zaa ?_ ?_
 refine zbr (zar) ?_ ?_
 refine zaY ?_
 exact zaa (zac 2) zad
 exact zbA (zac 0) zah
 refine zaa ?_ zad
 refine zbr (zqT) (zac 3) ?_
 exact zbA (zac 0) zah
 refine zaj ?_
 refine zaF 1 nd_19 ?_
 refine zbr (zar) ?_ ?_
 refine zbr (zar) ?_ (zac 5)
 refine zbH (zac 1) (zcw) ?_
 exact zct zah
 refine zbH (zac 1) ?_ (zcw)
 exact zct zah
 refine zaj ?_
 exact zaT (zac 1)
theorem nd_18:(["stock","every"]:List Str).Nodup:=by decide +kernel
theorem zuM:(["known","every"]:List Str).Nodup:=by decide +kernel
theorem sc_18:zao ["stock","every"] ["stock"] (zae s_18):=⟨rfl,rfl,rfl,by decide +kernel,rfl,by decide +kernel,by decide +kernel⟩
theorem ok_18 (T:Tx K mg t):zbw P w K mg base CX0 3 t.a_18 t.d_18 ["stock"] (zcp K 1 F_18):=by
 have G_20:=ok_20 (P:=P) (w:=w) (base:=base) T
 have G_19:=ok_19 (P:=P) (w:=w) (base:=base) T
 refine zbX (k:=2) (G:=G_18) (N:=["stock","every"]) (ps:=["stock"]) (st:=s_18) T.F_18 sc_18 fun cdv A outer s H E hr=> ?_
 refine zag ?_ ?_
 refine zaF 1 nd_18 ?_
 refine zaz (k:=1) (g:=t.a_20) (fd:=t.d_20) (ps:=["many","things"]) G_20 (hr.mono (by decide)) T.m_20 T.F_20.kp T.b_20 ?_
 refine zaa ?_ ?_
 exact zbA (zac 0) zah
 refine zaa ?_ zad
 refine zhd rfl T.n_list T.n_range ?_
 exact zbA (zac 0) zah
 refine zaj ?_
 refine zaT ?_
 refine zdv (N:=["known","every"]) rfl ?_ (zaZ.name (i:=0) rfl) ?_ ?_ ?_ ?_
 exact (BOk.of (Xn:=(zae s_18).names) (XN:=["stock","every"]) rfl rfl rfl (by decide +kernel))
 refine zcP ?_
 refine zaz (k:=2) (g:=t.a_19) (fd:=t.d_19) (ps:=["stock"]) G_19 (hr.mono (by decide)) T.m_19 T.F_19.kp T.b_19 ?_
 exact zaa (zac 0) zad
 intro _ _ _
 exact zau 0 zuM
 intro _ _ _
 refine ze0 ?_
 refine za3 (zdd (ze6 hr)) ?_ (zac 1)
 exact zbA (zac 0) zah
 intro _ _ _
 refine zaY ?_
 refine zaa ?_ ?_
 exact zbA (zac 0) zah
 refine zaa ?_ zad
 exact zbA (zac 0) zah
theorem nd_22:(["stock","cover","own"]:List Str).Nodup:=by decide +kernel
theorem zug:(["other","own"]:List Str).Nodup:=by decide +kernel
theorem sc_22:zao ["stock","cover","own"] ["stock","cover"] (zae s_22):=⟨rfl,rfl,rfl,by decide +kernel,rfl,by decide +kernel,by decide +kernel⟩
theorem ok_22 (T:Tx K mg t):zbw P w K mg base (CXE P w) 8 t.a_22 t.d_22 ["stock","cover"] (spE K 2 F_22):=by
 have G_17:=ok_17 (P:=P) (w:=w) (base:=base) T
 have G_11:=ok_11 (P:=P) (w:=w) (base:=base) T
 have G_18:=ok_18 (P:=P) (w:=w) (base:=base) T
 refine zen (k:=7) (G:=G_22) (N:=["stock","cover","own"]) (ps:=["stock","cover"]) (st:=s_22) T.F_22 sc_22 fun cdv A outer s H E hr=> ?_
 refine zag ?_ ?_
 refine zeR ?_
 refine zbP (k:=7) (g:=t.a_17) (fd:=t.d_17) (ps:=["stock","cover"]) G_17 (zcS) (hr.mono (by decide)) T.m_17 T.F_17.kp T.b_17 ?_
 refine zaa ?_ ?_
 exact zac 0
 exact zaa (zac 1) zad
 refine zag ?_ ?_
 refine zaF 2 nd_22 ?_
 refine zaY ?_
 refine zaa ?_ ?_
 refine zbP (k:=6) (g:=t.a_11) (fd:=t.d_11) (ps:=["stock","lot"]) G_11 (zcS) (hr.mono (by decide)) T.m_11 T.F_11.kp T.b_11 ?_
 refine zaa ?_ ?_
 exact zac 0
 exact zaa (zac 1) zad
 exact zaa (zac 1) zad
 refine zaj ?_
 refine zaT ?_
 refine zax (id:="len") zav za9 T.n_len ?_
 refine zaa ?_ zad
 refine zdv (N:=["other","own"]) rfl ?_ (zaZ.name (i:=0) rfl) ?_ ?_ ?_ ?_
 exact (BOk.of (Xn:=(zae s_22).names) (XN:=["stock","cover","own"]) rfl rfl rfl (by decide +kernel))
 refine zcP ?_
 refine zd5 (k:=3) (g:=t.a_18) (fd:=t.d_18) (ps:=["stock"]) G_18 (hr.mono (by decide)) T.m_18 T.F_18.kp T.b_18 ?_
 exact zaa (zac 0) zad
 intro _ _ _
 exact zau 0 zug
 intro _ _ _
 refine ze0 ?_
 exact za3 (zrJ (ze6 hr)) (zac 0) (zac 1)
 intro _ _ _
 exact zac 0
theorem sc_31:zao ["found"] ["found"] (zae s_31):=⟨rfl,rfl,rfl,by decide +kernel,rfl,by decide +kernel,by decide +kernel⟩
theorem ok_31 (T:Tx K mg t):zbw P w K mg base CX0 1 t.a_31 t.d_31 ["found"] (zcp K 1 F_31):=by
 refine zbX (k:=0) (G:=G_31) (N:=["found"]) (ps:=["found"]) (st:=s_31) T.F_31 sc_31 fun cdv A outer s H E hr=> ?_
 refine zaj ?_
 refine zaT ?_
 refine zmU ?_ ?_
 refine zjQ ?_ zlK T.n_isinstance T.n_int (zac 0)
 exact zlv
 refine zni ?_
 refine zsl ?_
 refine zjQ ?_ zkB T.n_isinstance T.n_bool (zac 0)
 exact zjb
theorem nd_21:(["stock","number","covers"]:List Str).Nodup:=by decide +kernel
theorem sc_21:zao ["stock","number","covers"] ["stock","number"] (zae s_21):=⟨rfl,rfl,rfl,by decide +kernel,rfl,by decide +kernel,by decide +kernel⟩
theorem ok_21 (T:Tx K mg t):zbw P w K mg base (CXE P w) 4 t.a_21 t.d_21 ["stock","number"] (spE K 2 F_21):=by
 have G_18:=ok_18 (P:=P) (w:=w) (base:=base) T
 have G_8:=ok_8 (P:=P) (w:=w) (base:=base) T
 refine zen (k:=3) (G:=G_21) (N:=["stock","number","covers"]) (ps:=["stock","number"]) (st:=s_21) T.F_21 sc_21 fun cdv A outer s H E hr=> ?_
 refine zag ?_ ?_
 refine zaF 2 nd_21 ?_
 refine zax (id:="sorted") ?_ zgR T.n_sorted ?_
 exact (ze9 (ze6 hr))
 refine zaa ?_ zad
 refine zd5 (k:=3) (g:=t.a_18) (fd:=t.d_18) (ps:=["stock"]) G_18 (hr.mono (by decide)) T.m_18 T.F_18.kp T.b_18 ?_
 exact zaa (zac 0) zad
 refine zag ?_ ?_
 refine zgW ?_ ?_ zby
 refine zfW ?_
 refine zh8 ?_ ?_
 refine zdP ?_
 refine zdz ?_
 refine zd5 (k:=1) (g:=t.a_8) (fd:=t.d_8) (ps:=["thing"]) G_8 (hr.mono (by decide)) T.m_8 T.F_8.kp T.b_8 ?_
 exact zaa (zac 1) zad
 refine zh8 ?_ ?_
 exact za3 (ziA) (zac 1) zah
 refine ziZ ?_
 refine za3 (zoQ) (zac 1) ?_
 refine zax (id:="len") zav za9 T.n_len ?_
 exact zaa (zac 2) zad
 refine zaj ?_
 exact zh6 (c:="NoNumber") rfl zgw T.x_exc (by decide +kernel) T.k_5
 refine zaj ?_
 refine zaT ?_
 refine zbA ?_ zah
 exact zbA (zac 2) (zac 1)
theorem nd_23:(["stock","cover","own","later"]:List Str).Nodup:=by decide +kernel
theorem zt8:(["other","own"]:List Str).Nodup:=by decide +kernel
theorem sc_23:zao ["stock","cover","own","later"] ["stock","cover"] (zae s_23):=⟨rfl,rfl,rfl,by decide +kernel,rfl,by decide +kernel,by decide +kernel⟩
theorem ok_23 (T:Tx K mg t):zbw P w K mg base (CXE P w) 8 t.a_23 t.d_23 ["stock","cover"] (spE K 2 F_23):=by
 have G_17:=ok_17 (P:=P) (w:=w) (base:=base) T
 have G_11:=ok_11 (P:=P) (w:=w) (base:=base) T
 have G_18:=ok_18 (P:=P) (w:=w) (base:=base) T
 refine zen (k:=7) (G:=G_23) (N:=["stock","cover","own","later"]) (ps:=["stock","cover"]) (st:=s_23) T.F_23 sc_23 fun cdv A outer s H E hr=> ?_
 refine zag ?_ ?_
 refine zeR ?_
 refine zbP (k:=7) (g:=t.a_17) (fd:=t.d_17) (ps:=["stock","cover"]) G_17 (zcS) (hr.mono (by decide)) T.m_17 T.F_17.kp T.b_17 ?_
 refine zaa ?_ ?_
 exact zac 0
 exact zaa (zac 1) zad
 refine zag ?_ ?_
 refine zaF 2 nd_23 ?_
 refine zaY ?_
 refine zaa ?_ ?_
 refine zbP (k:=6) (g:=t.a_11) (fd:=t.d_11) (ps:=["stock","lot"]) G_11 (zcS) (hr.mono (by decide)) T.m_11 T.F_11.kp T.b_11 ?_
 refine zaa ?_ ?_
 exact zac 0
 exact zaa (zac 1) zad
 exact zaa (zac 1) zad
 refine zag ?_ ?_
 refine zrI ?_
 refine zdH 3 (N:=["other","own"]) rfl nd_23 ?_ (zaZ.name (i:=0) rfl) ?_ ?_ ?_ ?_
 exact (BOk.of (Xn:=(zae s_23).names) (XN:=["stock","cover","own","later"]) rfl rfl rfl (by decide +kernel))
 refine zcP ?_
 refine zaz (k:=3) (g:=t.a_18) (fd:=t.d_18) (ps:=["stock"]) G_18 (hr.mono (by decide)) T.m_18 T.F_18.kp T.b_18 ?_
 exact zaa (zac 0) zad
 intro _ _ _
 exact zau 0 zt8
 intro _ _ _
 refine ze0 ?_
 exact za3 (zr8 (ze6 hr)) (zac 0) (zac 1)
 intro _ _ _
 exact zac 0
 refine zaj ?_
 refine zaT ?_
 refine ztN ?_ ?_ zka
 exact zrh (zac 3)
 refine zbA ?_ zah
 refine zax (id:="min") ?_ zoW T.n_min ?_
 exact (zj0 (ze6 hr))
 exact zaa (zac 3) zad
theorem nd_33:(["e","kinds"]:List Str).Nodup:=by decide +kernel
theorem sc_33:zao ["e","kinds"] ["e"] (zae s_33):=⟨rfl,rfl,rfl,by decide +kernel,rfl,by decide +kernel,by decide +kernel⟩
theorem ok_33 (T:Tx K mg t):FnH P w K mg base  1 t.a_33 t.d_33 ["e"] (zcp K 1 F_33):=by
 refine zrD (k:=0) (G:=G_33) (N:=["e","kinds"]) (ps:=["e"]) (st:=s_33) T.F_33 sc_33 fun cdv A outer s H hr=> ?_
 refine zag ?_ ?_
 refine zaF 1 nd_33 ?_
 refine zcf ?_
 refine zaa ?_ ?_
 refine zh1 (CE:=t.a_0) (CC:=t.a_5) T.x_exc ?_ T.k_5 T.n_isinstance T.g_5 (zac 0)
 exact (by decide +kernel)
 refine zaa ?_ ?_
 refine zh1 (CE:=t.a_0) (CC:=t.a_4) T.x_exc ?_ T.k_4 T.n_isinstance T.g_4 (zac 0)
 exact (by decide +kernel)
 refine zaa ?_ ?_
 refine zh1 (CE:=t.a_0) (CC:=t.a_6) T.x_exc ?_ T.k_6 T.n_isinstance T.g_6 (zac 0)
 exact (by decide +kernel)
 refine zaa ?_ zad
 refine zh1 (CE:=t.a_0) (CC:=t.a_2) T.x_exc ?_ T.k_2 T.n_isinstance T.g_2 (zac 0)
 exact (by decide +kernel)
 refine zag ?_ ?_
 refine zaF 1 nd_33 ?_
 refine zbr (zar) (zac 1) ?_
 refine zcf ?_
 refine zaa ?_ ?_
 refine zh1 (CE:=t.a_0) (CC:=t.a_3) T.x_exc ?_ T.k_3 T.n_isinstance T.g_3 (zac 0)
 exact (by decide +kernel)
 refine zaa ?_ ?_
 refine zh1 (CE:=t.a_0) (CC:=t.a_1) T.x_exc ?_ T.k_1 T.n_isinstance T.g_1 (zac 0)
 exact (by decide +kernel)
 refine zaa ?_ ?_
 refine zh1 (CE:=t.a_0) (CC:=t.a_7) T.x_exc ?_ T.k_7 T.n_isinstance T.g_7 (zac 0)
 exact (by decide +kernel)
 exact zaa zic zad
 refine zaj ?_
 refine zaT ?_
 refine zbA ?_ ?_
 refine zcf ?_
 refine zaa ?_ ?_
 exact zcO
 refine zaa ?_ ?_
 exact zcO
 refine zaa ?_ ?_
 exact zcO
 refine zaa ?_ ?_
 exact zcO
 refine zaa ?_ ?_
 exact zcO
 refine zaa ?_ ?_
 exact zcO
 refine zaa ?_ ?_
 exact zcO
 exact zaa zcO zad
 exact zqv (zac 1)
theorem nd_37:(["way","stock","thing","word","e"]:List Str).Nodup:=by decide +kernel
theorem sc_37:zao ["way","stock","thing","word","e"] ["way","stock","thing"] (zae s_37):=⟨rfl,rfl,rfl,by decide +kernel,rfl,by decide +kernel,by decide +kernel⟩
theorem ok_37 (T:Tx K mg t):zbw P w K mg base CX0 9 t.a_37 t.d_37 ["way","stock","thing"] (zcp K 3 F_37):=by
 have G_33:=ok_33 (P:=P) (w:=w) (base:=base) T
 have G_21:=ok_21 (P:=P) (w:=w) (base:=base) T
 have G_22:=ok_22 (P:=P) (w:=w) (base:=base) T
 have G_23:=ok_23 (P:=P) (w:=w) (base:=base) T
 refine zbX (k:=8) (G:=G_37) (N:=["way","stock","thing","word","e"]) (ps:=["way","stock","thing"]) (st:=s_37) T.F_37 sc_37 fun cdv A outer s H E hr=> ?_
 refine zag ?_ ?_
 exact zaF 3 nd_37 zcO
 refine zag ?_ ?_
 refine zq3 (CE:=t.a_0) (pe:="e") (k:=1) (fdk:=t.d_33) (fk:=t.a_33) 4 3 ?_ nd_37 T.g_0 T.x_exc G_33 T.b_33 T.m_33 T.F_33.kp ?_ ?_
 exact zro
 exact (zc9.of (hr.mono (by decide)))
 intro pn xe E' hx
 refine zaj ?_
 refine zeR ?_
 refine zqZ (addrs:=[t.a_21,t.a_22,t.a_23]) (Fs:=[F_21,F_22,F_23]) ?_ ?_ ?_ (zac 0) ?_
 refine zp2 T.m_21 ?_
 refine zp2 T.m_22 ?_
 refine zp2 T.m_23 ?_
 exact zrU
 refine Fns.cons (k:=4) (fd:=t.d_21) (ps:=["stock","number"]) G_21 (hr.mono (by decide)) T.F_21.kp T.b_21 ?_
 refine Fns.cons (k:=8) (fd:=t.d_22) (ps:=["stock","cover"]) G_22 (hr.mono (by decide)) T.F_22.kp T.b_22 ?_
 refine Fns.cons (k:=8) (fd:=t.d_23) (ps:=["stock","cover"]) G_23 (hr.mono (by decide)) T.F_23.kp T.b_23 ?_
 exact Fns.nil
 exact hx
 refine zaa ?_ ?_
 exact zac 1
 exact zaa (zac 2) zad
 refine zaj ?_
 exact zaT (zac 3)
theorem nd_32:(["box","some"]:List Str).Nodup:=by decide +kernel
theorem sc_32:zao ["box","some"] ["box"] (zae s_32):=⟨rfl,rfl,rfl,by decide +kernel,rfl,by decide +kernel,by decide +kernel⟩
theorem ok_32 (T:Tx K mg t):zbw P w K mg base CX0 2 t.a_32 t.d_32 ["box"] (zcp K 1 F_32):=by
 have G_27:=ok_27 (P:=P) (w:=w) (base:=base) T
 refine zbX (k:=1) (G:=G_32) (N:=["box","some"]) (ps:=["box"]) (st:=s_32) T.F_32 sc_32 fun cdv A outer s H E hr=> ?_
 refine zag ?_ ?_
 refine zaF 1 nd_32 ?_
 refine zcf ?_
 refine zaa ?_ ?_
 exact zka
 refine zaa ?_ ?_
 exact zic
 refine zaa ?_ ?_
 exact zic
 refine zaa ?_ ?_
 exact zjI zah
 refine zaa ?_ ?_
 exact zah
 refine zaa ?_ ?_
 exact zah
 refine zaa ?_ ?_
 exact zah
 refine zaa ?_ ?_
 exact zcO
 refine zaa ?_ ?_
 exact zcO
 refine zaa ?_ ?_
 exact zaY zad
 refine zaa ?_ ?_
 refine zaY ?_
 exact zaa zah zad
 refine zaa ?_ ?_
 refine zaY ?_
 refine zaa ?_ ?_
 exact zah
 exact zaa zah zad
 refine zaa ?_ ?_
 refine zaY ?_
 refine zaa ?_ ?_
 exact zah
 exact zaa zah zad
 refine zaa ?_ ?_
 refine zaY ?_
 refine zaa ?_ ?_
 exact zah
 exact zaa zah zad
 refine zaa ?_ ?_
 refine zaY ?_
 exact zaa zic zad
 refine zaa ?_ ?_
 refine zcf ?_
 exact zaa zah zad
 refine zaa ?_ ?_
 exact zpg
 refine zaa ?_ zad
 refine zaY ?_
 refine zaa ?_ zad
 refine zaY ?_
 exact zaa zah zad
 refine zag ?_ ?_
 refine zaF 1 nd_32 ?_
 refine zbr (zar) (zac 1) ?_
 refine zcf ?_
 refine zaa ?_ ?_
 refine zaY ?_
 exact zaa zka zad
 refine zaa ?_ ?_
 exact zbr (zhR) zah zah
 refine zaa ?_ ?_
 refine zaY ?_
 exact zaa zah zad
 refine zaa ?_ ?_
 refine zaY ?_
 refine zaa ?_ zad
 exact zjI zah
 refine zaa ?_ ?_
 refine zaY ?_
 refine zaa ?_ ?_
 exact zah
 exact zaa zcO zad
 refine zaa ?_ ?_
 refine zcf ?_
 refine zaa ?_ ?_
 exact zah
 exact zaa zah zad
 refine zaa ?_ zad
 refine zaY ?_
 refine zaa ?_ ?_
 exact zah
 refine zaa ?_ ?_
 exact zah
 exact zaa zah zad
 refine zaj ?_
 refine zaT ?_
 refine zbA (zac 1) ?_
 refine zaz (k:=1) (g:=t.a_27) (fd:=t.d_27) (ps:=["box","many"]) G_27 (hr.mono (by decide)) T.m_27 T.F_27.kp T.b_27 ?_
 refine zaa ?_ ?_
 exact zac 0
 refine zaa ?_ zad
 refine zax (id:="len") zav za9 T.n_len ?_
 exact zaa (zac 1) zad
theorem nd_36:(["box","stock","lot","at","odd","some"]:List Str).Nodup:=by decide +kernel
theorem sc_36:zao ["box","stock","lot","at","odd","some"] ["box","stock","lot"] (zae s_36):=⟨rfl,rfl,rfl,by decide +kernel,rfl,by decide +kernel,by decide +kernel⟩
theorem ok_36 (T:Tx K mg t):zbw P w K mg base CX0 3 t.a_36 t.d_36 ["box","stock","lot"] (zcp K 3 F_36):=by
 have G_27:=ok_27 (P:=P) (w:=w) (base:=base) T
 have G_32:=ok_32 (P:=P) (w:=w) (base:=base) T
 refine zbX (k:=2) (G:=G_36) (N:=["box","stock","lot","at","odd","some"]) (ps:=["box","stock","lot"]) (st:=s_36) T.F_36 sc_36 fun cdv A outer s H E hr=> ?_
 refine zag ?_ ?_
 refine zaF 3 nd_36 ?_
 refine zaz (k:=1) (g:=t.a_27) (fd:=t.d_27) (ps:=["box","many"]) G_27 (hr.mono (by decide)) T.m_27 T.F_27.kp T.b_27 ?_
 refine zaa ?_ ?_
 exact zac 0
 refine zaa ?_ zad
 refine zbr (zar) ?_ zah
 refine zax (id:="len") zav za9 T.n_len ?_
 exact zaa (zac 2) zad
 refine zag ?_ ?_
 refine zaF 4 nd_36 ?_
 refine zaz (k:=2) (g:=t.a_32) (fd:=t.d_32) (ps:=["box"]) G_32 (hr.mono (by decide)) T.m_32 T.F_32.kp T.b_32 ?_
 exact zaa (zac 0) zad
 refine zag ?_ ?_
 refine zaF 5 nd_36 ?_
 refine zcf ?_
 refine zaa ?_ ?_
 refine zbr (zar) ?_ ?_
 refine zbH (zac 2) (zcw) ?_
 exact zct (zac 3)
 refine zbH (zac 2) ?_ (zcw)
 refine zct ?_
 exact zbr (zar) (zac 3) zah
 refine zaa ?_ ?_
 refine zbr (zar) (zac 2) ?_
 refine zaY ?_
 refine zaa ?_ zad
 refine zax (id:="len") zav za9 T.n_len ?_
 refine zaa ?_ zad
 exact zbA (zac 1) zah
 refine zaa ?_ ?_
 exact ztU (zac 2)
 refine zaa ?_ ?_
 refine zbI (T:="list") zdX zhZ T.n_list ?_
 exact zaa (zac 2) zad
 refine zaa ?_ ?_
 refine zbr (zar) (zac 2) ?_
 refine zbH (zac 2) ?_ (zcw)
 refine zct ?_
 exact zjI zah
 refine zaa ?_ ?_
 exact zac 4
 refine zaa ?_ zad
 refine zbr (zar) (zac 2) ?_
 refine zaY ?_
 exact zaa (zac 4) zad
 refine zag ?_ ?_
 refine zaF 5 nd_36 ?_
 refine zbr (zar) (zac 5) ?_
 refine zcf ?_
 refine zaa ?_ ?_
 refine zbr (zar) ?_ ?_
 refine zbr (zar) ?_ ?_
 refine zbH (zac 2) (zcw) ?_
 exact zct (zac 3)
 refine zaY ?_
 exact zaa (zac 4) zad
 refine zbH (zac 2) ?_ (zcw)
 exact zct (zac 3)
 refine zaa ?_ ?_
 refine znF rfl T.n_tuple T.n_range ?_
 refine zax (id:="len") zav za9 T.n_len ?_
 refine zaa ?_ zad
 exact zbA (zac 1) zah
 refine zaa ?_ ?_
 exact zac 2
 refine zaa ?_ ?_
 exact zka
 refine zaa ?_ zad
 refine zaY ?_
 exact zaa (zac 2) zad
 refine zaj ?_
 refine zaT ?_
 refine zbA (zac 5) ?_
 refine zaz (k:=1) (g:=t.a_27) (fd:=t.d_27) (ps:=["box","many"]) G_27 (hr.mono (by decide)) T.m_27 T.F_27.kp T.b_27 ?_
 refine zaa ?_ ?_
 exact zac 0
 refine zaa ?_ zad
 refine zax (id:="len") zav za9 T.n_len ?_
 exact zaa (zac 5) zad
theorem zrT:(["one"]:List Str).Nodup:=by decide +kernel
theorem ztd:(["one","stock"]:List Str).Nodup:=by decide +kernel
theorem sc_34:zao ["stock","thing"] ["stock","thing"] (zae s_34):=⟨rfl,rfl,rfl,by decide +kernel,rfl,by decide +kernel,by decide +kernel⟩
theorem ok_34 (T:Tx K mg t):zbw P w K mg base CX0 2 t.a_34 t.d_34 ["stock","thing"] (zcp K 2 F_34):=by
 have G_31:=ok_31 (P:=P) (w:=w) (base:=base) T
 refine zbX (k:=1) (G:=G_34) (N:=["stock","thing"]) (ps:=["stock","thing"]) (st:=s_34) T.F_34 sc_34 fun cdv A outer s H E hr=> ?_
 refine zag ?_ ?_
 refine zgW ?_ ?_ zby
 refine zfW ?_
 refine zh8 ?_ ?_
 refine zdP ?_
 refine zdz ?_
 refine zjQ ?_ zcz T.n_isinstance T.n_tuple (zac 1)
 exact zhs
 refine ziZ ?_
 refine zdP ?_
 refine zdz ?_
 refine zax (id:="all") (zg8 rfl) zow T.n_all ?_
 refine zaa ?_ zad
 refine zdv (N:=["one"]) rfl ?_ (zaZ.name (i:=0) rfl) ?_ ?_ ?_ ?_
 exact (BOk.of (Xn:=(zae s_34).names) (XN:=["stock","thing"]) rfl rfl rfl (by decide +kernel))
 exact zcP (zac 1)
 intro _ _ _
 exact zau 0 zrT
 intro _ _ _
 exact zfM
 intro _ _ _
 refine zaz (k:=1) (g:=t.a_31) (fd:=t.d_31) (ps:=["found"]) G_31 (hr.mono (by decide)) T.m_31 T.F_31.kp T.b_31 ?_
 exact zaa (zac 0) zad
 refine zaj ?_
 exact zaT zic
 refine zaj ?_
 refine zaT ?_
 refine zmU ?_ ?_
 refine znB (zdd (ze6 hr)) ?_ ?_
 refine zbI (T:="list") zdX zhZ T.n_list ?_
 exact zaa (zac 1) zad
 exact zeA rfl T.n_sorted T.n_set (zac 1)
 refine zni ?_
 refine zax (id:="all") (zg8 rfl) zow T.n_all ?_
 refine zaa ?_ zad
 refine zdv (N:=["one","stock"]) rfl ?_ (zaZ.name (i:=0) rfl) ?_ ?_ ?_ ?_
 exact (BOk.of (Xn:=(zae s_34).names) (XN:=["stock","thing"]) rfl rfl rfl (by decide +kernel))
 exact zcP (zac 1)
 intro _ _ _
 exact zau 0 ztd
 intro _ _ _
 exact zfM
 intro _ _ _
 refine zqj (zoi) (ziA) zah (zac 0) ?_
 refine zax (id:="len") zav za9 T.n_len ?_
 refine zaa ?_ zad
 exact zbA (zac 1) zah
theorem nd_35:(["stock","thing","had","offer"]:List Str).Nodup:=by decide +kernel
theorem sc_35:zao ["stock","thing","had","offer"] ["stock","thing"] (zae s_35):=⟨rfl,rfl,rfl,by decide +kernel,rfl,by decide +kernel,by decide +kernel⟩
theorem ok_35 (T:Tx K mg t):zbw P w K mg base CX0 3 t.a_35 t.d_35 ["stock","thing"] (zcp K 2 F_35):=by
 have G_34:=ok_34 (P:=P) (w:=w) (base:=base) T
 refine zbX (k:=2) (G:=G_35) (N:=["stock","thing","had","offer"]) (ps:=["stock","thing"]) (st:=s_35) T.F_35 sc_35 fun cdv A outer s H E hr=> ?_
 refine zag ?_ ?_
 refine zgW ?_ ?_ zby
 refine zdP ?_
 refine zdz ?_
 refine zaz (k:=2) (g:=t.a_34) (fd:=t.d_34) (ps:=["stock","thing"]) G_34 (hr.mono (by decide)) T.m_34 T.F_34.kp T.b_34 ?_
 refine zaa ?_ ?_
 exact zac 0
 exact zaa (zac 1) zad
 refine zaj ?_
 exact zaT zic
 refine zag ?_ ?_
 refine zaF 2 nd_35 ?_
 exact zcf zad
 refine zag ?_ ?_
 refine zec rfl PassesOwn.never ?_ (zau 3 nd_35) ?_
 exact zcP (zac 1)
 refine zaj ?_
 refine zaF 2 nd_35 ?_
 refine zbr (zar) (zac 2) ?_
 refine zbI (T:="list") zdX zhZ T.n_list ?_
 refine zaa ?_ zad
 refine zbA ?_ zah
 refine zbA ?_ (zac 3)
 exact zbA (zac 0) zah
 refine zaj ?_
 refine zaT ?_
 refine znB (zdd (ze6 hr)) ?_ ?_
 exact zeA rfl T.n_sorted T.n_set (zac 2)
 refine zhd rfl T.n_list T.n_range ?_
 exact zbA (zac 0) zah
theorem nd_38:(["script","k","box","stock","some","number","told","bad","thing","way"]:List Str).Nodup:=by decide +kernel
theorem zoc:(["paid","lot"]:List Str).Nodup:=by decide +kernel
theorem sc_38:zao ["script","k","box","stock","some","number","told","bad","thing","way"] ["script"] (zae s_38):=⟨rfl,rfl,rfl,by decide +kernel,rfl,by decide +kernel,by decide +kernel⟩
theorem ok_38 (T:Tx K mg t):zbw P w K mg base CX0 10 t.a_38 t.d_38 ["script"] (zcp K 1 F_38):=by
 have G_26:=ok_26 (P:=P) (w:=w) (base:=base) T
 have G_29:=ok_29 (P:=P) (w:=w) (base:=base) T
 have G_30:=ok_30 (P:=P) (w:=w) (base:=base) T
 have G_27:=ok_27 (P:=P) (w:=w) (base:=base) T
 have G_22:=ok_22 (P:=P) (w:=w) (base:=base) T
 have G_31:=ok_31 (P:=P) (w:=w) (base:=base) T
 have G_21:=ok_21 (P:=P) (w:=w) (base:=base) T
 have G_23:=ok_23 (P:=P) (w:=w) (base:=base) T
 have G_37:=ok_37 (P:=P) (w:=w) (base:=base) T
 have G_36:=ok_36 (P:=P) (w:=w) (base:=base) T
 have G_35:=ok_35 (P:=P) (w:=w) (base:=base) T
 refine zbX (k:=9) (G:=G_38) (N:=["script","k","box","stock","some","number","told","bad","thing","way"]) (ps:=["script"]) (st:=s_38) T.F_38 sc_38 fun cdv A outer s H E hr=> ?_
 refine zag ?_ ?_
 refine zec rfl PassesOwn.never ?_ (zau 1 nd_38) ?_
 refine zhp T.n_range ?_
 refine zaa ?_ zad
 refine zax (id:="max") (zjW rfl) zsj T.n_max ?_
 refine zaa ?_ ?_
 exact zah
 refine zaa ?_ zad
 refine zax (id:="min") (zjt rfl) zoW T.n_min ?_
 refine zaa ?_ ?_
 refine zax (id:="len") zav za9 T.n_len ?_
 exact zaa (zac 0) zad
 exact zaa zah zad
 refine zag ?_ ?_
 refine zaF 2 nd_38 ?_
 refine zaz (k:=2) (g:=t.a_26) (fd:=t.d_26) (ps:=["script","k"]) G_26 (hr.mono (by decide)) T.m_26 T.F_26.kp T.b_26 ?_
 refine zaa ?_ ?_
 exact zac 0
 exact zaa (zac 1) zad
 refine zag ?_ ?_
 refine zaF 3 nd_38 ?_
 refine zaz (k:=3) (g:=t.a_29) (fd:=t.d_29) (ps:=["box","most_things","most_offers"]) G_29 (hr.mono (by decide)) T.m_29 T.F_29.kp T.b_29 ?_
 refine zaa ?_ ?_
 exact zac 2
 refine zaa ?_ ?_
 exact zah
 exact zaa zah zad
 refine zag ?_ ?_
 refine zdH 4 (N:=["paid","lot"]) rfl nd_38 ?_ ?_ ?_ ?_ ?_ ?_
 exact (BOk.of (Xn:=(zae s_38).names) (XN:=["script","k","box","stock","some","number","told","bad","thing","way"]) rfl rfl rfl (by decide +kernel))
 exact (zaZ.tup (zcx.cons (i:=0) rfl (zcx.cons (i:=1) rfl zcx.nil)))
 refine zcP ?_
 refine zaz (k:=1) (g:=t.a_30) (fd:=t.d_30) (ps:=["stock"]) G_30 (hr.mono (by decide)) T.m_30 T.F_30.kp T.b_30 ?_
 exact zaa (zac 3) zad
 intro _ _ _
 refine zk6 rfl ?_
 refine zc5 (zau 0 zoc) ?_
 exact zc5 (zau 1 zoc) zit
 intro _ _ _
 exact zfM
 intro _ _ _
 exact zac 1
 refine zag ?_ ?_
 refine zec rfl PassesOwn.never ?_ (zau 5 nd_38) ?_
 refine zcP ?_
 refine zcf ?_
 refine zaa ?_ ?_
 exact zah
 refine zaa ?_ ?_
 refine zbr (zir) ?_ zah
 refine zax (id:="len") zav za9 T.n_len ?_
 exact zaa (zac 4) zad
 refine zaa ?_ ?_
 refine zaz (k:=1) (g:=t.a_27) (fd:=t.d_27) (ps:=["box","many"]) G_27 (hr.mono (by decide)) T.m_27 T.F_27.kp T.b_27 ?_
 refine zaa ?_ ?_
 exact zac 2
 refine zaa ?_ zad
 refine zax (id:="len") zav za9 T.n_len ?_
 exact zaa (zac 4) zad
 refine zaa ?_ zad
 refine zaz (k:=1) (g:=t.a_27) (fd:=t.d_27) (ps:=["box","many"]) G_27 (hr.mono (by decide)) T.m_27 T.F_27.kp T.b_27 ?_
 refine zaa ?_ ?_
 exact zac 2
 refine zaa ?_ zad
 refine zax (id:="len") zav za9 T.n_len ?_
 exact zaa (zac 4) zad
 refine zag ?_ ?_
 refine zaF 6 nd_38 ?_
 refine zbP (k:=8) (g:=t.a_22) (fd:=t.d_22) (ps:=["stock","cover"]) G_22 ?_ (hr.mono (by decide)) T.m_22 T.F_22.kp T.b_22 ?_
 exact zhQ
 refine zaa ?_ ?_
 exact zac 3
 refine zaa ?_ zad
 exact zbA (zac 4) (zac 5)
 refine zag ?_ ?_
 refine zgW ?_ ?_ zby
 refine zfW ?_
 refine zh8 ?_ ?_
 refine za3 (zfF (ze6 hr)) ?_ ?_
 refine zbP (k:=4) (g:=t.a_21) (fd:=t.d_21) (ps:=["stock","number"]) G_21 ?_ (hr.mono (by decide)) T.m_21 T.F_21.kp T.b_21 ?_
 exact zhQ
 refine zaa ?_ ?_
 exact zac 3
 exact zaa (zac 5) zad
 exact zbA (zac 4) (zac 5)
 refine zh8 ?_ ?_
 refine zdP ?_
 refine zdz ?_
 refine zaz (k:=1) (g:=t.a_31) (fd:=t.d_31) (ps:=["found"]) G_31 (hr.mono (by decide)) T.m_31 T.F_31.kp T.b_31 ?_
 exact zaa (zac 6) zad
 refine ziZ ?_
 exact za3 (zfF (ze6 hr)) (zac 6) (zac 5)
 refine zaj ?_
 exact zaT zic
 refine zaj ?_
 refine zgW ?_ ?_ zby
 refine za3 (zfF (ze6 hr)) ?_ ?_
 refine zbP (k:=8) (g:=t.a_23) (fd:=t.d_23) (ps:=["stock","cover"]) G_23 ?_ (hr.mono (by decide)) T.m_23 T.F_23.kp T.b_23 ?_
 exact zhQ
 refine zaa ?_ ?_
 exact zac 3
 refine zaa ?_ zad
 exact zbA (zac 4) (zac 5)
 refine zbA ?_ ?_
 refine zbr (zar) (zac 4) ?_
 refine zcf ?_
 exact zaa zka zad
 exact zbr (zar) (zac 5) zah
 refine zaj ?_
 exact zaT zic
 refine zag ?_ ?_
 refine zaF 7 nd_38 ?_
 refine zbA ?_ ?_
 refine zcf ?_
 refine zaa ?_ ?_
 refine zax (id:="len") zav za9 T.n_len ?_
 exact zaa (zac 4) zad
 refine zaa ?_ ?_
 exact zjI zah
 refine zaa ?_ ?_
 exact zic
 refine zaa ?_ ?_
 exact zka
 refine zaa ?_ ?_
 exact zcO
 refine zaa ?_ ?_
 refine zaY ?_
 exact zaa zah zad
 refine zaa ?_ zad
 exact zbr (zhR) zah zah
 refine zaz (k:=1) (g:=t.a_27) (fd:=t.d_27) (ps:=["box","many"]) G_27 (hr.mono (by decide)) T.m_27 T.F_27.kp T.b_27 ?_
 refine zaa ?_ ?_
 exact zac 2
 exact zaa zah zad
 refine zag ?_ ?_
 refine zgW ?_ ?_ zby
 refine za3 (zfF (ze6 hr)) ?_ zcO
 refine zaz (k:=9) (g:=t.a_37) (fd:=t.d_37) (ps:=["way","stock","thing"]) G_37 (hr.mono (by decide)) T.m_37 T.F_37.kp T.b_37 ?_
 refine zaa ?_ ?_
 exact zah
 refine zaa ?_ ?_
 exact zac 3
 exact zaa (zac 7) zad
 refine zaj ?_
 exact zaT zic
 refine zag ?_ ?_
 refine zaF 8 nd_38 ?_
 refine zaz (k:=3) (g:=t.a_36) (fd:=t.d_36) (ps:=["box","stock","lot"]) G_36 (hr.mono (by decide)) T.m_36 T.F_36.kp T.b_36 ?_
 refine zaa ?_ ?_
 exact zac 2
 refine zaa ?_ ?_
 exact zac 3
 refine zaa ?_ zad
 exact zbA (zac 4) zah
 refine zaj ?_
 refine zec rfl PassesOwn.never ?_ (zau 9 nd_38) ?_
 refine zcP ?_
 refine zcf ?_
 refine zaa ?_ ?_
 exact zah
 exact zaa zah zad
 refine zaj ?_
 refine zgW ?_ ?_ zby
 refine za3 (zfF (ze6 hr)) ?_ ?_
 refine zaz (k:=9) (g:=t.a_37) (fd:=t.d_37) (ps:=["way","stock","thing"]) G_37 (hr.mono (by decide)) T.m_37 T.F_37.kp T.b_37 ?_
 refine zaa ?_ ?_
 exact zac 9
 refine zaa ?_ ?_
 exact zac 3
 exact zaa (zac 8) zad
 refine zbA ?_ ?_
 refine zcf ?_
 refine zaa ?_ ?_
 exact zcO
 exact zaa zcO zad
 refine zbI (T:="int") zjH zlK T.n_int ?_
 refine zaa ?_ zad
 refine zaz (k:=3) (g:=t.a_35) (fd:=t.d_35) (ps:=["stock","thing"]) G_35 (hr.mono (by decide)) T.m_35 T.F_35.kp T.b_35 ?_
 refine zaa ?_ ?_
 exact zac 3
 exact zaa (zac 8) zad
 refine zaj ?_
 exact zaT zic
 refine zaj ?_
 refine zaT ?_
 refine znB (zdd (ze6 hr)) ?_ zcO
 refine zaz (k:=9) (g:=t.a_37) (fd:=t.d_37) (ps:=["way","stock","thing"]) G_37 (hr.mono (by decide)) T.m_37 T.F_37.kp T.b_37 ?_
 refine zaa ?_ ?_
 exact zah
 refine zaa ?_ ?_
 refine zaY ?_
 refine zaa ?_ ?_
 exact zah
 refine zaa ?_ zad
 exact zaY zad
 refine zaa ?_ zad
 exact zaY zad
end
end K13
namespace L3
open PySem PySem.Spec PyProof.Rows L2 LT
section
theorem zjG {i j:Int} (h0:0<j) (h1:j<2^100):ze2 [.int i,.int j]=pure (.tup [.int (i / j),.int (i % j)]):=by
 unfold ze2
 simp only
 rw [qa4 ⟨h0,h1⟩]
theorem zf3 {i j:Int} (h:(zaU i || zaU j || zgL i j)=true):zfS (.int i) (.int j)=pure (.int (i*j)):=by
 show (if (zaU i || zaU j || zgL i j)=true then _ else _)=_
 rw [qa4 h]
theorem zmk {i j:Int} (h: -1000000000000000<i) (h':i<1000000000000000):zfS (.int i) (.int j)=pure (.int (i*j)):=zf3 (by rw [zev h h'];rfl)
theorem zkx {i j:Int} (h: -1000000000000000<j) (h':j<1000000000000000):zfS (.int i) (.int j)=pure (.int (i*j)):=zf3 (by rw [zev h h'];simp)
theorem zpo {x:Int} {n:Nat} (h:x.natAbs<2^n):Builtin.Int.intBits x<=n:=by
 unfold Builtin.Int.intBits
 split
 ·exact Nat.zero_le _
 ·rename_i c
  have h0:x.natAbs≠0:=fun z=>c (by simp;omega)
  exact (Nat.log2_lt h0).mpr h
theorem zie {x:Int} {n:Nat} (h:Builtin.Int.intBits x<=n):x.natAbs<2^n:=by
 unfold Builtin.Int.intBits at h
 split at h
 ·rename_i c
  have:x=0:=by simpa using c
  subst this
  exact Nat.pow_pos (by decide)
 ·rename_i c
  have h0:x.natAbs≠0:=fun z=>c (by simp;omega)
  exact (Nat.log2_lt h0).mp h
theorem zmT {c k:Int} {n:Nat} (h:Builtin.Int.intBits c<=n) (k0:0<=k) (k1:k<24):Builtin.Int.intBits ((c+1)*40692+104729*k)<=n+22:=by
 refine zpo ?_
 have h1:=zie h
 rw [Nat.pow_add]
 generalize 2^n=B at h1
 have:(2:Nat)^22=4194304:=rfl
 rw [this]
 omega
theorem zrk:zor (.int 10) (.int 20)=pure (.int 100000000000000000000):=by
 unfold zor dII
 simp only
 rw [qa4 (by decide)]
 rfl
theorem zrG {n:Nat}:zdj [.cel n]=(do let ds<-zai n;pure (.tup ds)):=rfl
end
section
noncomputable def pdO (o:List Int×Int):PyData:= .tuple [.tuple (o.1.map PyData.int),.int o.2]
theorem zlc: ∀ os:List (List Int×Int),pdL (os.map zcJ)=some (os.map pdO)
 | []=>rfl
 | o::r=>by
  rw [qaM,pdL,zlc r]
  simp only [zcJ,tI,pd,pdL,zcr,Option.map,pdO,qaM]
theorem zjg: ∀ os:List (List Int×Int),PyData.canLayAll0 (os.map pdO)=true
 | []=>rfl
 | o::r=>by simp [PyData.canLayAll0,PyData.canLay0,zbd,zjg r,pdO]
theorem zmw (os:List (List Int×Int)):dEq (.lst (os.map zcJ)) (.lst [])=pure (.bl os.isEmpty):=by
 have e1:pd (.lst (os.map zcJ))=some (.list (os.map pdO)):=by unfold pd;rw [zlc];rfl
 have e2:pd (.lst [])=some (.list []):=rfl
 rw [zky e1 e2 (by unfold zh0;simp [PyData.canLay0,PyData.canLayAll0,zjg,PyData.depth,PyData.depthAll])]
 cases os<;>rfl
theorem zoY {x y:D} {a b:PyData} (e1:pd x=some a) (e2:pd y=some b) (h:zh0 a b=true):dNe x y=pure (.bl (!PyData.eqv a b)):=by
 show zke true x y=_
 unfold zke
 rw [e1,e2]
 simp only [h,if_true]
theorem zaQ {α β:Type} {p:α->Bool} {g:α->β}: ∀ xs:List α,xs.filterMap (fun x=>if p x=true then some (g x) else none)=(xs.filter p).map g
 | []=>rfl
 | x::r=>by
  rw [qat,List.filter_cons,zaQ r]
  cases p x<;>simp
theorem zbi {α:Type} {g':α->D} {fi:FA} {g:D->Sd->M Sd} {tc:FT} {te:FE} {src:List (Option Nat)} {sd:Sd} {xs:List α} {k:α->Option D} (hi:fi sd=pure (xs.map g')) (hl:xs.length<=1000) (hf: ∀ x∈xs,zbE g tc te (zas src sd) (g' x)=pure (k x)):zaP fi g tc te src sd=pure (.lst (xs.filterMap k)):=by
 unfold zaP
 rw [hi]
 simp only [pure_bind]
 rw [zaw (by rw [qaH];exact hl)]
 simp only [pure_bind]
 have: ∀ {ys:List α},(∀ x∈ys,zbE g tc te (zas src sd) (g' x)=pure (k x))->zdb (zbE g tc te (zas src sd)) (ys.map g')=pure (ys.filterMap k):=by
  intro ys
  induction ys with
  | nil=>intro _;rfl
  | cons x r ih=>
   intro hf
   rw [qaM,zdb,hf x qau,ih fun y hy=>hf y (qan _ hy)]
   simp only [pure_bind]
   cases e:k x<;>simp [qat,e]
 rw [this hf]
 simp only [pure_bind]
theorem zhC: ∀ {xs ys zs:List Int},HT.zaV xs ys=true->HT.zaV ys zs=true->HT.zaV xs zs=true
 | [],[],_,h,_=>by cases h
 | [],_::_,[],_,h=>by cases h
 | [],_::_,_::_,_,_=>rfl
 | _::_,[],_,h,_=>by cases h
 | _::_,_::_,[],_,h=>by cases h
 | x::xs,y::ys,z::zs,h1,h2=>by
  rw [HT.za2] at h1 h2 ⊢
  split at h1
  ·split at h2
   ·rw [qa4 (by omega)]
    exact zhC h1 h2
   ·simp at h2
    rw [qa5 (by omega)]
    simp
    omega
  ·simp at h1
   split at h2
   ·rw [qa5 (by omega)]
    simp
    omega
   ·simp at h2
    rw [qa5 (by omega)]
    simp
    omega
theorem ziI: ∀ {xs ys:List Int},HT.zaV xs ys=false->HT.zaV ys xs=false->xs=ys
 | [],[],_,_=>rfl
 | [],_::_,h,_=>by cases h
 | _::_,[],_,h=>by cases h
 | x::xs,y::ys,h1,h2=>by
  rw [HT.za2] at h1 h2
  by_cases e:x=y
  ·rw [qa4 e] at h1
   rw [qa4 e.symm] at h2
   rw [e,ziI h1 h2]
  ·rw [qa5 e] at h1
   rw [qa5 (Ne.symm e)] at h2
   simp at h1 h2
   omega
theorem zeI {p q r:Int×List Int} (h1:pLt p q=true) (h2:pLt q r=true):pLt p r=true:=by
 unfold pLt at*
 split at h1
 ·split at h2
  ·rw [qa4 (by omega)]
   exact zhC h1 h2
  ·simp at h2
   rw [qa5 (by omega)]
   simp
   omega
 ·simp at h1
  split at h2
  ·rw [qa5 (by omega)]
   simp
   omega
  ·simp at h2
   rw [qa5 (by omega)]
   simp
   omega
theorem zgy {p q:Int×List Int} (h1:pLt p q=false) (h2:pLt q p=false):p=q:=by
 unfold pLt at*
 by_cases e:p.1=q.1
 ·rw [qa4 e] at h1
  rw [qa4 e.symm] at h2
  exact Prod.ext e (ziI h1 h2)
 ·rw [qa5 e] at h1
  rw [qa5 (Ne.symm e)] at h2
  simp at h1 h2
  omega
theorem zlE (f:Nat->Int×List Int): ∀ k,argBest (fun i j=>pLt (f i) (f j)) k<=k/\ ∀ i,i<=k->pLt (f i) (f (argBest (fun i j=>pLt (f i) (f j)) k))=false
 | 0=>⟨qaV _,fun i hi=>by
   have:i=0:=by omega
   subst this
   show pLt (f 0) (f 0)=false
   unfold pLt
   rw [qa4 rfl,zbK]⟩
 | k+1=>by
  obtain ⟨h1,h2⟩:=zlE f k
  unfold argBest
  by_cases c:pLt (f (k+1)) (f (argBest (fun i j=>pLt (f i) (f j)) k))=true
  ·rw [qa4 c]
   refine ⟨qaV _,fun i hi=> ?_⟩
   by_cases e:i=k+1
   ·subst e
    unfold pLt
    rw [qa4 rfl,zbK]
   ·have h3:=h2 i (by omega)
    cases h4:pLt (f i) (f (k+1)) with
    | false=>rfl
    | true=>rw [zeI h4 c] at h3;cases h3
  ·rw [qa5 c]
   refine ⟨by omega,fun i hi=> ?_⟩
   by_cases e:i=k+1
   ·subst e
    simpa using c
   ·exact h2 i (by omega)
theorem zdG {ps:List (Int×List Int)} (h:ps≠[]):zb3 ps<ps.length/\ ∀ q∈ps,pLt q (ps.getD (zb3 ps) (0,[]))=false:=by
 have hl:=List.length_pos_iff.mpr h
 obtain ⟨h1,h2⟩:=zlE (fun i=>ps.getD i (0,[])) (ps.length - 1)
 refine ⟨Nat.lt_of_le_of_lt h1 (by omega),fun q hq=> ?_⟩
 obtain ⟨i,hi,rfl⟩:=List.getElem_of_mem hq
 have h3:=h2 i (by omega)
 have e:ps.getD i (0,[])=ps[i]:=by simp [List.getD,hi]
 rw [<- e]
 exact h3
theorem zoU (xs ys:List Int):dNe (tI xs) (tI ys)=pure (.bl (!(xs==ys))):=by
 rw [zoY (zqG xs) (zqG ys) (by unfold zh0;simp [PyData.canLay0,zbd,PyData.depth,zbN])]
 simp only [PyData.eqv,zgf]
theorem znX (j:Int) (r:Nat):zdh j (r+1)= .int j::zdh (j+1) r:=by
 unfold zdh
 rw [List.range_succ_eq_map,qaM,qaT]
 congr 1
 ·simp
 ·refine List.map_congr_left fun k _=> ?_
  simp
  omega
noncomputable def pD (p:Int×List Int):D:= .tup [.int p.1,tI p.2]
theorem ze1: ∀ ps:List (Int×List Int),zcM (ps.map pD)=some ps
 | []=>rfl
 | p::r=>by
  rw [qaM,zcM,ze1 r]
  simp only [pD,tI,zbB,zcg,Option.map,Option.bind]
theorem zly {ps:List (Int×List Int)} (h:ps≠[]):zo7 [.lst (ps.map pD)]=pure (pD (ps.getD (zb3 ps) (0,[]))):=by
 have hb:=(zdG h).1
 have e:(ps.map pD)[zb3 ps]? = some (pD (ps.getD (zb3 ps) (0,[]))):=by simp [List.getD,hb]
 show (do let ps'<-ofO (zcM (ps.map pD));ofO ((ps.map pD)[zb3 ps']?):M D)=_
 rw [ze1]
 show (ofO ((ps.map pD)[zb3 ps]?):M D)=_
 rw [e]
 rfl
theorem zrz (a b:Nat):Builtin.bitOr (a:Int) (b:Int)=((a ||| b:Nat):Int):=by
 unfold Builtin.bitOr Builtin.bitAnd Builtin.bitNot
 have h1:decide (0<= -(a:Int) - 1)=false:=by simp;omega
 have h2:decide (0<= -(b:Int) - 1)=false:=by simp;omega
 rw [h1,h2]
 simp only
 have e1:(-(-(a:Int) - 1) - 1).toNat=a:=by omega
 have e2:(-(-(b:Int) - 1) - 1).toNat=b:=by omega
 rw [e1,e2]
 omega
noncomputable def bv (p:Nat->Bool):Nat->Nat
 | 0=>0
 | n+1=>bv p n*2+(if p n=true then 1 else 0)
theorem zss (p q:Nat->Bool): ∀ n,bv p n ||| bv q n=bv (fun i=>p i || q i) n
 | 0=>by
  unfold bv
  rfl
 | n+1=>by
  have ih:=zss p q n
  unfold bv
  rw [<- ih]
  refine Nat.eq_of_testBit_eq fun i=> ?_
  cases i with
  | zero=>
   rw [Nat.testBit_or]
   simp only [Nat.testBit_zero]
   cases p n<;>cases q n<;>simp<;>omega
  | succ i=>
   rw [Nat.testBit_or]
   simp only [Nat.testBit_add_one]
   have e: ∀ (a:Nat) (c:Bool),(a*2+(if c=true then 1 else 0)) / 2=a:=fun a c=>by cases c<;>simp<;>omega
   rw [e,e,e,Nat.testBit_or]
theorem zlD (p:Nat->Bool): ∀ n,bv p n=bv (fun _=>true) n↔ ∀ i,i<n->p i=true
 | 0=>⟨fun _ i h=>by omega,fun _=>rfl⟩
 | n+1=>by
  have ih:=zlD p n
  unfold bv
  constructor
  ·intro h i hi
   cases hp:p n with
   | false=>rw [hp] at h;simp at h;omega
   | true=>
    rw [hp] at h
    simp at h
    by_cases e:i=n
    ·rw [e];exact hp
    ·exact ih.mp (by omega) i (by omega)
  ·intro h
   rw [h n (by omega),ih.mpr fun i hi=>h i (by omega)]
theorem ziz {p q:Nat->Bool}: ∀ {n},(∀ i,i<n->p i=q i)->bv p n=bv q n
 | 0,_=>rfl
 | n+1,h=>by
  unfold bv
  rw [h n (by omega),ziz fun i hi=>h i (by omega)]
theorem zk3 (k:Int) (xs:List Int):dIn (.int k) (.lst (xs.map D.int))=pure (.bl (xs.any (· == k))):=by
 show zpr false (.int k) (.lst (xs.map D.int))=_
 unfold zpr
 simp only [pd]
 rw [zcr]
 have c:znn (.int k) (xs.map PyData.int)=true:=by
  unfold znn
  simp [PyData.canLay0,zbd,PyData.depth,zbN]
 simp only [c,if_true,zfR]
 rfl
theorem znM (lo:Int) (k:Nat):zj7 lo (k+1)= .int lo::zj7 (lo - 1) k:=by
 unfold zj7
 rw [List.range_succ_eq_map,qaM,qaT]
 congr 1
 ·simp
 ·refine List.map_congr_left fun j _=> ?_
  simp
  omega
noncomputable def kl (n:Nat):Nat->List (List Int)
 | 0=>[[]]
 | r+1=>(kl n r).take 1++(kl n r).map (fun ls=>((n - (r+1):Nat):Int)::ls)++(kl n r).drop 1
theorem zem (n:Nat): ∀ (r:Nat) (x:List Int),r<=n->(x∈kl n r↔x.Pairwise (· < ·)/\ ∀ y∈x,((n - r:Nat):Int)<=y/\y<(n:Int))
 | 0,x,_=>by
  unfold kl
  rw [List.mem_singleton]
  constructor
  ·rintro rfl
   exact ⟨.nil,fun y hy=>by cases hy⟩
  ·rintro ⟨_,h⟩
   cases x with
   | nil=>rfl
   | cons y r=>have:=h y qau;omega
 | r+1,x,hr=>by
  have ih:=fun y=>zem n r y (by omega)
  have e:x∈kl n (r+1)↔x∈kl n r\/ ∃ y∈kl n r,((n - (r+1):Nat):Int)::y=x:=by
   have h0:x∈kl n r↔x∈(kl n r).take 1++(kl n r).drop 1:=by rw [qam]
   have h1:x∈kl n (r+1)↔x∈(kl n r).take 1++(kl n r).map (fun ls=>((n - (r+1):Nat):Int)::ls)++(kl n r).drop 1:=Iff.rfl
   rw [h0,h1]
   simp only [qaK,qaU]
   constructor
   ·rintro ((h | h) | h)
    ·exact .inl (.inl h)
    ·exact .inr h
    ·exact .inl (.inr h)
   ·rintro ((h | h) | h)
    ·exact .inl (.inl h)
    ·exact .inr h
    ·exact .inl (.inr h)
  rw [e,ih x]
  constructor
  ·rintro (⟨h1,h2⟩ | ⟨y,hy,rfl⟩)
   ·exact ⟨h1,fun y hy=>by have:=h2 y hy;omega⟩
   ·obtain ⟨g1,g2⟩:=(ih y).mp hy
    refine ⟨qay.mpr ⟨fun a ha=> ?_,g1⟩,fun z hz=> ?_⟩
    ·have:=g2 a ha
     omega
    ·rcases qaP.mp hz with rfl | hz
     ·omega
     ·have:=g2 z hz
      omega
  ·rintro ⟨h1,h2⟩
   cases x with
   | nil=>exact .inl ⟨.nil,fun y hy=>by cases hy⟩
   | cons y ys=>
    rw [qay] at h1
    have hy:=h2 y qau
    by_cases c:y=((n - (r+1):Nat):Int)
    ·refine .inr ⟨ys,(ih ys).mpr ⟨h1.2,fun z hz=> ?_⟩,by rw [c]⟩
     have h3:=h1.1 z hz
     have h4:=h2 z (qan _ hz)
     omega
    ·refine .inl ⟨qay.mpr h1,fun z hz=> ?_⟩
     have h4:=h2 z hz
     rcases qaP.mp hz with rfl | hz
     ·omega
     ·have h3:=h1.1 z hz
      omega
theorem zfv (n:Nat): ∀ r,(kl n r).length=2^r
 | 0=>rfl
 | r+1=>by
  unfold kl
  rw [qav,qav,qaH,List.length_take,List.length_drop,zfv n r,Nat.pow_succ]
  have:=Nat.two_pow_pos r
  omega
noncomputable def pr (os:List (List Int×Int)) (ls:List Int):Int:=(ls.map fun i=>(os.getD i.toNat ([],0)).2).sum
noncomputable def zoa (os:List (List Int×Int)) (ls:List Int) (t:Nat):Bool:=ls.any fun i=>(os.getD i.toNat ([],0)).1.any (· == (t:Int))
noncomputable def cvB (m:Int) (os:List (List Int×Int)) (ls:List Int):Bool:=bv (zoa os ls) m.toNat==bv (fun _=>true) m.toNat
theorem zma {m:Int} {os:List (List Int×Int)} {ls:List Int}:cvB m os ls=true↔ ∀ t:Int,0<=t->t<m-> ∃ i∈ls,t∈(os.getD i.toNat ([],0)).1:=by
 unfold cvB
 rw [beq_iff_eq,zlD]
 have key: ∀ t:Nat,zoa os ls t=true↔ ∃ i∈ls,(t:Int)∈(os.getD i.toNat ([],0)).1:=fun t=>by
  unfold zoa
  simp [List.any_eq_true]
 constructor
 ·intro h t t0 t1
  have:=(key t.toNat).mp (h t.toNat (by omega))
  rw [Int.toNat_of_nonneg t0] at this
  exact this
 ·intro h i hi
  exact (key i).mpr (h i (by omega) (by omega))
noncomputable def trD (m:Int) (os:List (List Int×Int)) (ls:List Int):D:= .tup [.int (pr os ls),tI ls,.int (bv (zoa os ls) m.toNat)]
theorem zkE {p:Nat->Bool} (h: ∀ i,p i=false): ∀ n,bv p n=0
 | 0=>rfl
 | n+1=>by
  unfold bv
  rw [zkE h n,h n]
  rfl
theorem znU (a b:Nat):((a:Int)==(b:Int))=(a==b):=by
 rw [Bool.eq_iff_iff,beq_iff_eq,beq_iff_eq]
 omega
section
variable {g g1 g':FS} {t:FT} {a:FE} {fs fi:FA} {gt:D->Sd->M Sd} {sd:Sd} {i:Nat} {h:Hh} {P:Out->Hh->Prop} {ds:List D} {d:D}
theorem zet (q:wp (a sd) h fun d h'=>wp (g' (sd.set i (some d))) h' P):wp (zan (zbq i a) g' sd) h P:=by
 rw [zaN,zbT,bind_assoc,zaq]
 exact q
theorem znz {x:D} {xs:List D} (e:a sd=pure x) (e2:fs sd=pure xs):zab a fs sd=pure (x::xs):=by rw [zaL,e,e2];rfl
theorem zkM (e:fi sd=pure ds) (q:wp (zaJ (fun x sd=>do let sd1<-gt x sd;g sd1) ds sd) h fun o h'=>wp (andThen o g') h' P):wp (zan (zhO fi gt g) g' sd) h P:=by
 rw [zaN,zhv,e,pure_bind,zaq]
 exact q
theorem zqe {rs:List D} (e:fs sd=pure ds) (e2:zj9 ds=pure rs):zkd fs sd=pure rs:=by rw [zhy,e,pure_bind,e2]
end
end
section
theorem zlm {ps qs:List (Int×List Int)} (h:ps≠[]) (hm: ∀ x,x∈ps↔x∈qs):ps.getD (zb3 ps) (0,[])=qs.getD (zb3 qs) (0,[]):=by
 have h':qs≠[]:=fun z=>by
  obtain ⟨x,hx⟩:=List.exists_mem_of_ne_nil ps h
  rw [hm x,z] at hx
  cases hx
 obtain ⟨a1,a2⟩:=zdG h
 obtain ⟨b1,b2⟩:=zdG h'
 have ma:ps.getD (zb3 ps) (0,[])∈ps:=by simp [List.getD,a1]
 have mb:qs.getD (zb3 qs) (0,[])∈qs:=by simp [List.getD,b1]
 exact zgy (b2 _ ((hm _).mp ma)) (a2 _ ((hm _).mpr mb))
noncomputable def zfj (n b:Nat):List Nat:=(List.range n).filter fun i=>b / 2^i % 2==1
theorem zfN {n b:Nat} (h:b<2^n):zfj (n+1) b=zfj n b/\zfj (n+1) (b+2^n)=zfj n b++[n]:=by
 unfold zfj
 rw [List.range_succ,List.filter_append,List.filter_append]
 have e1:b / 2^n=0:=Nat.div_eq_of_lt h
 have e2:(b+2^n) / 2^n=1:=by
  rw [Nat.add_div_right _ (Nat.two_pow_pos n),e1]
 constructor
 ·simp [e1]
 ·have e3:((List.range n).filter fun i=>(b+2^n) / 2^i % 2==1)=(List.range n).filter fun i=>b / 2^i % 2==1:=by
   refine List.filter_congr fun i hi=> ?_
   have hi:=List.mem_range.mp hi
   have e4:2^n=2^i*(2*2^(n - i - 1)):=by
    rw [<- Nat.mul_assoc,Nat.mul_comm (2^i) 2, <-Nat.pow_succ', <-Nat.pow_add]
    congr 1
    omega
   rw [e4,Nat.add_mul_div_left _ _ (Nat.two_pow_pos i),Nat.add_mul_mod_self_left]
  rw [e3]
  simp [e2]
theorem zes: ∀ (n:Nat) (xs:List Int),xs.Pairwise (· < ·)->(∀ x∈xs,0<=x/\x<(n:Int))-> ∃ b,b<2^n/\(zfj n b).map (fun (k:Nat)=>(k:Int))=xs
 | 0,xs,_,hb=>⟨0,by decide,by
   cases xs with
   | nil=>rfl
   | cons x r=>have:=hb x qau;omega⟩
 | n+1,xs,hu,hb=>by
  by_cases hl:xs.getLast? = some (n:Int)
  ·obtain ⟨ys,rfl⟩:=List.getLast?_eq_some_iff.mp hl
   rw [qaq] at hu
   obtain ⟨b,hb1,hb2⟩:=zes n ys hu.1 fun x hx=>⟨(hb x (List.mem_append_left _ hx)).1,hu.2.2 x hx n (by simp)⟩
   refine ⟨b+2^n,by rw [Nat.pow_succ];omega,?_⟩
   rw [(zfN hb1).2,List.map_append,hb2]
   rfl
  ·have hlt: ∀ x∈xs,0<=x/\x<(n:Int):=fun x hx=>by
    have h1:=hb x hx
    refine ⟨h1.1,?_⟩
    by_cases e:x=(n:Int)
    ·exfalso
     subst e
     obtain ⟨as,bs,rfl⟩:=List.append_of_mem hx
     cases bs with
     | nil=>simp at hl
     | cons y r=>
      have:=(qaq.mp hu).2.1
      have h2:=(qay.mp this).1 y qau
      have h3:=hb y (by simp)
      omega
    ·omega
   obtain ⟨b,hb1,hb2⟩:=zes n xs hu hlt
   exact ⟨b,by rw [Nat.pow_succ];omega,by rw [(zfN hb1).1];exact hb2⟩
theorem zjk (n b:Nat):((zfj n b).map fun (k:Nat)=>(k:Int)).Pairwise (· < ·):=by
 rw [List.pairwise_map]
 exact (List.pairwise_lt_range.filter _).imp fun z=>by omega
theorem ziT (n b:Nat): ∀ x∈(zfj n b).map fun (k:Nat)=>(k:Int),0<=x/\x<(n:Int):=fun x hx=>by
 obtain ⟨k,hk,rfl⟩:=qaU.mp hx
 have:=List.mem_range.mp (List.mem_filter.mp hk).1
 omega
noncomputable def zdZ (n b:Nat):List Int:=(zfj n b).map fun (k:Nat)=>(k:Int)
theorem zn2 (b i:Nat):((b:Int) / 2^i % 2==1)=(b / 2^i % 2==1):=by
 have e:(b:Int) / 2^i % 2=((b / 2^i % 2:Nat):Int):=by simp
 rw [e,Bool.eq_iff_iff,beq_iff_eq,beq_iff_eq]
 omega
theorem zfG: ∀ ps:List (Int×List Int),zf5 zbB (ps.map pD)=some ps:=fun ps=>by rw [zeM,ze1]
theorem zjp {n:Nat} {h:Hh} {ps:List (Int×List Int)} {P:D->Hh->Prop} (e:h[n]? = some (.lst (ps.map pD))) (k:P (.lst ((TS.zdn pLt ps).map pD)) h):wp (zeF [.cel n]) h P:=by
 unfold zeF zi9 zkQ zkc
 simp only [zaq,zed e,zap,zfG,zih]
 exact k
theorem zfE {ps:List (Int×List Int)} (h:ps≠[]): ∃ r,TS.zdn pLt ps=ps.getD (zb3 ps) (0,[])::r:=by
 obtain ⟨b1,b2⟩:=zdG h
 have hp:=TS.zce pLt ps
 have hu:=TS.zc3 TS.zoL ps
 cases hs:TS.zdn pLt ps with
 | nil=>
  rw [hs] at hp
  exact absurd hp.symm.eq_nil h
 | cons x r=>
  have hu':(x::r).Pairwise TS.zoL.kle:=by rw [<- hs];exact hu
  have hx:x∈ps:=hp.mem_iff.mp (by rw [hs];exact qau ..)
  have hb:ps.getD (zb3 ps) (0,[])∈ps:=by
   rw [List.getD_eq_getElem?_getD,qaf b1]
   exact List.getElem_mem b1
  have hb2:ps.getD (zb3 ps) (0,[])∈x::r:=by rw [<- hs];exact hp.mem_iff.mpr hb
  have e:x=ps.getD (zb3 ps) (0,[]):=by
   rcases qaP.mp hb2 with e | hr
   ·exact e.symm
   ·exact zgy (b2 x hx) ((qay.mp hu').1 _ hr)
  exact ⟨r,by rw [e]⟩
theorem zid (x y:Str) (hx:PyData.strOk x=true) (hy:PyData.strOk y=true):dNe (.str x) (.str y)=pure (.bl (!(x==y))):=by
 rw [zoY (x:= .str x) (y:= .str y) rfl rfl (by unfold zh0;simp [PyData.canLay0,PyData.depth,hx,hy])]
 rfl
theorem zrp {a b:FE} {sd:Sd} {F:D->D->M D} {x y z:D} (e:a sd=pure x) (e2:b sd=pure y) (e3:F x y=pure z):cOp F a b sd=pure z:=by rw [zdR,e,e2,pure_bind,pure_bind,e3]
def Kp (N:Nat) (h h':Hh):Prop:=N<=h'.length/\ ∀ k,k<N->h'[k]? = h[k]?
theorem Kp.gro {h h':Hh} (k:Kp h.length h h'):Gro h h':=by
 refine ⟨h'.drop h.length,List.ext_getElem? fun j=> ?_⟩
 by_cases hj:j<h.length
 ·rw [qad hj,k.2 j hj]
 ·rw [qaa (by omega),List.getElem?_drop]
  congr 1
  omega
end
section
theorem zej {α:Type} [DecidableEq α]: ∀ {fm ms:List α},fm.Nodup->(∀ k,k∈fm->k∈ms)->ms.length<=fm.length->List.Perm ms fm
 | [],ms,_,_,h=>by
  have:ms=[]:=List.length_eq_zero_iff.mp (by simpa using h)
  subst this
  exact .rfl
 | x::r,ms,nd,hm,h=>by
  obtain ⟨n1,n2⟩:=List.nodup_cons.mp nd
  have hx:=hm x (.head _)
  have p:=List.perm_cons_erase hx
  have hl:=p.length_eq
  rw [qaE] at hl h
  refine p.trans ((zej n2 (fun k hk=> ?_) (by omega)).cons x)
  have hne:k≠x:=fun e=>n1 (e▸hk)
  rcases qaP.mp (p.mem_iff.mp (hm k (.tail _ hk))) with e | e
  ·exact absurd e hne
  ·exact e
theorem zge (n:Nat): ∀ r,r<=n->(kl n r).Nodup
 | 0,_=>by unfold kl;exact List.nodup_cons.mpr ⟨qaF,List.nodup_nil⟩
 | r+1,h=>by
  have ih:=zge n r (by omega)
  have hp:(kl n (r+1)).Perm ((kl n r).map (fun ls=>((n - (r+1):Nat):Int)::ls)++kl n r):=by
   show ((kl n r).take 1++(kl n r).map (fun ls=>((n - (r+1):Nat):Int)::ls)++(kl n r).drop 1).Perm _
   refine (List.Perm.append_right _ List.perm_append_comm).trans ?_
   rw [List.append_assoc,qam]
  rw [hp.nodup_iff,List.nodup_append]
  refine ⟨?_,ih,?_⟩
  ·unfold List.Nodup
   rw [List.pairwise_map]
   exact ih.imp fun hne z=>hne (by injection z)
  ·intro a ha b hb e
   subst e
   obtain ⟨ls,_,rfl⟩:=qaU.mp ha
   have:=((zem n r _ (by omega)).mp hb).2 _ qau
   omega
theorem zkW (n:Nat):((List.range (2^n)).map (zdZ n)).Perm (kl n n):=by
 refine zej (zge n n (qaV _)) (fun ls h=> ?_) (by rw [qaH,List.length_range,zfv];exact qaV _)
 obtain ⟨h1,h2⟩:=(zem n n ls (qaV _)).mp h
 obtain ⟨b,hb1,hb2⟩:=zes n ls h1 (fun y hy=>by have:=h2 y hy;simpa using this)
 exact qaU.mpr ⟨b,List.mem_range.mpr hb1,hb2⟩
theorem zg1 (p:Int×List Int->Bool) (l:List (Int×List Int)):(TS.zdn pLt l).filter p=TS.zdn pLt (l.filter p):=
 TS.zfU TS.zoL ((TS.zce _ _).filter p) ((TS.zc3 TS.zoL l).filter p)
theorem zjo {α:Type} {g':α->D} {fi:FA} {g:D->Sd->M Sd} {tc:FT} {te:FE} {src:List (Option Nat)} {sd:Sd} {xs:List α} {k:α->Option D} (hi:Ev (fi sd) (xs.map g')) (hl:xs.length<=1000) (hf: ∀ x∈xs,zbE g tc te (zas src sd) (g' x)=pure (k x)):Ev (zaP fi g tc te src sd) (.lst (xs.filterMap k)):=by
 have:=zbi (fi:=fun _=>pure (xs.map g')) (g:=g) (tc:=tc) (te:=te) (src:=src) (sd:=sd) rfl hl hf
 unfold zaP at this ⊢
 simp only [pure_bind] at this
 exact Ev.bind hi (.of this)
theorem zfo (ps:List (Int×List Int)):zeF [.lst (ps.map pD)]=pure (.lst ((TS.zdn pLt ps).map pD)):=by
 unfold zeF zi9 zkQ zkc
 simp only [pure_bind,zfG,zih]
 rfl
theorem zdK (q:Int×List Int):zbB (pD q)=some q:=by
 have h: ∀ xs:List Int,zcl (xs.map D.int)=some xs:=fun xs=>by
  induction xs with
  | nil=>rfl
  | cons x r ih=>rw [qaM,zcl,ih];rfl
 unfold pD zbB tI
 simp only [h]
 rfl
theorem zo6 (p q:Int×List Int):zrf (pD p) (pD q)=pure (.bl (pLt p q)):=by
 unfold zrf
 rw [zdK,zdK]
 rfl
theorem zp3 (p q:Int×List Int):zrE (pD p) (pD q)=pure (.bl (pLt q p)):=by
 unfold zrE
 rw [zdK,zdK]
 rfl
theorem zlC {l:List (Int×List Int)} (h:l.Pairwise fun a b=>pLt a b=true) {k:Nat} (hk:k<l.length):(l.filter fun q=>pLt q l[k]).length=k:=by
 have hs: ∀ a,pLt a a=false:=fun a=>by unfold pLt;rw [qa4 rfl,zbK]
 have e:l=l.take k++l[k]::l.drop (k+1):=by rw [List.getElem_cons_drop,qam]
 have h':=h
 rw [e,qaq,qay] at h'
 obtain ⟨_,⟨h1,_⟩,h2⟩:=h'
 have f1:(l.take k).filter (fun q=>pLt q l[k])=l.take k:=List.filter_eq_self.mpr fun a ha=>h2 a ha _ qau
 have f2:(l.drop (k+1)).filter (fun q=>pLt q l[k])=[]:=List.filter_eq_nil_iff.mpr fun a ha=>by
  have:=h1 a ha
  intro z
  have:=zeI this z
  rw [hs] at this
  cases this
 generalize hx:l[k]=x at*
 rw [e,List.filter_append,f1,List.filter_cons,hs,qa5 (by simp),f2,List.append_nil,List.length_take]
 omega
theorem zkg {l:List (Int×List Int)} (h:l.Pairwise fun a b=>pLt a b=true) {k:Nat} (hk:k<l.length):(l.filter fun q=>pLt l[k] q)=l.drop (k+1):=by
 have hs: ∀ a,pLt a a=false:=fun a=>by unfold pLt;rw [qa4 rfl,zbK]
 have e:l=l.take k++l[k]::l.drop (k+1):=by rw [List.getElem_cons_drop,qam]
 have h':=h
 rw [e,qaq,qay] at h'
 obtain ⟨_,⟨h1,_⟩,h2⟩:=h'
 have f1:(l.take k).filter (fun q=>pLt l[k] q)=[]:=List.filter_eq_nil_iff.mpr fun a ha=>by
  have:=h2 a ha _ qau
  intro z
  have:=zeI this z
  rw [hs] at this
  cases this
 have f2:(l.drop (k+1)).filter (fun q=>pLt l[k] q)=l.drop (k+1):=List.filter_eq_self.mpr fun a ha=>h1 a ha
 generalize hx:l[k]=x at*
 conv=>lhs;rw [e]
 rw [List.filter_append,f1,List.filter_cons,hs,qa5 (by simp),f2,List.nil_append]
end
end L3
namespace K13
open PySem PySem.Spec PyProof.Rows L2 L3 LT
set_option hygiene false in
local macro_rules | `(tactic| ac_nf0)=> `(tactic| simp only [zaN,zbT,zoO,zck,zij,zhv,zhV,ze5,zbC,zaL,zbe,zdR,zn1,zgj,zaM,za5,pure_bind,bind_assoc,zgP,zuz,zgX,zri,List.set,zfI,ziK,ziO,zsG,zqD,zmg,zuW,zkI,ztv,zlT,zje,zgz,zcZ,zhT,zca,zpp,zeB,ztG,zsi,zsH,zt1,zih,zrH,zs5,zrP,zuQ,zsb,zhy,zdi,zld,ziC,zkU,zoK,zrq,zaq,zap,zg7,qaE,qaJ,qaH,Nat.zero_add,Nat.reduceAdd,Nat.reduceLeDiff,zaw,zcJ,tI,zkJ,zo4,zmQ,zsO,znW,zjS,zno,zuw,zpn,zqo,zsQ,ztB,ztH,zuS,zsh,zoy,zok,zuq,ztr,zvo,if_true,Bool.not_true,Bool.not_false,qax,if_false,qav,List.cons_append,List.nil_append,zsc,zsJ])
variable {m:Int} {os:List (List Int×Int)} {i:Nat}
theorem zbb {h:Hh} {b:Nat} {m:Int} {P:D->Hh->Prop} (q:Bx b h) (h0:0<m) (h1:m<2^100) (k: ∀ t h',0<=t->t<m->Ext b h h'->P (.int t) h'):wp (F_27 [.cel b,.int m]) h P:=by
 obtain ⟨z,e⟩:=id q
 rw [d_27]
 have e2:ixN ([D.int z]:List D).length 0=some 0:=rfl
 simp only [G_27,zaN,zoO,zbC,zaL,zbe,zdR,zaM,za5,pure_bind,bind_assoc,zgj,zuI,zaq,zed e,zsH,zih,zap,zjG h0 h1,zld,ziC,zdi,zkU,zgP,List.set,zpa,zs6,e2,ziw,zck,zgX]
 exact k _ _ (Int.emod_nonneg _ (by omega)) (Int.emod_lt_of_pos _ h0) q.set
theorem zqs {ns:List Int} {k:Int} (h0:0<=k) (h1:k<6) (hb: ∀ i∈ns,Builtin.Int.intBits i<=2^20): ∃ c:Int,F_24 [.scr (ns.map D.int),.int k]=pure (.int c)/\Builtin.Int.intBits c<=2^20:=by
 rw [d_24]
 simp only [G_24,zaN,zij,zfI,za5,zaM,pure_bind,bind_assoc,zbC,zaL,zbe,zoD,zqN,zcZ]
 by_cases hk:k<((ns.map D.int).length:Int)
 ·have hk':k.toNat<ns.length:=by simp at hk;omega
  have ea:atI (ns.map D.int) k=some (.int ns[k.toNat]):=by
   have:=zdr (xs:=ns.map D.int) (j:=k.toNat) (v:= .int ns[k.toNat]) (by simp [hk'])
   rw [<- this]
   congr 1
   omega
  simp only [hk,decide_true,if_true,zck,zdR,zaM,za5,pure_bind,zuy,ea,zih,zuz,zgX]
  exact ⟨_,rfl,hb _ (List.getElem_mem hk')⟩
 ·simp only [hk,decide_false,qax,if_false,ze5,pure_bind,zgP,zck,zdR,zgj,za5,zaM,zr6 (show (-1000000000000000:Int)<6151 by decide) (show (6151:Int)<1000000000000000 by decide),zeB,zgX]
  exact ⟨_,rfl,qaS (intBits_le_64 (by omega) (by omega)) (by decide)⟩
theorem zsK {c k:Int} (hc:Builtin.Int.intBits c<=2^20) (k0:0<=k) (k1:k<24): ∃ r:Int,F_25 [.int c,.int k]=pure (.int r):=by
 rw [d_25]
 have hm:zgL ((c+1)*40692+104729*k) ((c+1)*40692+104729*k)=true:=by
  have:=zmT hc k0 k1
  unfold zgL
  rw [qaD]
  have e1:(2:Nat)^20=1048576:=rfl
  have e2:(2:Nat)^26=67108864:=rfl
  rw [e1] at this
  rw [e2]
  omega
 have n0:=Int.emod_nonneg (((c+1)*40692+104729*k)*((c+1)*40692+104729*k)) (show (2147483399:Int)≠0 by decide)
 have n1:=Int.emod_lt_of_pos (((c+1)*40692+104729*k)*((c+1)*40692+104729*k)) (show (0:Int)<2147483399 by decide)
 simp only [G_25,zaN,zbT,zdR,zaM,za5,zgj,zeB,pure_bind,bind_assoc,zkx (show (-1000000000000000:Int)<40692 by decide) (show (40692:Int)<1000000000000000 by decide),zmk (show (-1000000000000000:Int)<104729 by decide) (show (104729:Int)<1000000000000000 by decide),
   zgP,List.set,zf3 (show (zaU ((c+1)*40692+104729*k) || zaU ((c+1)*40692+104729*k) || zgL ((c+1)*40692+104729*k) ((c+1)*40692+104729*k))=true by rw [hm];simp),zgg (show (0:Int)<2147483399 by decide),zck]
 generalize hN:((c+1)*40692+104729*k)*((c+1)*40692+104729*k) % 2147483399=N at n0 n1
 simp only [zmk (i:=N+k) (show -1000000000000000<N+k by omega) (show N+k<1000000000000000 by omega),pure_bind,zgg (show (0:Int)<2147483563 by decide),zgX]
 exact ⟨_,rfl⟩
theorem ziY {s0 s1:Option D} {c:Int} (hc:Builtin.Int.intBits c<=2^20): ∀ (ds:List D) (n:Int) (x4:Option D),(∀ d∈ds, ∃ j:Int,d= .int j/\0<=j/\j<24)->
  ∃ (n':Int) (x4':Option D),zaJ (fun x sd=>do let sd1<-zaX 4 x sd;zc1 sd1) ds [s0,s1,some (.int c),some (.int n),x4]=pure (.nx [s0,s1,some (.int c),some (.int n'),x4'])
 | [],n,x4,_=>⟨n,x4,rfl⟩
 | d::r,n,x4,hd=>by
  obtain ⟨j,rfl,j0,j1⟩:=hd _ qau
  obtain ⟨mx,em⟩:=zsK hc j0 j1
  obtain ⟨n',x4',ih⟩:=ziY hc r (n*2147483647+mx) (some (.int j)) (fun y hy=>hd y (qan _ hy))
  refine ⟨n',x4',?_⟩
  rw [zbc, <-ih]
  simp only [zc1,zdi,List.set,pure_bind,bind_assoc,zbT,zdR,za5,zaM,zgj,zkx (i:=n) (show (-1000000000000000:Int)<2147483647 by decide) (show (2147483647:Int)<1000000000000000 by decide),zbC,zaL,zbe,zca,em,zeB]
theorem zrB {h:Hh} {ns:List Int} {k:Int} {P:D->Hh->Prop} (hb: ∀ i∈ns,Builtin.Int.intBits i<=2^20) (k0:0<=k) (k6:k<6) (q: ∀ z:Int,P (.cel h.length) (h++[.lst [.int z]])):wp (F_26 [.scr (ns.map D.int),.int k]) h P:=by
 obtain ⟨c,ec,hc⟩:=zqs k0 k6 hb
 rw [d_26]
 simp only [G_26,zaN,zbT,zbC,zaL,zbe,zaM,za5,pure_bind,bind_assoc,zca,ec,zgP,List.set,zij,zfI,zdR,zgj,zgg (show (0:Int)<2 by decide),zs2,zcZ]
 by_cases hc2:(c % 2==0)=true
 ·simp only [hc2,if_true,zck,zgz,zaL,zbe,zdR,za5,zaM,zgj,pure_bind,bind_assoc,znw (show (0:Int)<2 by decide) (show (2:Int)<2^64 by decide),qaE,qaJ,zaw (show 0+1<=1000 by decide),zaq,zg7,zap,zuz,zgX]
  exact q _
 ·obtain ⟨n',x4',el⟩:=ziY (s0:=some (.scr (ns.map D.int))) (s1:=some (.int k)) hc (zdh 0 24) 0 none (fun d hd=>by
    obtain ⟨i,e,i0,i1⟩:=zme hd
    exact ⟨i,e,i0,by omega⟩)
  have er:zj9 [.int 24]=pure (zdh 0 24):=zcN (by decide) (by decide)
  simp only [hc2,if_false,ze5,pure_bind,zgP,zaN,zbT,zgj,List.set,za5,zaM,zhv,zhy,zaL,zbe,er,bind_assoc,el,zck,zgz,qaE,qaJ,zaw (show 0+1<=1000 by decide),zaq,zg7,zap,zgX,qax]
  exact q _
theorem zh5 (xs:List Int):dEq (.lst (xs.map D.int)) (.lst [])=pure (.bl xs.isEmpty):=by
 have:=zhP xs []
 rw [List.map_nil] at this
 rw [this]
 cases xs<;>rfl
def Go (m:Int) (o:List Int×Int):Prop:=o.1.Pairwise (· < ·)/\(∀ x∈o.1,0<=x/\x<m)/\o.1≠[]/\0<o.2
theorem zjR {b:Nat} {full:Int} (i:Int) {h:Hh} {Q:Option D->Hh->Prop} (q:Bx b h) (k: ∀ o h',Ext b h h'->(o=none\/o=some (.int i))->Q o h'):
  wp (zbE (zaX 0) zb1 zb4 [none,some (.cel b),some (.int full)] (.int i)) h Q:=by
 simp only [zbE,zdi,List.set,pure_bind,zb1,zfI,zbC,zaL,zbe,za5,zaM,zgj,bind_assoc,zca,zaq]
 refine zbb q (by decide) (by decide) fun t h2 t0 t1 x2=> ?_
 simp only [zu2,zap,zcZ]
 rw [zaD]
 split
 ·simp only [zb4,zaM,pure_bind,zap]
  exact k _ _ x2 (.inr rfl)
 ·rw [zap]
  exact k _ _ x2 (.inl rfl)
theorem zfB {b n:Nat} {m kind full:Int} {s1 s2:Option D} {N:Nat} (hN:N<=12) (hnb:n≠b) (m0:1<=m) (m1:m<=10) (k0:0<kind) (k1:kind<2^100): ∀ (ds:List D) {h:Hh} {x7 x8:Option D} {os:List (List Int×Int)} {P:Out->Hh->Prop},Bx b h->h[n]? = some (.lst (os.map zcJ))->(∀ o∈os,Go m o)->os.length+ds.length<=N->
  (∀ (x7' x8':Option D) (os':List (List Int×Int)) (h':Hh),Bx b h'->h'[n]? = some (.lst (os'.map zcJ))->(∀ o∈os',Go m o)->os'.length<=N->P (.nx [some (.cel b),s1,s2,some (.int m),some (.int kind),some (.int full),some (.cel n),x7',x8']) h')->
  wp (zaJ (fun x sd=>do let sd1<-zaX 7 x sd;za8 sd1) ds [some (.cel b),s1,s2,some (.int m),some (.int kind),some (.int full),some (.cel n),x7,x8]) h P
 | [],h,x7,x8,os,P,q,e,ho,hl,k=>by
  rw [zbG,zap]
  exact k _ _ os h q e ho (by simpa using hl)
 | d::r,h,x7,x8,os,P,q,e,ho,hl,k=>by
  have ih: ∀ {h:Hh} {x7 x8:Option D} {os:List (List Int×Int)},Bx b h->h[n]? = some (.lst (os.map zcJ))->(∀ o∈os,Go m o)->os.length+r.length<=N->
   wp (zaJ (fun x sd=>do let sd1<-zaX 7 x sd;za8 sd1) r [some (.cel b),s1,s2,some (.int m),some (.int kind),some (.int full),some (.cel n),x7,x8]) h P:=fun q e ho hl=>zfB hN hnb m0 m1 k0 k1 r q e ho hl k
  rw [zbc]
  generalize zaJ (fun x sd=>do let sd1<-zaX 7 x sd;za8 sd1) r=rest at ih ⊢
  have eb:zas [none,some 0,some 5] [some (.cel b),s1,s2,some (.int m),some (.int kind),some (.int full),some (.cel n),some d,x8]=[none,some (D.cel b),some (.int full)]:=rfl
  simp only [zdi,List.set,pure_bind,za8,zaN,zbT,zaq]
  unfold zaP
  simp only [zhy,zaL,zbe,za5,zaM,pure_bind,zcN (show 0<=m by omega) (show m<1000 by omega),zaq,zkj,zaw (show m.toNat<=1000 by omega),zap,eb]
  rw [zcy]
  refine zkO (fun i {h Q} q k=>zjR i q k) _ q fun ys h2 x2 hys=> ?_
  have hyu:=(zcV m.toNat).sublist hys
  have hyb: ∀ x∈ys,0<=x/\x<m:=fun x hx=>by have:=zcW x (hys.subset hx);omega
  have fin: ∀ (zs:List Int) (h3:Hh),(zs.Pairwise (· < ·)/\(∀ x∈zs,0<=x/\x<m)/\zs≠[])->Ext b h h3->wp ((zdW (zaf 6) (zcH (zab (zaA zdj (zab (zaf 8) zak)) (zab (cOp zcq (cK (.int 1)) (zaA (zam 2 F_27) (zab (zaf 0) (zab (zaf 4) zak)))) zak)))) [some (.cel b),s1,s2,some (.int m),some (.int kind),some (.int full),some (.cel n),some d,some (.lst (zs.map D.int))]) h3
    fun _ h4=>wp (rest [some (.cel b),s1,s2,some (.int m),some (.int kind),some (.int full),some (.cel n),some d,some (.lst (zs.map D.int))]) h4 P:=fun zs h3 hz x3=>by
   have e3:=x3.2 n _ hnb e
   simp only [zdW,zeL,za5,zaM,pure_bind,bind_assoc,zaq,zed e3,zlT,zaL,zbe,zbC,zoK,zdR,zgj,zca,zap]
   refine zbb x3.1 k0 k1 fun t h4 t0 t1 x4=> ?_
   have e4:=x4.2 n _ hnb e3
   simp only [zeB,pure_bind,zap,zaq,qaE,qaJ,zaw (show 0+1+1<=1000 by decide),zdl,zed e4,qaH,zaw (show os.length+1<=1000 by simp at hl;omega),ziw]
   have hlt:n<h4.length:=(qac.mp e4).1
   refine ih (os:=os++[(zs,1+t)]) ?_ (by rw [qai hlt];simp [zcJ,tI]) ?_ ?_
   ·obtain ⟨y,ey⟩:=x4.1
    exact ⟨y,by rw [qao hnb];exact ey⟩
   ·intro o hmem
    rcases qaK.mp hmem with w | w
    ·exact ho o w
    ·simp at w
     subst w
     exact ⟨hz.1,hz.2.1,hz.2.2,by show (0:Int)<1+t;omega⟩
   ·simp at hl ⊢
    omega
  simp only [zap,zgP,List.set,zaN,zij,zfI,za5,zaM,pure_bind,zje,zbe,qaJ,zaw (show 0<=1000 by decide),zh5,zcZ,bind_assoc,zaq]
  rw [zaD]
  split
  ·simp only [zbT,zje,zaL,zbe,zbC,za5,zaM,pure_bind,bind_assoc,zca,zaq]
   refine zbb x2.1 (by omega) (by omega) fun t h3 t0 t1 x3=> ?_
   simp only [zap,pure_bind,zaq,qaE,qaJ,zaw (show 0+1<=1000 by decide),List.set,zgP,zhV]
   exact zkS (fin [t] h3 ⟨by simp,by simp;omega,by simp⟩ (x2.trans x3)) fun _ _ z=>z
  ·rename_i hne
   simp only [ze5,zap,zgP,zhV,zaq]
   exact zkS (fin ys h2 ⟨hyu,hyb,fun z=>hne (by rw [z];rfl)⟩ x2) fun _ _ z=>z
theorem zm1 {h:Hh} {b:Nat} {mt mo:Int} {P:D->Hh->Prop} (q:Bx b h) (t0:1<=mt) (t1:mt<=10) (o0:0<=mo) (o1:mo<=12) (k: ∀ (m:Int) (os:List (List Int×Int)) h',Bx b h'->1<=m->m<=mt->(os.length:Int)<=mo->(∀ o∈os,Go m o)->P (zaO m os) h'):wp (F_28 [.cel b,.int mt,.int mo]) h P:=by
 rw [d_28]
 simp only [G_28,zaN,zbT,zdR,zgj,zbC,zaL,zbe,zaM,za5,pure_bind,bind_assoc,zca,zaq]
 refine zbb q (by omega) (by omega) fun t h2 t0' t1' x2=> ?_
 simp only [zeB,pure_bind,zap,zgP,List.set,zaN,zbT,zdR,zje,zaL,zbe,zgj,zrk,bind_assoc,zaq,qaE,qaJ,zaw (show 0+1+1+1+1<=1000 by decide),zbC,zaM,za5,zca]
 refine zbb x2.1 (by decide) (by decide) fun f h3 f0 f1 x3=> ?_
 obtain ⟨kind,ef,g0,g1⟩: ∃ kind:Int,atI [D.int 1,.int 3,.int 20,.int 100000000000000000000] f=some (.int kind)/\0<kind/\kind<2^100:=by
  have:f=0\/f=1\/f=2\/f=3:=by omega
  rcases this with rfl | rfl | rfl | rfl
  ·exact ⟨1,rfl,by decide,by decide⟩
  ·exact ⟨3,rfl,by decide,by decide⟩
  ·exact ⟨20,rfl,by decide,by decide⟩
  ·exact ⟨100000000000000000000,rfl,by decide,by decide⟩
 simp only [zsi,ef,zih,zap,zgP,List.set,zaN,zbT,zbC,zaL,zbe,zaM,zgj,pure_bind,bind_assoc,zca,zaq]
 refine zbb x3.1 (by decide) (by decide) fun full h4 u0 u1 x4=> ?_
 simp only [zap,zgP,List.set,zaN,zbT,zgz,zbe,pure_bind,qaJ,zaw (show 0<=1000 by decide),zaq,zg7,zhv,zhy,zaL,zbC,zdR,za5,zaM,zgj,zeB,bind_assoc,zca]
 have x5:=x4.1.push (c:= .lst [])
 have hnb:h4.length≠b:=fun z=>by
  obtain ⟨y,ey⟩:=x4.1
  have:=(qac.mp ey).1
  omega
 refine zbb x5.1 (by omega) (by omega) fun turns h6 v0 v1 x6=> ?_
 have e6:h6[h4.length]? = some (.lst []):=x6.2 _ _ hnb (by simp)
 simp only [zap,pure_bind,zcN v0 (show turns<1000 by omega),zaq]
 refine zfB (N:=mo.toNat) (by omega) hnb (by omega) (by omega) g0 g1 _ x6.1 (os:=[]) e6 (fun o ho=>by cases ho) (by rw [zkj];simp;omega) fun x7 x8 os h7 q7 e7 ho hl=> ?_
 simp only [zgP,zck,zlT,zaL,zbe,za5,zaM,pure_bind,bind_assoc,zbC,zrG,zaq,zed e7,zap,qaE,qaJ,zaw (show 0+1+1<=1000 by decide),zgX]
 exact k (1+t) os h7 q7 (by omega) (by omega) (by omega) ho
theorem ziN {n:Nat} {s0:Option D}: ∀ (os:List (List Int×Int)) {h:Hh} {xs:List Int} {x2:Option D} {P:Out->Hh->Prop},h[n]? = some (.lst (xs.map D.int))->xs.length+(os.flatMap (·.1)).length<=1000->
  (∀ x2' h',(∀ k,k≠n->h'[k]? = h[k]?)->h'.length=h.length->h'[n]? = some (.lst ((xs++os.flatMap (·.1)).map D.int))->P (.nx [s0,some (.cel n),x2']) h')->
  wp (zaJ (fun x sd=>do let sd1<-zaX 2 x sd;zaR sd1) (os.map zcJ) [s0,some (.cel n),x2]) h P
 | [],h,xs,x2,P,e,_,k=>by
  rw [List.map_nil,zbG,zap]
  exact k x2 h (fun _ _=>rfl) rfl (by simpa using e)
 | o::os,h,xs,x2,P,e,hl,k=>by
  have hln:=(qac.mp e).1
  rw [List.flatMap_cons,qav] at hl
  have ih:=fun (x2':Option D)=>ziN (s0:=s0) (n:=n) os (h:=h.set n (.lst ((xs++o.1).map D.int))) (xs:=xs++o.1) (x2:=x2') (P:=P) (qai hln) (by rw [qav];omega) fun x2'' h' h1 h2 h3=>k x2'' h' (fun j hj=>(h1 j hj).trans (qao (Ne.symm hj))) (h2.trans (qaI ..)) (by rw [h3,List.flatMap_cons,List.append_assoc])
  rw [qaM,zbc]
  generalize zaJ (fun x sd=>do let sd1<-zaX 2 x sd;zaR sd1) (os.map zcJ)=rest at ih ⊢
  have f:=zaw (show (xs.map D.int).length+(o.1.map D.int).length<=1000 by rw [qaH,qaH];omega)
  simp only [qaH] at f
  simp only [zaR]
  ac_nf0
  simp only [zaq,zed e,zap,qaH,f,ziw, <-List.map_append]
  exact ih _
theorem zq2 {d:D} {os:List (List Int×Int)} {m:Int} (hd:zeG d=pure (os.map zcJ)) (m0:0<=m) (m1:m<=60) (hl:(os.flatMap (·.1)).length<=1000) (b: ∀ o∈os, ∀ x∈o.1,0<=x/\x<m):Ev (F_14 [d]) (tI (zdc (os.flatMap (·.1)))):=by
 refine .of_wp fun h=> ?_
 rw [d_14]
 simp only [G_14]
 ac_nf0
 simp only [hd,zap]
 refine ziN os (xs:=[]) (by simp) (by simpa using hl) fun x2 h' h1 h2 h3=> ?_
 ac_nf0
 have bb: ∀ x∈os.flatMap (·.1),0<=x/\x<m:=fun x hx=>by
  obtain ⟨o,ho,hx⟩:=List.mem_flatMap.mp hx
  exact b o ho x hx
 refine zgF (by simpa using h3) (zil m0 m1 bb) (by omega) ?_
 ac_nf0
 refine ⟨trivial,⟨[.lst ((os.flatMap (·.1)).map D.int)],List.ext_getElem? fun j=> ?_⟩⟩
 by_cases hj:j=h.length
 ·subst hj
  rw [h3]
  simp
 ·rw [h1 j hj]
  by_cases hlt:j<h.length
  ·rw [qad hlt,qad hlt]
  ·rw [List.getElem?_eq_none (by simp;omega),List.getElem?_eq_none (by simp;omega)]
theorem zgo {os:List (List Int×Int)} {n:Nat} (h: ∀ o∈os,o.1.length<=n):(os.flatMap (·.1)).length<=os.length*n:=by
 induction os with
 | nil=>simp
 | cons o r ih=>
  rw [List.flatMap_cons,qav,qaE,Nat.succ_mul]
  have a1:=h o qau
  have a2:=ih fun x hx=>h x (qan _ hx)
  omega
theorem zqY (s:Stk m os) {d:D} {os':List (List Int×Int)} (hd:zeG d=pure (os'.map zcJ)) (hl:os'.length<=12) (hs: ∀ o∈os',o∈os):Ev (F_15 [zaO m os,d]) (.bl (((zdc (os'.flatMap (·.1))).length:Int)==m)):=by
 have tg:=zq2 hd (m:=m) (by have:=s.m0;omega) (by have:=s.m1;omega) (by have:=zgo (os:=os') (n:=10) fun o ho=>s.olen o (hs o ho);omega) fun o ho=>s.bd o (hs o ho)
 refine .of_wp fun h=> ?_
 rw [d_15]
 simp only [G_15,zaO]
 ac_nf0
 refine tg.wp fun h' g=> ?_
 ac_nf0
 rw [zs2]
 ac_nf0
 exact ⟨trivial,g⟩
noncomputable def zmp (t:Int) (o:List Int×Int):Bool:=o.1.any (· == t)
noncomputable def zbW (m:Int) (os:List (List Int×Int)):List Int:=((List.range m.toNat).map fun (k:Nat)=>(k:Int)).filter fun t=>(os.filter (zmp t)).isEmpty
theorem zoe {m:Int} {os:List (List Int×Int)} (m0:1<=m) (m1:m<=10) (hl:os.length<=12) (h: ∀ o∈os,Go m o):Stk m os:=
 ⟨m0,m1,hl,fun o ho=>(h o ho).1,fun o ho=>(h o ho).2.1,fun o ho=>(h o ho).2.2.1,fun o ho=>(h o ho).2.2.2⟩
theorem zqt {fi:FA} {src:List (Option Nat)} {sd:Sd} {t:Int} (hi:fi sd=pure (os.map zcJ)) (hl:os.length<=1000) (eb:zas src sd=[none,some (.int t)]):zaP fi (zaX 0) zbJ zbF src sd=pure (.lst ((os.filter (zmp t)).map zcJ)):=by
 rw [<- zaQ]
 refine zbi hi hl fun o ho=> ?_
 rw [eb]
 simp only [zbE,zbJ,zbF]
 ac_nf0
 rw [ziH]
 ac_nf0
 unfold zmp
 split<;>rfl
theorem zk1 {fi:FA} {tc:FT} {src:List (Option Nat)} {sd:Sd} {x:Option D} (hi:fi sd=pure (zdh 0 m.toNat)) (m1:m<=1000) (eb:zas src sd=[none,x]) (hc: ∀ t:Int,tc [some (.int t),x]=pure ((os.filter (zmp t)).isEmpty)):zaP fi (zaX 0) tc (zaf 0) src sd=pure (.lst ((zbW m os).map D.int)):=by
 unfold zbW
 rw [<- zaQ]
 refine zbi (by rw [hi,zcy]) (by simp;omega) fun t ht=> ?_
 rw [eb]
 simp only [zbE]
 ac_nf0
 rw [hc]
 ac_nf0
 split<;>rfl
theorem zpZ:dIx (zaO m os) (.int 1)=pure (.tup (os.map zcJ)):=rfl
theorem ztp:dIx (zaO m os) (.int 0)=pure (.int m):=rfl
theorem zmO (s:Stk m os) {a:Nat} {p:Int}:(zbW m (os.take a++[(zbW m os,p)]++os.drop a)).isEmpty=true:=by
 rw [List.isEmpty_iff]
 unfold zbW
 rw [List.filter_eq_nil_iff]
 intro t ht
 rw [List.isEmpty_iff]
 intro z
 by_cases c:(os.filter (zmp t)).isEmpty=true
 ·have h1:t∈zbW m os:=List.mem_filter.mpr ⟨ht,c⟩
  have h2:(zbW m os,p)∈(os.take a++[(zbW m os,p)]++os.drop a).filter (zmp t):=List.mem_filter.mpr ⟨by simp,by simpa [zmp] using h1⟩
  unfold zbW at h2
  rw [z] at h2
  cases h2
 ·rw [List.isEmpty_iff] at c
  obtain ⟨o,ho⟩:=List.exists_mem_of_ne_nil _ c
  obtain ⟨h1,h2⟩:=List.mem_filter.mp ho
  have h3:o∈os.take a++os.drop a:=by rw [qam];exact h1
  have h4:o∈(os.take a++[(zbW m os,p)]++os.drop a).filter (zmp t):=List.mem_filter.mpr ⟨by
    rcases qaK.mp h3 with w | w
    · simp [w]
    · simp [w],h2⟩
  unfold zbW at h4
  rw [z] at h4
  cases h4
theorem zp0 {h:Hh} {b:Nat} {mt mo:Int} {P:D->Hh->Prop} (q:Bx b h) (t0:1<=mt) (t1:mt<=10) (o0:1<=mo) (o1:mo<=12) (k: ∀ (m:Int) (os:List (List Int×Int)) h',Bx b h'->Stk m os->(zbW m os).isEmpty=true->(os.length:Int)<=mo->m<=mt->P (zaO m os) h'):wp (F_29 [.cel b,.int mt,.int mo]) h P:=by
 rw [d_29]
 simp only [G_29]
 ac_nf0
 refine zm1 q t0 t1 (by omega) (by omega) fun m os h2 q2 m0 m1 ol ho=> ?_
 have s:=zoe m0 (by omega) (by omega) ho
 have ec:zaP (zkd (zab (zaf 3) zak)) (zaX 0) zcF zdI [none,some 4] [some (.cel b),some (.int mt),some (.int mo),some (.int m),some (.tup (os.map zcJ)),none,none]=pure (.lst ((zbW m os).map D.int)):=by
  refine zk1 (x:=some (.tup (os.map zcJ))) ?_ (by omega) rfl fun t=> ?_
  ·ac_nf0
   exact zcN (by omega) (by omega)
  ·have eo:zaP (iSq (zaf 1)) (zaX 0) zbJ zbF [none,some 0] [some (.int t),some (.tup (os.map zcJ))]=pure (.lst ((os.filter (zmp t)).map zcJ)):=zqt rfl (by omega) rfl
   simp only [zcF]
   ac_nf0
   rw [eo]
   ac_nf0
   rw [zmw]
   ac_nf0
 simp only [zaO]
 ac_nf0
 rw [ec]
 ac_nf0
 refine zbb q2 (by omega) (by omega) fun a h3 a0 a1 x3=> ?_
 have en:=znA (zbW m os)
 unfold tI at en
 ac_nf0
 rw [en]
 ac_nf0
 cases hf:(zbW m os).isEmpty with
 | true=>
  ac_nf0
  exact k m os h3 x3.1 s hf (by omega) m1
 | false=>
  ac_nf0
  refine zbb x3.1 (by decide) (by decide) fun t h4 u0 u1 x4=> ?_
  have f1:=zaw (show (List.take a.toNat (os.map zcJ)).length+1<=1000 by simp;omega)
  have f2:=zaw (show (List.take a.toNat (os.map zcJ)).length+1+(List.drop a.toNat (os.map zcJ)).length<=1000 by simp;omega)
  ac_nf0
  simp only [ziP _ a0,ziL _ a0,f1,f2]
  ac_nf0
  have hs:Stk m (os.take a.toNat++[(zbW m os,1+t)]++os.drop a.toNat):=by
   refine zoe m0 (by omega) (by simp;omega) fun o hmem=> ?_
   have hm:o∈os\/o=(zbW m os,1+t):=by
    simp only [qaK,List.mem_singleton] at hmem
    rcases hmem with (w | w) | w
    ·exact .inl (List.mem_of_mem_take w)
    ·exact .inr w
    ·exact .inl (List.mem_of_mem_drop w)
   rcases hm with w | rfl
   ·exact ho o w
   ·refine ⟨(zcV _).filter _,fun x hx=> ?_,fun z=> ?_,by show (0:Int)<1+t;omega⟩
    ·have:=zcW x (List.mem_filter.mp hx).1
     omega
    ·have z:zbW m os=[]:=z
     rw [z] at hf
     cases hf
  have hk:=k _ _ h4 x4.1 hs (zmO s) (by simp;omega) m1
  simp only [zaO,List.map_append,qaM,List.map_nil,List.map_take,List.map_drop,zcJ,tI] at hk
  simpa using hk
theorem zey {d:D} (k:kn d=true):F_8 [d]=pure (.bl (isI d)):=by
 rw [d_8]
 simp only [G_8,zck,zmg,zn1,zaM,pure_bind,bind_assoc,zmb k,zot k,zcZ,zkI]
 cases d<;>simp [isI]
theorem zgV {m:Int} {x0:Option D}: ∀ {ds:List D} {l:Int} {x3:Option D},(∀ d∈ds,kn d=true)->
  (zbn m l ds=true-> ∃ sd',zaJ (fun x sd=>do let sd1<-zaX 3 x sd;za0 sd1) ds [x0,some (.int m),some (.int l),x3]=pure (.nx sd'))/\
  (zbn m l ds=false->zaJ (fun x sd=>do let sd1<-zaX 3 x sd;za0 sd1) ds [x0,some (.int m),some (.int l),x3]=pure (.rt (.bl false)))
 | [],l,x3,_=>⟨fun _=>⟨_,rfl⟩,fun h=>by simp [zbn] at h⟩
 | d::r,l,x3,hk=>by
  have kd:=hk d qau
  have step: ∀ {i:Int},d= .int i->(do let sd1<-zaX 3 d [x0,some (.int m),some (.int l),x3];za0 sd1)=if (decide (l<=i) && decide (i<m))=true then pure (.nx [x0,some (.int m),some (.int (i+1)),some (.int i)]) else pure (.rt (.bl false)):=by
   intro i e
   subst e
   simp only [za0,zdi,List.set,pure_bind,bind_assoc,zaN,zij,zqD,ziO,ziK,zbC,zaL,zbe,za5,zaM,zhT,zey (show kn (.int i)=true from rfl),zcZ,isI,zfI,zqN,ztq,zck,zgj,ze5]
   by_cases h1:l<=i
   ·by_cases h2:i<m
    ·have h1': ¬i<l:=by omega
     have h2': ¬m<=i:=by omega
     simp [h1,h2,h1',h2']
    ·have h1': ¬i<l:=by omega
     have h2':m<=i:=by omega
     simp [h1,h2,h1',h2']
   ·have h1':i<l:=by omega
    simp [h1,h1']
  by_cases hi:isI d=true
  ·obtain ⟨i,e⟩: ∃ i,d= .int i:=by cases d<;>simp [isI] at hi;exact ⟨_,rfl⟩
   have s1:=step e
   subst e
   have ih:=zgV (m:=m) (x0:=x0) (ds:=r) (l:=i+1) (x3:=some (.int i)) fun y hy=>hk y (qan _ hy)
   rw [zbc,s1]
   by_cases c:(decide (l<=i) && decide (i<m))=true
   ·have er:zbn m l (.int i::r)=zbn m (i+1) r:=by rw [zbn,c];simp
    rw [er]
    simp only [c,if_true,pure_bind]
    exact ih
   ·have er:zbn m l (.int i::r)=false:=by rw [zbn,Bool.eq_false_iff.mpr c];simp
    rw [er]
    simp only [Bool.eq_false_iff.mpr c,if_false,pure_bind,qax]
    simp
  ·have hi':isI d=false:=Bool.eq_false_iff.mpr hi
   have er:zbn m l (d::r)=false:=by cases d<;>simp [isI] at hi'<;>rfl
   rw [er,zbc]
   refine ⟨fun h=>(by cases h),fun _=> ?_⟩
   simp only [za0,zdi,List.set,pure_bind,bind_assoc,zaN,zij,zqD,ziO,ziK,zbC,zaL,zbe,za5,zaM,zhT,zey kd,zcZ,hi',zck,zgj,ze5]
   simp
theorem zkZ {d:D} {m:Int} (k:kn d=true) (hk: ∀ ds,d= .tup ds-> ∀ x∈ds,kn x=true):F_9 [d,.int m]=pure (.bl (match d with | .tup ds=>zbn m 0 ds | _=>false)):=by
 rw [d_9]
 simp only [G_9,zaN,zij,ziO,ziK,zn1,zaM,pure_bind,bind_assoc,zou k,zcZ]
 cases d with
 | tup ds=>
  simp only [isT,Bool.not_true,qax,if_false,ze5,pure_bind,zgP,zaN,zbT,zgj,List.set,zhv,zsb,zaM,zrP,bind_assoc]
  have:=zgV (m:=m) (x0:=some (.tup ds)) (ds:=ds) (l:=0) (x3:=none) (hk ds rfl)
  cases c:zbn m 0 ds with
  | true=>
   obtain ⟨sd',e⟩:=this.1 c
   rw [e]
   simp
  | false=>
   rw [this.2 c]
   simp
 | _=>simp [isT]
theorem zos (s:Stk m os) {d:D} (g:gk d):F_10 [zaO m os,d]=pure (.bl (zik os.length d)):=by
 rw [d_10]
 simp only [G_10,zaO]
 ac_nf0
 rw [zkZ g.1 fun ds e=>(g.2 ds e).2]
 ac_nf0
 cases d<;>rfl
theorem zpx (s:Stk m os) {d:D} (g:gk d):F_12 [zaO m os,d]=if zik os.length d=true then pure .non else zfw "NoCover":=by
 rw [d_12]
 simp only [G_12]
 ac_nf0
 rw [zos s g]
 ac_nf0
 cases zik os.length d
 ·simp
 ·simp [zri]
theorem zhg (s:Stk m os) {ls:List Int} (hu:ls.Pairwise (· < ·)) (b: ∀ x∈ls,0<=x/\x<os.length):F_13 [zaO m os,tI ls]=pure (.lst ((za4 os ls).map zcJ)):=by
 have hl:=zfs (m:=os.length) (by omega) hu b
 have hls:ls.length<=12:=by have:=s.len;omega
 have hp:zik os.length (tI ls)=true:=zbz.mpr ⟨hu,b⟩
 rw [d_13]
 simp only [G_13]
 ac_nf0
 have e:=zpx s (d:=tI ls) (zpI (by omega))
 rw [hp,qa4 rfl] at e
 unfold tI at e
 rw [e]
 ac_nf0
 rw [zeT (ds:=ls.map D.int) (k:=fun d=>match d with | .int i=>zcJ (os.getD i.toNat ([],0)) | d=>d) rfl (by rw [qaH];omega) ?_]
 ·ac_nf0
  unfold za4
  rw [qaT,qaT]
  rfl
 ·intro x hx
  obtain ⟨i,hi,rfl⟩:=qaU.mp hx
  have eb:zas [none,some 0] [some (zaO m os),some (D.tup (ls.map D.int))]=[none,some (zaO m os)]:=rfl
  rw [eb]
  simp only [zbE,zdC,zaO]
  ac_nf0
  rw [zgp (b i hi).1 (b i hi).2]
  ac_nf0
def Lt (os:List (List Int×Int)) (ls:List Int):Prop:=ls.Pairwise (· < ·)/\ ∀ x∈ls,0<=x/\x<os.length
theorem Lt.sub {ls ks:List Int} (h:Lt os ls) (s:ks.Sublist ls):Lt os ks:=⟨h.1.sublist s,fun x hx=>h.2 x (s.subset hx)⟩
theorem Lt.lot {ls:List Int} (h:Lt os ls):zik os.length (tI ls)=true:=zbz.mpr h
theorem Lt.len {ls:List Int} (h:Lt os ls) (s:Stk m os):ls.length<=12:=by
 have:=zfs (m:=os.length) (by omega) h.1 h.2
 have:=s.len
 omega
theorem zhK {s0:Option D} {d:D} {p:Nat->Bool}: ∀ (r j:Nat) (x3:Option D),(∀ t:Nat,t<j+r->dIn (.int (t:Int)) d=pure (.bl (p t)))->
  ∃ y3,zaJ (fun x sd=>do let sd1<-zaX 3 x sd;zcD sd1) (zdh j r) [s0,some d,some (.int (bv p j)),x3]=pure (.nx [s0,some d,some (.int (bv p (j+r))),y3])
 | 0,j,x3,_=>⟨x3,rfl⟩
 | r+1,j,x3,hd=>by
  obtain ⟨y3,ih⟩:=zhK (s0:=s0) (d:=d) (p:=p) r (j+1) (some (.int j)) fun t ht=>hd t (by omega)
  refine ⟨y3,?_⟩
  have e1:((j+1:Nat):Int)=(j:Int)+1:=by omega
  have e2:j+1+r=j+(r+1):=by omega
  rw [e1,e2] at ih
  rw [znX,zbc, <-ih]
  generalize zaJ (fun x sd=>do let sd1<-zaX 3 x sd;zcD sd1) (zdh ((j:Int)+1) r)=rest
  simp only [zcD]
  ac_nf0
  rw [zsr (by decide) (by decide)]
  ac_nf0
  rw [hd j (by omega)]
  ac_nf0
  have eb:bv p (j+1)=bv p j*2+(if p j=true then 1 else 0):=rfl
  rw [eb]
  cases p j
  ·ac_nf0
   simp
  ·ac_nf0
   simp
theorem zlu {d:D} {p:Nat->Bool} (m0:0<=m) (m1:m<1000) (hd: ∀ t:Nat,t<m.toNat->dIn (.int (t:Int)) d=pure (.bl (p t))):F_20 [.int m,d]=pure (.int (bv p m.toNat)):=by
 obtain ⟨y3,el⟩:=zhK (s0:=some (.int m)) (d:=d) (p:=p) m.toNat 0 none fun t ht=>hd t (by omega)
 rw [Nat.zero_add] at el
 have e0:((bv p 0:Nat):Int)=0:=rfl
 rw [e0] at el
 rw [d_20]
 simp only [G_20]
 ac_nf0
 rw [zcN m0 m1]
 simp only [zdi,pure_bind,Int.natCast_zero] at el
 ac_nf0
 rw [el]
 ac_nf0
theorem zmz (m0:0<=m) (m1:m<1000):F_20 [.int m,.lst (zdh 0 m.toNat)]=pure (.int (bv (fun _=>true) m.toNat)):=by
 refine zlu m0 m1 fun t ht=> ?_
 rw [zcy,zk3]
 congr 2
 rw [List.any_eq_true]
 exact ⟨(t:Int),qaU.mpr ⟨t,List.mem_range.mpr ht,rfl⟩,by simp⟩
theorem zjX (s:Stk m os) (n9:os.length<=9) {r:Nat} (hr:r<os.length) {x3 x4 x5:Option D}: ∃ y3 y4 y5,za7 [some (zaO m os),some (.lst ((kl os.length r).map (trD m os))),some (.int (((os.length - (r+1):Nat)):Int)),x3,x4,x5]=pure (.nx [some (zaO m os),some (.lst ((kl os.length (r+1)).map (trD m os))),some (.int (((os.length - (r+1):Nat)):Int)),y3,y4,y5]):=by
 have m0:=s.m0
 have m1:=s.m1
 have hk:=zfv os.length r
 have hk9:2^r<=2^8:=Nat.pow_le_pow_right (by decide) (by omega)
 have hj:os.length - (r+1)<os.length:=by omega
 generalize hje:os.length - (r+1)=j at hj
 have ea:=zgp (os:=os) (i:=(j:Int)) (by omega) (by omega)
 rw [qaB] at ea
 have mo:os.getD j ([],0)∈os:=by simp [List.getD,hj]
 generalize ho:os.getD j ([],0)=o at ea mo
 have lo:=s.olen o mo
 have eb:=zlu (m:=m) (d:= .tup (o.1.map D.int)) (p:=fun t=>o.1.any (· == (t:Int))) (by omega) (by omega) fun t _=>ziH _ _
 have ec:zaP (iSq (zaf 1)) (zaX 0) (fun _=>pure true) zb7 [none,some 3,some 2,some 4] [some (zaO m os),some (.lst ((kl os.length r).map (trD m os))),some (.int (j:Int)),some (.tup [.tup (o.1.map D.int),.int o.2]),some (.int (bv (fun t=>o.1.any (· == (t:Int))) m.toNat)),x5]=pure (.lst (((kl os.length r).map fun ls=>(j:Int)::ls).map (trD m os))):=by
  rw [show ((kl os.length r).map fun ls=>(j:Int)::ls).map (trD m os)=(kl os.length r).filterMap fun ls=>some (trD m os ((j:Int)::ls)) by simp]
  refine zbi (g':=trD m os) rfl (by omega) fun ls hls=> ?_
  obtain ⟨h1,h2⟩:=(zem os.length r ls (by omega)).mp hls
  have ll:=zfs (m:=os.length) (by omega) h1 fun x hx=>by have:=h2 x hx;omega
  have f:=zaw (show 1+ls.length<=1000 by omega)
  have ebs:zas [none,some 3,some 2,some 4] [some (zaO m os),some (.lst ((kl os.length r).map (trD m os))),some (.int (j:Int)),some (.tup [.tup (o.1.map D.int),.int o.2]),some (.int (bv (fun t=>o.1.any (· == (t:Int))) m.toNat)),x5]=[none,some (.tup [.tup (o.1.map D.int),.int o.2]),some (.int (j:Int)),some (.int (bv (fun t=>o.1.any (· == (t:Int))) m.toNat))]:=rfl
  have e2: ∀ a b c:D,atI [a,b,c] 2=some c:=fun a b c=>rfl
  have eo:dOr (.int (bv (fun t=>o.1.any (· == (t:Int))) m.toNat)) (.int (bv (zoa os ls) m.toNat))=pure (.int (bv (zoa os ((j:Int)::ls)) m.toNat)):=by
   show (pure (D.int (Builtin.bitOr _ _)):M D)=_
   rw [zrz,zss]
   congr 3
   refine ziz fun i _=> ?_
   unfold zoa
   rw [List.any_cons,qaB,ho]
  have ep:pr os ((j:Int)::ls)=o.2+pr os ls:=by
   unfold pr
   rw [qaM,List.sum_cons,qaB,ho]
  rw [ebs]
  simp only [zbE,zb7,trD]
  ac_nf0
  simp only [e2,f]
  ac_nf0
  rw [eo,ep]
  ac_nf0
  rfl
 refine ⟨some (.tup [.tup (o.1.map D.int),.int o.2]),some (.int (bv (fun t=>o.1.any (· == (t:Int))) m.toNat)),some (.lst (((kl os.length r).map fun ls=>(j:Int)::ls).map (trD m os))),?_⟩
 have fk:(kl os.length (r+1)).length<=1000:=by
  rw [zfv]
  have:2^(r+1)<=2^9:=Nat.pow_le_pow_right (by decide) (by omega)
  omega
 have ek:kl os.length (r+1)=(kl os.length r).take 1++(kl os.length r).map (fun ls=>(j:Int)::ls)++(kl os.length r).drop 1:=by
  rw [<- hje]
  rfl
 have f1:=zaw (show (((kl os.length r).map (trD m os)).take 1).length+((kl os.length r).map fun ls=>(j:Int)::ls).length<=1000 by simp only [List.length_take,qaH,hk];omega)
 have f2:=zaw (show (((kl os.length r).map (trD m os)).take 1++((kl os.length r).map fun ls=>(j:Int)::ls).map (trD m os)).length+(((kl os.length r).map (trD m os)).drop 1).length<=1000 by simp only [qav,List.length_take,List.length_drop,qaH,hk];omega)
 have es: ∀ (ds:List D) (lo hi:Option Int),dSl (.lst ds) lo hi=pure (.lst (zeu ds lo hi)):=fun _ _ _=>rfl
 simp only [za7]
 ac_nf0
 rw [zpZ]
 ac_nf0
 rw [ea]
 ac_nf0
 rw [ztp]
 ac_nf0
 rw [eb]
 ac_nf0
 rw [ec]
 ac_nf0
 simp only [es,ziP _ (show (0:Int)<=1 by decide),ziL _ (show (0:Int)<=1 by decide)]
 ac_nf0
 rw [show (1:Int).toNat=1 from rfl]
 simp only [zoy,qaH,qav] at f1 f2 ⊢
 rw [f1]
 ac_nf0
 rw [f2]
 ac_nf0
 rw [ek,List.map_append,List.map_append,List.map_take,List.map_drop]
theorem zfL (s:Stk m os) (n9:os.length<=9): ∀ (k r:Nat) (x2 x3 x4 x5:Option D),k+r=os.length->
  ∃ y2 y3 y4 y5,zaJ (fun x sd=>do let sd1<-zaX 2 x sd;za7 sd1) (zj7 ((k:Int) - 1) k) [some (zaO m os),some (.lst ((kl os.length r).map (trD m os))),x2,x3,x4,x5]=pure (.nx [some (zaO m os),some (.lst ((kl os.length os.length).map (trD m os))),y2,y3,y4,y5])
 | 0,r,x2,x3,x4,x5,h=>⟨x2,x3,x4,x5,by
   have:r=os.length:=by omega
   subst this
   rfl⟩
 | k+1,r,x2,x3,x4,x5,h=>by
  obtain ⟨z3,z4,z5,eb⟩:=zjX s n9 (r:=r) (by omega) (x3:=x3) (x4:=x4) (x5:=x5)
  obtain ⟨y2,y3,y4,y5,ih⟩:=zfL s n9 k (r+1) (some (.int (k:Int))) z3 z4 z5 (by omega)
  refine ⟨y2,y3,y4,y5,?_⟩
  have e1:((k+1:Nat):Int) - 1=(k:Int):=by omega
  have e2:os.length - (r+1)=k:=by omega
  rw [e2] at eb
  rw [e1,znM,zbc, <-ih]
  show (do let o<-za7 [some (zaO m os),some (.lst ((kl os.length r).map (trD m os))),some (.int (k:Int)),x3,x4,x5];_:M Out)=_
  rw [eb]
  rfl
theorem zmM (s:Stk m os) (n9:os.length<=9):F_19 [zaO m os]=pure (.lst ((kl os.length os.length).map (trD m os))):=by
 obtain ⟨y2,y3,y4,y5,el⟩:=zfL s n9 os.length 0 none none none none (by omega)
 have e0:(kl os.length 0).map (trD m os)=[.tup [.int 0,.tup [],.int 0]]:=by
  show [trD m os []]=_
  unfold trD
  rw [zkE (p:=zoa os []) (fun _=>rfl)]
  rfl
 rw [e0] at el
 have er:zmt [.int ((os.length:Int) - 1),.int (-1),.int (-1)]=pure (zj7 ((os.length:Int) - 1) os.length):=by
  show (if (-1000<=(os.length:Int) - 1/\(os.length:Int) - 1<1000/\(-1000:Int)<= -1/\(-1:Int)<1000)/\(-1:Int)= -1 then (pure (zj7 ((os.length:Int) - 1) ((os.length:Int) - 1 - -1).toNat):M (List D)) else M.bad)=_
  rw [qa4 ⟨⟨by omega,by omega,by omega,by omega⟩,rfl⟩]
  congr 2
  omega
 have ei: ∀ (fs:FA) (sd:Sd),zpP fs sd=(do let ds<-fs sd;zmt ds):=fun _ _=>rfl
 simp only [zdi,pure_bind] at el
 rw [d_19]
 simp only [G_19]
 ac_nf0
 simp only [ei]
 ac_nf0
 rw [zpZ]
 ac_nf0
 rw [er]
 ac_nf0
 rw [el]
 ac_nf0
noncomputable def zdu (m:Int) (os:List (List Int×Int)):List (Int×List Int):=((kl os.length os.length).filter (cvB m os)).map fun ls=>(pr os ls,ls)
noncomputable def zvp (m:Int) (os:List (List Int×Int)):Int×List Int:=(zdu m os).getD (zb3 (zdu m os)) (0,[])
theorem zdA (s:Stk m os) (n9:os.length<=9):F_18 [zaO m os]=pure (.lst ((zdu m os).map pD)):=by
 have m0:=s.m0
 have m1:=s.m1
 have hk:=zfv os.length os.length
 have hk9:2^os.length<=2^9:=Nat.pow_le_pow_right (by decide) n9
 have ec:zaP (iSq (zaA (zam 1 F_19) (zab (zaf 0) zak))) (zaX 0) zbv zbs [none,some 1] [some (zaO m os),some (.int (bv (fun _=>true) m.toNat))]=pure (.lst ((zdu m os).map pD)):=by
  unfold zdu
  rw [qaT, <-zaQ]
  refine zbi (g':=trD m os) ?_ (by omega) fun ls hls=> ?_
  ·ac_nf0
   rw [zmM s n9]
   ac_nf0
  ·have eb:zas [none,some 1] [some (zaO m os),some (.int (bv (fun _=>true) m.toNat))]=[none,some (.int (bv (fun _=>true) m.toNat))]:=rfl
   have e2: ∀ a b c:D,atI [a,b,c] 2=some c:=fun a b c=>rfl
   rw [eb]
   simp only [zbE,zbv,zbs,trD]
   ac_nf0
   simp only [e2]
   ac_nf0
   rw [zs2,znU]
   ac_nf0
   unfold cvB
   split<;>rfl
 have el:zdM (.int m)=pure (.lst (zdh 0 m.toNat)):=by
  show (if 0<=m/\m<1000 then _ else _)=_
  rw [qa4 ⟨by omega,by omega⟩]
 rw [d_18]
 simp only [G_18]
 ac_nf0
 rw [ztp]
 ac_nf0
 rw [el]
 ac_nf0
 rw [zmz (by omega) (by omega)]
 ac_nf0
 rw [ec]
 ac_nf0
theorem zmX (hf:(zbW m os).isEmpty=true) {t:Int} (t0:0<=t) (t1:t<m): ∃ o∈os,t∈o.1:=by
 rw [List.isEmpty_iff] at hf
 unfold zbW at hf
 rw [List.filter_eq_nil_iff] at hf
 have h1:=hf t (qaU.mpr ⟨t.toNat,List.mem_range.mpr (by omega),by omega⟩)
 rw [List.isEmpty_iff] at h1
 obtain ⟨o,ho⟩:=List.exists_mem_of_ne_nil _ h1
 obtain ⟨h2,h3⟩:=List.mem_filter.mp ho
 exact ⟨o,h2,by simpa [zmp] using h3⟩
theorem zlo (s:Stk m os) (hf:(zbW m os).isEmpty=true):zdu m os≠[]:=fun z=>by
 have h1:(List.range os.length).map (fun (k:Nat)=>(k:Int))∈(kl os.length os.length).filter (cvB m os):=by
  refine List.mem_filter.mpr ⟨(zem _ _ _ (qaV _)).mpr ⟨zcV _,fun y hy=>by have:=zcW y hy;omega⟩,zma.mpr fun t t0 t1=> ?_⟩
  obtain ⟨o,ho,hx⟩:=zmX hf t0 t1
  obtain ⟨j,hj,rfl⟩:=List.getElem_of_mem ho
  refine ⟨(j:Int),qaU.mpr ⟨j,List.mem_range.mpr hj,rfl⟩,?_⟩
  rw [qaB]
  simpa [List.getD,hj] using hx
 have h2:(pr os ((List.range os.length).map fun (k:Nat)=>(k:Int)),(List.range os.length).map fun (k:Nat)=>(k:Int))∈zdu m os:=qaU.mpr ⟨_,h1,rfl⟩
 rw [z] at h2
 cases h2
theorem zkC (s:Stk m os) {ls:List Int} (L:Lt os ls):(((zdc ((za4 os ls).flatMap (·.1))).length:Int)==m)=cvB m os ls:=by
 have m0:=s.m0
 rw [<- zl2 (by omega) (zeb _) fun x hx=>by
   obtain ⟨o,ho,hx⟩:=List.mem_flatMap.mp (zdB.mp hx)
   exact s.bd o (zcc L.2 o ho) x hx]
 rw [Bool.eq_iff_iff,beq_iff_eq,zma]
 constructor
 ·intro e t t0 t1
  have h1:t∈zdc ((za4 os ls).flatMap (·.1)):=by
   rw [e]
   exact qaU.mpr ⟨t.toNat,List.mem_range.mpr (by omega),by omega⟩
  obtain ⟨o,ho,hx⟩:=List.mem_flatMap.mp (zdB.mp h1)
  obtain ⟨i,hi,rfl⟩:=qaU.mp ho
  exact ⟨i,hi,hx⟩
 ·intro h
  refine zst (zeb _) (zcV _) fun k=> ?_
  rw [zdB]
  constructor
  ·intro hk
   obtain ⟨o,ho,hx⟩:=List.mem_flatMap.mp hk
   have:=s.bd o (zcc L.2 o ho) k hx
   exact qaU.mpr ⟨k.toNat,List.mem_range.mpr (by omega),by omega⟩
  ·intro hk
   have:=zcW k hk
   obtain ⟨i,hi,hx⟩:=h k this.1 (by omega)
   exact List.mem_flatMap.mpr ⟨_,qaU.mpr ⟨i,hi,rfl⟩,hx⟩
theorem ziD (s:Stk m os) {ls:List Int} (L:Lt os ls):F_11 [zaO m os,tI ls]=pure (.int (pr os ls)):=by
 have ll:=L.len s
 have e2:=zhg s L.1 L.2
 have h3:(za4 os ls).length=ls.length:=by unfold za4;simp
 have ec:zaP (iSq (zaA (zam 2 F_13) (zab (zaf 0) (zab (zaf 1) zak)))) (zaX 0) (fun _=>pure true) zcT [none] [some (zaO m os),some (tI ls)]=pure (.lst (((za4 os ls).map (·.2)).map D.int)):=by
  rw [show ((za4 os ls).map (·.2)).map D.int=(za4 os ls).filterMap fun o=>some (.int o.2) by simp]
  refine zbi (g':=zcJ) ?_ (by omega) fun o _=> ?_
  ·simp only [tI] at e2
   ac_nf0
   rw [e2]
   ac_nf0
  ·have eb:zas [none] [some (zaO m os),some (tI ls)]=[none]:=rfl
   rw [eb]
   simp only [zbE,zcT]
   ac_nf0
 rw [d_11]
 simp only [G_11,zck,zbC,zaL,zbe]
 rw [ec]
 simp only [pure_bind]
 rw [zpc]
 unfold pr za4
 rw [qaT]
 rfl
theorem zgZ {d:D} (k:kn d=true):F_31 [d]=pure (.bl (isI d)):=by
 rw [d_31]
 simp only [G_31,zck,zmg,zn1,zaM,pure_bind,bind_assoc,zmb k,zot k,zcZ,zkI]
 cases d<;>simp [isI]
theorem zhU {sd:Sd} {ds:List D} {fi:FA} {E1:FE} (hE:E1=zaA (zam 1 F_31) (zab (zaf 0) zak)) (hi:fi sd=pure ds) (hl:ds.length<=1000) (hk: ∀ x∈ds,kn x=true):zaP fi (zaX 0) (fun _=>pure true) E1 [none] sd=pure (.lst ((ds.map isI).map D.bl)):=by
 rw [zeT (ds:=ds) (k:=fun d=> .bl (isI d)) hi hl ?_]
 ·rw [qaT];rfl
 ·intro x hx
  have eb:zas [none] sd=[none]:=rfl
  rw [eb,hE]
  simp only [zbE]
  ac_nf0
  rw [zgZ (hk x hx)]
  ac_nf0
theorem zp9 (s:Stk m os) {d:D} (g:gk d):F_34 [zaO m os,d]=pure (.bl (zik os.length d)):=by
 rw [d_34]
 simp only [G_34]
 ac_nf0
 rw [zou g.1]
 ac_nf0
 cases d with
 | tup ds=>
  obtain ⟨hl,hk⟩:=g.2 ds rfl
  simp only [isT,Bool.not_true,qax,if_false,zhU (E1:=zcQ) (fi:=iSq (zaf 1)) (sd:=[some (zaO m os),some (D.tup ds)]) (ds:=ds) rfl rfl (by omega) hk,pure_bind,zkA,zcZ]
  cases ha:(ds.map isI).all id with
  | false=>
   simp
   have:zbn os.length 0 ds=false:=by
    cases hp:zbn os.length 0 ds with
    | false=>rfl
    | true=>
     have:=zgr hp
     rw [List.all_map] at ha
     rw [show (ds.all (id∘isI))=ds.all isI from rfl,this] at ha
     cases ha
   simp [zik,this]
  | true=>
   have hi:ds.all isI=true:=by rw [List.all_map] at ha;exact ha
   obtain ⟨xs,rfl⟩:=zin hi
   rw [qaH] at hl
   simp only [Bool.not_true,qax,if_false,pure_bind,zgP]
   ac_nf0
   first | rw [zok,zeN hl] | rw [zeN hl]
   ac_nf0
   rw [zhP]
   ac_nf0
   have e2:zaP (iSq (zaf 1)) (zaX 0) (fun _=>pure true) zbS [none,some 0] [some (zaO m os),some (D.tup (xs.map D.int))]=pure (.lst ((xs.map fun (i:Int)=>decide (0<=i) && decide (i<(os.length:Int))).map D.bl)):=by
    rw [zeT (ds:=xs.map D.int) (k:=fun d=>match d with | .int i=> .bl (decide (0<=i) && decide (i<(os.length:Int))) | d=>d) rfl (by rw [qaH];omega) ?_]
    ·rw [qaT,qaT];rfl
    ·intro x hx
     obtain ⟨i,hi,rfl⟩:=qaU.mp hx
     have eb:zas [none,some 0] [some (zaO m os),some (D.tup (xs.map D.int))]=[none,some (zaO m os)]:=rfl
     rw [eb]
     simp only [zbE,zbS,zaO]
     ac_nf0
     simp only [zgJ]
     ac_nf0
     simp only [zu2,zqN]
     ac_nf0
     by_cases h0:0<=i<;>simp [h0,zgJ]
   by_cases hu:xs.Pairwise (· < ·)
   ·rw [zkR hu]
    simp only [beq_self_eq_true,if_true,e2,pure_bind,zkA]
    ac_nf0
    have:((xs.map fun (i:Int)=>decide (0<=i) && decide (i<(os.length:Int))).all id)=zbn os.length 0 (xs.map D.int):=by
     rw [Bool.eq_iff_iff,zbz,List.all_map,List.all_eq_true]
     constructor
     ·intro h
      exact ⟨hu,fun x hx=>by have:=h x hx;simpa using this⟩
     ·rintro ⟨_,h⟩ x hx
      have:=h x hx
      simpa using this
    rw [this]
    rfl
   ·have hne:(xs==zdc xs)=false:=by
     cases h:(xs==zdc xs) with
     | false=>rfl
     | true=>
      have e:=eq_of_beq h
      exact absurd (e▸zeb xs) hu
    have hp:zbn os.length 0 (xs.map D.int)=false:=by
     cases h:zbn os.length 0 (xs.map D.int) with
     | false=>rfl
     | true=>exact absurd (zbz.mp h).1 hu
    simp only [hne,qax,if_false]
    ac_nf0
    simp [zik,hp]
 | _=>simp [isT,zik]
noncomputable def cvI (m:Int) (os:List (List Int×Int)) (ls:List Int):Bool:=((zdc ((za4 os ls).flatMap (·.1))).length:Int)==m
noncomputable def zjZ (m:Int) (os:List (List Int×Int)) (d:D):Bool:=zik os.length d && (match d with | .tup ds=>(match zcl ds with | some ls=>cvI m os ls | none=>false) | _=>false)
theorem zlN {d:D} (h:zik os.length d=false):zjZ m os d=false:=by unfold zjZ;rw [h];rfl
theorem Lt.gk {ls:List Int} (h:Lt os ls) (s:Stk m os):gk (tI ls):=zpI (by have:=h.len s;omega)
theorem zdQ {ls:List Int} (h:Lt os ls):zjZ m os (tI ls)=cvI m os ls:=by
 unfold zjZ
 rw [h.lot]
 unfold tI
 simp only [zcg,Bool.true_and]
theorem zjd (s:Stk m os) {d:D} (g:gk d):Ev (F_16 [zaO m os,d]) (.bl (zjZ m os d)):=by
 refine .of_wp fun h=> ?_
 rw [d_16]
 simp only [G_16]
 ac_nf0
 rw [zos s g]
 ac_nf0
 cases hp:zik os.length d with
 | false=>
  rw [zlN hp]
  simp only [qax,if_false]
  ac_nf0
  exact ⟨trivial,.refl⟩
 | true=>
  obtain ⟨ls,rfl,hu,b⟩:=zh7 hp
  have L:Lt os ls:=⟨hu,b⟩
  have e1:=zhg s hu b
  have hl:=L.len s
  have hol:(za4 os ls).length<=12:=by unfold za4;rw [qaH];exact hl
  have e2:=(zqY s (d:= .lst ((za4 os ls).map zcJ)) rfl hol (zcc b)).noX
  rw [zdQ L]
  simp only [if_true]
  ac_nf0
  unfold tI at e1
  rw [e1]
  ac_nf0
  refine e2.wp fun h' g'=> ?_
  ac_nf0
  first | exact ⟨trivial,g'⟩ | exact ⟨g',rfl⟩ | exact ⟨rfl,g'⟩
theorem zlH (s:Stk m os) {d:D} (g:gk d) (h:zjZ m os d=false):EvX (F_17 [zaO m os,d]) "NoCover":=by
 rw [d_17]
 simp only [G_17]
 ac_nf0
 refine Ev.bindX (zjd s g) ?_
 rw [h]
 ac_nf0
 exact .raise
theorem zjn (s:Stk m os) {d:D} (g:gk d) (h:zjZ m os d=true):Ev (F_17 [zaO m os,d]) .non:=by
 rw [d_17]
 simp only [G_17]
 ac_nf0
 refine Ev.bind (zjd s g) ?_
 rw [h]
 ac_nf0
 exact .pure
theorem zng {fi:FA} {src:List (Option Nat)} {sd:Sd} {n b:Nat} (hi:fi sd=pure (zdh 0 n)) (hn:n<=1000) (eb:zas src sd=[none,some (.int b)]):zaP fi (zaX 0) zbj zbm src sd=pure (.lst ((zdZ n b).map D.int)):=by
 unfold zdZ zfj
 rw [qaT, <-zaQ]
 refine zbi (g':=fun (k:Nat)=> .int (k:Int)) (by rw [hi,zcy,qaT];rfl) (by simpa using hn) fun i hi'=> ?_
 rw [eb]
 simp only [zbE,zbj,zbm]
 ac_nf0
 rw [zpi (by omega)]
 ac_nf0
 rw [zgg (by decide)]
 ac_nf0
 rw [zs2,qaB,zn2]
 ac_nf0
 split<;>rfl
theorem zfl {e:Nat} {s0 s1 s2 s3 s5 s6:Option D}: ∀ (ts:List Int) {h:Hh} {ks:List Int} {x7:Option D} {P:Out->Hh->Prop},h[e]? = some (.dic (zcK ks))->ks.length+ts.length<=1000->
  (∀ y7 h',h'[e]? = some (.dic (zcK (ts.foldl step_dedup ks)))->(∀ k,k≠e->h'[k]? = h[k]?)->h'.length=h.length->P (.nx [s0,s1,s2,s3,some (.cel e),s5,s6,y7]) h')->
  wp (zaJ (fun x sd=>do let sd1<-zaX 7 x sd;zbg sd1) (ts.map D.int) [s0,s1,s2,s3,some (.cel e),s5,s6,x7]) h P
 | [],h,ks,x7,P,e1,hl,k=>by
  rw [List.map_nil,zbG,zap]
  exact k x7 h e1 (fun _ _=>rfl) rfl
 | t::r,h,ks,x7,P,e1,hl,k=>by
  have hln:=(qac.mp e1).1
  rw [qaE] at hl
  have hd:(step_dedup ks t).length<=ks.length+1:=by
   unfold step_dedup
   split
   ·omega
   ·rw [qav];exact qaV _
  have ih:=fun (y7:Option D)=>zfl (e:=e) (s0:=s0) (s1:=s1) (s2:=s2) (s3:=s3) (s5:=s5) (s6:=s6) r (h:=h.set e (.dic (zcK (step_dedup ks t)))) (ks:=step_dedup ks t) (x7:=y7) (P:=P) (qai hln) (by omega)
   fun y7 h' h1 h2 h3=>k y7 h' h1 (fun j hj=>(h2 j hj).trans (qao (Ne.symm hj))) (h3.trans (qaI ..))
  rw [qaM,zbc]
  generalize zaJ (fun x sd=>do let sd1<-zaX 7 x sd;zbg sd1) (r.map D.int)=rest at ih ⊢
  have f:=zaw (show (zcK ks).length+1<=1000 by unfold zcK;rw [qaH];omega)
  simp only [zbg]
  ac_nf0
  simp only [zta]
  ac_nf0
  simp only [zsz,zaq,zkT e1,zap,f,zqq,zns]
  exact ih _
noncomputable def flt (os:List (List Int×Int)) (ls:List Int):List Int:=(za4 os ls).flatMap (·.1)
theorem zfC (s:Stk m os) {e:Nat} {s1 s2 s3:Option D}: ∀ (ls:List Int) {h:Hh} {ks:List Int} {p:Int} {x6 x7:Option D} {P:Out->Hh->Prop},(∀ x∈ls,0<=x/\x<os.length)->h[e]? = some (.dic (zcK ks))->ks.length+(flt os ls).length<=1000->
  (∀ y6 y7 h',h'[e]? = some (.dic (zcK ((flt os ls).foldl step_dedup ks)))->(∀ k,k≠e->h'[k]? = h[k]?)->h'.length=h.length->P (.nx [some (zaO m os),s1,s2,s3,some (.cel e),some (.int (p+pr os ls)),y6,y7]) h')->
  wp (zaJ (fun x sd=>do let sd1<-zaX 6 x sd;zbk sd1) (ls.map D.int) [some (zaO m os),s1,s2,s3,some (.cel e),some (.int p),x6,x7]) h P
 | [],h,ks,p,x6,x7,P,hb,e1,hl,k=>by
  rw [List.map_nil,zbG,zap]
  have:=k x6 x7 h e1 (fun _ _=>rfl) rfl
  simpa [pr] using this
 | i::r,h,ks,p,x6,x7,P,hb,e1,hl,k=>by
  have ef:flt os (i::r)=(os.getD i.toNat ([],0)).1++flt os r:=by
   unfold flt za4
   rw [qaM,List.flatMap_cons]
  rw [ef,qav] at hl
  have dl: ∀ (ts ks:List Int),(ts.foldl step_dedup ks).length<=ks.length+ts.length:=by
   intro ts
   induction ts with
   | nil=>intro ks;exact qaV _
   | cons t ts ih=>
    intro ks
    rw [List.foldl_cons,qaE]
    have h1:=ih (step_dedup ks t)
    have hd:(step_dedup ks t).length<=ks.length+1:=by
     unfold step_dedup
     split
     ·omega
     ·rw [qav];exact qaV _
    omega
  have dl1:=dl (os.getD i.toNat ([],0)).1 ks
  have ih:=fun (h1:Hh) (y6 y7:Option D) (g1:h1[e]? = some (.dic (zcK ((os.getD i.toNat ([],0)).1.foldl step_dedup ks)))) (g2: ∀ k,k≠e->h1[k]? = h[k]?) (g3:h1.length=h.length)=>
   zfC s (e:=e) (s1:=s1) (s2:=s2) (s3:=s3) r (h:=h1) (ks:=(os.getD i.toNat ([],0)).1.foldl step_dedup ks) (p:=p+(os.getD i.toNat ([],0)).2) (x6:=y6) (x7:=y7) (P:=P) (fun x hx=>hb x (qan _ hx)) g1 (by omega)
   fun y6 y7 h' a1 a2 a3=>by
    have:=k y6 y7 h' (by rw [a1,ef,List.foldl_append]) (fun j hj=>(a2 j hj).trans (g2 j hj)) (a3.trans g3)
    have ep:p+pr os (i::r)=p+(os.getD i.toNat ([],0)).2+pr os r:=by
     unfold pr
     rw [qaM,List.sum_cons]
     omega
    rw [ep] at this
    exact this
  obtain ⟨i0,i1⟩:=hb i qau
  rw [qaM,zbc]
  generalize zaJ (fun x sd=>do let sd1<-zaX 6 x sd;zbk sd1) (r.map D.int)=rest at ih ⊢
  simp only [zbk]
  ac_nf0
  simp only [zpZ]
  ac_nf0
  rw [zgp i0 i1]
  ac_nf0
  refine zfl _ e1 (by omega) fun y7 h1 g1 g2 g3=> ?_
  ac_nf0
  exact ih h1 _ _ g1 g2 g3
noncomputable def zmq (m:Int) (os:List (List Int×Int)) (b:Nat):Option (Int×List Int):=if cvB m os (zdZ os.length b)=true then some (pr os (zdZ os.length b),zdZ os.length b) else none
noncomputable def zpL (m:Int) (os:List (List Int×Int)):List (Int×List Int):=(List.range (2^os.length)).filterMap (zmq m os)
theorem zd1 (s:Stk m os) {c:Nat}: ∀ (bs:List Nat) {h:Hh} {ps:List (Int×List Int)} {x2 x3 x4 x5 x6 x7:Option D} {P:Out->Hh->Prop},h[c]? = some (.lst (ps.map pD))->ps.length+bs.length<=1000->
  (∀ y2 y3 y4 y5 y6 y7 h',h'[c]? = some (.lst ((ps++bs.filterMap (zmq m os)).map pD))->Kp c h h'->P (.nx [some (zaO m os),some (.cel c),y2,y3,y4,y5,y6,y7]) h')->
  wp (zaJ (fun x sd=>do let sd1<-zaX 2 x sd;zbh sd1) (bs.map fun (b:Nat)=> .int (b:Int)) [some (zaO m os),some (.cel c),x2,x3,x4,x5,x6,x7]) h P
 | [],h,ps,x2,x3,x4,x5,x6,x7,P,e,hl,k=>by
  rw [List.map_nil,zbG,zap]
  have hln:=(qac.mp e).1
  exact k _ _ _ _ _ _ h (by simpa using e) ⟨by omega,fun _ _=>rfl⟩
 | b::r,h,ps,x2,x3,x4,x5,x6,x7,P,e,hl,k=>by
  have hln:=(qac.mp e).1
  rw [qaE] at hl
  have ol:=s.len
  have m0:=s.m0
  have L:Lt os (zdZ os.length b):=⟨zjk _ _,ziT _ _⟩
  have ll:=L.len s
  have ec:zaP (zkd (zab (zaA zeh (zab (cOp dIx (zaf 0) (cK (.int 1))) zak)) zak)) (zaX 0) zbj zbm [none,some 2] [some (zaO m os),some (.cel c),some (.int (b:Int)),x3,x4,x5,x6,x7]=pure (.lst ((zdZ os.length b).map D.int)):=by
   refine zng ?_ (by omega) rfl
   ac_nf0
   rw [zpZ]
   ac_nf0
   rw [zcN (by omega) (by omega),qaB]
  have hfl:(flt os (zdZ os.length b)).length<=144:=by
   have h3:(za4 os (zdZ os.length b)).length=(zdZ os.length b).length:=by unfold za4;simp
   have:=zgo (os:=za4 os (zdZ os.length b)) (n:=12) fun o ho=>by
    have:=s.olen o (zcc L.2 o ho)
    omega
   unfold flt
   omega
  have hcov:=zkC s L
  have ihN:=fun (h1:Hh) (y2 y3 y4 y5 y6 y7:Option D) (e1:h1[c]? = some (.lst (ps.map pD))) (kp:Kp c h h1) (hf:zmq m os b=none)=>zd1 s (c:=c) r (h:=h1) (ps:=ps) (x2:=y2) (x3:=y3) (x4:=y4) (x5:=y5) (x6:=y6) (x7:=y7) (P:=P) e1 (by omega)
   fun a2 a3 a4 a5 a6 a7 h' e' kp'=>k a2 a3 a4 a5 a6 a7 h' (by rw [e',qat,hf]) ⟨kp'.1,fun j hj=>(kp'.2 j hj).trans (kp.2 j hj)⟩
  have ihS:=fun (h1:Hh) (y2 y3 y4 y5 y6 y7:Option D) (p:Int×List Int) (e1:h1[c]? = some (.lst ((ps++[p]).map pD))) (kp:Kp c h h1) (hf:zmq m os b=some p)=>zd1 s (c:=c) r (h:=h1) (ps:=ps++[p]) (x2:=y2) (x3:=y3) (x4:=y4) (x5:=y5) (x6:=y6) (x7:=y7) (P:=P) e1 (by simp;omega)
   fun a2 a3 a4 a5 a6 a7 h' e' kp'=>k a2 a3 a4 a5 a6 a7 h' (by rw [e',qat,hf];simp) ⟨kp'.1,fun j hj=>(kp'.2 j hj).trans (kp.2 j hj)⟩
  rw [qaM,zbc]
  generalize zaJ (fun x sd=>do let sd1<-zaX 2 x sd;zbh sd1) (r.map fun (b:Nat)=> .int (b:Int))=rest at ihN ihS ⊢
  have f:=zaw (show ps.length+1<=1000 by omega)
  simp only [zbh]
  ac_nf0
  rw [ec]
  ac_nf0
  simp only [zo5]
  have e1:(h++[.dic []])[c]? = some (.lst (ps.map pD)):=by rw [qad hln];exact e
  have e2:(h++[.dic []])[h.length]? = some (.dic (zcK [])):=by simp [zcK]
  have kp1:Kp c h (h++[.dic []]):=⟨by simp;omega,fun j hj=>qad (by omega)⟩
  have hce:c<h.length:=hln
  clear hln
  generalize h.length=d at e2 hce ⊢
  generalize h++[.dic []]=h1 at e1 e2 kp1 ⊢
  ac_nf0
  refine zfC s (zdZ os.length b) (p:=0) L.2 e2 (by simp;omega) fun y6 y7 h2 g1 g2 g3=> ?_
  have e3:h2[c]? = some (.lst (ps.map pD)):=by rw [g2 c (by omega)];exact e1
  have kp2:Kp c h h2:=⟨by rw [g3];exact kp1.1,fun j hj=>by rw [g2 j (by omega)];exact kp1.2 j hj⟩
  have hl2:((zcK ((flt os (zdZ os.length b)).foldl step_dedup [])).length:Int)=((zdc (flt os (zdZ os.length b))).length:Int):=by
   unfold zcK
   rw [qaH,zkk]
  have hcov':(((zdc (flt os (zdZ os.length b))).length:Int)==m)=cvB m os (zdZ os.length b):=hcov
  ac_nf0
  simp only [zsE,zaq,zkT g1,zap,ztp,hl2]
  ac_nf0
  rw [zs2,hcov']
  ac_nf0
  by_cases hap:cvB m os (zdZ os.length b)=true
  ·have hf:zmq m os b=some (pr os (zdZ os.length b),zdZ os.length b):=by unfold zmq;rw [qa4 hap]
   rw [hap]
   ac_nf0
   simp only [zdW]
   ac_nf0
   simp only [zed e3,zap,zdl,zaq,qaH,f,ziw]
   have hc2:=(qac.mp e3).1
   have:=ihS (h2.set c (.lst ((ps++[(pr os (zdZ os.length b),zdZ os.length b)]).map pD))) (some (.int b)) (some (tI (zdZ os.length b))) (some (.cel d)) (some (.int (pr os (zdZ os.length b)))) y6 y7 _ (qai hc2) ⟨by rw [qaI];exact kp2.1,fun j hj=>(qao (by omega)).trans (kp2.2 j hj)⟩ hf
   simp only [List.map_append,qaM,List.map_nil,pD,tI] at this
   first | exact this | (rw [Int.zero_add];exact this)
  ·have hf:zmq m os b=none:=by unfold zmq;rw [qa5 hap]
   rw [Bool.eq_false_iff.mpr hap]
   ac_nf0
   exact ihN _ _ _ _ _ _ _ e3 kp2 hf
theorem zk0 (s:Stk m os): ∀ x,x∈zdu m os↔x∈zpL m os:=fun x=>by
 unfold zdu zpL
 rw [qaU,List.mem_filterMap]
 constructor
 ·rintro ⟨ls,hls,rfl⟩
  obtain ⟨h0,h3⟩:=List.mem_filter.mp hls
  obtain ⟨h1,h2⟩:=(zem os.length os.length ls (qaV _)).mp h0
  obtain ⟨b,hb1,hb2⟩:=zes os.length ls h1 (fun y hy=>by have:=h2 y hy;simpa using this)
  have hb2:zdZ os.length b=ls:=hb2
  refine ⟨b,List.mem_range.mpr hb1,?_⟩
  unfold zmq
  rw [hb2,qa4 h3]
 ·rintro ⟨b,hb,e⟩
  unfold zmq at e
  split at e
  ·rename_i h3
   cases e
   exact ⟨zdZ os.length b,List.mem_filter.mpr ⟨(zem os.length os.length _ (qaV _)).mpr ⟨zjk _ _,fun y hy=>by have:=ziT _ _ y hy;simpa using this⟩,h3⟩,rfl⟩
  ·cases e
noncomputable def zbp (m:Int) (os:List (List Int×Int)):List (Int×List Int):=TS.zdn pLt (zpL m os)
theorem zkl (s:Stk m os) (n9:os.length<=9):Ev (F_30 [zaO m os]) (.lst ((zbp m os).map pD)):=by
 have m0:=s.m0
 have hp:2^os.length<=512:=Nat.pow_le_pow_right (n:=2) (by decide) n9
 have hN:((1:Int)*2^((os.map zcJ).length:Int).toNat).toNat=2^os.length:=by
  rw [qaH,qaB,Int.one_mul]
  have:((2:Int)^os.length)=((2^os.length:Nat):Int):=by simp
  rw [this,qaB]
 have hN2:(0:Int)<=1*2^((os.map zcJ).length:Int).toNat/\(1:Int)*2^((os.map zcJ).length:Int).toNat<1000:=by
  rw [qaH,qaB,Int.one_mul]
  have:((2:Int)^os.length)=((2^os.length:Nat):Int):=by simp
  omega
 refine .of_wp fun h=> ?_
 rw [d_30,zaq]
 unfold G_30
 refine zet (show wp (do fits 0;zd9 []) h _ from ?_)
 rw [zaw (by decide),pure_bind,zg7]
 have e3:(h++[.lst []])[h.length]? = some (.lst (([]:List (Int×List Int)).map pD)):=by simp
 have kp:Kp h.length h (h++[.lst []]):=⟨by simp,fun j hj=>qad hj⟩
 generalize h++[.lst []]=h3 at e3 kp ⊢
 refine zkM (ds:=(List.range (2^os.length)).map fun (b:Nat)=> .int (b:Int)) ?_ ?_
 ·have e:=zqe (znz (zrp (a:=cK (.int 1)) (b:=zaA zeh (zab (cOp dIx (zaf 0) (cK (.int 1))) zak)) (sd:=[some (zaO m os),some (.cel h.length),none,none,none,none,none,none]) rfl rfl (zpG (m:=((os.map zcJ).length:Int)) (by omega) (by simp;omega))) (fs:=zak) rfl) (zcN hN2.1 hN2.2)
  rw [hN,zcy,qaT] at e
  exact e
 refine zd1 s _ (ps:=[]) e3 (by simp;omega) fun y2 y3 y4 y5 y6 y7 h4 e4 kp4=> ?_
 rw [List.nil_append] at e4
 have g4:Gro h h4:=Kp.gro ⟨kp4.1,fun j hj=>(kp4.2 j hj).trans (kp.2 j hj)⟩
 ac_nf0
 refine zjp e4 ?_
 ac_nf0
 first | exact ⟨g4,trivial⟩ | exact ⟨trivial,g4⟩ | exact ⟨rfl,g4⟩ | exact ⟨g4,rfl⟩
theorem znE (s:Stk m os) (hf:(zbW m os).isEmpty=true): ∃ r,zbp m os=zvp m os::r:=by
 have hne:zpL m os≠[]:=fun z=>by
  obtain ⟨x,hx⟩:=List.exists_mem_of_ne_nil _ (zlo s hf)
  rw [zk0 s x,z] at hx
  cases hx
 obtain ⟨r,hr⟩:=zfE hne
 exact ⟨r,by unfold zbp;rw [hr, <-zlm (zlo s hf) (zk0 s)];rfl⟩
theorem zob:zor (.int 10) (.int 39)=pure (.int (10^39)):=by
 unfold zor dII
 simp only
 rw [qa4 (by decide)]
 rfl
noncomputable def zti:List D:=[.non,.bl true,.bl false,.int (-1),.int 0,.int 1,.int 2,.str "",.str "0",.tup [],.tup [.int 0],.tup [.int 0,.int 1],.tup [.int 1,.int 0],.tup [.int 0,.int 0],.tup [.bl true],.lst [.int 0],.dct,.tup [.tup [.int 0]],.tup [.non],.int (10^39),.tup [.int 12],.tup [.int (-1)],.tup [.int 0,.str "1"],.lst [.int 0,.int 1],.tup [.int 0,.int 1,.int 2]]
theorem zsX: ∀ d∈zti,gk d:=by
 have h:zti.all gkB=true:=rfl
 intro d hd
 exact znZ (List.all_eq_true.mp h d hd)
theorem zs0 {b:Nat} {h:Hh} (q:Bx b h) {P:D->Hh->Prop} (k: ∀ d h',gk d->Ext b h h'->P d h'):wp (F_32 [.cel b]) h P:=by
 rw [d_32]
 simp only [G_32]
 ac_nf0
 rw [zob]
 ac_nf0
 refine zbb q (by decide) (by decide) fun t h2 t0 t1 x2=> ?_
 obtain ⟨d,ed,hd⟩:=zlw (xs:=zti) t0 t1
 unfold zti at ed
 ac_nf0
 rw [ed]
 ac_nf0
 exact k _ _ (zsX d hd) x2
theorem zpR (s:Stk m os) {h:Hh} {b:Nat} {ys:List Int} {P:D->Hh->Prop} (q:Bx b h) (hy:ys.length<=12) (k: ∀ d h',gk d->P d h'):wp (F_36 [.cel b,zaO m os,tI ys]) h P:=by
 have ol:=s.len
 rw [d_36]
 simp only [G_36]
 ac_nf0
 refine zbb q (by omega) (by omega) fun t h2 t0 t1 x2=> ?_
 ac_nf0
 refine zs0 x2.1 fun odd h3 go x3=> ?_
 have kw:=go.1
 ac_nf0
 rw [zpZ]
 ac_nf0
 have c1:=zfV (ys.map D.int) none (some t)
 have c2:=zfV (ys.map D.int) (some (t+1)) none
 have c3:=zfV (ys.map D.int) (some (-1)) none
 have c4:=zfV (ys.map D.int) (some t) none
 rw [qaH] at c1 c2 c3 c4
 have g1:=zaw (show (L3.zeu (ys.map D.int) none (some t)).length+(L3.zeu (ys.map D.int) (some (t+1)) none).length<=1000 by omega)
 have g2:=zaw (show ys.length+1<=1000 by omega)
 have g3:=zaw (show ys.length+(L3.zeu (ys.map D.int) (some (-1)) none).length<=1000 by omega)
 have g4:=zaw (show (L3.zeu (ys.map D.int) none (some t)).length+1<=1000 by omega)
 have g5:=zaw (show (L3.zeu (ys.map D.int) none (some t)).length+((L3.zeu (ys.map D.int) (some t) none).length+1)<=1000 by omega)
 have g6:=zaw (show (L3.zeu (ys.map D.int) none (some t)).length+1+(L3.zeu (ys.map D.int) (some t) none).length<=1000 by omega)
 have e1:=zjA (j:=(os.length:Int)) (by omega) (by omega)
 rw [qaB] at e1
 repeat (ac_nf0;simp only [g1,g2,g3,g4,g5,g6,e1,zpZ])
 ac_nf0
 refine zbb x3.1 (by decide) (by decide) fun v h4 v0 v1 x4=> ?_
 ac_nf0
 refine zks v0 (by simpa using v1) fun d hd=> ?_
 ac_nf0
 refine k d h4 ?_
 have ki: ∀ x∈ys.map D.int,kn x=true:=fun x hx=>by obtain ⟨i,_,rfl⟩:=qaU.mp hx;rfl
 have hl:(ys.map D.int).length<=12:=by rw [qaH];exact hy
 have kc: ∀ {lo hi:Option Int}, ∀ x∈L3.zeu (ys.map D.int) lo hi,kn x=true:=fun x hx=>ki x (zpB hx)
 have k1: ∀ {d:D},kn d=true-> ∀ x∈[d],kn x=true:=fun h x hx=>by
  rw [List.mem_singleton.mp hx]
  exact h
 have ka: ∀ {as bs:List D},(∀ x∈as,kn x=true)->(∀ x∈bs,kn x=true)-> ∀ x∈as++bs,kn x=true:=fun h1 h2 x hx=>(qaK.mp hx).elim (h1 x) (h2 x)
 simp only [qaP,qaF,or_false] at hd
 rcases hd with rfl | rfl | rfl | rfl | rfl | rfl | rfl | rfl | rfl | rfl | rfl | rfl
 ·exact gkT (by rw [qav];omega) (ka kc kc)
 ·exact gkT (by rw [qav,List.length_singleton];omega) (ka ki (k1 rfl))
 ·exact gkT (by rw [List.length_reverse];omega) fun x hx=>ki x (List.mem_reverse.mp hx)
 ·exact znZ rfl
 ·exact gkT (by rw [qav];omega) (ka ki kc)
 ·exact go
 ·exact gkT (by rw [qav,List.length_singleton];omega) (ka ki (k1 kw))
 ·refine gkT (by rw [qav,qaE];omega) (ka kc fun x hx=> ?_)
  rcases qaP.mp hx with rfl | z
  ·exact kw
  ·exact kc x z
 ·exact zpI (by simp;omega)
 ·exact gkT (by omega) ki
 ·exact znZ rfl
 ·exact gkT (by simp) (k1 rfl)
theorem zja (s:Stk m os) {s1:Option D}: ∀ (ls fs:List Int) (x3:Option D),(∀ x∈ls,0<=x/\x<os.length)->fs.length+ls.length*12<=500->
  ∃ y3,zaJ (fun x sd=>za1 (List.set sd 3 (some x))) (ls.map D.int) [some (zaO m os),s1,some (.lst (fs.map D.int)),x3]=pure (.nx [some (zaO m os),s1,some (.lst ((fs++(za4 os ls).flatMap (·.1)).map D.int)),y3])
 | [],fs,x3,_,_=>⟨x3,by simp [za4,zbG]⟩
 | x::r,fs,x3,hb,hl=>by
  have bx:=hb x qau
  have mo:os.getD x.toNat ([],0)∈os:=by
   have:x.toNat<os.length:=by omega
   simp [List.getD,this]
  have ol:=s.olen _ mo
  have m1:=s.m1
  simp only [qaE] at hl
  obtain ⟨y3,ih⟩:=zja s (s1:=s1) r (fs++(os.getD x.toNat ([],0)).1) (some (.int x)) (fun y hy=>hb y (qan _ hy)) (by rw [qav];omega)
  refine ⟨y3,?_⟩
  have ea:=zgp (os:=os) bx.1 bx.2
  have f:=zaw (show fs.length+(os.getD x.toNat ([],0)).1.length<=1000 by omega)
  rw [qaM,zbc]
  have eo:za4 os (x::r)=os.getD x.toNat ([],0)::za4 os r:=rfl
  rw [eo,List.flatMap_cons, <-List.append_assoc, <-ih]
  generalize zaJ (fun x sd=>za1 (List.set sd 3 (some x))) (r.map D.int)=rest
  simp only [za1]
  ac_nf0
  rw [zpZ]
  ac_nf0
  rw [ea]
  ac_nf0
  rw [f]
  ac_nf0
  rw [List.map_append]
theorem zoP (s:Stk m os) {ls:List Int} (h:Lt os ls): ∀ x∈zdc ((za4 os ls).flatMap (·.1)),0<=x/\x<m:=fun x hx=>by
 obtain ⟨o,ho,hx⟩:=List.mem_flatMap.mp (zdB.mp hx)
 exact s.bd o (zcc h.2 o ho) x hx
theorem zk2 (s:Stk m os) {d:D} (g:gk d):F_35 [zaO m os,d]=pure (.bl (zjZ m os d)):=by
 rw [d_35]
 simp only [G_35]
 ac_nf0
 rw [zp9 s g]
 ac_nf0
 cases hp:zik os.length d with
 | false=>
  rw [zlN hp]
  ac_nf0
 | true=>
  obtain ⟨ls,rfl,hu,b⟩:=zh7 hp
  have L:Lt os ls:=⟨hu,b⟩
  have ll:=L.len s
  have m0:=s.m0
  have m1:=s.m1
  obtain ⟨y3,e1⟩:=zja s (s1:=some (tI ls)) ls [] none b (by simp;omega)
  rw [List.nil_append,List.map_nil] at e1
  have hfl:((za4 os ls).flatMap (·.1)).length<=144:=by
   have h3:(za4 os ls).length=ls.length:=by unfold za4;simp
   have:=zgo (os:=za4 os ls) (n:=12) fun o ho=>by
    have:=s.olen o (zcc L.2 o ho)
    omega
   omega
  have hsl:((((za4 os ls).flatMap (·.1)).foldl step_dedup []).length)<64:=by
   have e:(zdc ((za4 os ls).flatMap (·.1))).length=(((za4 os ls).flatMap (·.1)).foldl step_dedup []).length:=(zaI _).length_eq
   have:=zfs (by omega) (zeb ((za4 os ls).flatMap (·.1))) (zoP s L)
   omega
  rw [zdQ L]
  simp only [tI] at e1
  ac_nf0
  rw [e1]
  ac_nf0
  rw [zhr rfl hsl (by omega)]
  ac_nf0
  rw [ztp]
  ac_nf0
  have el:zdM (.int m)=pure (.lst (((List.range m.toNat).map fun (k:Nat)=>(k:Int)).map D.int)):=by
   show (if 0<=m/\m<1000 then _ else _)=_
   rw [qa4 ⟨by omega,by omega⟩,zcy]
  rw [el]
  ac_nf0
  rw [zhP,zl2 (by omega) (zeb _) (zoP s L)]
  rfl
theorem znc:(zpL m os).Perm (zdu m os):=by
 have e:zpL m os=(((List.range (2^os.length)).map (zdZ os.length)).filter (cvB m os)).map fun ls=>(pr os ls,ls):=by
  unfold zpL
  rw [<- zaQ,List.filterMap_map]
  rfl
 rw [e]
 unfold zdu
 exact ((zkW os.length).filter _).map _
theorem zc7:(zbp m os).Perm (zdu m os):=(TS.zce _ _).trans znc
theorem zf7 (n9:os.length<=9):(zdu m os).length<=512:=by
 unfold zdu
 rw [qaH]
 refine qaS (List.length_filter_le _ _) ?_
 rw [zfv]
 exact Nat.pow_le_pow_right (n:=2) (by decide) n9
theorem zlL:zbp m os=TS.zdn pLt (zdu m os):=TS.zfU TS.zoL zc7 (TS.zc3 TS.zoL _)
theorem zh4 (n9:os.length<=9):(zbp m os).length<=512:=by
 rw [(zc7 (m:=m) (os:=os)).length_eq]
 exact zf7 n9
theorem zlO:(zdu m os).Nodup:=by
 unfold zdu
 have:=(zge os.length os.length (qaV _)).filter (cvB m os)
 unfold List.Nodup at this ⊢
 rw [List.pairwise_map]
 exact this.imp fun hne z=>hne (by injection z)
theorem zom:(zbp m os).Pairwise fun a b=>pLt a b=true:=by
 have h1:(zbp m os).Nodup:=(zc7 (m:=m) (os:=os)).nodup_iff.mpr zlO
 have h2:(zbp m os).Pairwise fun a b=>pLt b a=false:=TS.zc3 TS.zoL _
 refine (h1.and h2).imp fun {a b} ⟨h1,h2⟩=> ?_
 cases h3:pLt a b with
 | true=>rfl
 | false=>exact absurd (zgy h3 h2) h1
theorem zr4 (s:Stk m os) {q:Int×List Int} (h:q∈zdu m os):Lt os q.2/\cvI m os q.2=true/\q.1=pr os q.2:=by
 unfold zdu at h
 obtain ⟨ls,hl,rfl⟩:=qaU.mp h
 obtain ⟨h1,h2⟩:=List.mem_filter.mp hl
 have h3:=(zem os.length os.length ls (qaV _)).mp h1
 have L:Lt os ls:=⟨h3.1,fun y hy=>by have:=h3.2 y hy;simpa using this⟩
 exact ⟨L,(zkC s L).trans h2,rfl⟩
theorem zm5 (s:Stk m os) (n9:os.length<=9) {own:Int×List Int} {s1:Option D}:zaP (iSq (zaA (zam 1 fun ds=>noX (F_18 ds)) (zab (zaf 0) zak))) (zaX 0) zcA zcs [none,some 2] [some (zaO m os),s1,some (pD own)]=pure (.lst (((zdu m os).filter fun q=>pLt q own).map pD)):=by
 rw [<- zaQ]
 have hl:=zf7 (m:=m) n9
 refine zbi (g':=pD) ?_ (by omega) fun q _=> ?_
 ·ac_nf0
  rw [zdA s n9]
  ac_nf0
 ·have eb:zas [none,some 2] [some (zaO m os),s1,some (pD own)]=[none,some (pD own)]:=rfl
  rw [eb]
  simp only [zbE,zcA,zcs]
  ac_nf0
  rw [zo6]
  ac_nf0
  split<;>rfl
theorem znD (s:Stk m os) (n9:os.length<=9) {own:Int×List Int} {s1 s3:Option D}:zaP (iSq (zaA (zam 1 F_18) (zab (zaf 0) zak))) (zaX 0) zb0 zb9 [none,some 2] [some (zaO m os),s1,some (pD own),s3]=pure (.lst (((zdu m os).filter fun q=>pLt own q).map pD)):=by
 rw [<- zaQ]
 have hl:=zf7 (m:=m) n9
 refine zbi (g':=pD) ?_ (by omega) fun q _=> ?_
 ·ac_nf0
  rw [zdA s n9]
  ac_nf0
 ·have eb:zas [none,some 2] [some (zaO m os),s1,some (pD own),s3]=[none,some (pD own)]:=rfl
  rw [eb]
  simp only [zbE,zb0,zb9]
  ac_nf0
  rw [zp3]
  ac_nf0
  split<;>rfl
theorem zgC (s:Stk m os) (n9:os.length<=9) {ls:List Int} (L:Lt os ls) (hc:cvI m os ls=true):Ev (F_22 [zaO m os,tI ls]) (.int (((zdu m os).filter fun q=>pLt q (pr os ls,ls)).length)):=by
 have ec:=zm5 s n9 (own:=(pr os ls,ls)) (s1:=some (tI ls))
 have en:=zjn s (L.gk s) ((zdQ L).trans hc)
 have ep:=ziD s L
 rw [d_22]
 simp only [G_22]
 simp only [tI,pD] at ec en ep ⊢
 ac_nf0
 refine Ev.bind en ?_
 ac_nf0
 rw [ep]
 ac_nf0
 rw [ec]
 ac_nf0
 exact .pure
noncomputable def zto (m:Int) (os:List (List Int×Int)) (own:Int×List Int):D:=if ((zdu m os).filter fun q=>pLt own q).isEmpty=true then .non else tI (((zdu m os).filter fun q=>pLt own q).getD (zb3 ((zdu m os).filter fun q=>pLt own q)) (0,[])).2
theorem zlZ (s:Stk m os) (n9:os.length<=9) {ls:List Int} (L:Lt os ls) (hc:cvI m os ls=true):Ev (F_23 [zaO m os,tI ls]) (zto m os (pr os ls,ls)):=by
 have ec:=znD s n9 (own:=(pr os ls,ls)) (s1:=some (tI ls)) (s3:=none)
 have en:=zjn s (L.gk s) ((zdQ L).trans hc)
 have ep:=ziD s L
 unfold zto
 rw [d_23]
 simp only [G_23]
 generalize hf:((zdu m os).filter fun q=>pLt (pr os ls,ls) q)=later at ec
 simp only [tI,pD] at ec en ep ⊢
 ac_nf0
 refine Ev.bind en ?_
 ac_nf0
 rw [ep]
 ac_nf0
 rw [ec]
 ac_nf0
 cases later with
 | nil=>
  simp only [L3.zqO,zt6,zkc,List.map_nil]
  ac_nf0
  exact .pure
 | cons q r=>
  have em:=zly (List.cons_ne_nil q r)
  have e1: ∀ p:Int×List Int,dIx (pD p) (.int 1)=pure (tI p.2):=fun _=>rfl
  simp only [pD,tI] at em e1
  simp only [L3.zqO,zt6,zkc,qaM] at em ⊢
  ac_nf0
  rw [em]
  ac_nf0
  exact .of rfl
theorem zt5 (s:Stk m os) (n9:os.length<=9) {k:Nat} (hk:k<(zbp m os).length):F_21 [zaO m os,.int (k:Int)]=pure (tI ((zbp m os)[k]).2):=by
 have ew:=zey (d:= .int (k:Int)) rfl
 simp only [isI] at ew
 have a1: ¬(k:Int)<0:=by omega
 have a2: ¬((zbp m os).length:Int)<=(k:Int):=by omega
 have ea:atI ((zbp m os).map pD) (k:Int)=some (pD (zbp m os)[k]):=zdr (by simp [hk])
 have e1: ∀ p:Int×List Int,dIx (pD p) (.int 1)=pure (tI p.2):=fun _=>rfl
 rw [d_21]
 simp only [G_21]
 ac_nf0
 rw [zdA s n9]
 ac_nf0
 rw [zfo, <-zlL]
 ac_nf0
 rw [ew]
 ac_nf0
 simp only [zqN,a1,decide_false]
 ac_nf0
 simp only [ztq,a2,decide_false]
 ac_nf0
 rw [ea]
 ac_nf0
 rw [e1]
 ac_nf0
def noN (n:Nat) (d:D):Prop:=kn d=true/\ ∀ z,d= .int z-> ¬(0<=z/\z<(n:Int))
theorem zuA (s:Stk m os) (n9:os.length<=9) {d:D} (hd:noN (zbp m os).length d):EvX (F_21 [zaO m os,d]) "NoNumber":=by
 rw [d_21]
 simp only [G_21]
 ac_nf0
 rw [zdA s n9]
 ac_nf0
 rw [zfo, <-zlL]
 ac_nf0
 rw [zey hd.1]
 cases hI:isI d with
 | false=>
  ac_nf0
  exact .raise
 | true=>
  obtain ⟨z,rfl⟩: ∃ z,d= .int z:=by cases d<;>simp [isI] at hI;exact ⟨_,rfl⟩
  have hz:=hd.2 z rfl
  ac_nf0
  by_cases h0:z<0
  ·rw [zqN,decide_eq_true h0]
   ac_nf0
   exact .raise
  ·rw [zqN,decide_eq_false h0]
   ac_nf0
   rw [ztq,show decide (((zbp m os).length:Int)<=z)=true by rw [qaD];omega]
   ac_nf0
   exact .raise
theorem zlt (s:Stk m os) {k:Nat} (hk:k<(zbp m os).length):Lt os ((zbp m os)[k]).2/\cvI m os ((zbp m os)[k]).2=true/\(pr os ((zbp m os)[k]).2,((zbp m os)[k]).2)=(zbp m os)[k]:=by
 obtain ⟨h1,h2,h3⟩:=zr4 s ((zc7 (m:=m) (os:=os)).mem_iff.mp (List.getElem_mem hk))
 exact ⟨h1,h2,by rw [<- h3]⟩
theorem zry (s:Stk m os) (n9:os.length<=9) {k:Nat} (hk:k<(zbp m os).length):Ev (F_22 [zaO m os,tI ((zbp m os)[k]).2]) (.int (k:Int)):=by
 obtain ⟨h1,h2,h3⟩:=zlt s hk
 have:=zgC s n9 h1 h2
 rw [h3, <-((zc7 (m:=m) (os:=os)).filter _).length_eq,zlC zom hk] at this
 exact this
noncomputable def zoB (m:Int) (os:List (List Int×Int)) (k:Nat):D:=if h:k<(zbp m os).length then tI ((zbp m os)[k]).2 else .non
theorem zsD (s:Stk m os) (n9:os.length<=9) {k:Nat} (hk:k<(zbp m os).length):Ev (F_23 [zaO m os,tI ((zbp m os)[k]).2]) (zoB m os (k+1)):=by
 obtain ⟨h1,h2,h3⟩:=zlt s hk
 have:=zlZ s n9 h1 h2
 rw [h3] at this
 have e:zto m os (zbp m os)[k]=zoB m os (k+1):=by
  have hb:=zkg (zom (m:=m) (os:=os)) hk
  have hp:((zbp m os).filter fun q=>pLt (zbp m os)[k] q).Perm ((zdu m os).filter fun q=>pLt (zbp m os)[k] q):=(zc7 (m:=m) (os:=os)).filter _
  have hsort:TS.zdn pLt ((zdu m os).filter fun q=>pLt (zbp m os)[k] q)=(zbp m os).filter fun q=>pLt (zbp m os)[k] q:=by
   rw [<- zg1, <-zlL]
  unfold zto zoB
  by_cases hn:k+1<(zbp m os).length
  ·rw [dif_pos hn]
   have hne:((zdu m os).filter fun q=>pLt (zbp m os)[k] q)≠[]:=fun z=>by
    rw [z] at hp
    have:=hp.length_eq
    rw [hb,List.length_drop,qaJ] at this
    omega
   rw [qa5 (by simpa using hne)]
   obtain ⟨r,hr⟩:=zfE hne
   rw [hsort,hb,qae hn] at hr
   have:=(List.cons.inj hr).1
   rw [<- this]
  ·rw [dif_neg hn]
   have:((zdu m os).filter fun q=>pLt (zbp m os)[k] q)=[]:=by
    have:=hp.length_eq
    rw [hb,List.length_drop] at this
    exact List.length_eq_zero_iff.mp (by omega)
   rw [this]
   rfl
 rw [e] at this
 exact this
theorem zub:F_33 [.exn "NoNumber"]=pure (.str "number"):=by
 funext h
 rfl
theorem ztD:F_33 [.exn "NoCover"]=pure (.str "cover"):=by
 funext h
 rfl
noncomputable def ztg (m:Int) (os:List (List Int×Int)) (w:Int) (d:D):M D:=if w=0 then F_21 [zaO m os,d] else if w=1 then F_22 [zaO m os,d] else F_23 [zaO m os,d]
theorem zoA {w:Int} (hw:w=0\/w=1\/w=2) {d:D} {sd':Sd}:zfk (zn0 2 [F_21,F_22,F_23] (zaf 0) (zab (zaf 1) (zab (zaf 2) zak))) (some (.int w)::some (zaO m os)::some d::sd')=(do let _<-ztg m os w d;pure (.nx (some (.int w)::some (zaO m os)::some d::sd'))):=by
 rcases hw with rfl | rfl | rfl<;>rfl
theorem zoR {c:String} {d r:D} {w:Int} (hw:w=0\/w=1\/w=2) (hx:EvX (ztg m os w d) c) (hc:zde.contains c=true) (hk:F_33 [.exn c]=pure r):Ev (F_37 [.int w,zaO m os,d]) r:=by
 rw [d_37]
 simp only [G_37,zaN,zbT,zgj,pure_bind,zgP,List.set,bind_assoc]
 exact Ev.bind (zn5 (c:=c) (d:=r) (by rw [zoA hw];exact EvX.left hx) hc hk) (.of rfl)
theorem zoM {d r:D} {w:Int} (hw:w=0\/w=1\/w=2) (hx:Ev (ztg m os w d) r):Ev (F_37 [.int w,zaO m os,d]) (.str "told"):=by
 rw [d_37]
 simp only [G_37,zaN,zbT,zgj,pure_bind,zgP,List.set,bind_assoc]
 exact Ev.bind (zpC (by rw [zoA hw];exact Ev.bind hx .pure)) (.of rfl)
noncomputable def zhA (m:Int) (os:List (List Int×Int)) (d:D):D:=if zjZ m os d=true then .str "told" else .str "cover"
theorem zoq (s:Stk m os) (n9:os.length<=9) {d:D} (g:gk d) {w:Int} (hw:w=1\/w=2):Ev (F_37 [.int w,zaO m os,d]) (zhA m os d):=by
 unfold zhA
 cases hc:zjZ m os d with
 | false=>
  refine zoR (c:="NoCover") (.inr hw) ?_ rfl ztD
  rcases hw with rfl | rfl
  ·show EvX (F_22 [zaO m os,d]) _
   rw [d_22]
   simp only [G_22]
   ac_nf0
   exact EvX.left (zlH s g hc)
  ·show EvX (F_23 [zaO m os,d]) _
   rw [d_23]
   simp only [G_23]
   ac_nf0
   exact EvX.left (zlH s g hc)
 | true=>
  have hp:zik os.length d=true:=by
   unfold zjZ at hc
   exact (qaG _ _▸hc).1
  obtain ⟨ls,rfl,hu,b⟩:=zh7 hp
  have L:Lt os ls:=⟨hu,b⟩
  have hv:=(zdQ L).symm.trans hc
  rcases hw with rfl | rfl
  ·exact zoM (.inr (.inl rfl)) (show Ev (F_22 [zaO m os,tI ls]) _ from zgC s n9 L hv)
  ·exact zoM (.inr (.inr rfl)) (show Ev (F_23 [zaO m os,tI ls]) _ from zlZ s n9 L hv)
noncomputable def zfK (m:Int) (os:List (List Int×Int)):List (List Int):=(zbp m os).map (·.2)
theorem zqu (s:Stk m os) (n9:os.length<=9) {s0 s1 s2:Option D} {l:Sd}:Ev (zaP (iSq (zaA (zam 1 F_30) (zab (zaf 3) zak))) (zhF 2 (zcG (zaX 0) (zcG (zaX 1) zgD))) (fun _=>pure true) zio [none,none] (s0::s1::s2::some (zaO m os)::l)) (.lst ((zfK m os).map tI)):=by
 have hl:=zh4 (m:=m) n9
 unfold zfK
 rw [qaT,show (zbp m os).map (tI∘(·.2))=(zbp m os).filterMap fun q=>some (tI q.2) by simp]
 refine zjo (g':=pD) ?_ (by omega) fun q _=> ?_
 ·exact Ev.bind (show Ev (zaA (zam 1 F_30) (zab (zaf 3) zak) (s0::s1::s2::some (zaO m os)::l)) _ from zkl s n9) (.of rfl)
 ·have eb:zas [none,none] (s0::s1::s2::some (zaO m os)::l)=[none,none]:=rfl
  rw [eb]
  simp only [zbE,zio,pD]
  ac_nf0
theorem zkm {k:Nat} (hk:k<(zbp m os).length):atI ((zfK m os).map tI) (k:Int)=some (tI ((zbp m os)[k]).2):=zdr (by simp [zfK,hk])
theorem zmR {k:Nat} (hk:k<=(zbp m os).length):atI ((zfK m os).map tI++[.non]) (k:Int)=some (zoB m os k):=by
 refine zdr ?_
 unfold zoB
 by_cases h:k<(zbp m os).length
 ·rw [dif_pos h,qad (by simp [zfK,h])]
  simp [zfK,h]
 ·rw [dif_neg h,qaa (by simp [zfK];omega)]
  have:k - ((zfK m os).map tI).length=0:=by simp [zfK];omega
  rw [this]
  rfl
theorem zs9 {k:Nat}:dNe (zoB m os k) (zoB m os k)=pure (.bl false):=by
 unfold zoB
 split
 ·have:=zoU ((zbp m os)[k]).2 ((zbp m os)[k]).2
  rw [beq_self_eq_true] at this
  exact this
 ·rfl
theorem zsp (s:Stk m os) (n9:os.length<=9) {k:Nat} (hk:k<(zbp m os).length) {s0 s1 s2 s7 s8 s9 x6:Option D} {h:Hh} {P:Out->Hh->Prop}
  (kk: ∀ y6 h',Gro h h'->P (.nx [s0,s1,s2,some (zaO m os),some (.lst ((zfK m os).map tI)),some (.int (k:Int)),y6,s7,s8,s9]) h'):
  wp (zeO [s0,s1,s2,some (zaO m os),some (.lst ((zfK m os).map tI)),some (.int (k:Int)),x6,s7,s8,s9]) h P:=by
 have en:=zoU ((zbp m os)[k]).2 ((zbp m os)[k]).2
 rw [beq_self_eq_true] at en
 have e1:=zry s n9 hk
 have e2:=zt5 s n9 hk
 have e3:=zsD s n9 hk
 have ea:=zkm hk
 have eb:=zmR (m:=m) (os:=os) (k:=k+1) (by omega)
 have ec:=zs9 (m:=m) (os:=os) (k:=k+1)
 have hl:=zh4 (m:=m) n9
 have f:=zaw (show (zfK m os).length+1<=1000 by unfold zfK;rw [qaH];omega)
 rw [show ((k+1:Nat):Int)=(k:Int)+1 by omega] at eb
 simp only [tI] at en e1 e2 e3 ea
 simp only [zeO]
 ac_nf0
 rw [ea]
 ac_nf0
 refine e1.wp fun h1 g1=> ?_
 ac_nf0
 rw [e2]
 ac_nf0
 rw [en]
 ac_nf0
 rw [zgZ rfl]
 simp only [isI]
 ac_nf0
 rw [zvC]
 ac_nf0
 simp only [beq_self_eq_true]
 ac_nf0
 rw [ea]
 ac_nf0
 refine e3.wp fun h2 g2=> ?_
 ac_nf0
 rw [f]
 ac_nf0
 rw [eb]
 ac_nf0
 rw [ec]
 ac_nf0
 exact kk _ _ (g1.trans g2)
theorem zgO (s:Stk m os) (n9:os.length<=9) {s0 s1 s2 s7 s8 s9:Option D}: ∀ (ks:List Nat) {h:Hh} {x5 x6:Option D} {P:Out->Hh->Prop},(∀ k∈ks,k<(zbp m os).length)->
  (∀ y5 y6 h',Gro h h'->P (.nx [s0,s1,s2,some (zaO m os),some (.lst ((zfK m os).map tI)),y5,y6,s7,s8,s9]) h')->
  wp (zaJ (fun x sd=>zeO (List.set sd 5 (some x))) (ks.map fun (k:Nat)=> .int (k:Int)) [s0,s1,s2,some (zaO m os),some (.lst ((zfK m os).map tI)),x5,x6,s7,s8,s9]) h P
 | [],h,x5,x6,P,_,k=>by
  rw [List.map_nil,zbG,zap]
  exact k _ _ _ .refl
 | d::r,h,x5,x6,P,hd,k=>by
  have ih:=fun (h1:Hh) (x5 x6:Option D) (g:Gro h h1)=>zgO s n9 (s0:=s0) (s1:=s1) (s2:=s2) (s7:=s7) (s8:=s8) (s9:=s9) r (h:=h1) (x5:=x5) (x6:=x6) (P:=P) (fun y hy=>hd y (qan _ hy)) fun y5 y6 h' g'=>k y5 y6 h' (g.trans g')
  rw [qaM,zbc]
  generalize zaJ (fun x sd=>zeO (List.set sd 5 (some x))) (r.map fun (k:Nat)=> .int (k:Int))=rest at ih ⊢
  rw [zaq]
  exact zsp s n9 (hd d qau) fun y6 h' g=>ih _ _ _ g
theorem zoj (s:Stk m os) (n9:os.length<=9) {d:D} (g:gk d) {w:Int} (hw:w=1\/w=2) {s0 s1 s2 s4 s5 s6 s7:Option D} {h:Hh} {P:Out->Hh->Prop} (k: ∀ h',P (.nx [s0,s1,s2,some (zaO m os),s4,s5,s6,s7,some d,some (.int w)]) h'):
  wp (zeU [s0,s1,s2,some (zaO m os),s4,s5,s6,s7,some d,some (.int w)]) h P:=by
 have hs:=zoq s n9 g hw
 have hl:=zk2 s g
 have e0: ∀ c:Bool,zny [.bl c]=pure (.int (if c=true then 1 else 0)):=fun c=>by cases c<;>rfl
 have e1:atI [D.str "cover",.str "told"] (if zjZ m os d=true then 1 else 0)=some (zhA m os d):=by
  unfold zhA
  cases zjZ m os d<;>rfl
 have e2:dNe (zhA m os d) (zhA m os d)=pure (.bl false):=by
  unfold zhA
  split
  ·rw [zid _ _ (by decide +kernel) (by decide +kernel),beq_self_eq_true]
   rfl
  ·rw [zid _ _ (by decide +kernel) (by decide +kernel),beq_self_eq_true]
   rfl
 simp only [zeU]
 ac_nf0
 refine hs.wp fun h1 g1=> ?_
 ac_nf0
 rw [hl]
 ac_nf0
 rw [e0]
 ac_nf0
 rw [e1]
 ac_nf0
 rw [e2]
 ac_nf0
 exact k _
theorem znQ {ns:List Int} (hb: ∀ i∈ns,Builtin.Int.intBits i<=2^20) {j:Int} (i0:0<=j) (i1:j<6) {h:Hh} {x2 x3 x4 x5 x6 x7 x8 x9:Option D} {P:Out->Hh->Prop}
  (k: ∀ y2 y3 y4 y5 y6 y7 y8 y9 h',P (.nx [some (.scr (ns.map D.int)),some (.int j),y2,y3,y4,y5,y6,y7,y8,y9]) h'):wp (ze3 [some (.scr (ns.map D.int)),some (.int j),x2,x3,x4,x5,x6,x7,x8,x9]) h P:=by
 unfold ze3
 refine zet (show wp (F_26 [.scr (ns.map D.int),.int j]) h _ from zrB hb i0 i1 fun z=> ?_)
 have qb:Bx h.length (h++[.lst [.int z]]):=⟨z,by simp⟩
 generalize h.length=b at qb
 generalize h++[.lst [.int z]]=h1 at qb
 refine zet (show wp (F_29 [.cel b,.int 6,.int 8]) h1 _ from zp0 qb (by decide) (by decide) (by decide) (by decide) fun m os h2 q2 s hf ol ml=> ?_)
 have n9:os.length<=9:=by omega
 have hl:=zh4 (m:=m) n9
 have npos:0<(zbp m os).length:=by
  obtain ⟨r,hr⟩:=znE s hf
  rw [hr]
  simp
 have ell:(zfK m os).length=(zbp m os).length:=by unfold zfK;simp
 refine zet ?_
 simp only [List.set]
 refine (zqu s n9).wp fun h3 g3=> ?_
 have q3:=(Gro.ext q2 g3).1
 ac_nf0
 refine zbb q3 (by omega) (by omega) fun t h4 t0 t1 x4=> ?_
 ac_nf0
 refine zbb x4.1 (by omega) (by omega) fun t' h5 t0' t1' x5=> ?_
 ac_nf0
 have el:[D.int 0,D.int (((zfK m os).length:Int) - 1),D.int t,D.int t']=[0,(zbp m os).length - 1,t.toNat,t'.toNat].map fun (k:Nat)=>D.int (k:Int):=by
  simp only [qaM,List.map_nil]
  rw [show (((zbp m os).length - 1:Nat):Int)=((zfK m os).length:Int) - 1 by omega,show ((t.toNat:Nat):Int)=t by omega,show ((t'.toNat:Nat):Int)=t' by omega]
  rfl
 rw [el]
 refine zgO s n9 _ ?_ fun y5 y6 h6 g6=> ?_
 ·intro k hk
  simp only [qaP,qaF,or_false] at hk
  rcases hk with rfl | rfl | rfl | rfl<;>omega
 have q6:=(Gro.ext x5.1 g6).1
 ac_nf0
 rw [zob]
 ac_nf0
 refine zbb q6 (by decide) (by decide) fun v h7 v0 v1 x7=> ?_
 ac_nf0
 refine zks v0 (by simpa using v1) fun bad hbad=> ?_
 have hN:noN (zbp m os).length bad:=by
  simp only [qaP,qaF,or_false] at hbad
  rcases hbad with rfl | rfl | rfl | rfl | rfl | rfl | rfl
  ·exact ⟨rfl,fun z e=>by cases e;omega⟩
  ·exact ⟨rfl,fun z e=>by cases e;omega⟩
  ·exact ⟨rfl,fun z e=>by cases e⟩
  ·exact ⟨rfl,fun z e=>by cases e⟩
  ·exact ⟨rfl,fun z e=>by cases e⟩
  ·exact ⟨rfl,fun z e=>by cases e⟩
  ·refine ⟨rfl,fun z e=> ?_⟩
   cases e
   have:(1000:Int)<=10^39:=by decide
   omega
 have en:=zid "number" "number" (by decide +kernel) (by decide +kernel)
 rw [beq_self_eq_true] at en
 have es:=zoR (m:=m) (os:=os) (w:=0) (d:=bad) (.inl rfl) (show EvX (ztg m os 0 bad) "NoNumber" from zuA s n9 hN) rfl zub
 ac_nf0
 refine es.wp fun h8 g8=> ?_
 have q8:=(Gro.ext x7.1 g8).1
 ac_nf0
 rw [en]
 ac_nf0
 have ea:=zkm (m:=m) (os:=os) npos
 rw [show ((0:Nat):Int)=0 from rfl] at ea
 rw [ea]
 have L:=(zlt s npos).1
 ac_nf0
 refine zpR s q8 (L.len s) fun d h9 gd=> ?_
 ac_nf0
 rw [zbc]
 rw [zaq]
 refine zoj s n9 gd (.inl rfl) fun h10=> ?_
 show wp (zaJ (fun x sd=>zeU (List.set sd 9 (some x))) [D.int 2] _) h10 P
 rw [zbc,zaq]
 refine zoj s n9 gd (.inr rfl) fun h11=> ?_
 show wp (zaJ (fun x sd=>zeU (List.set sd 9 (some x))) [] _) h11 P
 rw [zbG,zap]
 exact k _ _ _ _ _ _ _ _ _
theorem ziV {ns:List Int} (hb: ∀ i∈ns,Builtin.Int.intBits i<=2^20): ∀ (ds:List D) {h:Hh} {x1 x2 x3 x4 x5 x6 x7 x8 x9:Option D} {P:Out->Hh->Prop},(∀ d∈ds, ∃ i:Int,d= .int i/\0<=i/\i<6)->(∀ y1 y2 y3 y4 y5 y6 y7 y8 y9 h',P (.nx [some (.scr (ns.map D.int)),y1,y2,y3,y4,y5,y6,y7,y8,y9]) h')->
  wp (zaJ (fun x sd=>do let sd1<-zaX 1 x sd;ze3 sd1) ds [some (.scr (ns.map D.int)),x1,x2,x3,x4,x5,x6,x7,x8,x9]) h P
 | [],h,x1,x2,x3,x4,x5,x6,x7,x8,x9,P,_,k=>by
  rw [zbG,zap]
  exact k _ _ _ _ _ _ _ _ _ _
 | d::r,h,x1,x2,x3,x4,x5,x6,x7,x8,x9,P,hd,k=>by
  obtain ⟨i,rfl,i0,i1⟩:=hd _ qau
  have ih:=fun (h:Hh) (x1 x2 x3 x4 x5 x6 x7 x8 x9:Option D)=>ziV hb r (h:=h) (x1:=x1) (x2:=x2) (x3:=x3) (x4:=x4) (x5:=x5) (x6:=x6) (x7:=x7) (x8:=x8) (x9:=x9) (P:=P) (fun y hy=>hd y (qan _ hy)) k
  rw [zbc]
  generalize zaJ (fun x sd=>do let sd1<-zaX 1 x sd;ze3 sd1) r=rest at ih ⊢
  rw [zaq,zdi,pure_bind]
  exact znQ hb i0 i1 fun y2 y3 y4 y5 y6 y7 y8 y9 h'=>ih _ _ _ _ _ _ _ _ _ _
theorem znT: ∀ ns:List Int,ns.length<=63->(∀ i∈ns,Builtin.Int.intBits i<=2^20)-> ∃ h',F_38 [.scr (ns.map D.int)] []= .ok (.bl true) h':=by
 intro ns _ hb
 have key:wp (F_38 [.scr (ns.map D.int)]) [] fun d _=>d= .bl true:=by
  rw [d_38,zaq]
  unfold G_38
  generalize hn:(if (if (4:Int)<(ns.length:Int) then (4:Int) else (ns.length:Int))>1 then (if (4:Int)<(ns.length:Int) then (4:Int) else (ns.length:Int)) else (1:Int))=n
  have n0:0<=n/\n<=6:=by
   rw [<- hn]
   split<;>split<;>omega
  refine zkM (ds:=zdh 0 n.toNat) ?_ ?_
  ·ac_nf0
   simp only [zoD,qaH]
   ac_nf0
   simp only [zt4]
   ac_nf0
   rw [hn]
   exact zcN n0.1 (by omega)
  refine ziV hb _ (fun d hd=> ?_) fun y1 y2 y3 y4 y5 y6 y7 y8 y9 h'=> ?_
  ·obtain ⟨i,e,i0,i1⟩:=zme hd
   exact ⟨i,e,i0,by omega⟩
  have s0:Stk 2 []:=⟨by decide,by decide,by decide,by simp,by simp,by simp,by simp⟩
  have v0:D.tup [.int 2,.tup []]=zaO 2 []:=rfl
  have e0:=zoq s0 (by decide) (d:= .tup []) (znZ rfl) (w:=1) (.inl rfl)
  rw [show zhA 2 [] (.tup [])= .str "cover" from rfl] at e0
  have eq:=zqh "cover" "cover" (by decide +kernel) (by decide +kernel)
  rw [beq_self_eq_true] at eq
  ac_nf0
  rw [v0]
  refine e0.wp fun h1 g1=> ?_
  ac_nf0
  rw [eq,zap]
 obtain ⟨d,h',e,rfl⟩:=key
 exact ⟨h',e⟩
end K13
namespace K13
open PySem PySem.Spec PyProof.Rows L2 L3
theorem zsP {l:W.OpenLaw} {w:World} {K:W.Frag} {h:Heap} {mg:Str->Option Value} {fa a_0 a_1 a_2 a_3 a_4 a_5 a_6 a_7 a_24 a_25 a_26 a_27 a_28 a_29 a_30 a_14 a_15 a_8 a_9 a_10 a_12 a_13 a_16 a_17 a_11 a_20 a_19 a_18 a_22 a_31 a_21 a_23 a_33 a_37 a_32 a_36 a_34 a_35 a_38:Addr} (X:K.In h) (G:h.Ns mainGlobals mg) (hfa:mg "law"=some (.ref fa))
  {od_38 an_38:Option Addr} {sl_38:Array (Option Value)} {oc_38 kV_38 dc_38 pm_38 cd_38 ct_38:Value}
  {d_24 d_25 d_26 d_27 d_28 d_29 d_30 d_14 d_15 d_8 d_9 d_10 d_12 d_13 d_16 d_17 d_11 d_20 d_19 d_18 d_22 d_31 d_21 d_23 d_33 d_37 d_32 d_36 d_34 d_35:FuncData}
  (f_24:Fd K "_law_cell" s_24 a_24 d_24)
  (f_25:Fd K "_law_mix" s_25 a_25 d_25)
  (f_26:Fd K "_law_box" s_26 a_26 d_26)
  (f_27:Fd K "_law_take" s_27 a_27 d_27)
  (f_28:Fd K "_law_stock" s_28 a_28 d_28)
  (f_29:Fd K "_law_full" s_29 a_29 d_29)
  (f_30:Fd K "_law_covers" s_30 a_30 d_30)
  (f_14:Fd K "things_together" s_14 a_14 d_14)
  (f_15:Fd K "have_all" s_15 a_15 d_15)
  (f_8:Fd K "is_whole" s_8 a_8 d_8)
  (f_9:Fd K "is_rising" s_9 a_9 d_9)
  (f_10:Fd K "is_lot" s_10 a_10 d_10)
  (f_12:Fd K "need_lot" s_12 a_12 d_12)
  (f_13:Fd K "offers_of" s_13 a_13 d_13)
  (f_16:Fd K "is_cover" s_16 a_16 d_16)
  (f_17:Fd K "need_cover" s_17 a_17 d_17)
  (f_11:Fd K "price_of" s_11 a_11 d_11)
  (f_20:Fd K "bits_of" s_20 a_20 d_20)
  (f_19:Fd K "known_lots" s_19 a_19 d_19)
  (f_18:Fd K "priced_covers" s_18 a_18 d_18)
  (f_22:Fd K "number_of" s_22 a_22 d_22)
  (f_31:Fd K "_law_whole" s_31 a_31 d_31)
  (f_21:Fd K "cover_at" s_21 a_21 d_21)
  (f_23:Fd K "next_cover" s_23 a_23 d_23)
  (f_33:Fd K "_law_kind" s_33 a_33 d_33)
  (f_37:Fd K "_law_said" s_37 a_37 d_37)
  (f_32:Fd K "_law_odd" s_32 a_32 d_32)
  (f_36:Fd K "_law_bent" s_36 a_36 d_36)
  (f_34:Fd K "_law_is_lot" s_34 a_34 d_34)
  (f_35:Fd K "_law_is_cover" s_35 a_35 d_35)
  (e_38:W.nsIn K mainGlobals "law"=some (some (.ref a_38))) (l_38:K.lookup a_38=some ⟨oc_38,od_38,.func (W.fnOf "law" "law" (zd4 s_38) (zb2 s_38) (zae s_38) .none kV_38 dc_38 pm_38 an_38 cd_38 ct_38),sl_38⟩) (c_38:W.codeIn K cd_38 "law"=true) (k_38:W.keepIn K (.ref a_38)=true)
  (e_0:W.nsIn K mainGlobals "CoverError"=some (some (.ref a_0)))
  (e_1:W.nsIn K mainGlobals "NoStock"=some (some (.ref a_1)))
  (e_2:W.nsIn K mainGlobals "NoOffer"=some (some (.ref a_2)))
  (e_3:W.nsIn K mainGlobals "NoThing"=some (some (.ref a_3)))
  (e_4:W.nsIn K mainGlobals "NoCover"=some (some (.ref a_4)))
  (e_5:W.nsIn K mainGlobals "NoNumber"=some (some (.ref a_5)))
  (e_6:W.nsIn K mainGlobals "NotFull"=some (some (.ref a_6)))
  (e_7:W.nsIn K mainGlobals "NoRow"=some (some (.ref a_7)))
  (z_all:W.nsIn K mainGlobals "all"=some none)
  (z_bool:W.nsIn K mainGlobals "bool"=some none)
  (z_divmod:W.nsIn K mainGlobals "divmod"=some none)
  (z_int:W.nsIn K mainGlobals "int"=some none)
  (z_isinstance:W.nsIn K mainGlobals "isinstance"=some none)
  (z_len:W.nsIn K mainGlobals "len"=some none)
  (z_list:W.nsIn K mainGlobals "list"=some none)
  (z_max:W.nsIn K mainGlobals "max"=some none)
  (z_min:W.nsIn K mainGlobals "min"=some none)
  (z_range:W.nsIn K mainGlobals "range"=some none)
  (z_set:W.nsIn K mainGlobals "set"=some none)
  (z_sorted:W.nsIn K mainGlobals "sorted"=some none)
  (z_sum:W.nsIn K mainGlobals "sum"=some none)
  (z_tuple:W.nsIn K mainGlobals "tuple"=some none)
  (x_tab:zk9 K a_0 [("NoStock",a_1),("NoOffer",a_2),("NoThing",a_3),("NoCover",a_4),("NoNumber",a_5),("NotFull",a_6),("NoRow",a_7)]=true)
  : ∃ fd:FuncData,(∀ (s:Shared) (v:Value),BindsTo s fd ⟨[v],[]⟩ [("script",v)])/\ ∀ base:Heap,K.In base->base.Ns mainGlobals mg->zbw l.prog w K mg base CX0 10 fa fd ["script"] (zcp K 1 F_38):=by
 have e:=hfa.symm.trans (W.mg_of X G e_38)
 cases e
 have F_38:=zaH (st:=s_38) l_38 c_38 k_38
 have b_38:=F_38.binds (ps:=["script"]) fun _ _ _ _ _ _ us hl=>match us,hl with | [_],_=>rfl
 have T:Tx K mg ⟨a_0,a_1,a_2,a_3,a_4,a_5,a_6,a_7,a_24,_,a_25,_,a_26,_,a_27,_,a_28,_,a_29,_,a_30,_,a_14,_,a_15,_,a_8,_,a_9,_,a_10,_,a_12,_,a_13,_,a_16,_,a_17,_,a_11,_,a_20,_,a_19,_,a_18,_,a_22,_,a_31,_,a_21,_,a_23,_,a_33,_,a_37,_,a_32,_,a_36,_,a_34,_,a_35,_,fa,_⟩:=
  {g_0:=W.mg_of X G e_0,
    g_1:=W.mg_of X G e_1,
    g_2:=W.mg_of X G e_2,
    g_3:=W.mg_of X G e_3,
    g_4:=W.mg_of X G e_4,
    g_5:=W.mg_of X G e_5,
    g_6:=W.mg_of X G e_6,
    g_7:=W.mg_of X G e_7,
    k_1:=e_1,
    k_2:=e_2,
    k_3:=e_3,
    k_4:=e_4,
    k_5:=e_5,
    k_6:=e_6,
    k_7:=e_7,
    x_exc:=zmW.of x_tab,
    n_all:=W.mg_none_of X G z_all,
    n_bool:=W.mg_none_of X G z_bool,
    n_divmod:=W.mg_none_of X G z_divmod,
    n_int:=W.mg_none_of X G z_int,
    n_isinstance:=W.mg_none_of X G z_isinstance,
    n_len:=W.mg_none_of X G z_len,
    n_list:=W.mg_none_of X G z_list,
    n_max:=W.mg_none_of X G z_max,
    n_min:=W.mg_none_of X G z_min,
    n_range:=W.mg_none_of X G z_range,
    n_set:=W.mg_none_of X G z_set,
    n_sorted:=W.mg_none_of X G z_sorted,
    n_sum:=W.mg_none_of X G z_sum,
    n_tuple:=W.mg_none_of X G z_tuple,
    m_24:=W.mg_of X G f_24.e,
    F_24:=f_24.F,
    b_24:=f_24.F.binds (ps:=["script","k"]) fun _ _ _ _ _ _ us hl=>match us,hl with | [_,_],_=>rfl,
    m_25:=W.mg_of X G f_25.e,
    F_25:=f_25.F,
    b_25:=f_25.F.binds (ps:=["cell","k"]) fun _ _ _ _ _ _ us hl=>match us,hl with | [_,_],_=>rfl,
    m_26:=W.mg_of X G f_26.e,
    F_26:=f_26.F,
    b_26:=f_26.F.binds (ps:=["script","k"]) fun _ _ _ _ _ _ us hl=>match us,hl with | [_,_],_=>rfl,
    m_27:=W.mg_of X G f_27.e,
    F_27:=f_27.F,
    b_27:=f_27.F.binds (ps:=["box","many"]) fun _ _ _ _ _ _ us hl=>match us,hl with | [_,_],_=>rfl,
    m_28:=W.mg_of X G f_28.e,
    F_28:=f_28.F,
    b_28:=f_28.F.binds (ps:=["box","most_things","most_offers"]) fun _ _ _ _ _ _ us hl=>match us,hl with | [_,_,_],_=>rfl,
    m_29:=W.mg_of X G f_29.e,
    F_29:=f_29.F,
    b_29:=f_29.F.binds (ps:=["box","most_things","most_offers"]) fun _ _ _ _ _ _ us hl=>match us,hl with | [_,_,_],_=>rfl,
    m_30:=W.mg_of X G f_30.e,
    F_30:=f_30.F,
    b_30:=f_30.F.binds (ps:=["stock"]) fun _ _ _ _ _ _ us hl=>match us,hl with | [_],_=>rfl,
    m_14:=W.mg_of X G f_14.e,
    F_14:=f_14.F,
    b_14:=f_14.F.binds (ps:=["offers"]) fun _ _ _ _ _ _ us hl=>match us,hl with | [_],_=>rfl,
    m_15:=W.mg_of X G f_15.e,
    F_15:=f_15.F,
    b_15:=f_15.F.binds (ps:=["stock","offers"]) fun _ _ _ _ _ _ us hl=>match us,hl with | [_,_],_=>rfl,
    m_8:=W.mg_of X G f_8.e,
    F_8:=f_8.F,
    b_8:=f_8.F.binds (ps:=["thing"]) fun _ _ _ _ _ _ us hl=>match us,hl with | [_],_=>rfl,
    m_9:=W.mg_of X G f_9.e,
    F_9:=f_9.F,
    b_9:=f_9.F.binds (ps:=["thing","bound"]) fun _ _ _ _ _ _ us hl=>match us,hl with | [_,_],_=>rfl,
    m_10:=W.mg_of X G f_10.e,
    F_10:=f_10.F,
    b_10:=f_10.F.binds (ps:=["stock","thing"]) fun _ _ _ _ _ _ us hl=>match us,hl with | [_,_],_=>rfl,
    m_12:=W.mg_of X G f_12.e,
    F_12:=f_12.F,
    b_12:=f_12.F.binds (ps:=["stock","lot"]) fun _ _ _ _ _ _ us hl=>match us,hl with | [_,_],_=>rfl,
    m_13:=W.mg_of X G f_13.e,
    F_13:=f_13.F,
    b_13:=f_13.F.binds (ps:=["stock","lot"]) fun _ _ _ _ _ _ us hl=>match us,hl with | [_,_],_=>rfl,
    m_16:=W.mg_of X G f_16.e,
    F_16:=f_16.F,
    b_16:=f_16.F.binds (ps:=["stock","thing"]) fun _ _ _ _ _ _ us hl=>match us,hl with | [_,_],_=>rfl,
    m_17:=W.mg_of X G f_17.e,
    F_17:=f_17.F,
    b_17:=f_17.F.binds (ps:=["stock","cover"]) fun _ _ _ _ _ _ us hl=>match us,hl with | [_,_],_=>rfl,
    m_11:=W.mg_of X G f_11.e,
    F_11:=f_11.F,
    b_11:=f_11.F.binds (ps:=["stock","lot"]) fun _ _ _ _ _ _ us hl=>match us,hl with | [_,_],_=>rfl,
    m_20:=W.mg_of X G f_20.e,
    F_20:=f_20.F,
    b_20:=f_20.F.binds (ps:=["many","things"]) fun _ _ _ _ _ _ us hl=>match us,hl with | [_,_],_=>rfl,
    m_19:=W.mg_of X G f_19.e,
    F_19:=f_19.F,
    b_19:=f_19.F.binds (ps:=["stock"]) fun _ _ _ _ _ _ us hl=>match us,hl with | [_],_=>rfl,
    m_18:=W.mg_of X G f_18.e,
    F_18:=f_18.F,
    b_18:=f_18.F.binds (ps:=["stock"]) fun _ _ _ _ _ _ us hl=>match us,hl with | [_],_=>rfl,
    m_22:=W.mg_of X G f_22.e,
    F_22:=f_22.F,
    b_22:=f_22.F.binds (ps:=["stock","cover"]) fun _ _ _ _ _ _ us hl=>match us,hl with | [_,_],_=>rfl,
    m_31:=W.mg_of X G f_31.e,
    F_31:=f_31.F,
    b_31:=f_31.F.binds (ps:=["found"]) fun _ _ _ _ _ _ us hl=>match us,hl with | [_],_=>rfl,
    m_21:=W.mg_of X G f_21.e,
    F_21:=f_21.F,
    b_21:=f_21.F.binds (ps:=["stock","number"]) fun _ _ _ _ _ _ us hl=>match us,hl with | [_,_],_=>rfl,
    m_23:=W.mg_of X G f_23.e,
    F_23:=f_23.F,
    b_23:=f_23.F.binds (ps:=["stock","cover"]) fun _ _ _ _ _ _ us hl=>match us,hl with | [_,_],_=>rfl,
    m_33:=W.mg_of X G f_33.e,
    F_33:=f_33.F,
    b_33:=f_33.F.binds (ps:=["e"]) fun _ _ _ _ _ _ us hl=>match us,hl with | [_],_=>rfl,
    m_37:=W.mg_of X G f_37.e,
    F_37:=f_37.F,
    b_37:=f_37.F.binds (ps:=["way","stock","thing"]) fun _ _ _ _ _ _ us hl=>match us,hl with | [_,_,_],_=>rfl,
    m_32:=W.mg_of X G f_32.e,
    F_32:=f_32.F,
    b_32:=f_32.F.binds (ps:=["box"]) fun _ _ _ _ _ _ us hl=>match us,hl with | [_],_=>rfl,
    m_36:=W.mg_of X G f_36.e,
    F_36:=f_36.F,
    b_36:=f_36.F.binds (ps:=["box","stock","lot"]) fun _ _ _ _ _ _ us hl=>match us,hl with | [_,_,_],_=>rfl,
    m_34:=W.mg_of X G f_34.e,
    F_34:=f_34.F,
    b_34:=f_34.F.binds (ps:=["stock","thing"]) fun _ _ _ _ _ _ us hl=>match us,hl with | [_,_],_=>rfl,
    m_35:=W.mg_of X G f_35.e,
    F_35:=f_35.F,
    b_35:=f_35.F.binds (ps:=["stock","thing"]) fun _ _ _ _ _ _ us hl=>match us,hl with | [_,_],_=>rfl,
    m_38:=W.mg_of X G e_38,
    F_38:=F_38,
    b_38:=b_38}
 exact ⟨W.fnOf "law" "law" (zd4 s_38) (zb2 s_38) (zae s_38) .none kV_38 dc_38 pm_38 an_38 cd_38 ct_38,fun s v=> .of_eq rfl,fun base _ _=>ok_38 T⟩
theorem zvH {l:W.OpenLaw} {q:Program} {loose:List Str} {XP:(Str->Option Value)->Heap->Prop} {YP:World->Heap->Prop} {d:DefRec} {K:Params->W.Frag} (hn:l.most=some 63) (hdf:d.params.defaults=[])
  (hY: ∀ (w:World) (h:Heap),YP w h->(K w.params).In h)
  (F: ∀ (w:World) (mg:Str->Option Value) (fa:Addr) (h:Heap),(K w.params).In h->h.Ns mainGlobals mg->mg d.name=some (.ref fa)->
    ∃ fd:FuncData,(∀ (s:Shared) (u:Value),BindsTo s fd ⟨[u],[]⟩ [("script",u)])/\ ∀ base:Heap,(K w.params).In base->base.Ns mainGlobals mg->zbw l.prog w (K w.params) mg base CX0 10 fa fd ["script"] (zcp (K w.params) 1 F_38))
  (hm: ∀ ns:List Int,ns.length<=63->(∀ i∈ns,Builtin.Int.intBits i<=2^20)-> ∃ h',F_38 [.scr (ns.map D.int)] []= .ok (.bl true) h'):
  W.WalkO q loose XP YP l.row.toRowW d [] (fun f vs=>PySem.call f vs):=
 L2.zmv (n:=63) (k:=10) (x:="script") (CX:=fun _=>CX0) (sp:=fun w=>zcp (K w.params) 1 F_38) hn (by decide) hdf ⟨rfl,by decide,by decide⟩ hY F (fun w H a ns hl hw hS=>zt3 hS (hm ns hl hw)) fun _ _ _ _ _ z=>z
end K13
open PySem PySem.W PyProof.Rows
set_option maxRecDepth 100000 in
set_option maxHeartbeats 0 in
theorem PySem.Challenge.cw_cheapcovers_k13_covers_by_number_holds : PySem.Challenge.rw_cheapcovers_k13_covers_by_number.Holds := by
 w_on; o_law; k_head; (case hw => w_witness2)
 k_fill
 refine K13.zvH (l := PySem.Challenge.rw_cheapcovers_k13_covers_by_number) rfl rfl (fun w h Y => W.kIn_of Y) ?F K13.znT
 case F =>
  intro w mg fa h KX G hmg
  refine' K13.zsP KX G hmg (L3.Fd.mk ?e__law_cell (L2.zaH ?l__law_cell ?c__law_cell ?k__law_cell)) (L3.Fd.mk ?e__law_mix (L2.zaH ?l__law_mix ?c__law_mix ?k__law_mix)) (L3.Fd.mk ?e__law_box (L2.zaH ?l__law_box ?c__law_box ?k__law_box)) (L3.Fd.mk ?e__law_take (L2.zaH ?l__law_take ?c__law_take ?k__law_take)) (L3.Fd.mk ?e__law_stock (L2.zaH ?l__law_stock ?c__law_stock ?k__law_stock)) (L3.Fd.mk ?e__law_full (L2.zaH ?l__law_full ?c__law_full ?k__law_full)) (L3.Fd.mk ?e__law_covers (L2.zaH ?l__law_covers ?c__law_covers ?k__law_covers)) (L3.Fd.mk ?e_things_together (L2.zaH ?l_things_together ?c_things_together ?k_things_together)) (L3.Fd.mk ?e_have_all (L2.zaH ?l_have_all ?c_have_all ?k_have_all)) (L3.Fd.mk ?e_is_whole (L2.zaH ?l_is_whole ?c_is_whole ?k_is_whole)) (L3.Fd.mk ?e_is_rising (L2.zaH ?l_is_rising ?c_is_rising ?k_is_rising)) (L3.Fd.mk ?e_is_lot (L2.zaH ?l_is_lot ?c_is_lot ?k_is_lot)) (L3.Fd.mk ?e_need_lot (L2.zaH ?l_need_lot ?c_need_lot ?k_need_lot)) (L3.Fd.mk ?e_offers_of (L2.zaH ?l_offers_of ?c_offers_of ?k_offers_of)) (L3.Fd.mk ?e_is_cover (L2.zaH ?l_is_cover ?c_is_cover ?k_is_cover)) (L3.Fd.mk ?e_need_cover (L2.zaH ?l_need_cover ?c_need_cover ?k_need_cover)) (L3.Fd.mk ?e_price_of (L2.zaH ?l_price_of ?c_price_of ?k_price_of)) (L3.Fd.mk ?e_bits_of (L2.zaH ?l_bits_of ?c_bits_of ?k_bits_of)) (L3.Fd.mk ?e_known_lots (L2.zaH ?l_known_lots ?c_known_lots ?k_known_lots)) (L3.Fd.mk ?e_priced_covers (L2.zaH ?l_priced_covers ?c_priced_covers ?k_priced_covers)) (L3.Fd.mk ?e_number_of (L2.zaH ?l_number_of ?c_number_of ?k_number_of)) (L3.Fd.mk ?e__law_whole (L2.zaH ?l__law_whole ?c__law_whole ?k__law_whole)) (L3.Fd.mk ?e_cover_at (L2.zaH ?l_cover_at ?c_cover_at ?k_cover_at)) (L3.Fd.mk ?e_next_cover (L2.zaH ?l_next_cover ?c_next_cover ?k_next_cover)) (L3.Fd.mk ?e__law_kind (L2.zaH ?l__law_kind ?c__law_kind ?k__law_kind)) (L3.Fd.mk ?e__law_said (L2.zaH ?l__law_said ?c__law_said ?k__law_said)) (L3.Fd.mk ?e__law_odd (L2.zaH ?l__law_odd ?c__law_odd ?k__law_odd)) (L3.Fd.mk ?e__law_bent (L2.zaH ?l__law_bent ?c__law_bent ?k__law_bent)) (L3.Fd.mk ?e__law_is_lot (L2.zaH ?l__law_is_lot ?c__law_is_lot ?k__law_is_lot)) (L3.Fd.mk ?e__law_is_cover (L2.zaH ?l__law_is_cover ?c__law_is_cover ?k__law_is_cover)) ?e_law ?l_law ?c_law ?k_law ?e_CoverError ?e_NoStock ?e_NoOffer ?e_NoThing ?e_NoCover ?e_NoNumber ?e_NotFull ?e_NoRow ?z_all ?z_bool ?z_divmod ?z_int ?z_isinstance ?z_len ?z_list ?z_max ?z_min ?z_range ?z_set ?z_sorted ?z_sum ?z_tuple ?x_tab
  (case e__law_cell => k_is)
  (case l__law_cell => k_is)
  (case c__law_cell => k_is)
  (case k__law_cell => k_is)
  (case e__law_mix => k_is)
  (case l__law_mix => k_is)
  (case c__law_mix => k_is)
  (case k__law_mix => k_is)
  (case e__law_box => k_is)
  (case l__law_box => k_is)
  (case c__law_box => k_is)
  (case k__law_box => k_is)
  (case e__law_take => k_is)
  (case l__law_take => k_is)
  (case c__law_take => k_is)
  (case k__law_take => k_is)
  (case e__law_stock => k_is)
  (case l__law_stock => k_is)
  (case c__law_stock => k_is)
  (case k__law_stock => k_is)
  (case e__law_full => k_is)
  (case l__law_full => k_is)
  (case c__law_full => k_is)
  (case k__law_full => k_is)
  (case e__law_covers => k_is)
  (case l__law_covers => k_is)
  (case c__law_covers => k_is)
  (case k__law_covers => k_is)
  (case e_things_together => k_is)
  (case l_things_together => k_is)
  (case c_things_together => k_is)
  (case k_things_together => k_is)
  (case e_have_all => k_is)
  (case l_have_all => k_is)
  (case c_have_all => k_is)
  (case k_have_all => k_is)
  (case e_is_whole => k_is)
  (case l_is_whole => k_is)
  (case c_is_whole => k_is)
  (case k_is_whole => k_is)
  (case e_is_rising => k_is)
  (case l_is_rising => k_is)
  (case c_is_rising => k_is)
  (case k_is_rising => k_is)
  (case e_is_lot => k_is)
  (case l_is_lot => k_is)
  (case c_is_lot => k_is)
  (case k_is_lot => k_is)
  (case e_need_lot => k_is)
  (case l_need_lot => k_is)
  (case c_need_lot => k_is)
  (case k_need_lot => k_is)
  (case e_offers_of => k_is)
  (case l_offers_of => k_is)
  (case c_offers_of => k_is)
  (case k_offers_of => k_is)
  (case e_is_cover => k_is)
  (case l_is_cover => k_is)
  (case c_is_cover => k_is)
  (case k_is_cover => k_is)
  (case e_need_cover => k_is)
  (case l_need_cover => k_is)
  (case c_need_cover => k_is)
  (case k_need_cover => k_is)
  (case e_price_of => k_is)
  (case l_price_of => k_is)
  (case c_price_of => k_is)
  (case k_price_of => k_is)
  (case e_bits_of => k_is)
  (case l_bits_of => k_is)
  (case c_bits_of => k_is)
  (case k_bits_of => k_is)
  (case e_known_lots => k_is)
  (case l_known_lots => k_is)
  (case c_known_lots => k_is)
  (case k_known_lots => k_is)
  (case e_priced_covers => k_is)
  (case l_priced_covers => k_is)
  (case c_priced_covers => k_is)
  (case k_priced_covers => k_is)
  (case e_number_of => k_is)
  (case l_number_of => k_is)
  (case c_number_of => k_is)
  (case k_number_of => k_is)
  (case e__law_whole => k_is)
  (case l__law_whole => k_is)
  (case c__law_whole => k_is)
  (case k__law_whole => k_is)
  (case e_cover_at => k_is)
  (case l_cover_at => k_is)
  (case c_cover_at => k_is)
  (case k_cover_at => k_is)
  (case e_next_cover => k_is)
  (case l_next_cover => k_is)
  (case c_next_cover => k_is)
  (case k_next_cover => k_is)
  (case e__law_kind => k_is)
  (case l__law_kind => k_is)
  (case c__law_kind => k_is)
  (case k__law_kind => k_is)
  (case e__law_said => k_is)
  (case l__law_said => k_is)
  (case c__law_said => k_is)
  (case k__law_said => k_is)
  (case e__law_odd => k_is)
  (case l__law_odd => k_is)
  (case c__law_odd => k_is)
  (case k__law_odd => k_is)
  (case e__law_bent => k_is)
  (case l__law_bent => k_is)
  (case c__law_bent => k_is)
  (case k__law_bent => k_is)
  (case e__law_is_lot => k_is)
  (case l__law_is_lot => k_is)
  (case c__law_is_lot => k_is)
  (case k__law_is_lot => k_is)
  (case e__law_is_cover => k_is)
  (case l__law_is_cover => k_is)
  (case c__law_is_cover => k_is)
  (case k__law_is_cover => k_is)
  (case e_law => k_is)
  (case l_law => k_is)
  (case c_law => k_is)
  (case k_law => k_is)
  (case e_CoverError => k_is)
  (case e_NoStock => k_is)
  (case e_NoOffer => k_is)
  (case e_NoThing => k_is)
  (case e_NoCover => k_is)
  (case e_NoNumber => k_is)
  (case e_NotFull => k_is)
  (case e_NoRow => k_is)
  (case z_all => k_is)
  (case z_bool => k_is)
  (case z_divmod => k_is)
  (case z_int => k_is)
  (case z_isinstance => k_is)
  (case z_len => k_is)
  (case z_list => k_is)
  (case z_max => k_is)
  (case z_min => k_is)
  (case z_range => k_is)
  (case z_set => k_is)
  (case z_sorted => k_is)
  (case z_sum => k_is)
  (case z_tuple => k_is)
  (case x_tab => kernel_rfl)
