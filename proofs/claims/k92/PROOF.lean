import PyProof.Rows.All
import Wide.All
import OpenK.AllK
import Wide.FinOn
import PyProof.EqAt
import PyProof.EqKinds
import PyProof.TupleCall
import PyProof.StationsW
import PyProof.ExcArgs
import PyProof.Seq
import PyProof.TupleIter
import PyProof.RangeIter
import PyProof.WalkInts
import PyProof.SumWalkG
import PyProof.ListRange
import PyProof.Rows.Range3
import OpenK.KDescr
import PyProof.ExcAttrAll.ValueError
import PyProof.Draws
import PyProof.EnumFor
import PyProof.EnumMake
import PyProof.LayNew
import PyProof.Rows.EnumRows
import PyProof.MinMaxWalk
import Lean
import PySem.Challenge.RW_cheapcovers_k92_keepers_refused
set_option Elab.async false
set_option linter.all false
set_option maxRecDepth 100000
set_option maxHeartbeats 8000000
set_option compiler.extract_closed false
set_option bootstrap.genMatcherCode false
set_option genSizeOfSpec false
section
open PySem PySem.Spec PyProof PyProof.Rows
abbrev qaa := @List.getElem?_append_right
abbrev qab := @Array.getElem?_eq_some_iff
abbrev qac := @List.getElem?_eq_some_iff
abbrev qad := @List.getElem?_append_left
abbrev qae := @List.drop_eq_getElem_cons
abbrev qaf := @List.getElem?_eq_getElem
abbrev qag := @Heap.get?_push_of_some
abbrev qah := @Heap.get?_update_other
abbrev qai := @List.getElem?_set_self
abbrev qak := @List.mem_append_right
abbrev qal := @Heap.get?_update_self
abbrev qan := @List.mem_cons_of_mem
abbrev qao := @List.getElem?_set_ne
abbrev qap := @Around.under_plainId
abbrev qaq := @List.pairwise_append
abbrev qar := @Heap.get?_push_size
abbrev qas := @Array.length_toList
abbrev qat := @List.filterMap_cons
abbrev qau := @List.mem_cons_self
abbrev qav := @List.length_append
abbrev qaw := @Nat.lt_of_lt_of_le
abbrev qax := @Bool.false_eq_true
abbrev qay := @List.pairwise_cons
abbrev qaA := @List.size_toArray
abbrev qaB := @Int.toNat_natCast
abbrev qaC := @wpAny_newObj_type
abbrev qaD := @decide_eq_true_eq
abbrev qaE := @List.length_cons
abbrev qaF := @List.not_mem_nil
abbrev qaG := @Bool.and_eq_true
abbrev qaH := @List.length_map
abbrev qaI := @List.length_set
abbrev qaJ := @List.length_nil
abbrev qaK := @List.mem_append
abbrev qaL := @Heap.size_push
abbrev qaM := @List.map_cons
abbrev qaN := @Nat.lt_irrefl
abbrev qaO := @wpAny_holding
abbrev qaP := @List.mem_cons
abbrev qaQ := @Heap.lt_size
abbrev qaR := @Nat.ne_of_lt
abbrev qaS := @Nat.le_trans
abbrev qaT := @List.map_map
abbrev qaU := @List.mem_map
abbrev qaV := @Nat.le_refl
abbrev qaW := @wpAny_bind
abbrev qaX := @wpAny_pure
abbrev qaZ := @wpAny_mono
abbrev qa0 := @False.elim
abbrev qa4 := @if_pos
abbrev qa5 := @if_neg
end
noncomputable def PySem.W.Fast.tw12110679781038599453:Nat:=0
noncomputable def PySem.W.Fast.tw11977671332938080420:Nat:=0
noncomputable def PySem.W.Fast.tw14778282007492310714:Nat:=0
noncomputable def PySem.W.Fast.tw1655959347378403865:Nat:=0
noncomputable def PySem.W.Fast.tw16751544565590257903:Nat:=0
noncomputable def PySem.W.Fast.tw13143797159792603145:Nat:=0
noncomputable def PySem.W.Fast.tw13739687764188873865:Nat:=0
noncomputable def PySem.W.Fast.tw15214408215415365542:Nat:=0
noncomputable def PySem.W.Fast.tw9695074403114177654:Nat:=0
noncomputable def PySem.W.Fast.tw16448255331334833928:Nat:=0
noncomputable def PySem.W.Fast.tw10499532982826442274:Nat:=0
noncomputable def PySem.W.Fast.tw11584864743426430488:Nat:=0
noncomputable def PySem.W.Fast.tw16770412907294094170:Nat:=0
noncomputable def PySem.W.Fast.tw8040519792345238794:Nat:=0
noncomputable def PySem.W.Fast.tw12009721422942134161:Nat:=0
noncomputable def PySem.W.Fast.tw12254724904641683945:Nat:=0
namespace L3
open PySem
def zik (h:Heap) (e:Addr) (cls head:Value):Prop:= ∃ ob vs,h.get? e=some ob/\ob.cls=cls/\ob.dict=none/\ob.data= .fields vs/\vs[2]? = some .none/\vs[1]? = some head
def zvF (h B:Heap) (e:Addr) (head fl:Value):Prop:= ∃ T ot ts,head= .ref T/\B.get? T=none/\T≠e/\h.get? T=some ot/\ot.data= .fields ts/\ts[3]? = some fl
structure Fly (B:Heap) (l:List Env) (e:Addr) (cls fl:Value) (h:Heap):Prop where
 stays:B.StaysIn h
 new:B.get? e=none
 frames:h.FunFrames B l
 exc: ∃ head,zik h e cls head/\zvF h B e head fl
theorem znI (o:Obj) (f):(o.mapFields f).dict=o.dict:=by
 obtain ⟨c,d,t,z⟩:=o
 cases t<;>rfl
section
variable {M:Model} {A:Around} {E:Value->Shared->Prop} {s:Shared} {B:Heap} {env:Env} {outer l:List Env} {L e:Addr} {cls head fl:Value}
theorem zjk {hd0:Value} {hadNext:Bool} {Q:Unit->Shared->Prop} (hfr:A.frames=some (env::outer)) (hl:s.heap.FunFrames B (env::outer)) (hf:env.frame=some L) (hx:zik s.heap e cls head)
  (hkb:B.StaysIn s.heap) (hen:B.get? e=none) (q: ∀ h',Fly B (env::outer) e cls (rawInt L) h'->s.heap.UpToSlots h'->Q () {s with heap:=h'}):
  wpAny M A (do let a<-frameOf env;let pl<-entryPlaceOf L hadNext;let b<-EntryCells.newEntry hd0 a .none (rawInt L) .none pl;setField (.ref e) 1 b) Q E s:=by
 obtain ⟨ob,vs,h1,h2,h3,h4,h5,h6⟩:=hx
 have hsz:1<vs.size:=(qab.mp h6).1
 have nfr:e∉(env::outer).filterMap (·.frame):=fun z=>by
  obtain ⟨_,o,ho,hn⟩:=hl.mem z
  rw [h1] at ho
  cases ho
  exact hn vs h4
 refine qaW (wpAny_frameOf_fun hfr hl hf fun g sg=> ?_)
 refine qaW (wpAny_entryPlaceOf fun pl hpl=> ?_)
 unfold EntryCells.newEntry newFields
 refine qaW (qaC ?_ (hpl.sizeOk5 _ _ _ _ _))
 have e1:g.get? e=some ob:=(sg.2.1 e nfr).trans h1
 have kb:B.StaysIn g:=fun b o z=>(sg.2.1 b fun w=>by rw [(hl.mem w).1] at z;cases z).trans (hkb b o z)
 generalize hob:({cls:= .type "traceback",dict:=none,data:= .fields ([hd0,.ref L,.none,rawInt L,.none]++(if pl.isEmpty then List.replicate 6 Value.none else pl)).toArray}:Obj)=tb
 have e2:(g.push tb).get? e=some ob:=qag _ e1
 have ne:g.objs.size≠e:=Nat.ne_of_gt (qaQ e1)
 have d3:=Obj.data_mapFields h4 (·.setIfInBounds 1 (Value.ref g.objs.size))
 have e3:=qal (Obj.mapFields (·.setIfInBounds 1 (Value.ref g.objs.size))) e2 (Obj.isFreed_of_fields d3)
 have ft:tb.isFreed=false:=by rw [<- hob];rfl
 have t3:((g.push tb).update e (Obj.mapFields (·.setIfInBounds 1 (Value.ref g.objs.size)))).get? g.objs.size=some tb:=(qah _ _ (Ne.symm ne)).trans (qar g ft)
 have stay: ∀ b o,b≠e->g.get? b=some o->((g.push tb).update e (Obj.mapFields (·.setIfInBounds 1 (Value.ref g.objs.size)))).get? b=some o:=fun b o hb z=>by
  rw [qah _ _ (Ne.symm hb)]
  exact qag _ z
 have nrec: ∀ b o,s.heap.get? b=some o->(∀ ws,o.data≠ .fields ws)->b≠e:=fun b o z hn w=>by
  rw [w,h1] at z
  cases z
  exact hn vs h4
 have ht: ∃ ts,tb.data= .fields ts/\ts[3]? = some (rawInt L):=⟨_,by rw [<- hob],by rcases hpl with rfl | ⟨_,_,_,_,_,_,_,rfl⟩<;>simp⟩
 obtain ⟨ts,ht1,ht2⟩:=ht
 refine wpAny_setField e2 h4 hsz (q _ ⟨fun b o z=>stay b o (fun w=>by rw [w,hen] at z;cases z) (kb b o z),hen,hl.of_keeps fun b o z hn=> ?_,.ref g.objs.size,⟨_,_,e3,(Obj.cls_mapFields _ _).trans h2,(znI _ _).trans h3,d3,?_,?_⟩,g.objs.size,tb,ts,rfl,kb.fresh,ne,t3,ht1,ht2⟩ fun b o z hn=> ?_)
 ·obtain ⟨sl,hs⟩:=sg.2.2 b o z
  exact ⟨_,stay b _ (nrec b o z hn) hs,rfl⟩
 ·rw [Array.getElem?_setIfInBounds_ne (by decide)]
  exact h5
 ·simp [hsz]
 ·obtain ⟨sl,hs⟩:=sg.2.2 b o z
  exact ⟨sl,stay b _ (nrec b o z hn) hs⟩
theorem zkb {Q:Unit->Shared->Prop} (hfr:A.frames=some (env::outer)) (hl:s.heap.FunFrames B (env::outer)) (hf:env.frame=some L) (hx:zik s.heap e cls .none)
  (hkb:B.StaysIn s.heap) (hen:B.get? e=none) (q: ∀ h',Fly B (env::outer) e cls (rawInt L) h'->s.heap.UpToSlots h'->Q () {s with heap:=h'}):wpAny M A (noteFrame (.ref e) env) Q E s:=by
 obtain ⟨ob,vs,h1,h2,h3,h4,h5,h6⟩:=id hx
 unfold noteFrame
 simp only [hf]
 refine qaW (wpAny_field h1 h4 h6 ?_)
 rw [qa5 (by decide)]
 exact zjk hfr hl hf hx hkb hen q
theorem zlP {Q:Unit->Shared->Prop} (hfr:A.frames=some (env::outer)) (hf:env.frame=some L) (y:Fly B (env::outer) e cls .none s.heap)
  (q: ∀ h',Fly B (env::outer) e cls (rawInt L) h'->s.heap.UpToSlots h'->Q () {s with heap:=h'}):wpAny M A (noteFrame (.ref e) env) Q E s:=by
 obtain ⟨hkb,hen,hl,hd,⟨ob,vs,h1,h2,h3,h4,h5,h6⟩,T,ot,ts,rfl,t1,t2,t3,t4,t5⟩:=y
 unfold noteFrame
 simp only [hf]
 refine qaW (wpAny_field h1 h4 h6 ?_)
 rw [qa4 (show (Value.ref T != Value.none)=true by simp)]
 refine qaW (wpAny_field t3 t4 t5 ?_)
 rw [qa5 (show ¬(Value.none==rawInt L)=true by simp [rawInt])]
 refine qaW (wpAny_setField t3 t4 (qab.mp t5).1 ?_)
 have oth: ∀ b,b≠T->(s.heap.update T (Obj.mapFields (·.setIfInBounds 3 Value.none))).get? b=s.heap.get? b:=fun b hb=>qah _ _ (Ne.symm hb)
 have nrec: ∀ b o,s.heap.get? b=some o->(∀ ws,o.data≠ .fields ws)->b≠T:=fun b o z hn w=>by
  rw [w,t3] at z
  cases z
  exact hn ts t4
 refine zjk hfr (hl.of_keeps fun b o z hn=>⟨o,(oth b (nrec b o z hn)).trans z,rfl⟩) hf ⟨ob,vs,(oth e (Ne.symm t2)).trans h1,h2,h3,h4,h5,h6⟩ (fun b o z=>(oth b fun w=>by rw [w,t1] at z;cases z).trans (hkb b o z)) hen fun h' y u=> ?_
 exact q h' y fun b o z hn=>u b o ((oth b (nrec b o z hn)).trans z) hn
theorem zep {Q:Unit->Shared->Prop} (y:Fly B l e cls fl s.heap) (q: ∀ h',Fly B l e cls .none h'->(∀ b o,s.heap.get? b=some o->(∀ ws,o.data≠ .fields ws)->h'.get? b=some o)->Q () {s with heap:=h'}):
  wpAny M A (setFlight (.ref e) none) Q E s:=by
 obtain ⟨hkb,hen,hl,hd,⟨ob,vs,h1,h2,h3,h4,h5,h6⟩,T,ot,ts,rfl,t1,t2,t3,t4,t5⟩:=y
 have hsz:=(qab.mp t5).1
 have oth: ∀ b,b≠T->(s.heap.update T (Obj.mapFields (·.setIfInBounds 3 ((none:Option Addr).elim Value.none fun f=>rawInt f)))).get? b=s.heap.get? b:=fun b hb=>qah _ _ (Ne.symm hb)
 have nrec: ∀ b o,s.heap.get? b=some o->(∀ ws,o.data≠ .fields ws)->b≠T:=fun b o z hn w=>by
  rw [w,t3] at z
  cases z
  exact hn ts t4
 unfold setFlight
 refine qaW (wpAny_field h1 h4 h6 ?_)
 rw [qa4 (show (Value.ref T != Value.none)=true by simp)]
 refine wpAny_setField t3 t4 hsz (q _ ⟨fun b o z=>(oth b fun w=>by rw [w,t1] at z;cases z).trans (hkb b o z),hen,hl.of_keeps fun b o z hn=>⟨o,(oth b (nrec b o z hn)).trans z,rfl⟩,
   .ref T,⟨ob,vs,(oth e (Ne.symm t2)).trans h1,h2,h3,h4,h5,h6⟩,T,_,_,rfl,t1,t2,qal _ t3 (Obj.isFreed_of_fields (Obj.data_mapFields t4 _)),Obj.data_mapFields t4 _,by simp [hsz]⟩ fun b o z hn=>(oth b (nrec b o z hn)).trans z)
theorem Fly.tail {h:Heap} (y:Fly B (env::outer) e cls fl h):Fly B outer e cls fl h:=⟨y.stays,y.new,y.frames.2.2,y.exc⟩
theorem zi0 {Q:Unit->Shared->Prop} (hfr:A.frames=some (env::outer)) (hl:s.heap.FunFrames B (env::outer)) (hf:env.frame=some L) (hx:zik s.heap e cls .none)
  (hkb:B.StaysIn s.heap) (hen:B.get? e=none) (q: ∀ h',Fly B outer e cls .none h'->s.heap.UpToSlots h'->Q () {s with heap:=h'}):wpAny M A (leaving env (.ref e)) Q E s:=by
 unfold leaving
 refine qaW (zkb hfr hl hf hx hkb hen fun h1 y1 u1=> ?_)
 refine zep (s:={s with heap:=h1}) y1 fun h2 y2 k2=>q h2 y2.tail (u1.trans fun b o z hn=>⟨o.slots,k2 b o z hn⟩)
theorem znd {Q:Unit->Shared->Prop} (hfr:A.frames=some (env::outer)) (hf:env.frame=some L) (y:Fly B (env::outer) e cls .none s.heap)
  (q: ∀ h',Fly B outer e cls .none h'->s.heap.UpToSlots h'->Q () {s with heap:=h'}):wpAny M A (leaving env (.ref e)) Q E s:=by
 unfold leaving
 refine qaW (zlP hfr hf y fun h1 y1 u1=> ?_)
 refine zep (s:={s with heap:=h1}) y1 fun h2 y2 k2=>q h2 y2.tail (u1.trans fun b o z hn=>⟨o.slots,k2 b o z hn⟩)
theorem znz {h h':Heap} {args:List Value} (x:Heap.MadeExcOf h h' e cls args):zik h' e cls .none:=by
 obtain ⟨t,h1,_,_⟩:=x.there
 exact ⟨_,_,h1,rfl,rfl,rfl,rfl,rfl⟩
end
theorem zhf:entryFor table "proto.unchain"=some Builtin.«proto.unchain» := entryFor_of_tree (by kernel_rfl)
section
variable {prog:Program} {w:World} {A:Around} {E:Value->Shared->Prop} {s:Shared}
theorem zdx {α:Type} {a h:Addr} {o:Obj} {us:Array Value} {cls head:Value} {Q:α->Shared->Prop} (hh:A.handled=some (.ref h)) (hx:zik s.heap h cls head) (ho:s.heap.get? a=some o) (hd:o.data= .fields us) (hz:2<us.size) (hne:h≠a)
  (q:E (.ref a) {s with heap:=s.heap.update a (Obj.mapFields (·.setIfInBounds 2 (.ref h)))}):wpAny (model prog w) A (raiseNew (.ref a):Sem α) Q E s:=by
 obtain ⟨ob,vs,h1,h2,h3,h4,h5,h6⟩:=hx
 unfold raiseNew
 refine qaW (wpAny_handled ?_)
 rw [hh]
 dsimp only
 rw [qa4 (show (Value.ref h != Value.ref a)=true by simp [hne])]
 refine qaW (qaO (wpAny_runValue (codeAny_builtin zhf ?_)))
 unfold Builtin.«proto.unchain»
 refine qaW (wpAny_field h1 h4 h5 ?_)
 rw [qa4 (show (Value.none==Value.none)=true from rfl)]
 refine qaW (qaX (qaX ?_))
 refine qaW ?_
 obtain ⟨c,d,dt,sl⟩:=o
 dsimp only at hd
 subst hd
 unfold updateField
 refine qaW (wpAny_load ho ?_)
 dsimp only
 rw [qa4 hz]
 exact wpAny_update ho (wpAny_throw q)
def zms (A:Around) (h:Heap):Prop:=A.handled=none\/ ∃ a cls head,A.handled=some (.ref a)/\zik h a cls head
theorem zjr {it l:Addr} {i:Nat} {items:Array Value} {Q:Option Value->Shared->Prop} (hh:zms A s.heap) (hit:s.heap.IsListIter it l i) (hl:s.heap.IsList l items) (hx:items[i]? = none)
  (k: ∀ h',Heap.ExtBut it s.heap h'->Q none {s with heap:=h'}):wpAny (model prog w) A (pyNext (.ref it)) Q E s:=by
 rcases hh with hh | ⟨ha,cls,head,hh,hX⟩
 ·exact wpAny_pyNext_list_end hh hit hl hx k
 obtain ⟨o,h1,h2,h3⟩:=id hit
 obtain ⟨ol,l1,_,nl,l2⟩:=hl
 unfold pyNext
 refine qaW (wpAny_attempt (wpAny_callSpecial?_slot (name:=Str.ofString "__next__") hit.typeIs slot_listiter_next (wpAny_call_entry slot_listiter_next hit.typeIs entry_listiter_next ?_ (args_listiter_next _))))
 show wpAny _ _ (field (.ref it) 0>>=_) _ _ s
 refine qaW (wpAny_field h1 h3 (x:= .ref l) rfl ?_)
 show wpAny _ _ (if (Value.ref l==Value.none)=true then _ else _) _ _ s
 rw [qa5 (show ¬(Value.ref l==Value.none)=true from nofun)]
 show wpAny _ _ (field (.ref it) 1>>=_) _ _ s
 refine qaW (wpAny_field h1 h3 (x:= .int i 0) rfl ?_)
 show wpAny _ _ (seqItems? (.ref l)>>=_) _ _ s
 refine qaW (wpAny_seqItems l1 l2 ?_)
 simp only [qaB,hx]
 refine qaW (wpAny_rule (qaW (wpAny_setField h1 h3 (by simp) ?_)))
 have nit:ha≠it:=fun z=>by
  subst z
  obtain ⟨ob,vs,x1,_,_,x4,x5,x6⟩:=hX
  rw [h1] at x1
  cases x1
  rw [h3] at x4
  cases x4
  simp at x5
 have hX1:zik (s.heap.update it (Obj.mapFields (·.setIfInBounds 0 Value.none))) ha cls head:=by
  obtain ⟨ob,vs,x1,x2⟩:=hX
  exact ⟨ob,vs,(qah _ _ (Ne.symm nit)).trans x1,x2⟩
 show wpAny _ _ (newExc (.type "StopIteration") []>>=_) _ _ _
 refine qaW ?_
 simp only [newExc,newTuple]
 refine qaW (qaC ?_ (by size_fits))
 refine qaW (m:=firstArgMember _ _) (wpAny_of_eq (a:=Value.none) (by first | rfl | (simp only [firstArgMember];rfl)) ?_)
 refine qaC ?_ (by size_fits)
 obtain ⟨ob,vs,x1,x2⟩:=hX1
 have y1:=qag {cls:= .type "tuple",dict:=none,data:= .seq [].toArray} x1
 refine zdx (h:=ha) (cls:=cls) (head:=head) hh ⟨ob,vs,qag _ y1,x2⟩ (qar _ rfl) rfl (by simp;omega) (qaR (qaQ y1)) ?_
 refine qaW (wpAny_isInstance (T:="StopIteration") (b:=true) ⟨_,qal _ (qar _ rfl) rfl,rfl⟩ isSubtype_stop ?_)
 refine qaX (k _ fun b o hb z=> ?_)
 have z1:(s.heap.update it (Obj.mapFields (·.setIfInBounds 0 Value.none))).get? b=some o:=(qah _ _ (Ne.symm hb)).trans z
 have z2:=qag {cls:= .type "tuple",dict:=none,data:= .seq [].toArray} z1
 rw [qah _ _ (Nat.ne_of_gt (qaQ z2))]
 exact qag _ z2
theorem zlQ {it l:Addr} {i:Nat} {items:Array Value} {Q:Option Value->Shared->Prop} (hh:zms A s.heap) (hit:s.heap.IsTupleIter it l i) (hl:s.heap.IsTuple l items) (hx:items[i]? = none)
  (k: ∀ h',Heap.ExtBut it s.heap h'->Q none {s with heap:=h'}):wpAny (model prog w) A (pyNext (.ref it)) Q E s:=by
 rcases hh with hh | ⟨ha,cls,head,hh,hX⟩
 ·exact wpAny_pyNext_tuple_end hh hit hl hx k
 obtain ⟨o,h1,h2,h3⟩:=id hit
 obtain ⟨ol,l1,_,nl,l2⟩:=hl
 unfold pyNext
 refine qaW (wpAny_attempt (wpAny_callSpecial?_slot (name:=Str.ofString "__next__") hit.typeIs F.slot_tuple_iterator_next (wpAny_call_entry F.slot_tuple_iterator_next hit.typeIs F.entry_tuple_iterator_next ?_ (F.args_tuple_iterator_next_1 _))))
 show wpAny _ _ (field (.ref it) 0>>=_) _ _ s
 refine qaW (wpAny_field h1 h3 (x:= .ref l) rfl ?_)
 show wpAny _ _ (if (Value.ref l==Value.none)=true then _ else _) _ _ s
 rw [qa5 (show ¬(Value.ref l==Value.none)=true from nofun)]
 show wpAny _ _ (field (.ref it) 1>>=_) _ _ s
 refine qaW (wpAny_field h1 h3 (x:= .int i 0) rfl ?_)
 show wpAny _ _ (seqItems? (.ref l)>>=_) _ _ s
 refine qaW (wpAny_seqItems l1 l2 ?_)
 simp only [qaB,hx]
 refine qaW (wpAny_rule (qaW (wpAny_setField h1 h3 (by simp) ?_)))
 have nit:ha≠it:=fun z=>by
  subst z
  obtain ⟨ob,vs,x1,_,_,x4,x5,x6⟩:=hX
  rw [h1] at x1
  cases x1
  rw [h3] at x4
  cases x4
  simp at x5
 have hX1:zik (s.heap.update it (Obj.mapFields (·.setIfInBounds 0 Value.none))) ha cls head:=by
  obtain ⟨ob,vs,x1,x2⟩:=hX
  exact ⟨ob,vs,(qah _ _ (Ne.symm nit)).trans x1,x2⟩
 show wpAny _ _ (newExc (.type "StopIteration") []>>=_) _ _ _
 refine qaW ?_
 simp only [newExc,newTuple]
 refine qaW (qaC ?_ (by size_fits))
 refine qaW (m:=firstArgMember _ _) (wpAny_of_eq (a:=Value.none) (by first | rfl | (simp only [firstArgMember];rfl)) ?_)
 refine qaC ?_ (by size_fits)
 obtain ⟨ob,vs,x1,x2⟩:=hX1
 have y1:=qag {cls:= .type "tuple",dict:=none,data:= .seq [].toArray} x1
 refine zdx (h:=ha) (cls:=cls) (head:=head) hh ⟨ob,vs,qag _ y1,x2⟩ (qar _ rfl) rfl (by simp;omega) (qaR (qaQ y1)) ?_
 refine qaW (wpAny_isInstance (T:="StopIteration") (b:=true) ⟨_,qal _ (qar _ rfl) rfl,rfl⟩ isSubtype_stop ?_)
 refine qaX (k _ fun b o hb z=> ?_)
 have z1:(s.heap.update it (Obj.mapFields (·.setIfInBounds 0 Value.none))).get? b=some o:=(qah _ _ (Ne.symm hb)).trans z
 have z2:=qag {cls:= .type "tuple",dict:=none,data:= .seq [].toArray} z1
 rw [qah _ _ (Nat.ne_of_gt (qaQ z2))]
 exact qag _ z2
theorem zkV {it:Addr} {x left step:Int} {Q:Option Value->Shared->Prop} (hh:zms A s.heap) (hit:IsRangeIter s.heap it x left step) (hleft:left<=0)
  (k: ∀ h',Heap.ExtBut it s.heap h'->Q none {s with heap:=h'}):wpAny (model prog w) A (pyNext (.ref it)) Q E s:=by
 rcases hh with hh | ⟨ha,cls,head,hh,hX⟩
 ·exact wpAny_pyNext_range_end hh hit hleft k
 have hT:s.TypeIs (.ref it) "range_iterator":=⟨_,hit,rfl⟩
 unfold pyNext
 refine qaW (wpAny_attempt (wpAny_callSpecial?_slot (name:=Str.ofString "__next__") hT F.slot_range_iterator_next (wpAny_call_entry F.slot_range_iterator_next hT F.entry_range_iterator_next ?_ (F.args_range_iterator_next_1 _))))
 show wpAny _ _ (field (.ref it) 0>>=_) _ _ s
 refine qaW (wpAny_field hit rfl (x:=rawInt x) rfl ?_)
 show wpAny _ _ (field (.ref it) 1>>=_) _ _ s
 refine qaW (wpAny_field hit rfl (x:=rawInt left) rfl ?_)
 show wpAny _ _ (field (.ref it) 2>>=_) _ _ s
 refine qaW (wpAny_field hit rfl (x:=rawInt step) rfl ?_)
 show wpAny _ _ (if left<=0 then _ else _) _ _ s
 rw [qa4 hleft]
 refine qaW (wpAny_rule (qaW ?_))
 show wpAny _ _ (newExc (.type "StopIteration") []>>=_) _ _ _
 refine qaW ?_
 simp only [newExc,newTuple]
 refine qaW (qaC ?_ (by size_fits))
 refine qaW (m:=firstArgMember _ _) (wpAny_of_eq (a:=Value.none) (by first | rfl | (simp only [firstArgMember];rfl)) ?_)
 refine qaC ?_ (by size_fits)
 obtain ⟨ob,vs,x1,x2⟩:=hX
 have y1:=qag {cls:= .type "tuple",dict:=none,data:= .seq [].toArray} x1
 refine zdx (h:=ha) (cls:=cls) (head:=head) hh ⟨ob,vs,qag _ y1,x2⟩ (qar _ rfl) rfl (by simp;omega) (qaR (qaQ y1)) ?_
 refine qaW (wpAny_isInstance (T:="StopIteration") (b:=true) ⟨_,qal _ (qar _ rfl) rfl,rfl⟩ isSubtype_stop ?_)
 refine qaX (k _ fun b o hb z=> ?_)
 have z2:=qag {cls:= .type "tuple",dict:=none,data:= .seq [].toArray} z
 rw [qah _ _ (Nat.ne_of_gt (qaQ z2))]
 exact qag _ z2
theorem zik.keep {h h':Heap} {a:Addr} {cls head:Value} (x:zik h a cls head) (k: ∀ o,h.get? a=some o->h'.get? a=some o):zik h' a cls head:=by
 obtain ⟨ob,vs,x1,x2⟩:=x
 exact ⟨ob,vs,k _ x1,x2⟩
theorem zj4 {ha:Addr} {cls head:Value} (hh:A.handled=some (.ref ha)) (I ax:Addr) (hne:ax≠I) (hn2:ha≠I) (items:Array Value):
  Walks prog w A I [I,ax,ha] [I] items.size (fun i v=>items[i]? = some v) (fun i h=>h.IsListIter I ax i/\h.IsList ax items/\zik h ha cls head) where
 sub:=fun b hb=>by simp at hb;simp [hb]
 frame:=fun _ _ _ st hk=>⟨st.1.at fun o e=>hk I (by simp) o e,st.2.1.at fun o e=>hk ax (by simp) o e,st.2.2.keep fun o e=>hk ha (by simp) o e⟩
 item:=fun i s Q E hi st hQ=>by
  refine wpAny_pyNext_list_item st.1 st.2.1 (x:=items[i]) (by simp [hi]) fun h' hit' hs'=> ?_
  exact hQ _ h' s.toks (by simp [hi]) ⟨hit',st.2.1.extBut hs'.extBut hne,st.2.2.keep fun o e=>hs'.extBut ha o hn2 e⟩ fun b o hb e=>hs'.extBut b o (fun h=>hb (by simp [h])) e
 done:=fun s Q E st hQ=>zjr (.inr ⟨ha,cls,head,hh,st.2.2⟩) st.1 st.2.1 (by simp) fun h' he'=>hQ h' s.toks fun b o hb e=>he' b o (fun h=>hb (by simp [h])) e
 self:=fun _ _ _ _ st hQ=>wpAny_pyIter_listiter st.1 hQ
end
end L3
namespace L2
open PySem PySem.Spec PyProof.Rows
noncomputable abbrev Key:=Sum Int Str
noncomputable def zke:Key->Value->Bool
 | .inl k,v=>Value.isInt k v
 | .inr x,v=>Value.isStrOf x v
noncomputable def zvr (w:World):Key->Int
 | .inl k=>hashInt k
 | .inr x=>hashStr w x
theorem za7: ∀ {k:Key} {v:Value},zke k v=true->(∃ i t,k=Sum.inl i/\v=Value.int i t)\/(∃ x t,k=Sum.inr x/\v=Value.str x t)
 | .inl i,v,h=>by
  obtain ⟨t,e⟩:=Value.isInt_shape (k:=i) (v:=v) h
  exact .inl ⟨i,t,rfl,e⟩
 | .inr x,v,h=>by
  obtain ⟨t,e⟩:=Value.isStrOf_shape (x:=x) (v:=v) h
  exact .inr ⟨x,t,rfl,e⟩
theorem zkz (i:Int) (t:Tok):zke (.inl i) (.int i t)=true:=by simp [zke,Value.isInt]
theorem zlA (x:Str) (t:Tok):zke (.inr x) (.str x t)=true:=by simp [zke,Value.isStrOf]
theorem zsy (a b:Int):decide ((Sum.inl a:Key)=Sum.inl b)=(a==b):=by
 by_cases e:a=b
 ·subst e;simp
 ·have h: ¬(Sum.inl a:Key)=Sum.inl b:=fun q=>e (Sum.inl.inj q)
  rw [decide_eq_false h]
  exact (beq_eq_false_iff_ne.mpr e).symm
theorem zsU (a b:Str):decide ((Sum.inr a:Key)=Sum.inr b)=decide (a=b):=by
 by_cases e:a=b
 ·subst e;simp
 ·have h: ¬(Sum.inr a:Key)=Sum.inr b:=fun q=>e (Sum.inr.inj q)
  rw [decide_eq_false h,decide_eq_false e]
theorem zsm (a:Int) (b:Str):decide ((Sum.inl a:Key)=Sum.inr b)=false:=decide_eq_false (fun q=>nomatch q)
theorem zsd (a:Str) (b:Int):decide ((Sum.inr a:Key)=Sum.inl b)=false:=decide_eq_false (fun q=>nomatch q)
noncomputable def zdM (prog:Program) (w:World):PySem.KeyKind prog w Key where
 is:=zke
 hash:=zvr w
 inj:=fun v a b ha hb=>by
  rcases za7 ha with ⟨i,t,rfl,rfl⟩ | ⟨x,t,rfl,rfl⟩
  ·rcases za7 hb with ⟨j,u,rfl,e⟩ | ⟨y,u,rfl,e⟩
   ·injection e with e1 _;rw [e1]
   ·exact nomatch e
  ·rcases za7 hb with ⟨j,u,rfl,e⟩ | ⟨y,u,rfl,e⟩
   ·exact nomatch e
   ·injection e with e1 _;rw [e1]
 byValue:=fun k v h=>by
  rcases za7 h with ⟨i,t,rfl,rfl⟩ | ⟨x,t,rfl,rfl⟩<;>rfl
 pyHash:=fun hv h=>by
  rcases za7 hv with ⟨i,t,rfl,rfl⟩ | ⟨x,t,rfl,rfl⟩
  ·exact wpAny_pyHash_int h
  ·exact wpAny_pyHash_str h
 eqBool:=fun hu hv h=>by
  rcases za7 hu with ⟨i,t,rfl,rfl⟩ | ⟨x,t,rfl,rfl⟩
  ·rcases za7 hv with ⟨j,u,rfl,rfl⟩ | ⟨y,u,rfl,rfl⟩
   ·rw [zsy] at h;exact wpAny_eqBool_int h
   ·rw [zsm] at h;exact SeqAt.EqAt.int_str i t y u _ _ _ _ h
  ·rcases za7 hv with ⟨j,u,rfl,rfl⟩ | ⟨y,u,rfl,rfl⟩
   ·rw [zsd] at h;exact SeqAt.EqAt.str_int x t j u _ _ _ _ h
   ·rw [zsU] at h;exact wpAny_eqBool_str h
 «strs» := fun k x t v h=>by
  rcases za7 h with ⟨i,u,rfl,e⟩ | ⟨y,u,rfl,e⟩
  ·exact nomatch e
  ·injection e with e1 _
   subst e1
   cases v<;>rfl
theorem ziY (prog:Program) (w:World) (i:Int) (t:Tok):(zdM prog w).is (.inl i) (.int i t)=true:=zkz i t
theorem ziE (prog:Program) (w:World) (x:Str) (t:Tok):(zdM prog w).is (.inr x) (.str x t)=true:=zlA x t
inductive V where
 | non | bl (b:Bool) | int (i:Int) | str (x:Str) | byt (b:Array UInt8) | flt (b:UInt64) | ref (a:Addr) | ty (n:String)
 deriving DecidableEq
noncomputable def zbA:V->Value->Prop
 | .non,u=>u=Value.none
 | .bl b,u=>u=Value.bool b
 | .int i,u=> ∃ t,u=Value.int i t
 | .str x,u=> ∃ t,u=Value.str x t
 | .byt b,u=> ∃ t,u=Value.bytes b t
 | .flt b,u=> ∃ t,u=Value.float b t
 | .ref a,u=>u=Value.ref a
 | .ty n,u=>u=Value.type n
noncomputable abbrev zaQ:List V->List Value->Prop:=Paired zbA
theorem zaQ.length {xs:List V} {us:List Value} (r:zaQ xs us):xs.length=us.length:=Paired.length r
theorem zaQ.get: ∀ {xs:List V} {us:List Value} {i:Nat} {x:V},zaQ xs us->xs[i]? = some x-> ∃ u,us[i]? = some u/\zbA x u
 | _,_,_,_,.nil,e=>by simp at e
 | _,_,0,_,.cons r _,e=>by simp at e;subst e;exact ⟨_,rfl,r⟩
 | _,_,i+1,x,.cons _ t,e=>by
  obtain ⟨u,h1,h2⟩:=zaQ.get (i:=i) (x:=x) t (by simpa using e)
  exact ⟨u,by simpa using h1,h2⟩
theorem zaQ.set {x:V} {u:Value} (r:zbA x u): ∀ {xs:List V} {us:List Value} (i:Nat),zaQ xs us->zaQ (xs.set i x) (us.set i u)
 | _,_,_,.nil=> .nil
 | _,_,0,.cons _ t=> .cons r t
 | _,_,i+1,.cons q t=> .cons q (zaQ.set r i t)
theorem zaQ.append: ∀ {xs ys:List V} {us ws:List Value},zaQ xs us->zaQ ys ws->zaQ (xs++ys) (us++ws)
 | _,_,_,_,.nil,s=>s
 | _,_,_,_,.cons r t,s=> .cons r (zaQ.append t s)
theorem zaQ.take: ∀ {xs:List V} {us:List Value} (n:Nat),zaQ xs us->zaQ (xs.take n) (us.take n)
 | _,_,0,_=> .nil
 | _,_,_+1,.nil=> .nil
 | _,_,n+1,.cons r t=> .cons r (zaQ.take n t)
theorem zaQ.drop: ∀ {xs:List V} {us:List Value} (n:Nat),zaQ xs us->zaQ (xs.drop n) (us.drop n)
 | _,_,0,r=>r
 | _,_,_+1,.nil=> .nil
 | _,_,n+1,.cons _ t=>zaQ.drop n t
theorem zaQ.none_of: ∀ {xs:List V} {us:List Value} {i:Nat},zaQ xs us->xs[i]? = none->us[i]? = none:=fun {xs us i} r e=>by
 have h1:=r.length
 have h2:xs.length<=i:=List.getElem?_eq_none_iff.mp e
 exact List.getElem?_eq_none_iff.mpr (by omega)
noncomputable def zmH:Option V->Option Value->Prop
 | some v,some u=>zbA v u
 | none,none=>True
 | _,_=>False
noncomputable def KV {κ:Type}:List (κ×V)->List (κ×Value)->Prop:=Paired fun (p:κ×V) (q:κ×Value)=>p.1=q.1/\zbA p.2 q.2
noncomputable def kV:Key->V
 | .inl i=> .int i
 | .inr x=> .str x
inductive HO where
 | lst (xs:List V)
 | tup (xs:List V)
 | dK (kvs:List (Key×V)) | dT (kvs:List (List Key×V))
 | set (S:Int->Bool) (n:Nat)
 | ins (C dx:Addr) (fs:List (Str×V))
 | own (x:Addr)
 | xd (fs:List (Str×V))
 | met (f x:Addr)
 | rng (lo hi:Int)
 | frz (o:Obj) (u:HO)
 | tbl (ps:Array Value)
 | ext (φ:Heap->Prop)
noncomputable abbrev Hp:=Addr->Option HO
noncomputable def upd (H:Hp) (a:Addr) (o:HO):Hp:=fun b=>if b=a then some o else H b
theorem zaM {H:Hp} {a:Addr} {o:HO}:upd H a o a=some o:=by unfold upd;rw [qa4 rfl]
theorem zau {H:Hp} {a b:Addr} {o:HO} (h:b≠a):upd H a o b=H b:=by unfold upd;rw [qa5 h]
theorem zaO {H:Hp} {a b:Addr} {o:HO} (h:H a=some o) (h':H b=none):a≠b:=by
 intro e;subst e;rw [h] at h';cases h'
section
variable (P:Program) (w:World)
noncomputable def zbY (H:Hp) (h:Heap) (a:Addr):HO->Prop
 | .lst xs=>xs.length<=sizeLine/\ ∃ (its:List Value) (n:Nat),zaQ xs its/\h.get? a=some {cls:= .type "list",data:= .seq its.toArray n}
 | .tup xs=>xs.length<=sizeLine/\ ∃ its:List Value,zaQ xs its/\IsTup h a its.toArray
 | .dK kvs=>kvs.length<=sizeLine/\(a==sysModules)=false/\ ∃ vs,KV kvs vs/\h.DictOf (zdM P w) a vs
 | .dT kvs=>kvs.length<=sizeLine/\(a==sysModules)=false/\ ∃ xs:List (List Key×Addr×Value),
   Paired (fun (p:List Key×V) (q:List Key×Addr×Value)=>p.1=q.1/\H q.2.1=some (.tup (p.1.map kV))/\zbA p.2 q.2.2) kvs xs/\
   ∃ o es ep,h.get? a=some o/\o.ExactDict/\o.data= .dict es ep/\es.toList=xs.map (entryOfKey (tupleKind (zdM P w)))/\(xs.map (·.1)).Nodup
 | .set S n=>h.SetOf (intKind P w) a S n
 | .ins C dx fs=>H dx=some (.own a)/\fs.length<=1000/\dx≠a/\h.get? a=some (W.instObj C dx)/\
   ∃ mA,h.Ns1 dx mA/\(∀ f,zmH (fs.lookup f) (mA f))/\PySem.Within mA (fs.map (·.1))
 | .own _=> ∃ o,h.get? a=some o
 | .xd fs=> ∃ mA,h.Ns1 a mA/\ ∀ f,zmH (fs.lookup f) (mA f)
 | .rng lo hi=> ∃ t u v,h.get? a=some {cls:= .type "range",data:= .fields #[.int lo t,.int hi u,.int 1 v]}
 | .frz o u=>h.get? a=some o/\zbY H h a u
 | .tbl ps=>h.get? a=some {cls:= .none,data:= .fields ps}
 | .met f x=>h.get? a=some (W.methodObj (.ref f) (.ref x))
 | .ext φ=>φ h/\(∃ o,h.get? a=some o)/\ ∀ h1 h2:Heap,φ h1->(∀ o,h1.get? a=some o->h2.get? a=some o)->φ h2
def HOk (H:Hp) (h:Heap):Prop:= ∀ a o,H a=some o->zbY P w H h a o
end
section
variable {P:Program} {w:World} {H H':Hp} {h h':Heap} {a:Addr} {o:HO}
theorem zbY.lt (x:zbY P w H h a o):a<h.objs.size:=by
 cases o with
 | lst xs=>obtain ⟨_,_,_,_,e⟩:=x;exact qaQ e
 | tup xs=>obtain ⟨_,_,_,p⟩:=x;exact p.lt
 | dK kvs=>obtain ⟨_,_,_,_,o,_,_,e,_⟩:=x;exact qaQ e
 | dT kvs=>obtain ⟨_,_,_,_,o,_,_,e,_⟩:=x;exact qaQ e
 | set S n=>obtain ⟨o,_,_,_,e,_⟩:=x;exact qaQ e
 | ins C dx fs=>obtain ⟨_,_,_,e,_⟩:=x;exact qaQ e
 | own y=>obtain ⟨_,e⟩:=x;exact qaQ e
 | xd fs=>obtain ⟨_,⟨_,_,_,e,_⟩,_⟩:=x;exact qaQ e
 | rng lo hi=>obtain ⟨_,_,_,e⟩:=x;exact qaQ e
 | frz ob u=>obtain ⟨e,_⟩:=x;exact qaQ e
 | tbl ps=>exact qaQ (show h.get? a=some _ from x)
 | met f y=>exact qaQ (show h.get? a=some _ from x)
 | ext φ=>obtain ⟨_,⟨_,e⟩,_⟩:=x;exact qaQ e
theorem Paired.mapP {α β:Type} {F G:α->β->Prop}: ∀ {l₁:List α} {l₂:List β},Paired F l₁ l₂->(∀ a b,F a b->G a b)->Paired G l₁ l₂
 | _,_,.nil,_=> .nil
 | _,_,.cons r t,f=> .cons (f _ _ r) (Paired.mapP t f)
theorem zbY.stay (x:zbY P w H h a o) (k: ∀ b u,(b=a\/H b=some (.own a))->h.get? b=some u->h'.get? b=some u)
  (ho: ∀ b,H b=some (.own a)->H' b=some (.own a)) (ht: ∀ b xs,H b=some (.tup xs)->H' b=some (.tup xs)):zbY P w H' h' a o:=by
 induction o with
 | lst xs=>obtain ⟨z,its,n,r,e⟩:=x;exact ⟨z,its,n,r,k _ _ (.inl rfl) e⟩
 | tup xs=>obtain ⟨z,its,r,ob,e,c⟩:=x;exact ⟨z,its,r,ob,k _ _ (.inl rfl) e,c⟩
 | dK kvs=>obtain ⟨z,y,vs,r,ob,es,ep,e,c⟩:=x;exact ⟨z,y,vs,r,ob,es,ep,k _ _ (.inl rfl) e,c⟩
 | dT kvs=>
  obtain ⟨z,y,xs,r,ob,es,ep,e,c⟩:=x
  exact ⟨z,y,xs,Paired.mapP r fun p q z=>⟨z.1,ht _ _ z.2.1,z.2.2⟩,ob,es,ep,k _ _ (.inl rfl) e,c⟩
 | set S n=>obtain ⟨ob,es,ep,t,e,c⟩:=x;exact ⟨ob,es,ep,t,k _ _ (.inl rfl) e,c⟩
 | ins C dx fs=>
  obtain ⟨d,z,ne,e,mA,⟨od,es,ep,e2,c⟩,r⟩:=x
  exact ⟨ho _ d,z,ne,k _ _ (.inl rfl) e,mA,⟨od,es,ep,k _ _ (.inr d) e2,c⟩,r⟩
 | own y=>obtain ⟨ob,e⟩:=x;exact ⟨ob,k _ _ (.inl rfl) e⟩
 | xd fs=>obtain ⟨mA,⟨od,es,ep,e,c⟩,r⟩:=x;exact ⟨mA,⟨od,es,ep,k _ _ (.inl rfl) e,c⟩,r⟩
 | rng lo hi=>obtain ⟨t,u,v,e⟩:=x;exact ⟨t,u,v,k _ _ (.inl rfl) e⟩
 | frz ob u ih=>obtain ⟨e,q⟩:=x;exact ⟨k _ _ (.inl rfl) e,ih q⟩
 | tbl ps=>
  have e:h.get? a=some {cls:= .none,data:= .fields ps}:=x
  show h'.get? a=some {cls:= .none,data:= .fields ps}
  exact k a _ (.inl rfl) e
 | met f y=>
  have e:h.get? a=some (W.methodObj (.ref f) (.ref y)):=x
  show h'.get? a=some (W.methodObj (.ref f) (.ref y))
  exact k a _ (.inl rfl) e
 | ext φ=>obtain ⟨p,⟨o,e⟩,st⟩:=x;exact ⟨st _ _ p fun o q=>k _ _ (.inl rfl) q,⟨o,k _ _ (.inl rfl) e⟩,st⟩
theorem HOk.lt (x:HOk P w H h) (e:H a=some o):a<h.objs.size:=(x a o e).lt
theorem HOk.fresh (x:HOk P w H h) (e:h.objs.size<=a):H a=none:=by
 cases q:H a with
 | none=>rfl
 | some u=>exact absurd (qaw (x.lt q) e) (qaN _)
theorem HOk.kept (x:HOk P w H h) (k: ∀ b u,h.get? b=some u->h'.get? b=some u):HOk P w H h':=fun a o e=>
 (x a o e).stay (fun b u _ q=>k b u q) (fun _ q=>q) fun _ _ q=>q
theorem HOk.laid (x:HOk P w H h) (k: ∀ b u,h.get? b=some u->h'.get? b=some u) (hp:h.objs.size<=a) (new:zbY P w (upd H a o) h' a o):HOk P w (upd H a o) h':=fun b u e=>by
 have hn:=x.fresh hp
 by_cases hb:b=a
 ·subst hb;rw [zaM] at e;cases e;exact new
 ·rw [zau hb] at e
  exact (x b u e).stay (fun c v _ q=>k c v q) (fun c q=>by rw [zau (zaO q hn)];exact q) fun c xs q=>by rw [zau (zaO q hn)];exact q
end
def Rd (H:Hp) (a:Addr) (u:HO):Prop:=H a=some u\/ ∃ o,H a=some (.frz o u)
theorem Rd.of {H:Hp} {a:Addr} {u:HO} (h:H a=some u):Rd H a u:= .inl h
theorem Rd.ok {P:Program} {w:World} {H:Hp} {h:Heap} {a:Addr} {u:HO} (r:Rd H a u) (x:HOk P w H h):zbY P w H h a u:=by
 rcases r with r | ⟨o,r⟩
 ·exact x a u r
 ·obtain ⟨_,q⟩:=x a _ r
  exact q
noncomputable def Mut:Option HO->Prop
 | some (.lst _)=>True
 | some (.dK _)=>True
 | some (.dT _)=>True
 | some (.set _ _)=>True
 | some (.ins _ _ _)=>True
 | some (.ext _)=>True
 | _=>False
section
variable {P:Program} {w:World} {H:Hp} {h h':Heap} {x e:Addr} {o':HO}
theorem HOk.write (ok:HOk P w H h) (mu:Mut (H x)) (he:e=x\/H e=some (.own x)) (k: ∀ b u,b≠e->h.get? b=some u->h'.get? b=some u) (heo: ∃ u,h'.get? e=some u)
  (new:zbY P w (upd H x o') h' x o'):HOk P w (upd H x o') h':=fun b u q=>by
 have nown: ∀ c y,H c=some (.own y)->c≠x:=fun c y r z=>by subst z;rw [r] at mu;exact mu
 have ntup: ∀ c xs,H c=some (.tup xs)->c≠x:=fun c xs r z=>by subst z;rw [r] at mu;exact mu
 by_cases hb:b=x
 ·subst hb;rw [zaM] at q;cases q;exact new
 ·rw [zau hb] at q
  by_cases hbe:b=e
  ·have q':H b=some (.own x):=by
    rcases he with z | z
    ·exact absurd (hbe.trans z) hb
    ·rw [hbe];exact z
   rw [q] at q';cases q'
   obtain ⟨v,hv⟩:=heo
   exact ⟨v,by rw [hbe];exact hv⟩
  ·refine (ok b u q).stay (fun c v hc r=>k c v ?_ r) (fun c r=>by rw [zau (nown c b r)];exact r) fun c xs r=>by rw [zau (ntup c xs r)];exact r
   rcases hc with rfl | hc
   ·exact hbe
   ·rintro rfl
    rcases he with z | z
    ·exact nown c b hc z
    ·rw [hc] at z;cases z;exact hb rfl
end
structure Un (fs ex:List Addr) (H H':Hp) (h h':Heap):Prop where
 keep: ∀ b o,h.get? b=some o->H b=none->b∉fs->b∉ex->h'.get? b=some o
 slot: ∀ b o,h.get? b=some o->H b=none->b∈fs->b∉ex-> ∃ sl,h'.get? b=some {o with slots:=sl}
 free: ∀ b o,h.get? b=some o->H b=none->b∉ex->H' b=none
 there: ∀ b o,h.get? b=some o->b∉ex-> ∃ o',h'.get? b=some o'
 tups: ∀ b xs,H b=some (.tup xs)->H' b=some (.tup xs)
 frzs: ∀ b o u,H b=some (.frz o u)->H' b=some (.frz o u)
 tbls: ∀ b ps,H b=some (.tbl ps)-> ∃ more,H' b=some (.tbl (ps++more))
section
variable {fs fs' ex ex':List Addr} {H H1 H2:Hp} {h h1 h2 h':Heap} {a x e:Addr} {o:HO}
theorem Un.any (u:Un fs ex H H1 h h1) {b:Addr} {ob:Obj} (q:h.get? b=some ob) (n:H b=none) (hx:b∉ex): ∃ sl,h1.get? b=some {ob with slots:=sl}:=by
 by_cases hb:b∈fs
 ·exact u.slot b ob q n hb hx
 ·exact ⟨ob.slots,u.keep b ob q n hb hx⟩
theorem Un.trans (a:Un fs ex H H1 h h1) (b:Un fs ex H1 H2 h1 h2):Un fs ex H H2 h h2 where
 keep:=fun c ob q n hc hx=>b.keep c ob (a.keep c ob q n hc hx) (a.free c ob q n hx) hc hx
 slot:=fun c ob q n hc hx=>by
  obtain ⟨sl,e1⟩:=a.slot c ob q n hc hx
  obtain ⟨sl',e2⟩:=b.slot c _ e1 (a.free c ob q n hx) hc hx
  exact ⟨sl',e2⟩
 free:=fun c ob q n hx=>by
  obtain ⟨o',e1⟩:=a.there c ob q hx
  exact b.free c o' e1 (a.free c ob q n hx) hx
 there:=fun c ob q hx=>by
  obtain ⟨o',e1⟩:=a.there c ob q hx
  exact b.there c o' e1 hx
 tups:=fun c xs q=>b.tups c xs (a.tups c xs q)
 frzs:=fun c ob xs q=>b.frzs c ob xs (a.frzs c ob xs q)
 tbls:=fun c ps q=>by
  obtain ⟨m1,e1⟩:=a.tbls c ps q
  obtain ⟨m2,e2⟩:=b.tbls c _ e1
  exact ⟨m1++m2,by rw [e2,Array.append_assoc]⟩
theorem Un.kept (k: ∀ b u,h.get? b=some u->h'.get? b=some u):Un fs ex H H h h':=
 ⟨fun b ob q _ _ _=>k b ob q,fun b ob q _ _ _=>⟨ob.slots,k b ob q⟩,fun _ _ _ n _=>n,fun b ob q _=>⟨ob,k b ob q⟩,fun _ _ q=>q,fun _ _ _ q=>q,fun _ ps q=>⟨#[],by rw [q];simp⟩⟩
theorem Un.refl:Un fs ex H H h h:=Un.kept fun _ _ q=>q
theorem Un.laid (k: ∀ b u,h.get? b=some u->h'.get? b=some u) (hp:h.objs.size<=a) (hn:H a=none):Un fs ex H (upd H a o) h h' where
 keep:=fun b u q _ _ _=>k b u q
 slot:=fun b u q _ _ _=>⟨u.slots,k b u q⟩
 free:=fun b u q n _=>by rw [zau (qaR (qaw (qaQ q) hp))];exact n
 there:=fun b u q _=>⟨u,k b u q⟩
 tups:=fun b xs q=>by rw [zau (zaO q hn)];exact q
 frzs:=fun b u xs q=>by rw [zau (zaO q hn)];exact q
 tbls:=fun b ps q=>⟨#[],by rw [zau (zaO q hn),q];simp⟩
theorem Un.write (mu:Mut (H x)) (he:e=x\/H e=some (.own x)) (k: ∀ b u,b≠e->h.get? b=some u->h'.get? b=some u) (heo: ∃ u,h'.get? e=some u):Un fs ex H (upd H x o) h h':=by
 have hx: ∀ b,H b=none->b≠x:=fun b n z=>by subst z;rw [n] at mu;exact mu
 have hb: ∀ b,H b=none->b≠e:=fun b n z=>by
  subst z
  rcases he with r | r
  ·exact hx b n r
  ·rw [n] at r;cases r
 have hm: ∀ b u,H b=some u-> ¬Mut (some u)->b≠x:=fun b u q nm z=>by subst z;rw [q] at mu;exact nm mu
 refine ⟨fun b u q n _ _=>k b u (hb b n) q,fun b u q n _ _=>⟨u.slots,k b u (hb b n) q⟩,fun b u q n _=>by rw [zau (hx b n)];exact n,fun b u q _=> ?_,
   fun b xs q=>by rw [zau (hm b _ q fun z=>z)];exact q,fun b u xs q=>by rw [zau (hm b _ q fun z=>z)];exact q,fun b ps q=>⟨#[],by rw [zau (hm b _ q fun z=>z),q];simp⟩⟩
 by_cases hbe:b=e
 ·subst hbe;exact heo
 ·exact ⟨u,k b u hbe q⟩
theorem Un.mono (u:Un fs ex H H1 h h1) (hs: ∀ b∈fs,b∈fs') (hx: ∀ b∈ex,b∈ex'):Un fs' ex' H H1 h h1:=
 ⟨fun b ob q n hb he=>u.keep b ob q n (fun z=>hb (hs b z)) fun z=>he (hx b z),fun _ _ q n _ he=>u.any q n fun z=>he (hx _ z),fun b ob q n he=>u.free b ob q n fun z=>he (hx b z),fun b ob q he=>u.there b ob q fun z=>he (hx b z),u.tups,u.frzs,u.tbls⟩
end
noncomputable def trk (h:Heap) (H:Hp):List Addr:=(List.range h.objs.size).filter fun a=>(H a).isSome
noncomputable def zmU (h:Heap) (H:Hp):Heap:=W.hideAll h (trk h H)
theorem zkC (h:Heap) (H:Hp):(zmU h H).objs.size=h.objs.size:=W.hideAll_size _ _
theorem znQ {h:Heap} {H:Hp} {b:Addr} {o:Obj} (e:h.get? b=some o) (n:H b=none):(zmU h H).get? b=some o:=
 W.hideAll_get _ e fun hm=>by
  have q:(H b).isSome=true:=(List.mem_filter.mp hm).2
  rw [n] at q;simp at q
theorem zqu {h:Heap} {H:Hp} {b:Addr} {o:Obj} (e:(zmU h H).get? b=some o):h.get? b=some o/\H b=none:=by
 have e':h.get? b=some o:=W.of_hideAll (trk h H) e
 refine ⟨e',?_⟩
 cases q:H b with
 | none=>rfl
 | some x=>
  have hm:b∈trk h H:=List.mem_filter.mpr ⟨List.mem_range.mpr (qaQ e'),by simp [q]⟩
  have z:(zmU h H).get? b=none:=W.hideAll_none (trk h H) hm
  rw [z] at e;cases e
noncomputable def zq0 (g h:Heap) (L:Addr):List (Addr×Obj):=(List.range h.objs.size).filterMap fun a=>if a=L\/(g.get? a).isSome=true then none else (h.get? a).map fun o=>(a,o)
noncomputable def rest (g h:Heap) (L d:Addr):List (Addr×Obj):=(zq0 g h L).filter fun p=>decide (p.1≠d)
structure Mod (K:W.Frag) (mg:Str->Option Value) (base:Heap):Prop where
 kin:K.In base
 glob:base.Ns mainGlobals mg
 blt: ∃ mb,base.Ns builtinsNs mb/\ ∀ x:Str,x≠"__name__"->mb x=bootBuiltins x
 nolimit:base.NoLimit
structure Cx where
 prog:Program
 w:World
 K:W.Frag
 mg:Str->Option Value
 base:Heap
 A:Around
 N:List Str
 s₀:Shared
 H₀:Hp
 env:Env
 outer:List Env
 stack:List Env
 ex:List Addr
 fn:Str->Bool
 calm:Bool
 pn:List (Addr×Obj)
 xe:Value->Shared->Prop
noncomputable def frs (l:List Env):List Addr:=l.filterMap (·.frame)
noncomputable abbrev Cx.fs (X:Cx):List Addr:=frs X.outer
def Vis (sc:Scope) (x:Str):Prop:=sc.names.lookup x=some .local\/sc.names.lookup x=some .cell\/sc.names.lookup x=some .free
def Loc (sc:Scope) (x:Str):Prop:=sc.names.lookup x=some .local\/sc.names.lookup x=some .cell
def zvE (env:Env) (h:Heap) (m:Str->Option Value) (x:Str) (u:Value):Prop:=
 (env.kindOf x=some .local/\m x=some u)\/((env.kindOf x=some .cell\/env.kindOf x=some .free)/\ ∃ c,env.cells.lookup x=some c/\h.IsCell c (some u))
def zhw (A:Around) (H:Hp):Prop:=A.handled=none\/ ∃ a o cls head vs,A.handled=some (.ref a)/\H a=some (.frz o (.own 0))/\o.cls=cls/\o.dict=none/\o.data= .fields vs/\vs[2]? = some .none/\vs[1]? = some head
structure Cx.Ok (X:Cx):Prop where
 mod:Mod X.K X.mg X.base
 kind:X.env.scope.kind= .function
 glob:X.env.globals=mainGlobals
 blt:X.env.builtins=builtinsNs
 above:X.s₀.heap.objs.size<=X.env.locals
 inj: ∀ x y c,X.env.cells.lookup x=some c->X.env.cells.lookup y=some c->x=y
 has: ∀ x,(X.env.kindOf x=some .cell\/X.env.kindOf x=some .free)-> ∃ c,X.env.cells.lookup x=some c
 cab: ∀ x c,X.fn x=true->X.env.cells.lookup x=some c->X.s₀.heap.objs.size<=c
 hd:X.calm=true->X.A.handled=none
 hx:zhw X.A X.H₀
 frames:X.A.frames=some X.stack
 stk:X.stack=X.outer\/(X.stack=X.env::X.outer/\X.env.frame=some X.env.locals)
 exf: ∀ b∈X.ex,b≠X.env.locals/\ ∀ x c,X.env.cells.lookup x=some c->c≠b
 bs: ∀ b o,X.base.get? b=some o->X.s₀.heap.get? b=some o/\X.H₀ b=none
 bsz:X.base.objs.size<=X.s₀.heap.objs.size
 noex: ∀ b o,X.base.get? b=some o->b∉X.ex
 exfs: ∀ b∈X.ex,b∉X.fs
 funs:X.s₀.heap.FunFrames X.base X.outer
 frf: ∀ b∈X.fs,X.H₀ b=none
structure Inv (X:Cx) (pins:List (Addr×Obj)) (σ:List (Option V)) (H:Hp) (s:Shared):Prop where
 ok:X.Ok
 os:s.os=X.s₀.os
 bare:AllBare s.gens
 base:Un X.fs X.ex X.H₀ H X.s₀.heap s.heap
 loc: ∃ m,s.heap.Ns X.env.locals m/\ ∀ (i:Nat) (x:Str) (v:V),X.N[i]? = some x->σ[i]? = some (some v)->Vis X.env.scope x-> ∃ u,zbA v u/\zvE X.env s.heap m x u
 cell: ∀ x c,X.env.cells.lookup x=some c-> ∃ v,s.heap.IsCell c v
 free:H X.env.locals=none
 freeC: ∀ x c,X.env.cells.lookup x=some c->H c=none
 pin: ∀ p∈X.pn++pins,s.heap.get? p.1=some p.2/\H p.1=none/\p.1≠X.env.locals/\p.1∉X.fs/\ ∀ v,p.2.data≠ .cell v
 hok:HOk X.prog X.w H s.heap
 len:σ.length=X.N.length
section
variable {X:Cx} {pins:List (Addr×Obj)} {σ:List (Option V)} {H H':Hp} {s:Shared} {h':Heap}
theorem Cx.Ok.nofr (ok:X.Ok) {b:Addr} {o:Obj} (e:X.base.get? b=some o):b∉X.fs:=fun hb=>by
 have:=(ok.funs.mem hb).1
 rw [e] at this;cases this
theorem Inv.bs (I:Inv X pins σ H s): ∀ b o,X.base.get? b=some o->s.heap.get? b=some o/\H b=none:=fun b o e=>
 ⟨I.base.keep b o (I.ok.bs b o e).1 (I.ok.bs b o e).2 (I.ok.nofr e) (I.ok.noex b o e),I.base.free b o (I.ok.bs b o e).1 (I.ok.bs b o e).2 (I.ok.noex b o e)⟩
theorem Inv.bk (I:Inv X pins σ H s): ∀ b o,X.base.get? b=some o->s.heap.get? b=some o:=fun b o e=>(I.bs b o e).1
theorem Inv.mod (I:Inv X pins σ H s):Mod X.K X.mg X.base:=I.ok.mod
theorem Inv.kIn (I:Inv X pins σ H s):X.K.In s.heap:=I.ok.mod.kin.keeps I.bk
theorem Inv.nolimit (I:Inv X pins σ H s):s.heap.NoLimit:=I.ok.mod.nolimit.keeps I.bk
theorem Inv.fr (I:Inv X pins σ H s): ∃ m,Fr X.base X.env.locals s.heap m:=
 let ⟨m,hn,_⟩:=I.loc
 ⟨m,hn,I.bk,qaS I.ok.bsz I.ok.above⟩
theorem Inv.lt (I:Inv X pins σ H s):X.env.locals<s.heap.objs.size:=let ⟨_,hn,_⟩:=I.loc;hn.lt
theorem Inv.sz (I:Inv X pins σ H s):X.s₀.heap.objs.size<=s.heap.objs.size:=qaS I.ok.above (Nat.le_of_lt I.lt)
theorem Inv.nofs (I:Inv X pins σ H s) {a:Addr} (h:s.heap.objs.size<=a):a∉X.fs:=fun hb=>by
 obtain ⟨_,o,ho,_⟩:=I.ok.funs.mem hb
 exact absurd (qaw (qaQ ho) (qaS I.sz h)) (qaN _)
theorem Inv.cne (I:Inv X pins σ H s): ∀ x c,X.env.cells.lookup x=some c->c≠X.env.locals:=fun x c e z=>by
 obtain ⟨v,o,ho,hd⟩:=I.cell x c e
 obtain ⟨m,⟨o',es,ep,ho',hd',_⟩,_⟩:=I.loc
 rw [z,ho'] at ho;cases ho;rw [hd'] at hd;cases hd
theorem Inv.funs (I:Inv X pins σ H s):s.heap.FunFrames X.base X.outer:=by
 have all: ∀ (l:List Env),(∀ b∈frs l,b∈X.fs)->X.s₀.heap.FunFrames X.base l->s.heap.FunFrames X.base l:=by
  intro l
  induction l with
  | nil=>intro _ _;trivial
  | cons env r ih=>
   intro hs hl
   obtain ⟨hk,⟨L,o,hf,hn,ho,hd⟩,hr⟩:=hl
   have hL:L∈X.fs:=hs L (by unfold frs;rw [qat,hf];exact qau)
   obtain ⟨sl,e⟩:=I.base.slot L o ho (I.ok.frf L hL) hL fun z=>I.ok.exfs L z hL
   exact ⟨hk,⟨L,_,hf,hn,e,hd⟩,ih (fun b hb=>hs b (by unfold frs;rw [qat,hf];exact qan _ hb)) hr⟩
 exact all X.outer (fun _ hb=>hb) I.ok.funs
theorem Inv.stack (I:Inv X pins σ H s):s.heap.FunFrames X.base X.stack:=by
 rcases I.ok.stk with e | ⟨e,hf⟩
 ·rw [e];exact I.funs
 ·rw [e]
  obtain ⟨m,hn,_⟩:=I.loc
  refine .cons (by rw [I.ok.kind];decide) hf hn ?_ I.funs
  exact Heap.get?_none_of_le (qaS I.ok.bsz I.ok.above)
theorem Inv.stkSub (I:Inv X pins σ H s): ∀ b∈frs X.stack,b∈X.env.locals::X.fs:=fun b hb=>by
 rcases I.ok.stk with e | ⟨e,hf⟩
 ·rw [e] at hb;exact qan _ hb
 ·rw [e] at hb
  unfold frs at hb
  rw [qat,hf] at hb
  exact hb
theorem Inv.stkFree (I:Inv X pins σ H s): ∀ b∈frs X.stack,H b=none:=fun b hb=>by
 rcases qaP.mp (I.stkSub b hb) with e | hb
 ·rw [e];exact I.free
 ·obtain ⟨_,o,ho,_⟩:=I.ok.funs.mem hb
  exact I.base.free b o ho (I.ok.frf b hb) fun z=>I.ok.exfs b z hb
theorem Inv.step {g':Array GenState} {t':Nat} {d':Drawn} {ch:List Addr} (I:Inv X pins σ H s)
  (hch: ∀ b∈ch,(b∈X.ex\/X.s₀.heap.objs.size<=b)/\b≠X.env.locals/\(∀ x c,X.env.cells.lookup x=some c->c≠b)/\ ∀ p∈X.pn++pins,p.1≠b)
  (keep: ∀ b o,b≠X.env.locals->b∉X.fs->b∉ch->s.heap.get? b=some o->H b=none->h'.get? b=some o)
  (slot: ∀ b o,b≠X.env.locals->b∈X.fs->b∉ch->s.heap.get? b=some o->H b=none-> ∃ sl,h'.get? b=some {o with slots:=sl}) (free: ∀ b o,b∉ch->s.heap.get? b=some o->H b=none->H' b=none)
  (there: ∀ b o,b∉ch->s.heap.get? b=some o-> ∃ o',h'.get? b=some o')
  (tups: ∀ b xs,H b=some (.tup xs)->H' b=some (.tup xs)) (frzs: ∀ b o u,H b=some (.frz o u)->H' b=some (.frz o u)) (tbls: ∀ b ps,H b=some (.tbl ps)-> ∃ more,H' b=some (.tbl (ps++more)))
  (ns: ∀ m,s.heap.Ns X.env.locals m->h'.Ns X.env.locals m) (hok:HOk X.prog X.w H' h') (hg:AllBare g'):
  Inv X pins σ H' {s with heap:=h',gens:=g',drawn:=d',toks:=t'}:=by
 have neL: ∀ b o,X.s₀.heap.get? b=some o->b≠X.env.locals:=fun b o e=>qaR (qaw (qaQ e) I.ok.above)
 have neC: ∀ b o,X.s₀.heap.get? b=some o->b∉X.ex->b∉ch:=fun b o e hx hb=>by
  rcases (hch b hb).1 with z | z
  ·exact hx z
  ·exact absurd (qaw (qaQ e) z) (qaN _)
 have cellK: ∀ x c,X.env.cells.lookup x=some c-> ∀ v,s.heap.IsCell c v->h'.IsCell c v:=fun x c e v ⟨o,ho,hd⟩=>by
  have nch:c∉ch:=fun z=>(hch c z).2.2.1 x c e rfl
  by_cases hc:c∈X.fs
  ·obtain ⟨sl,q⟩:=slot c o (I.cne x c e) hc nch ho (I.freeC x c e)
   exact ⟨_,q,hd⟩
  ·exact ⟨o,keep c o (I.cne x c e) hc nch ho (I.freeC x c e),hd⟩
 refine ⟨I.ok,I.os,hg,⟨fun b o e n hb hx=> ?_,fun b o e n hb hx=> ?_,fun b o e n hx=> ?_,fun b o e hx=> ?_,fun b xs e=>tups b xs (I.base.tups b xs e),fun b o xs e=>frzs b o xs (I.base.frzs b o xs e),fun b ps e=> ?_⟩,?_,fun x c e=> ?_,?_,fun x c e=> ?_,fun p hp=> ?_,hok,I.len⟩
 ·exact keep b o (neL b o e) hb (neC b o e hx) (I.base.keep b o e n hb hx) (I.base.free b o e n hx)
 ·obtain ⟨sl,e1⟩:=I.base.slot b o e n hb hx
  obtain ⟨sl',e2⟩:=slot b _ (neL b o e) hb (neC b o e hx) e1 (I.base.free b o e n hx)
  exact ⟨sl',e2⟩
 ·obtain ⟨o',e1⟩:=I.base.there b o e hx
  exact free b o' (neC b o e hx) e1 (I.base.free b o e n hx)
 ·obtain ⟨o',e1⟩:=I.base.there b o e hx
  exact there b o' (neC b o e hx) e1
 ·obtain ⟨m1,e1⟩:=I.base.tbls b ps e
  obtain ⟨m2,e2⟩:=tbls b _ e1
  exact ⟨m1++m2,by rw [e2,Array.append_assoc]⟩
 ·obtain ⟨m,hn,hl⟩:=I.loc
  refine ⟨m,ns m hn,fun i x v e1 e2 e3=> ?_⟩
  obtain ⟨u,r,l⟩:=hl i x v e1 e2 e3
  refine ⟨u,r,?_⟩
  rcases l with l | ⟨k,c,e,z⟩
  ·exact .inl l
  ·exact .inr ⟨k,c,e,cellK x c e _ z⟩
 ·obtain ⟨v,z⟩:=I.cell x c e
  exact ⟨v,cellK x c e v z⟩
 ·obtain ⟨m,⟨o,_,_,ho,_⟩,_⟩:=I.loc
  exact free _ o (fun z=>(hch _ z).2.1 rfl) ho I.free
 ·obtain ⟨v,o,ho,hd⟩:=I.cell x c e
  exact free c o (fun z=>(hch c z).2.2.1 x c e rfl) ho (I.freeC x c e)
 ·obtain ⟨e,n,ne,nf,d⟩:=I.pin p hp
  have nch:p.1∉ch:=fun z=>(hch p.1 z).2.2.2 p hp rfl
  exact ⟨keep p.1 p.2 ne nf nch e n,free p.1 p.2 nch e n,ne,nf,d⟩
theorem Inv.un {t':Nat} (I:Inv X pins σ H s) (u:Un X.fs [] H H' s.heap h') (hok:HOk X.prog X.w H' h'):Inv X pins σ H' {s with heap:=h',toks:=t'}:=by
 obtain ⟨m,⟨o,es,ep,ho,r⟩,_⟩:=id I.loc
 obtain ⟨sl,hL⟩:=u.any ho I.free (by simp)
 exact I.step (g':=s.gens) (d':=s.drawn) (ch:=[]) (fun _ z=>nomatch z) (fun b o _ hb _ e n=>u.keep b o e n hb (by simp)) (fun b o _ hb _ e n=>u.slot b o e n hb (by simp)) (fun b o _ e n=>u.free b o e n (by simp)) (fun b o _ e=>u.there b o e (by simp)) u.tups u.frzs u.tbls (fun m' hm=>by
   obtain ⟨o',es',ep',ho',r'⟩:=hm
   rw [ho] at ho';cases ho'
   exact ⟨_,es',ep',hL,r'⟩) hok I.bare
theorem Inv.call {g':Array GenState} {t':Nat} {d':Drawn} {ch:List Addr} (I:Inv X pins σ H s) (u:Un (frs X.stack) ch H H' s.heap h') (hok:HOk X.prog X.w H' h') (hg:AllBare g')
  (hch: ∀ b∈ch,(b∈X.ex\/X.s₀.heap.objs.size<=b)/\b≠X.env.locals/\(∀ x c,X.env.cells.lookup x=some c->c≠b)/\ ∀ p∈X.pn++pins,p.1≠b):
  Inv X pins σ H' {s with heap:=h',gens:=g',drawn:=d',toks:=t'}:=by
 obtain ⟨m,⟨o,es,ep,ho,r⟩,_⟩:=id I.loc
 obtain ⟨sl,hL⟩:=u.any ho I.free fun z=>(hch _ z).2.1 rfl
 exact I.step (ch:=ch) hch (fun b o hL hb hc e n=>u.keep b o e n (fun z=>(qaP.mp (I.stkSub b z)).elim hL hb) hc) (fun b o _ _ hc e n=>u.any e n hc) (fun b o hc e n=>u.free b o e n hc) (fun b o hc e=>u.there b o e hc) u.tups u.frzs u.tbls (fun m' hm=>by
   obtain ⟨o',es',ep',ho',r'⟩:=hm
   rw [ho] at ho';cases ho'
   exact ⟨_,es',ep',hL,r'⟩) hok hg
theorem Inv.turned {t':Nat} {it:Addr} (I:Inv X pins σ H s) (k: ∀ b o,b≠it->s.heap.get? b=some o->h'.get? b=some o) (hn:H it=none) (hL:it≠X.env.locals)
  (h1:it∈X.ex\/X.s₀.heap.objs.size<=it) (h2: ∀ x c,X.env.cells.lookup x=some c->c≠it) (h3: ∀ p∈X.pn++pins,p.1≠it):Inv X pins σ H {s with heap:=h',toks:=t'}:=by
 have nit: ∀ b u,H b=some u->b≠it:=fun b u e z=>by rw [z,hn] at e;cases e
 refine I.step (g':=s.gens) (d':=s.drawn) (ch:=[it]) (fun b hb=> ?_) (fun b o _ _ hc e _=>k b o (fun z=>hc (by simp [z])) e) (fun b o _ _ hc e _=>⟨o.slots,k b o (fun z=>hc (by simp [z])) e⟩) (fun _ _ _ _ n=>n)
  (fun b o hc e=>⟨o,k b o (fun z=>hc (by simp [z])) e⟩) (fun _ _ e=>e) (fun _ _ _ e=>e) (fun b ps e=>⟨#[],by rw [e];simp⟩) (fun m hm=> ?_) (fun b u e=> ?_) I.bare
 ·have e:b=it:=by simpa using hb
  subst e
  exact ⟨h1,hL,h2,h3⟩
 ·obtain ⟨o,es,ep,ho,r⟩:=hm
  exact ⟨o,es,ep,k _ o (Ne.symm hL) ho,r⟩
 ·refine (I.hok b u e).stay (fun c v hc q=>k c v ?_ q) (fun _ q=>q) fun _ _ q=>q
  rcases hc with z | z
  ·rw [z];exact nit b u e
  ·exact nit c _ z
theorem Inv.tok (I:Inv X pins σ H s) (t:Nat):Inv X pins σ H {s with toks:=t}:=I.un (h':=s.heap) (t':=t) Un.refl I.hok
theorem Inv.kept {t':Nat} (I:Inv X pins σ H s) (k: ∀ b u,s.heap.get? b=some u->h'.get? b=some u):Inv X pins σ H {s with heap:=h',toks:=t'}:=I.un (Un.kept k) (I.hok.kept k)
theorem Inv.laid {a:Addr} {o:HO} {t':Nat} (I:Inv X pins σ H s) (k: ∀ b u,s.heap.get? b=some u->h'.get? b=some u) (hp:s.heap.objs.size<=a) (new:zbY X.prog X.w (upd H a o) h' a o):
  Inv X pins σ (upd H a o) {s with heap:=h',toks:=t'}:=I.un (Un.laid k hp (I.hok.fresh hp)) (I.hok.laid k hp new)
theorem Inv.write {x e:Addr} {o:HO} {t':Nat} (I:Inv X pins σ H s) (mu:Mut (H x)) (he:e=x\/H e=some (.own x)) (k: ∀ b u,b≠e->s.heap.get? b=some u->h'.get? b=some u) (heo: ∃ u,h'.get? e=some u)
  (new:zbY X.prog X.w (upd H x o) h' x o):Inv X pins σ (upd H x o) {s with heap:=h',toks:=t'}:=I.un (Un.write mu he k heo) (I.hok.write mu he k heo new)
theorem Inv.pins_of {pins':List (Addr×Obj)} (I:Inv X pins σ H s) (h: ∀ p∈pins',s.heap.get? p.1=some p.2/\H p.1=none/\p.1≠X.env.locals/\p.1∉X.fs/\ ∀ v,p.2.data≠ .cell v):Inv X pins' σ H s:=
 ⟨I.ok,I.os,I.bare,I.base,I.loc,I.cell,I.free,I.freeC,fun p hp=>(qaK.mp hp).elim (fun z=>I.pin p (List.mem_append_left _ z)) (h p),I.hok,I.len⟩
theorem zg3 {N:List Str} (hN:N.Nodup) {i j:Nat} {x:Str} (a:N[i]? = some x) (b:N[j]? = some x):i=j:=by
 obtain ⟨h1,e1⟩:=qac.mp a
 obtain ⟨h2,e2⟩:=qac.mp b
 exact (List.getElem_inj hN).mp (e1.trans e2.symm)
theorem zhU {M:Model} {A:Around} {E:Value->Shared->Prop} {i:Nat} {x:Str} {v:V} {u:Value} {Q:Unit->Shared->Prop} (I:Inv X pins σ H s) (hN:X.N.Nodup) (hi:X.N[i]? = some x) (hx:Loc X.env.scope x) (r:zbA v u)
  (h: ∀ s',Inv X pins (σ.set i (some v)) H s'->(∃ a,Heap.SameBut a s.heap s'.heap/\(a=X.env.locals\/X.env.cells.lookup x=some a))->Q () s') (hf:X.fn x=true\/X.env.scope.names.lookup x=some .local:=by first | exact .inl rfl | exact .inr rfl | assumption):wpAny M A (storeName X.env x u) Q E s:=by
 obtain ⟨m,hn,hl⟩:=id I.loc
 have hcls:(X.env.scope.kind== .class || (X.env.scope.kind== .module && X.env.locals != X.env.globals))=false:=by rw [I.ok.kind];rfl
 have hiσ:i<σ.length:=by rw [I.len];exact (qac.mp hi).1
 have cne:=I.cne
 have tracked: ∀ {a:Addr} {h':Heap},(∃ o,s.heap.get? a=some o/\H a=none)->Heap.SameBut a s.heap h'->HOk X.prog X.w H h':=fun {a h'} ha hs b ob e=>by
  obtain ⟨_,_,hfree⟩:=ha
  refine (I.hok b ob e).stay (fun c w' hc q=>(hs.2 c ?_).trans q) (fun _ q=>q) fun _ _ q=>q
  rintro rfl
  rcases hc with rfl | hc
  ·rw [hfree] at e;cases e
  ·rw [hfree] at hc;cases hc
 rcases hx with hk | hk
 ·refine wpAny_storeName_local hk hn (fun h' hn' hs=> ?_) hcls
  obtain ⟨oL,_,_,hoL,_⟩:=id hn
  refine h _ ⟨I.ok,I.os,I.bare,⟨fun b o e n hb hx=> ?_,fun b o e n hb hx=> ?_,I.base.free,fun b o e hx=> ?_,I.base.tups,I.base.frzs,I.base.tbls⟩,⟨_,hn',fun j y v' e1 e2 e3=> ?_⟩,fun y c e=> ?_,I.free,I.freeC,fun p hp=> ?_,tracked ⟨oL,hoL,I.free⟩ hs,by simpa using I.len⟩ ⟨_,hs,.inl rfl⟩
  ·exact (hs.2 b (qaR (qaw (qaQ e) I.ok.above))).trans (I.base.keep b o e n hb hx)
  ·obtain ⟨sl,e1⟩:=I.base.slot b o e n hb hx
   exact ⟨sl,(hs.2 b (qaR (qaw (qaQ e) I.ok.above))).trans e1⟩
  ·obtain ⟨o',e1⟩:=I.base.there b o e hx
   exact ⟨o',(hs.2 b (qaR (qaw (qaQ e) I.ok.above))).trans e1⟩
  ·by_cases hj:j=i
   ·subst hj
    rw [hi] at e1;cases e1
    rw [qai hiσ] at e2
    cases e2
    exact ⟨u,r,.inl ⟨hk,by simp⟩⟩
   ·rw [qao (Ne.symm hj)] at e2
    obtain ⟨u',r',q⟩:=hl j y v' e1 e2 e3
    refine ⟨u',r',?_⟩
    rcases q with ⟨k,e⟩ | ⟨k,c,e,z⟩
    ·refine .inl ⟨k,?_⟩
     have:y≠x:=fun e=>hj (zg3 hN e1 (e▸hi))
     simp [this,e]
    ·exact .inr ⟨k,c,e,z.sameBut hs (cne y c e)⟩
  ·obtain ⟨w',z⟩:=I.cell y c e
   exact ⟨w',z.sameBut hs (cne y c e)⟩
  ·obtain ⟨e,n,ne,nf,d⟩:=I.pin p hp
   exact ⟨(hs.2 p.1 ne).trans e,n,ne,nf,d⟩
 ·have hfn:X.fn x=true:=by
   rcases hf with z | z
   ·exact z
   ·rw [z] at hk;cases hk
  obtain ⟨c,hc⟩:=I.ok.has x (.inl hk)
  obtain ⟨w',z⟩:=I.cell x c hc
  refine wpAny_storeName_cell I.ok.kind hk hc z (fun h' hc' hs=> ?_)
  obtain ⟨oc,hoc,hocd⟩:=id z
  refine h {s with heap:=h'} ⟨I.ok,I.os,I.bare,⟨fun b o e n hb hx=> ?_,fun b o e n hb hx=> ?_,I.base.free,fun b o e hx=> ?_,I.base.tups,I.base.frzs,I.base.tbls⟩,⟨m,hn.sameBut hs (Ne.symm (cne x c hc)),fun j y v' e1 e2 e3=> ?_⟩,fun y c' e=> ?_,I.free,I.freeC,fun p hp=> ?_,tracked ⟨oc,hoc,I.freeC x c hc⟩ hs,by simpa using I.len⟩ ⟨c,hs,.inr hc⟩
  ·exact (hs.2 b (qaR (qaw (qaQ e) (I.ok.cab x c hfn hc)))).trans (I.base.keep b o e n hb hx)
  ·obtain ⟨sl,e1⟩:=I.base.slot b o e n hb hx
   exact ⟨sl,(hs.2 b (qaR (qaw (qaQ e) (I.ok.cab x c hfn hc)))).trans e1⟩
  ·obtain ⟨o',e1⟩:=I.base.there b o e hx
   exact ⟨o',(hs.2 b (qaR (qaw (qaQ e) (I.ok.cab x c hfn hc)))).trans e1⟩
  ·by_cases hj:j=i
   ·subst hj
    rw [hi] at e1;cases e1
    rw [qai hiσ] at e2
    cases e2
    exact ⟨u,r,.inr ⟨.inl hk,c,hc,hc'⟩⟩
   ·rw [qao (Ne.symm hj)] at e2
    obtain ⟨u',r',q⟩:=hl j y v' e1 e2 e3
    refine ⟨u',r',?_⟩
    rcases q with q | ⟨k,c',e,z'⟩
    ·exact .inl q
    ·refine .inr ⟨k,c',e,z'.sameBut hs ?_⟩
     rintro rfl
     exact hj (zg3 hN e1 (I.ok.inj _ _ _ e hc▸hi))
  ·by_cases hcc:c'=c
   ·subst hcc;exact ⟨_,hc'⟩
   ·obtain ⟨w2,z2⟩:=I.cell y c' e
    exact ⟨w2,z2.sameBut hs hcc⟩
  ·obtain ⟨e,n,ne,nf,d⟩:=I.pin p hp
   refine ⟨(hs.2 p.1 ?_).trans e,n,ne,nf,d⟩
   intro q
   rw [q,hoc] at e
   have q':oc=p.2:=Option.some.inj e
   exact d w' (by rw [<- q'];exact hocd)
theorem zeU {M:Model} {A:Around} {E:Value->Shared->Prop} {i:Nat} {x:Str} {v:V} {u:Value} {Q:Unit->Shared->Prop} (I:Inv X pins σ H s) (hN:X.N.Nodup) (hi:X.N[i]? = some x) (hx:Loc X.env.scope x) (r:zbA v u)
  (h: ∀ s',Inv X pins (σ.set i (some v)) H s'->Q () s') (hf:X.fn x=true\/X.env.scope.names.lookup x=some .local:=by first | exact .inl rfl | exact .inr rfl | assumption):wpAny M A (storeName X.env x u) Q E s:=
 zhU I hN hi hx r (fun s' I' _=>h s' I') hf
theorem Inv.call' {s':Shared} {ch:List Addr} (I:Inv X pins σ H s) (ho:s'.os=s.os) (u:Un (frs X.stack) ch H H' s.heap s'.heap) (hok:HOk X.prog X.w H' s'.heap) (hg:AllBare s'.gens)
  (hch: ∀ b∈ch,(b∈X.ex\/X.s₀.heap.objs.size<=b)/\b≠X.env.locals/\(∀ x c,X.env.cells.lookup x=some c->c≠b)/\ ∀ p∈X.pn++pins,p.1≠b):Inv X pins σ H' s':=by
 obtain ⟨h',g',d',t',o'⟩:=s'
 have e:o'=s.os:=ho
 subst e
 exact I.call (g':=g') (t':=t') (d':=d') u hok hg hch
end
noncomputable abbrev XK:=Value->Option Addr->Hp->Prop
noncomputable abbrev St:=List (Option V)
noncomputable abbrev VK:=V->Hp->Prop
noncomputable abbrev TE:=St->Hp->VK->Prop
noncomputable abbrev TT:=St->Hp->(Bool->Hp->Prop)->Prop
noncomputable abbrev TA:=St->Hp->(List V->Hp->Prop)->Prop
structure zoD where
 nx:St->Hp->Prop
 rt:VK
 bk:St->Hp->Prop:=fun _ _=>False
 ct:St->Hp->Prop:=fun _ _=>False
noncomputable abbrev TS:=zoD->St->Hp->Prop
def EP (X:Cx) (pins:List (Addr×Obj)) (σ:St) (Q:VK) (u:Value) (s':Shared):Prop:= ∃ v H',Inv X pins σ H' s'/\zbA v u/\Q v H'
def TP (X:Cx) (pins:List (Addr×Obj)) (σ:St) (Q:Bool->Hp->Prop) (b:Bool) (s':Shared):Prop:= ∃ H',Inv X pins σ H' s'/\Q b H'
def AP (X:Cx) (pins:List (Addr×Obj)) (σ:St) (Q:List V->Hp->Prop) (us:List Value) (s':Shared):Prop:= ∃ vs H',Inv X pins σ H' s'/\zaQ vs us/\Q vs H'
def SP (X:Cx) (pins:List (Addr×Obj)) (D:zoD) (f:Flow) (s':Shared):Prop:=
 match f with
 | .next=> ∃ σ' H',Inv X pins σ' H' s'/\D.nx σ' H'
 | .brk=> ∃ σ' H',Inv X pins σ' H' s'/\D.bk σ' H'
 | .cont=> ∃ σ' H',Inv X pins σ' H' s'/\D.ct σ' H'
 | .ret u=> ∃ v σ' H',Inv X pins σ' H' s'/\zbA v u/\D.rt v H'
def PE (X:Cx) (e:Expr) (t:TE):Prop:=
 ∀ (pins:List (Addr×Obj)) (s:Shared) (σ:St) (H:Hp) (Q:VK),Inv X pins σ H s->t σ H Q->wpAny (model X.prog X.w) X.A (eval e X.env) (EP X pins σ Q) X.xe s
def PT (X:Cx) (e:Expr) (t:TT):Prop:=
 ∀ (pins:List (Addr×Obj)) (s:Shared) (σ:St) (H:Hp) (Q:Bool->Hp->Prop),Inv X pins σ H s->t σ H Q->wpAny (model X.prog X.w) X.A (isTrue e X.env (eval e X.env)) (TP X pins σ Q) X.xe s
def PW (X:Cx) (e:Expr) (t:TT):Prop:=
 ∀ (whole:Sem Value) (pins:List (Addr×Obj)) (s:Shared) (σ:St) (H:Hp) (Q:Bool->Hp->Prop),Inv X pins σ H s->t σ H Q->wpAny (model X.prog X.w) X.A (isTrue e X.env whole) (TP X pins σ Q) X.xe s
theorem PW.pt {X:Cx} {e:Expr} {t:TT} (h:PW X e t):PT X e t:=h _
def PA (X:Cx) (es:List Expr) (t:TA):Prop:=
 ∀ (pos:Pos) (pins:List (Addr×Obj)) (s:Shared) (σ:St) (H:Hp) (Q:List V->Hp->Prop),Inv X pins σ H s->t σ H Q->wpAny (model X.prog X.w) X.A (spliced (backTo pos (starEach es X.env))) (AP X pins σ Q) X.xe s
def PS (X:Cx) (st:Stmt) (t:TS):Prop:=
 ∀ (pins:List (Addr×Obj)) (s:Shared) (σ:St) (H:Hp) (D:zoD),Inv X pins σ H s->t D σ H->wpAny (model X.prog X.w) X.A (exec st X.env) (SP X pins D) X.xe s
def PSs (X:Cx) (st:List Stmt) (t:TS):Prop:=
 ∀ (pins:List (Addr×Obj)) (s:Shared) (σ:St) (H:Hp) (D:zoD),Inv X pins σ H s->t D σ H->wpAny (model X.prog X.w) X.A (execs st X.env) (SP X pins D) X.xe s
theorem thn {α:Type} {t:Sem α} {Q Q':α->Shared->Prop} {M:Model} {A:Around} {E:Value->Shared->Prop} {s:Shared} (h:wpAny M A t Q E s) (hQ: ∀ a s,Q a s->Q' a s):wpAny M A t Q' E s:=qaZ h hQ fun _ _ x=>x
section
variable {X:Cx}
noncomputable def zuY (i:Nat):TE:=fun σ H Q=> ∃ v,σ[i]? = some (some v)/\Q v H
noncomputable def tC (v:V):TE:=fun _ H Q=>Q v H
theorem zoK {i:Nat} {x:Str} {pos:Pos} (hN:X.N[i]? = some x) (hv:Vis X.env.scope x) (hd:(x==("__debug__":Str))=false:=by decide) (hcd:(x==("__classdict__":Str))=false:=by decide):PE X (.Name x pos) (zuY i):=by
 intro pins s σ H Q I h
 obtain ⟨v,e,h⟩:=h
 obtain ⟨m,hn,hl⟩:=I.loc
 obtain ⟨u,r,l⟩:=hl i x v hN e hv
 have fin:EP X pins σ Q u s:=⟨v,H,I,r,h⟩
 rcases l with ⟨hk,hm⟩ | ⟨hk,c,hc,hcell⟩
 ·exact wpAny_Name (wpAny_loadName_local I.ok.kind hk hn hm fin) hd
 ·rcases hk with hk | hk
  ·exact wpAny_Name (wpAny_loadName_cell I.ok.kind hk hc hcell fin) hd
  ·exact wpAny_Name (wpAny_loadName_free I.ok.kind hk hc hcell fin hcd) hd
theorem zpa {i j pos}:PE X (.Constant (.int i) j pos) (tC (.int i)):=fun _ _ _ H _ I h=>wpAny_Constant_int ⟨.int i,H,I.tok _,⟨_,rfl⟩,h⟩
theorem zst {b j pos}:PE X (.Constant (.bool b) j pos) (tC (.bl b)):=fun _ _ _ H _ I h=>Constant_bool ⟨.bl b,H,I,rfl,h⟩
theorem zs7 {j pos}:PE X (.Constant .none j pos) (tC .non):=fun _ _ _ H _ I h=>Constant_none ⟨.non,H,I,rfl,h⟩
theorem zoV {x j pos}:PE X (.Constant (.str x) j pos) (tC (.str x)):=fun _ _ _ H _ I h=>Calls.Constant_str ⟨.str x,H,I.tok _,⟨_,rfl⟩,h⟩
def Gl (X:Cx) (x:Str):Prop:=X.env.kindOf x=some .globalImplicit
theorem zgU {E:Value->Shared->Prop} {pins:List (Addr×Obj)} {s:Shared} {σ:St} {H:Hp} {x:Str} {u:Value} {pos:Pos} {Q:Value->Shared->Prop} (I:Inv X pins σ H s) (hg:Gl X x) (hm:X.mg x=some u) (h:Q u s)
  (hd:(x==("__debug__":Str))=false:=by decide):wpAny (model X.prog X.w) X.A (eval (.Name x pos) X.env) Q E s:=
 Calls.Name_function_global I.ok.kind hg (Calls.loadGlobal_global (by rw [I.ok.glob];exact I.mod.glob.keeps I.bk) hm h) hd
theorem zhn {E:Value->Shared->Prop} {pins:List (Addr×Obj)} {s:Shared} {σ:St} {H:Hp} {x:Str} {u:Value} {pos:Pos} {Q:Value->Shared->Prop} (I:Inv X pins σ H s) (hg:Gl X x) (hm:X.mg x=none) (hv:bootBuiltins x=some u) (h:Q u s)
  (hn:x≠"__name__":=by decide) (hd:(x==("__debug__":Str))=false:=by decide):wpAny (model X.prog X.w) X.A (eval (.Name x pos) X.env) Q E s:=by
 obtain ⟨mb,h1,h2⟩:=I.mod.blt
 exact Calls.Name_function_global I.ok.kind hg (Calls.loadGlobal_builtin (by rw [I.ok.glob];exact I.mod.glob.keeps I.bk) hm (by rw [I.ok.blt];exact h1.keeps I.bk) ((h2 x hn).trans hv) h) hd
theorem zmi {x:Str} {v:V} {u:Value} {pos:Pos} (hg:Gl X x) (hm:X.mg x=some u) (r:zbA v u) (hd:(x==("__debug__":Str))=false:=by decide):PE X (.Name x pos) (tC v):=
 fun _ _ _ H _ I h=>zgU I hg hm ⟨v,H,I,r,h⟩ hd
theorem zqW {x:Str} {v:V} {u:Value} {pos:Pos} (hg:Gl X x) (hm:X.mg x=none) (hv:bootBuiltins x=some u) (r:zbA v u) (hn:x≠"__name__":=by decide) (hd:(x==("__debug__":Str))=false:=by decide):PE X (.Name x pos) (tC v):=
 fun _ _ _ H _ I h=>zhn I hg hm hv ⟨v,H,I,r,h⟩ hn hd
noncomputable def t2I (ta tb:TE) (k:Int->Int->Hp->Prop):St->Hp->Prop:=fun σ H=>ta σ H fun x H1=>tb σ H1 fun y H2=> ∃ i j,x= .int i/\y= .int j/\k i j H2
variable {a b:Expr} {ta tb:TE} {pos:Pos}
noncomputable def zd0 (p:Int->Int->Bool) (ta tb:TE):TE:=fun σ H Q=>t2I ta tb (fun i j H2=>Q (.bl (p i j)) H2) σ H
noncomputable def tB (t:TE):TT:=fun σ H Q=>t σ H fun x H1=> ∃ c,x= .bl c/\Q c H1
theorem zr4 {e:Expr} {t:TE} (h:PE X e t) (he: ∀ whole,isTrue e X.env whole=(do let v<-whole;standAt e.pos;holding [v] (truthy v)):=by intro _;rfl):PT X e (tB t):=by
 intro pins s σ H Q I hw
 refine isTrue_plain (thn (h pins s σ H _ I hw) fun v s1 ⟨x,H1,I1,r1,q1⟩=> ?_) (he _)
 obtain ⟨d,rfl,q⟩:=q1
 cases r1
 exact wpAny_truthy_bool ⟨H1,I1,q⟩
variable {tA tB':TT} {rest:List Expr}
noncomputable def zsb (t u:TT):TT:=fun σ H Q=>t σ H fun c H1=>if c=true then u σ H1 Q else Q false H1
noncomputable def tOr (t u:TT):TT:=fun σ H Q=>t σ H fun c H1=>if c=true then Q true H1 else u σ H1 Q
noncomputable def zgO (t:TT):TT:=fun σ H Q=>t σ H fun c H1=>Q (!c) H1
theorem pw_and1 (ha:PT X a tA):PW X (.BoolOp .And [a] pos) tA:=by
 intro wh pins s σ H Q I h
 refine isTrue_and (thn (ha pins s σ H Q I h) fun c s1 e=> ?_)
 cases c with
 | true=>exact isTrue_and_nil e
 | false=>exact e
theorem pw_or1 (ha:PT X a tA):PW X (.BoolOp .Or [a] pos) tA:=by
 intro wh pins s σ H Q I h
 refine isTrue_or (thn (ha pins s σ H Q I h) fun c s1 e=> ?_)
 cases c with
 | false=>exact isTrue_or_nil e
 | true=>exact e
theorem pw_and (ha:PT X a tA) (hb:PW X (.BoolOp .And (b::rest) pos) tB'):PW X (.BoolOp .And (a::b::rest) pos) (zsb tA tB'):=by
 intro wh pins s σ H Q I h
 refine isTrue_and (thn (ha pins s σ H _ I h) fun c s1 ⟨H1,I1,q1⟩=> ?_)
 cases c with
 | true=>exact hb wh pins s1 σ H1 Q I1 q1
 | false=>exact ⟨H1,I1,q1⟩
theorem pw_or (ha:PT X a tA) (hb:PW X (.BoolOp .Or (b::rest) pos) tB'):PW X (.BoolOp .Or (a::b::rest) pos) (tOr tA tB'):=by
 intro wh pins s σ H Q I h
 refine isTrue_or (thn (ha pins s σ H _ I h) fun c s1 ⟨H1,I1,q1⟩=> ?_)
 cases c with
 | true=>exact ⟨H1,I1,q1⟩
 | false=>exact hb wh pins s1 σ H1 Q I1 q1
theorem ztk (ha:PT X a tA):PT X (.UnaryOp .Not a pos) (zgO tA):=by
 intro pins s σ H Q I h
 exact isTrue_not (ha pins s σ H (fun c H1=>Q (!c) H1) I h)
noncomputable def zud (ta tb:TE):TE:=fun σ H Q=>ta σ H fun x H1=> ∃ c,x= .bl c/\if c=true then tb σ H1 Q else Q (.bl false) H1
noncomputable def zuw (ta:TE):TE:=fun σ H Q=>ta σ H fun x H1=> ∃ c,x= .bl c/\Q (.bl (!c)) H1
theorem zsc {op} {t:TE} (h:PE X a t):PE X (.BoolOp op [a] pos) t:=fun pins s σ H Q I hw=>BoolOp_one (h pins s σ H Q I hw)
theorem zrS (ha:PE X a ta) (hb:PE X (.BoolOp .And (b::rest) pos) tb):PE X (.BoolOp .And (a::b::rest) pos) (zud ta tb):=by
 intro pins s σ H Q I h
 refine BoolOp_and (thn (ha pins s σ H _ I h) fun v s1 ⟨x,H1,I1,r1,q1⟩=> ?_)
 obtain ⟨c,rfl,q1⟩:=q1
 cases r1
 refine wpAny_truthy_bool ?_
 cases c with
 | true=>exact hb pins s1 σ H1 Q I1 q1
 | false=>exact ⟨.bl false,H1,I1,rfl,q1⟩
theorem zr8 (ha:PE X a ta):PE X (.UnaryOp .Not a pos) (zuw ta):=by
 intro pins s σ H Q I h
 refine UnaryOp_ (thn (ha pins s σ H _ I h) fun v s1 ⟨x,H1,I1,r1,q1⟩=> ?_)
 obtain ⟨c,rfl,q1⟩:=q1
 cases r1
 exact not_of (wpAny_truthy_bool ⟨.bl (!c),H1,I1,rfl,q1⟩)
end
def SqL (K:W.Frag) (H:Hp) (a:Addr) (xs:List V):Prop:=
 Rd H a (.lst xs)\/
  ∃ (o:Obj) (its:Array Value) (n:Nat),K.lookup a=some o/\o.cls= .type "list"/\o.dict=none/\o.data= .seq its n/\its.size<=sizeLine/\zaQ xs its.toList
def SqT (K:W.Frag) (H:Hp) (a:Addr) (xs:List V):Prop:=
 Rd H a (.tup xs)\/
  ∃ (o:Obj) (its:Array Value) (n:Nat),K.lookup a=some o/\o.cls= .type "tuple"/\o.data= .seq its n/\its.size<=sizeLine/\zaQ xs its.toList
noncomputable def zvx:Value->Option V
 | .none=>some .non
 | .bool b=>some (.bl b)
 | .int i _=>some (.int i)
 | .str x _=>some (.str x)
 | .bytes b _=>some (.byt b)
 | .float b _=>some (.flt b)
 | .ref a=>some (.ref a)
 | .type n=>some (.ty n)
 | _=>none
theorem zbA.abs {x:V} {u:Value} (r:zbA x u):zvx u=some x:=by
 cases x with
 | non=>cases r;rfl
 | bl _=>cases r;rfl
 | int _=>obtain ⟨t,rfl⟩:=r;rfl
 | str _=>obtain ⟨t,rfl⟩:=r;rfl
 | byt _=>obtain ⟨t,rfl⟩:=r;rfl
 | flt _=>obtain ⟨t,rfl⟩:=r;rfl
 | ref _=>cases r;rfl
 | ty _=>cases r;rfl
theorem zbA.inj {x y:V} {u:Value} (r:zbA x u) (q:zbA y u):x=y:=Option.some.inj (r.abs.symm.trans q.abs)
theorem zaQ.inj: ∀ {xs ys:List V} {us:List Value},zaQ xs us->zaQ ys us->xs=ys
 | _,_,_,.nil,.nil=>rfl
 | _,_,_,.cons r t,.cons r' t'=>by rw [r.inj r',zaQ.inj t t']
section
variable {X:Cx} {pins:List (Addr×Obj)} {σ:St} {H:Hp} {s:Shared} {a:Addr} {xs ys:List V}
theorem SqL.of {K:W.Frag} (h:H a=some (.lst xs)):SqL K H a xs:= .inl (.inl h)
theorem SqT.of {K:W.Frag} (h:H a=some (.tup xs)):SqT K H a xs:= .inl (.inl h)
theorem Inv.list (I:Inv X pins σ H s) (h:SqL X.K H a xs): ∃ its:List Value,zaQ xs its/\PlainL s.heap a its.toArray/\xs.length<=sizeLine:=by
 rcases h with h | ⟨o,its,n,hk,hc,hd,hs,hz,r⟩
 ·obtain ⟨z,its,n,r,e⟩:=h.ok I.hok
  exact ⟨its,r,⟨_,n,e,rfl,rfl,rfl⟩,z⟩
 ·refine ⟨its.toList,r,⟨o,n,I.kIn a o hk,hc,hd,by simpa using hs⟩,?_⟩
  have e:=r.length
  simp only [qas] at e
  omega
theorem Inv.tuple (I:Inv X pins σ H s) (h:SqT X.K H a xs): ∃ its:List Value,zaQ xs its/\IsTup s.heap a its.toArray/\xs.length<=sizeLine:=by
 rcases h with h | ⟨o,its,n,hk,hc,hs,hz,r⟩
 ·obtain ⟨z,its,r,p⟩:=h.ok I.hok
  exact ⟨its,r,p,z⟩
 ·refine ⟨its.toList,r,⟨o,I.kIn a o hk,hc,n,by simpa using hs⟩,?_⟩
  have e:=r.length
  simp only [qas] at e
  omega
theorem Inv.list_inj (I:Inv X pins σ H s) (h:SqL X.K H a xs) (h':SqL X.K H a ys):xs=ys:=by
 obtain ⟨its,r,⟨o,n,e,_,_,d⟩,_⟩:=I.list h
 obtain ⟨its',r',⟨o',n',e',_,_,d'⟩,_⟩:=I.list h'
 rw [e] at e';cases e'
 rw [d] at d'
 injection d' with d1 _
 have:its=its':=by simpa using congrArg Array.toList d1
 subst this
 exact r.inj r'
theorem Inv.tuple_inj (I:Inv X pins σ H s) (h:SqT X.K H a xs) (h':SqT X.K H a ys):xs=ys:=by
 obtain ⟨its,r,⟨o,e,_,n,d⟩,_⟩:=I.tuple h
 obtain ⟨its',r',⟨o',e',_,n',d'⟩,_⟩:=I.tuple h'
 rw [e] at e';cases e'
 rw [d] at d'
 injection d' with d1 _
 have:its=its':=by simpa using congrArg Array.toList d1
 subst this
 exact r.inj r'
end
noncomputable abbrev Cx.wish (X:Cx) (E:Value->Shared->Prop):Cx:={X with xe:=E}
noncomputable abbrev Cx.nox (X:Cx):Cx:=X.wish fun _ _=>False
theorem Cx.Ok.wish {X:Cx} (ok:X.Ok) (E:Value->Shared->Prop):(X.wish E).Ok:=
 ⟨ok.mod,ok.kind,ok.glob,ok.blt,ok.above,ok.inj,ok.has,ok.cab,ok.hd,ok.hx,ok.frames,ok.stk,ok.exf,ok.bs,ok.bsz,ok.noex,ok.exfs,ok.funs,ok.frf⟩
theorem Cx.Ok.unwish {X:Cx} {E:Value->Shared->Prop} (ok:(X.wish E).Ok):X.Ok:=
 ⟨ok.mod,ok.kind,ok.glob,ok.blt,ok.above,ok.inj,ok.has,ok.cab,ok.hd,ok.hx,ok.frames,ok.stk,ok.exf,ok.bs,ok.bsz,ok.noex,ok.exfs,ok.funs,ok.frf⟩
section
variable {X:Cx} {pins:List (Addr×Obj)} {σ:St} {H:Hp} {s:Shared} {E:Value->Shared->Prop}
theorem Inv.wish (I:Inv X pins σ H s) (E:Value->Shared->Prop):Inv (X.wish E) pins σ H s:=⟨I.ok.wish E,I.os,I.bare,I.base,I.loc,I.cell,I.free,I.freeC,I.pin,I.hok,I.len⟩
theorem Inv.unwish (I:Inv (X.wish E) pins σ H s):Inv X pins σ H s:=⟨I.ok.unwish,I.os,I.bare,I.base,I.loc,I.cell,I.free,I.freeC,I.pin,I.hok,I.len⟩
theorem SP.unwish {D:zoD} {f:Flow} {s':Shared} (h:SP (X.wish E) pins D f s'):SP X pins D f s':=by
 cases f with
 | next=>obtain ⟨σ',H',I,q⟩:=h;exact ⟨σ',H',I.unwish,q⟩
 | brk=>obtain ⟨σ',H',I,q⟩:=h;exact ⟨σ',H',I.unwish,q⟩
 | cont=>obtain ⟨σ',H',I,q⟩:=h;exact ⟨σ',H',I.unwish,q⟩
 | ret u=>obtain ⟨v,σ',H',I,r,q⟩:=h;exact ⟨v,σ',H',I.unwish,r,q⟩
theorem PE.nox {e:Expr} {t:TE} (h:PE X.nox e t):PE X e t:=fun pins s σ H Q I hw=>
 qaZ (h pins s σ H Q (I.wish _) hw) (fun _ _ ⟨v,H',I',r,q⟩=>⟨v,H',I'.unwish,r,q⟩) fun _ _ z=>qa0 z
theorem PT.nox {e:Expr} {t:TT} (h:PT X.nox e t):PT X e t:=fun pins s σ H Q I hw=>
 qaZ (h pins s σ H Q (I.wish _) hw) (fun _ _ ⟨H',I',q⟩=>⟨H',I'.unwish,q⟩) fun _ _ z=>qa0 z
theorem PSs.nox {st:List Stmt} {t:TS} (h:PSs X.nox st t):PSs X st t:=fun pins s σ H D I hw=>
 qaZ (h pins s σ H D (I.wish _) hw) (fun _ _ q=>q.unwish) fun _ _ z=>qa0 z
end
section
variable {X:Cx} {st:Stmt} {rest:List Stmt} {t u:TS} {e:Expr} {te:TE} {pos:Pos}
noncomputable def zuE:TS:=fun D σ H=>D.nx σ H
noncomputable def zvm (t u:TS):TS:=fun D σ H=>t {D with nx:=u D} σ H
theorem zqB:PSs X [] zuE:=fun _ _ σ H _ I h=>wpAny_execs_nil ⟨σ,H,I,h⟩
theorem zmV (h1:PS X st t) (h2:PSs X rest u):PSs X (st::rest) (zvm t u):=by
 intro pins s σ H D I h
 refine wpAny_execs_cons (thn (h1 pins s σ H {D with nx:=u D} I h) fun f s1 q=> ?_)
 cases f with
 | next=>
  obtain ⟨σ',H',I',q⟩:=q
  exact h2 pins s1 σ' H' D I' q
 | ret v=>exact q
 | brk=>exact q
 | cont=>exact q
theorem zpP (h1:PS X st t):PSs X [st] t:=by
 intro pins s σ H D I h
 refine wpAny_execs_cons (thn (h1 pins s σ H D I h) fun f s1 q=> ?_)
 cases f with
 | next=>exact wpAny_execs_nil q
 | ret v=>exact q
 | brk=>exact q
 | cont=>exact q
theorem Inv.quiet {pins:List (Addr×Obj)} {σ:St} {H:Hp} {s:Shared} (I:Inv X pins σ H s):interactive X.env=false:=by simp [interactive,I.ok.kind]
noncomputable def zut (te:TE):TS:=fun D σ H=>te σ H fun _ H1=>D.nx σ H1
theorem zpk (he:PE X e te) (hs:swapsWith e none pos.line X.env=pure false:=by rfl):PS X (.Expr e pos) (zut te):=by
 intro pins s σ H D I h
 exact wpAny_Expr_any (thn (he pins s σ H _ I h) fun v s1 ⟨x,H1,I1,r1,q1⟩=>⟨σ,H1,I1,q1⟩) I.quiet hs
noncomputable def zvi (te:TE):TS:=fun D σ H=>te σ H D.rt
theorem zrA (he:PE X e te):PS X (.Return (some e) pos) (zvi te):=by
 intro pins s σ H D I h
 exact wpAny_Return_some (thn (he pins s σ H _ I h) fun v s1 ⟨x,H1,I1,r1,q1⟩=>⟨x,σ,H1,I1,r1,q1⟩)
noncomputable def zvp (c:TT) (t u:TS):TS:=fun D σ H=>c σ H fun b H1=>if b=true then t D σ H1 else u D σ H1
theorem zur {c:Expr} {a b:List Stmt} {tc:TT} (hc:PT X c tc) (ha:PSs X a t) (hb:PSs X b u):PS X (.If c a b pos) (zvp tc t u):=by
 intro pins s σ H D I h
 refine wpAny_If (thn (hc pins s σ H _ I h) fun d s1 ⟨H1,I1,q1⟩=> ?_)
 cases d with
 | true=>exact ha pins s1 σ H1 D I1 q1
 | false=>exact hb pins s1 σ H1 D I1 q1
end
noncomputable abbrev TG:=V->St->Hp->(St->Hp->Prop)->Prop
noncomputable abbrev TGs:=List V->St->Hp->(St->Hp->Prop)->Prop
def PG (X:Cx) (target:Expr) (t:TG):Prop:=
 ∀ (pins:List (Addr×Obj)) (s:Shared) (σ:St) (H:Hp) (v:V) (u:Value) (Q:St->Hp->Prop),Inv X pins σ H s->zbA v u->t v σ H Q->
  wpAny (model X.prog X.w) X.A (assign target X.env u) (fun _ s'=> ∃ σ' H',Inv X pins σ' H' s'/\Q σ' H') X.xe s
def PGs (X:Cx) (ts:List Expr) (t:TGs):Prop:=
 ∀ (pins:List (Addr×Obj)) (s:Shared) (σ:St) (H:Hp) (vs:List V) (us:List Value) (Q:St->Hp->Prop),Inv X pins σ H s->zaQ vs us->t vs σ H Q->
  wpAny (model X.prog X.w) X.A (assignInOrder ((assignEach ts X.env).map (·.2)) us) (fun _ s'=> ∃ σ' H',Inv X pins σ' H' s'/\Q σ' H') X.xe s
noncomputable abbrev ztb:=V->V->V->Hp->(Hp->Prop)->Prop
def zrl (X:Cx) (t:ztb):Prop:=
 ∀ (pins:List (Addr×Obj)) (s:Shared) (σ:St) (H:Hp) (o i v:V) (ov iv u:Value) (Q:Hp->Prop),Inv X pins σ H s->zbA o ov->zbA i iv->zbA v u->t o i v H Q->
  wpAny (model X.prog X.w) X.A (setItem ov iv u) (fun _ s'=> ∃ H',Inv X pins σ H' s'/\Q H') X.xe s
section
variable {X:Cx} {pos:Pos}
noncomputable def zq7 (i:Nat):TG:=fun v σ H Q=>Q (σ.set i (some v)) H
theorem zp5 {i:Nat} {x:Str} (hN:X.N.Nodup) (hi:X.N[i]? = some x) (hx:Loc X.env.scope x) (hf:X.fn x=true\/X.env.scope.names.lookup x=some .local:=by first | exact .inl rfl | exact .inr rfl | assumption):PG X (.Name x pos) (zq7 i):=by
 intro pins s σ H v u Q I r h
 exact wpAny_assign_Name (zeU I hN hi hx r (fun s' I'=>⟨_,H,I',h⟩) hf)
noncomputable def zvh:TGs:=fun vs σ H Q=>vs=[]/\Q σ H
noncomputable def ztD (t:TG) (u:TGs):TGs:=fun vs σ H Q=> ∃ v r,vs=v::r/\t v σ H fun σ' H'=>u r σ' H' Q
theorem zql:PGs X [] zvh:=by
 intro pins s σ H vs us Q I r h
 obtain ⟨e,h⟩:=h
 subst e
 cases r
 exact assignInOrder_nil ⟨σ,H,I,h⟩
theorem znU {e:Expr} {es:List Expr} {t:TG} {u:TGs} (h1:PG X e t) (h2:PGs X es u)
  (hs:(assignEach (e::es) X.env).map (·.2)=assign e X.env::(assignEach es X.env).map (·.2):=by rfl):PGs X (e::es) (ztD t u):=by
 intro pins s σ H vs us Q I r h
 obtain ⟨v,vr,e1,h⟩:=h
 subst e1
 cases r with
 | cons r rr=>
  rw [hs]
  refine assignInOrder_cons (thn (h1 pins s σ H _ _ _ I r h) fun _ s1 ⟨σ1,H1,I1,q1⟩=> ?_)
  exact h2 pins s1 σ1 H1 _ _ Q I1 rr q1
noncomputable def zvl (K:W.Frag) (n:Nat) (t:TGs):TG:=fun v σ H Q=> ∃ a xs,v= .ref a/\SqT K H a xs/\xs.length=n/\t xs σ H Q
theorem zso {es:List Expr} {k:Nat} {t:TGs} {n:Nat} (hc:X.calm=true) (h:PGs X es t)
  (hn:(assignEach es X.env).length=n:=by rfl) (hst:(assignEach es X.env).findIdx? (·.1)=none:=by rfl):PG X (.Tuple es k pos) (zvl X.K n t):=by
 intro pins s σ H v u Q I r hw
 obtain ⟨a,xs,e1,hq,hl,hw⟩:=hw
 subst e1
 cases r
 obtain ⟨its,rv,ht,hz⟩:=I.tuple hq
 refine assign_Tuple_tuple (I.ok.hd hc) ht (by simp [hn, <-hl,rv.length]) hst fun h' hx=> ?_
 have I1:Inv X pins σ H {s with heap:=h'}:=I.kept (t':=s.toks) fun b o e=>hx b o (qaR (qaQ e)) e
 exact h pins _ σ H xs _ Q I1 (by simpa using rv) hw
noncomputable def zuR (to ti:TE) (t:ztb):TG:=fun v σ H Q=>to σ H fun o H1=>ti σ H1 fun i H2=>t o i v H2 fun H3=>Q σ H3
theorem zsp {o i:Expr} {to ti:TE} {t:ztb} (ho:PE X o to) (hi:PE X i ti) (hs:zrl X t)
  (ha: ∀ v,assign (.Subscript o i pos) X.env v=(do
    let ov<-holding [v] (eval o X.env)
    let iv<-holding [v,ov] (eval i X.env)
    standAt pos
    holding [v,ov,iv] (setItem ov iv v)
    release [v,ov,iv] []):=by intro _;rfl):PG X (.Subscript o i pos) (zuR to ti t):=by
 intro pins s σ H v u Q I r h
 rw [ha]
 refine qaW (qaO (thn (ho pins s σ H _ I h) fun ov s1 ⟨x,H1,I1,r1,q1⟩=> ?_))
 refine qaW (qaO (thn (hi pins s1 σ H1 _ I1 q1) fun iv s2 ⟨y,H2,I2,r2,q2⟩=> ?_))
 refine qaW (wpAny_standAt (qaW (qaO (thn (hs pins s2 σ H2 x y v ov iv u _ I2 r1 r2 r q2) fun _ s3 ⟨H3,I3,q3⟩=> ?_))))
 exact wpAny_release ⟨σ,H3,I3,q3⟩
noncomputable def zul (te:TE) (g:TG):TS:=fun D σ H=>te σ H fun x H1=>g x σ H1 D.nx
theorem zrD {tg e:Expr} {te:TE} {g:TG} (he:PE X e te) (hg:PG X tg g) (hs:swapsWithSole [tg] e pos.line X.env=pure false:=by rfl) (hw:swappedStores [tg] e X.env=pure none:=by rfl)
  (h1:(assignEach [tg] X.env).map (·.2)=[assign tg X.env]:=by rfl):PS X (.Assign [tg] e pos) (zul te g):=by
 intro pins s σ H D I h
 refine wpAny_Assign_stores (thn (he pins s σ H _ I h) fun v s1 ⟨x,H1,I1,r1,q1⟩=> ?_) hs hw
 rw [h1]
 exact thn (hg pins s1 σ H1 x v _ I1 r1 q1) fun _ s2 q=>q
theorem zsL {i:Nat} {x:Str} {e:Expr} {te:TE} {pos':Pos} (hN:X.N.Nodup) (hi:X.N[i]? = some x) (hx:Loc X.env.scope x) (he:PE X e te) (hs:swapsWith e (some (.Name x pos')) pos.line X.env=pure false:=by rfl) (hf:X.fn x=true\/X.env.scope.names.lookup x=some .local:=by first | exact .inl rfl | exact .inr rfl | assumption):
  PS X (.Assign [.Name x pos'] e pos) (zul te (zq7 i)):=by
 intro pins s σ H D I h
 refine wpAny_Assign_Name (thn (he pins s σ H _ I h) fun v s1 ⟨y,H1,I1,r1,q1⟩=> ?_) hs
 exact zeU I1 hN hi hx r1 (fun s2 I2=>⟨_,H1,I2,q1⟩) hf
end
section
variable {X:Cx} {pos:Pos}
end
structure It where
 go:Nat->Hp->Prop
 yld:Nat->Hp->V->Hp->Prop
 stop:Nat->Hp->Prop
def zjH (X:Cx) (pins:List (Addr×Obj)) (H:Hp) (b:Addr):Prop:=
 H b=none/\b≠X.env.locals/\b∉X.fs/\(b∈X.ex\/X.s₀.heap.objs.size<=b)/\(∀ x c,X.env.cells.lookup x=some c->c≠b)/\ ∀ p∈X.pn++pins,p.1≠b
theorem Inv.fpOk {X:Cx} {pins:List (Addr×Obj)} {σ:St} {H H':Hp} {s:Shared} {b:Addr} (I:Inv X pins σ H s) (hb:s.heap.objs.size<=b) (hn:H' b=none):zjH X pins H' b:=by
 refine ⟨hn,Nat.ne_of_gt (qaw I.lt hb),I.nofs hb,.inr (qaS I.sz hb),fun x c e z=> ?_,fun p hp z=> ?_⟩
 ·obtain ⟨v,q⟩:=I.cell x c e
  exact absurd (qaw q.lt (by rw [z];exact hb)) (qaN _)
 ·exact absurd (qaw (qaQ (I.pin p hp).1) (by rw [z];exact hb)) (qaN _)
structure zri (P:Program) (w:World) (K:W.Frag) (tg:Expr) (J:It) (fp:List Addr) (it:Addr) (tn:Nat->Heap->Prop):Prop where
 mem:it∈fp
 obj: ∀ i h,tn i h-> ∀ b∈fp, ∃ o,h.get? b=some o/\ ∀ v,o.data≠ .cell v
 keep: ∀ i h h',tn i h->(∀ b∈fp, ∀ o,h.get? b=some o->h'.get? b=some o)->tn i h'
 item: ∀ (X:Cx),X.prog=P->X.w=w->X.K=K-> ∀ (i:Nat) (pins:List (Addr×Obj)) (s:Shared) (σ:St) (H:Hp) (E:Value->Shared->Prop),Inv X pins σ H s->(∀ b∈fp,zjH X pins H b)->tn i s.heap->J.go i H->
  wpAny (model P w) X.A (pyNext (.ref it)) (fun r s1=> ∃ u,r=some u/\
    wpAny (model P w) X.A (letOwnedTupleGo tg (.ref it) u) (fun _ s2=> ∃ x H',Inv X pins σ H' s2/\zbA x u/\J.yld i H x H'/\tn (i+1) s2.heap/\ ∀ b∈fp,H' b=none) E s1) E s
 done: ∀ (X:Cx),X.prog=P->X.w=w->X.K=K-> ∀ (i:Nat) (pins:List (Addr×Obj)) (s:Shared) (σ:St) (H:Hp) (E:Value->Shared->Prop),Inv X pins σ H s->(∀ b∈fp,zjH X pins H b)->tn i s.heap->J.stop i H->
  wpAny (model P w) X.A (pyNext (.ref it)) (fun r s1=>r=none/\Inv X pins σ H s1) E s
 self: ∀ (A:Around) (i:Nat) (s:Shared) (Q:Value->Shared->Prop) (E:Value->Shared->Prop),tn i s.heap->Q (.ref it) s->wpAny (model P w) A (pyIter (.ref it)) Q E s
noncomputable abbrev TI:=St->Hp->(It->Hp->Prop)->Prop
def PIE (X:Cx) (pins:List (Addr×Obj)) (σ:St) (tg:Expr) (R:It->Hp->Prop) (itv:Value) (s2:Shared):Prop:=
 ∃ (it:Addr) (fp:List Addr) (tn:Nat->Heap->Prop) (J:It) (H':Hp),itv= .ref it/\Inv X pins σ H' s2/\zri X.prog X.w X.K tg J fp it tn/\tn 0 s2.heap/\(∀ b∈fp,zjH X pins H' b)/\R J H'
def PI (X:Cx) (tg iter:Expr) (wi:TI):Prop:=
 ∀ (pins:List (Addr×Obj)) (s:Shared) (σ:St) (H:Hp) (R:It->Hp->Prop),Inv X pins σ H s->wi σ H R->
  wpAny (model X.prog X.w) X.A (eval iter X.env) (fun v s1=>wpAny (model X.prog X.w) X.A (pyIter v) (PIE X pins σ tg R) X.xe s1) X.xe s
theorem zpd {M:Model} {A:Around} {E:Value->Shared->Prop} {s:Shared} {tg:Expr} {it:Addr} {u:Value} {o:Obj} {n:String} {vs:Array Value} {Q:Unit->Shared->Prop} (ho:s.heap.get? it=some o) (hc:o.cls= .type n) (hd:o.data= .fields vs)
  (hn:["enumerate","zip","dict_itemiterator","dict_reverseitemiterator","odict_iterator","itertools.zip_longest","itertools.pairwise"].contains n=false) (hQ:Q () s):wpAny M A (letOwnedTupleGo tg (.ref it) u) Q E s:=by
 unfold letOwnedTupleGo
 cases tg<;>first
  | exact qaX hQ
  | (cases u<;>first
      | exact qaX hQ
      | (refine qaW (wpAny_load ho ?_)
         rw [hc,hd]
         show wpAny M A (if (["enumerate","zip","dict_itemiterator","dict_reverseitemiterator","odict_iterator","itertools.zip_longest","itertools.pairwise"].contains n && vs[0]? == some (rawInt _))=true then _ else _) Q E s
         rw [qa5 (by intro h;rw [hn,Bool.false_and] at h;cases h)]
         exact qaX hQ))
noncomputable def Itl (K:W.Frag) (a:Addr):It:=
 ⟨fun i H=> ∃ xs x,SqL K H a xs/\xs[i]? = some x,fun i H x H'=>H'=H/\ ∀ xs,SqL K H a xs->xs[i]? = some x,fun i H=> ∃ xs,SqL K H a xs/\xs.length<=i⟩
noncomputable def Itt (K:W.Frag) (a:Addr):It:=
 ⟨fun i H=> ∃ xs x,SqT K H a xs/\xs[i]? = some x,fun i H x H'=>H'=H/\ ∀ xs,SqT K H a xs->xs[i]? = some x,fun i H=> ∃ xs,SqT K H a xs/\xs.length<=i⟩
noncomputable def Itr (lo:Int) (n:Nat):It:=⟨fun i _=>i<n,fun i H x H'=>H'=H/\x= .int (lo+i),fun i _=>n<=i⟩
theorem zhw.keep {A:Around} {H H':Hp} (x:zhw A H) (k: ∀ b o u,H b=some (.frz o u)->H' b=some (.frz o u)):zhw A H':=by
 rcases x with x | ⟨a,o,cls,head,vs,x1,x2,x3⟩
 ·exact .inl x
 ·exact .inr ⟨a,o,cls,head,vs,x1,k _ _ _ x2,x3⟩
theorem zhw.at_ {A:Around} {P:Program} {w:World} {H:Hp} {h:Heap} (x:zhw A H) (ok:HOk P w H h):L3.zms A h:=by
 rcases x with x | ⟨a,o,cls,head,vs,x1,x2,x3⟩
 ·exact .inl x
 ·exact .inr ⟨a,cls,head,x1,o,vs,(ok a _ x2).1,x3⟩
theorem Inv.handA {X:Cx} {pins:List (Addr×Obj)} {σ:St} {H:Hp} {s:Shared} (I:Inv X pins σ H s):zhw X.A H:=I.ok.hx.keep I.base.frzs
theorem Inv.hand {X:Cx} {pins:List (Addr×Obj)} {σ:St} {H:Hp} {s:Shared} (I:Inv X pins σ H s):L3.zms X.A s.heap:=I.handA.at_ I.hok
theorem zlw {P:Program} {w:World} {K:W.Frag} {tg:Expr} (a it:Addr):zri P w K tg (Itl K a) [it] it (fun i h=>h.IsListIter it a i) where
 mem:=by simp
 obj:=fun i h st b hb=>by
  have e:b=it:=by simpa using hb
  subst e
  obtain ⟨o,e,c,d⟩:=st
  exact ⟨o,e,fun v z=>by rw [d] at z;cases z⟩
 keep:=fun i h h' st k=>st.at fun o e=>k it (by simp) o e
 item:=by
  intro X hP hw hK i pins s σ H E I hf st hg
  subst hP hw hK
  obtain ⟨xs,x,hq,hx⟩:=hg
  obtain ⟨its,rv,p,hz⟩:=I.list hq
  obtain ⟨u,hu,ru⟩:=rv.get hx
  obtain ⟨f0,f1,f2,f3,f4,f5⟩:=hf it (by simp)
  refine wpAny_pyNext_list_item st p.isList (x:=u) (by simpa using hu) fun h' st' sb=> ?_
  have I1:Inv X pins σ H {s with heap:=h'}:=I.turned (t':=s.toks) (fun b o hb e=>(sb.2 b hb).trans e) f0 f1 f3 f4 f5
  obtain ⟨o,e,c,d⟩:=id st'
  exact ⟨u,rfl,zpd (s:={s with heap:=h'}) e c d (by decide) ⟨x,H,I1,ru,⟨rfl,fun ys hy=>by rw [I.list_inj hy hq];exact hx⟩,st',fun b hb=>(hf b hb).1⟩⟩
 done:=by
  intro X hP hw hK i pins s σ H E I hf st hg
  subst hP hw hK
  obtain ⟨xs,hq,hx⟩:=hg
  obtain ⟨its,rv,p,hz⟩:=I.list hq
  obtain ⟨f0,f1,f2,f3,f4,f5⟩:=hf it (by simp)
  have hl:=rv.length
  exact L3.zjr I.hand st p.isList (by simp;omega) fun h' eb=>⟨rfl,I.turned (t':=s.toks) (fun b o hb e=>eb b o hb e) f0 f1 f3 f4 f5⟩
 self:=fun _ _ _ _ _ st h=>wpAny_pyIter_listiter st h
theorem zj6 {P:Program} {w:World} {K:W.Frag} {tg:Expr} (a it:Addr):zri P w K tg (Itt K a) [it] it (fun i h=>h.IsTupleIter it a i) where
 mem:=by simp
 obj:=fun i h st b hb=>by
  have e:b=it:=by simpa using hb
  subst e
  obtain ⟨o,e,c,d⟩:=st
  exact ⟨o,e,fun v z=>by rw [d] at z;cases z⟩
 keep:=fun i h h' st k=>st.at fun o e=>k it (by simp) o e
 item:=by
  intro X hP hw hK i pins s σ H E I hf st hg
  subst hP hw hK
  obtain ⟨xs,x,hq,hx⟩:=hg
  obtain ⟨its,rv,p,hz⟩:=I.tuple hq
  obtain ⟨u,hu,ru⟩:=rv.get hx
  obtain ⟨f0,f1,f2,f3,f4,f5⟩:=hf it (by simp)
  refine wpAny_pyNext_tuple_item st (show s.heap.IsTuple a its.toArray from p) (x:=u) (by simpa using hu) fun h' st' sb=> ?_
  have I1:Inv X pins σ H {s with heap:=h'}:=I.turned (t':=s.toks) (fun b o hb e=>(sb.2 b hb).trans e) f0 f1 f3 f4 f5
  obtain ⟨o,e,c,d⟩:=id st'
  exact ⟨u,rfl,zpd (s:={s with heap:=h'}) e c d (by decide) ⟨x,H,I1,ru,⟨rfl,fun ys hy=>by rw [I.tuple_inj hy hq];exact hx⟩,st',fun b hb=>(hf b hb).1⟩⟩
 done:=by
  intro X hP hw hK i pins s σ H E I hf st hg
  subst hP hw hK
  obtain ⟨xs,hq,hx⟩:=hg
  obtain ⟨its,rv,p,hz⟩:=I.tuple hq
  obtain ⟨f0,f1,f2,f3,f4,f5⟩:=hf it (by simp)
  have hl:=rv.length
  exact L3.zlQ I.hand st (show s.heap.IsTuple a its.toArray from p) (by simp;omega) fun h' eb=>⟨rfl,I.turned (t':=s.toks) (fun b o hb e=>eb b o hb e) f0 f1 f3 f4 f5⟩
 self:=fun _ _ _ _ _ st h=>wpAny_pyIter_tupleiter st h
theorem zkr {P:Program} {w:World} {K:W.Frag} {tg:Expr} (it:Addr) (lo:Int) (n:Nat):zri P w K tg (Itr lo n) [it] it (fun i h=>IsRangeIter h it (lo+(i:Nat)*1) ((n:Int) - (i:Nat)) 1) where
 mem:=by simp
 obj:=fun i h st b hb=>by
  have e:b=it:=by simpa using hb
  subst e
  exact ⟨_,st,fun v z=>by
    have z':Data.fields _=Data.cell v:=z
    cases z'⟩
 keep:=fun i h h' st k=>k it (by simp) _ st
 item:=by
  intro X hP hw hK i pins s σ H E I hf st hg
  subst hP hw hK
  obtain ⟨f0,f1,f2,f3,f4,f5⟩:=hf it (by simp)
  refine wpAny_pyNext_range_item st (by have:i<n:=hg;omega) fun h' st' kk=> ?_
  have e1:lo+(i:Nat)*1+1=lo+((i+1:Nat):Int)*1:=by omega
  have e2:(n:Int) - (i:Nat) - 1=(n:Int) - ((i+1:Nat):Int):=by omega
  rw [e1,e2] at st'
  have I1:Inv X pins σ H {s with heap:=h',toks:=s.toks+1}:=I.turned (fun b o hb e=>(kk.2 b hb).trans e) f0 f1 f3 f4 f5
  refine ⟨_,rfl,zpd (s:={s with heap:=h',toks:=s.toks+1}) (n:="range_iterator") st' rfl rfl (by decide) ⟨.int (lo+i),H,I1,⟨s.toks,?_⟩,⟨rfl,rfl⟩,st',fun b hb=>(hf b hb).1⟩⟩
  rw [Int.mul_one]
 done:=by
  intro X hP hw hK i pins s σ H E I hf st hg
  subst hP hw hK
  obtain ⟨f0,f1,f2,f3,f4,f5⟩:=hf it (by simp)
  exact L3.zkV I.hand st (by have:n<=i:=hg;omega) fun h' eb=>⟨rfl,I.turned (t':=s.toks) (fun b o hb e=>eb b o hb e) f0 f1 f3 f4 f5⟩
 self:=fun _ _ _ _ _ st h=>wpAny_pyIter_rangeiter st h
section
variable {X:Cx} {tg:Expr}
theorem zn2 {pins:List (Addr×Obj)} {σ:St} {H:Hp} {s:Shared} {R:It->Hp->Prop} {E:Value->Shared->Prop} {lo hi:Int} {t u v:Tok} {tk:Nat} (I:Inv X pins σ H s) (h1: -(2^62)<=lo) (h2:lo<2^62) (h3: -(2^62)<=hi) (h4:hi<2^62)
  (q:R (Itr lo (hi - lo).toNat) H):wpAny (model X.prog X.w) X.A (pyIter (.ref s.heap.objs.size)) (PIE X pins σ tg R) E {s with heap:=s.heap.push {cls:= .type "range",data:= .fields #[.int lo t,.int hi u,.int 1 v]},toks:=tk}:=by
 refine wpAny_pyIter_range (IsRange.new ..) (small_one h1 h2 h3 h4) ?_
 have I1:Inv X pins σ H {s with heap:=s.heap.push {cls:= .type "range",data:= .fields #[.int lo t,.int hi u,.int 1 v]},toks:=tk}:=I.kept fun b o e=>qag _ e
 refine ⟨(s.heap.push {cls:= .type "range",data:= .fields #[.int lo t,.int hi u,.int 1 v]}).objs.size,[(s.heap.push {cls:= .type "range",data:= .fields #[.int lo t,.int hi u,.int 1 v]}).objs.size],_,_,H,rfl,
   I1.kept (t':=tk) fun b o e=>qag _ e,zkr _ lo (hi - lo).toNat,?_,fun b hb=> ?_,q⟩
 ·have e1:lo+((0:Nat):Int)*1=lo:=by simp
  have e2:(((hi - lo).toNat:Nat):Int) - ((0:Nat):Int)=Builtin.Range.rangeSize lo hi 1:=by rw [rangeSize_one];split<;>omega
  show IsRangeIter _ _ (lo+((0:Nat):Int)*1) ((((hi - lo).toNat:Nat):Int) - ((0:Nat):Int)) 1
  rw [e1,e2]
  exact qar _ rfl
 ·have e:b=(s.heap.push {cls:= .type "range",data:= .fields #[.int lo t,.int hi u,.int 1 v]}).objs.size:=by simpa using hb
  subst e
  exact I1.fpOk (qaV _) (I1.hok.fresh (qaV _))
noncomputable def zuC (ta:TA):TI:=fun σ H R=>ta σ H fun vs H1=> ∃ j:Int,vs=[.int j]/\ -(2^62)<=j/\j<2^62/\R (Itr 0 j.toNat) H1
theorem zk4 {a:Expr} {ta:TA} {p pos:Pos} (hg:Gl X "range") (hm:X.mg "range"=none) (ha:PA X [a] ta) (hs:starEach [a] X.env=[(false,eval a X.env)]:=by rfl):PI X tg (.Call (.Name "range" p) [a] [] pos) (zuC ta):=by
 intro pins s σ H R I h
 refine Call_ (zhn I hg hm boot_range (PyProof.Rows.callWith_type1 (thn (ha pos pins s σ H _ I h) fun us s1 ⟨vs,H1,I1,r1,q1⟩=> ?_) hs rfl))
 obtain ⟨j,e,q1,q2,q⟩:=q1
 subst e
 cases r1 with
 | cons r rr=>
  cases rr
  obtain ⟨t,rfl⟩:=r
  exact call_range_1 (zn2 I1 (by omega) (by omega) q1 q2 (by simpa using q))
noncomputable def zvc (wi:TI) (g:TG) (tb:TS):TS:=fun D σ H=>wi σ H fun J H1=> ∃ W:Nat->Nat->St->Hp->Prop,(∃ m,W 0 m σ H1)/\ ∀ i m σ H,W i m σ H->
 (J.stop i H/\D.nx σ H)\/(J.go i H/\ ∃ N:St->Hp->Prop,(∀ σ' H',N σ' H'-> ∃ m',m'<m/\W (i+1) m' σ' H')/\ ∀ x H',J.yld i H x H'->g x σ H' fun σ2 H2=>tb {D with nx:=N,ct:=N,bk:=D.nx} σ2 H2)
noncomputable def zif (fp:List Addr) (h:Heap):List (Addr×Obj):=fp.filterMap fun b=>(h.get? b).map fun o=>(b,o)
theorem zdw {fp:List Addr} {h:Heap} {b:Addr} {o:Obj} (hb:b∈fp) (e:h.get? b=some o):(b,o)∈zif fp h:=List.mem_filterMap.mpr ⟨b,hb,by rw [e];rfl⟩
theorem zlW {fp:List Addr} {h:Heap} {p:Addr×Obj} (hp:p∈zif fp h):p.1∈fp/\h.get? p.1=some p.2:=by
 obtain ⟨b,hb,e⟩:=List.mem_filterMap.mp hp
 cases q:h.get? b with
 | none=>rw [q] at e;cases e
 | some o=>
  rw [q] at e
  have e':(b,o)=p:=Option.some.inj e
  subst e'
  exact ⟨hb,q⟩
theorem Inv.pinned {pins:List (Addr×Obj)} {σ:St} {H:Hp} {s:Shared} {fp:List Addr} (I:Inv X pins σ H s) (hf: ∀ b∈fp,zjH X pins H b) (ho: ∀ b∈fp, ∃ o,s.heap.get? b=some o/\ ∀ v,o.data≠ .cell v):Inv X (pins++zif fp s.heap) σ H s:=
 I.pins_of fun p hp=>(qaK.mp hp).elim (fun z=>I.pin p (qak _ z)) fun z=>by
  obtain ⟨hb,e⟩:=zlW z
  obtain ⟨f0,f1,f2,_⟩:=hf p.1 hb
  obtain ⟨o,e',d⟩:=ho p.1 hb
  rw [e] at e';cases e'
  exact ⟨e,f0,f1,f2,d⟩
theorem Inv.unpinned {pins pl:List (Addr×Obj)} {σ:St} {H:Hp} {s:Shared} (I:Inv X (pins++pl) σ H s):Inv X pins σ H s:=I.pins_of fun p hp=>I.pin p (qak _ (List.mem_append_left _ hp))
theorem zrF {iter:Expr} {body:List Stmt} {wi:TI} {g:TG} {tb:TS} {pos:Pos} (hp:PassesOwn (model X.prog X.w) X.A X.env X.xe) (hc:X.calm=true) (hi:PI X tg iter wi) (hg:PG X tg g) (hb:PSs X body tb)
  (hs: ∀ x,foldedSetIterable iter X.env x=pure x:=by intro _;rfl):PS X (.For tg iter body [] pos) (zvc wi g tb):=by
 intro pins s σ H D I h
 refine wpAny_For (thn (hi pins s σ H _ I h) fun v s1 h1=>thn h1 fun itv s2 h2=> ?_) hs
 obtain ⟨it,fp,tn,J,H2,e,I2,T,st2,f2,W,⟨m0,w0⟩,turn⟩:=h2
 subst e
 have stat: ∀ {H':Hp},(∀ b∈fp,H' b=none)-> ∀ b∈fp,zjH X pins H' b:=fun hn b hb=>⟨hn b hb,(f2 b hb).2⟩
 refine codeAny_forLoop_any (fun n s'=> ∃ i σ' H',Inv X pins σ' H' s'/\tn i s'.heap/\(∀ b∈fp,H' b=none)/\W i n σ' H') ?_ m0 ⟨0,σ,H2,I2,st2,fun b hb=>(f2 b hb).1,w0⟩
 rintro n s3 ⟨i,σ3,H3,I3,st3,fr3,w3⟩
 rcases turn i n σ3 H3 w3 with ⟨stop,qn⟩ | ⟨go,N,hN,step⟩
 ·refine wpAny_passesOwn hp (thn (T.done X rfl rfl rfl i pins s3 σ3 H3 X.xe I3 (stat fr3) st3 stop) fun r s4 ⟨hr,I4⟩=> ?_)
  subst hr
  exact wpAny_execs_nil ⟨σ3,H3,I4,qn⟩
 ·refine wpAny_passesOwn hp (thn (T.item X rfl rfl rfl i pins s3 σ3 H3 X.xe I3 (stat fr3) st3 go) fun r s4 ⟨u,hr,h4⟩=> ?_)
  subst hr
  refine wpAny_passesOwn hp (thn h4 fun _ s5 ⟨x,H5,I5,r5,y5,st5,fr5⟩=> ?_)
  have I5':=I5.pinned (stat fr5) (T.obj _ _ st5)
  refine wpAny_passesOwn hp (thn (hg _ s5 σ3 H5 x u _ I5' r5 (step x H5 y5)) fun _ s6 ⟨σ6,H6,I6,q6⟩=> ?_)
  refine wpAny_passesOwn hp (thn (hb _ s6 σ6 H6 _ I6 q6) fun f s7 q7=> ?_)
  have again: ∀ {σ7:St} {H7:Hp},Inv X (pins++zif fp s5.heap) σ7 H7 s7->N σ7 H7-> ∃ m,m<n/\ ∃ i σ' H',Inv X pins σ' H' s7/\tn i s7.heap/\(∀ b∈fp,H' b=none)/\W i m σ' H':=fun {σ7 H7} I7 n7=>by
   obtain ⟨m',hm,w7⟩:=hN σ7 H7 n7
   refine ⟨m',hm,i+1,σ7,H7,I7.unpinned,T.keep _ _ _ st5 fun b hb o e=>(I7.pin (b,o) (qak _ (qak _ (zdw hb e)))).1,fun b hb=> ?_,w7⟩
   obtain ⟨o,e,d⟩:=T.obj _ _ st5 b hb
   exact (I7.pin (b,o) (qak _ (qak _ (zdw hb e)))).2.1
  cases f with
  | next=>obtain ⟨σ7,H7,I7,n7⟩:=q7;exact again I7 n7
  | cont=>obtain ⟨σ7,H7,I7,n7⟩:=q7;exact again I7 n7
  | brk=>obtain ⟨σ7,H7,I7,q7⟩:=q7;exact ⟨σ7,H7,I7.unpinned,q7⟩
  | ret v=>obtain ⟨x7,σ7,H7,I7,r7,q7⟩:=q7;exact ⟨x7,σ7,H7,I7.unpinned,r7,q7⟩
end
noncomputable abbrev R2:=V->V->Hp->VK->Prop
def OpR (X:Cx) (f:Value->Value->Sem Value) (r:R2):Prop:=
 ∀ (pins:List (Addr×Obj)) (s:Shared) (σ:St) (H:Hp) (x y:V) (v u:Value) (Q:VK),Inv X pins σ H s->zbA x v->zbA y u->r x y H Q->
  wpAny (model X.prog X.w) X.A (f v u) (EP X pins σ Q) X.xe s
def UnR (X:Cx) (f:Value->Sem Value) (r:V->Hp->VK->Prop):Prop:=
 ∀ (pins:List (Addr×Obj)) (s:Shared) (σ:St) (H:Hp) (x:V) (v:Value) (Q:VK),Inv X pins σ H s->zbA x v->r x H Q->
  wpAny (model X.prog X.w) X.A (f v) (EP X pins σ Q) X.xe s
def zaN (X:Cx) (f:Value) (r:List V->Hp->VK->Prop):Prop:=
 ∀ (pins:List (Addr×Obj)) (s:Shared) (σ:St) (H:Hp) (xs:List V) (us:List Value) (Q:VK),Inv X pins σ H s->zaQ xs us->r xs H Q->
  wpAny (model X.prog X.w) X.A (call f us) (EP X pins σ Q) X.xe s
def zvI (X:Cx) (r:V->Hp->(Bool->Hp->Prop)->Prop):Prop:=
 ∀ (pins:List (Addr×Obj)) (s:Shared) (σ:St) (H:Hp) (x:V) (v:Value) (Q:Bool->Hp->Prop),Inv X pins σ H s->zbA x v->r x H Q->
  wpAny (model X.prog X.w) X.A (truthy v) (TP X pins σ Q) X.xe s
noncomputable def tOp (r:R2) (ta tb:TE):TE:=fun σ H Q=>ta σ H fun x H1=>tb σ H1 fun y H2=>r x y H2 Q
noncomputable def tUn (r:V->Hp->VK->Prop) (ta:TE):TE:=fun σ H Q=>ta σ H fun x H1=>r x H1 Q
noncomputable def rI (C:Int->Int->Prop) (g:Int->Int->V):R2:=fun x y H Q=> ∃ i j,x= .int i/\y= .int j/\C i j/\Q (g i j) H
noncomputable def rI0 (g:Int->Int->V):R2:=fun x y H Q=> ∃ i j,x= .int i/\y= .int j/\Q (g i j) H
noncomputable def rU (g:Int->V):V->Hp->VK->Prop:=fun x H Q=> ∃ i,x= .int i/\Q (g i) H
section
variable {X:Cx} {a b c:Expr} {ta tb tc:TE} {pos:Pos}
theorem zuf (ha:PE X a ta) (hb:PE X b tb) {pins:List (Addr×Obj)} {s:Shared} {σ:St} {H:Hp} {R:V->V->Hp->Prop} (I:Inv X pins σ H s)
  (h:ta σ H fun x H1=>tb σ H1 fun y H2=>R x y H2) {Q:Value->Shared->Prop} {f:Value->Value->Sem Value}
  (hf: ∀ v u s2 x y H2,Inv X pins σ H2 s2->zbA x v->zbA y u->R x y H2->wpAny (model X.prog X.w) X.A (f v u) Q X.xe s2):
  wpAny (model X.prog X.w) X.A (eval a X.env) (fun v s₁=>wpAny (model X.prog X.w) X.A (eval b X.env) (fun u s₂=>wpAny (model X.prog X.w) X.A (f v u) Q X.xe s₂) X.xe s₁) X.xe s:=by
 refine thn (ha pins s σ H _ I h) fun v s1 ⟨x,H1,I1,r1,q1⟩=> ?_
 refine thn (hb pins s1 σ H1 _ I1 q1) fun u s2 ⟨y,H2,I2,r2,q2⟩=> ?_
 exact hf v u s2 x y H2 I2 r1 r2 q2
theorem zt5 {op:Operator} {r:R2} (ho:OpR X (binaryOp op) r) (ha:PE X a ta) (hb:PE X b tb):PE X (.BinOp a op b pos) (tOp r ta tb):=by
 intro pins s σ H Q I h
 exact wpAny_BinOp (zuf ha hb I h fun v u s2 x y H2 I2 rx ry q=>ho pins s2 σ H2 x y v u Q I2 rx ry q)
theorem zsw {op:UnaryOp} {r:V->Hp->VK->Prop} (ho:UnR X (unaryOp op) r) (ha:PE X a ta):PE X (.UnaryOp op a pos) (tUn r ta):=by
 intro pins s σ H Q I h
 exact UnaryOp_ (thn (ha pins s σ H _ I h) fun v s1 ⟨x,H1,I1,r1,q1⟩=>ho pins s1 σ H1 x v Q I1 r1 q1)
theorem opI {f:Value->Value->Sem Value} {C:Int->Int->Prop} {g:Int->Int->Int}
  (rule: ∀ (i j:Int) (t u:Tok) (s:Shared) (Q:Value->Shared->Prop) (E:Value->Shared->Prop),C i j->Q (.int (g i j) s.toks) {s with toks:=s.toks+1}->wpAny (model X.prog X.w) X.A (f (.int i t) (.int j u)) Q E s):
  OpR X f (rI C fun i j=> .int (g i j)):=by
 intro pins s σ H x y v u Q I rx ry h
 obtain ⟨i,j,rfl,rfl,hc,q⟩:=h
 obtain ⟨t,rfl⟩:=rx
 obtain ⟨t',rfl⟩:=ry
 exact rule i j t t' s _ _ hc ⟨.int (g i j),H,I.tok _,⟨_,rfl⟩,q⟩
theorem zuU {f:Value->Value->Sem Value} {g:Int->Int->Int}
  (rule: ∀ (i j:Int) (t u:Tok) (s:Shared) (Q:Value->Shared->Prop) (E:Value->Shared->Prop),Q (.int (g i j) s.toks) {s with toks:=s.toks+1}->wpAny (model X.prog X.w) X.A (f (.int i t) (.int j u)) Q E s):
  OpR X f (rI0 fun i j=> .int (g i j)):=by
 intro pins s σ H x y v u Q I rx ry h
 obtain ⟨i,j,rfl,rfl,q⟩:=h
 obtain ⟨t,rfl⟩:=rx
 obtain ⟨t',rfl⟩:=ry
 exact rule i j t t' s _ _ ⟨.int (g i j),H,I.tok _,⟨_,rfl⟩,q⟩
theorem ztw {f:Value->Value->Sem Value} {g:Int->Int->Bool}
  (rule: ∀ (i j:Int) (t u:Tok) (s:Shared) (Q:Value->Shared->Prop) (E:Value->Shared->Prop),Q (.bool (g i j)) s->wpAny (model X.prog X.w) X.A (f (.int i t) (.int j u)) Q E s):
  OpR X f (rI0 fun i j=> .bl (g i j)):=by
 intro pins s σ H x y v u Q I rx ry h
 obtain ⟨i,j,rfl,rfl,q⟩:=h
 obtain ⟨t,rfl⟩:=rx
 obtain ⟨t',rfl⟩:=ry
 exact rule i j t t' s _ _ ⟨.bl (g i j),H,I,rfl,q⟩
def ztL (i j:Int):Prop:=0<=j/\j<=1000000/\i.natAbs<2^64
def zuz (i j:Int):Prop:=(-(2^64)<i/\i<2^64)\/(-(2^64)<j/\j<2^64)
theorem zuz.ok {i j:Int} (h:zuz i j):IntMulOk i j:=by
 rcases h with ⟨h1,h2⟩ | ⟨h1,h2⟩
 ·exact .of_left (intBits_le_64 h1 h2)
 ·exact .of_right (intBits_le_64 h1 h2)
theorem zs2:OpR X (binaryOp .Add) (rI0 fun i j=> .int (i+j)):=zuU fun _ _ _ _ _ _ _ q=>add_int q
theorem zsK:OpR X (binaryOp .Sub) (rI0 fun i j=> .int (i - j)):=zuU fun _ _ _ _ _ _ _ q=>sub_int q
theorem zr0:OpR X (binaryOp .Mult) (rI zuz fun i j=> .int (i*j)):=opI fun _ _ _ _ _ _ _ hc q=>mul_int q hc.ok
theorem zrU:OpR X (binaryOp .Mod) (rI (fun _ j=>0<j) fun i j=> .int (i % j)):=opI fun i j _ _ _ _ _ hc q=>by
 have h1:(0:Int)<j:=hc
 exact mod_int' (by omega) (by rw [Int.fmod_eq_emod_of_nonneg i (by omega)];exact q)
theorem zrQ:OpR X (binaryOp .Pow) (rI ztL fun i j=> .int (i^j.toNat)):=opI fun _ _ _ _ _ _ _ hc q=>pow_int_small hc.1 hc.2.1 hc.2.2 q
theorem unI {f:Value->Sem Value} {g:Int->Int}
  (rule: ∀ (i:Int) (t:Tok) (s:Shared) (Q:Value->Shared->Prop) (E:Value->Shared->Prop),Q (.int (g i) s.toks) {s with toks:=s.toks+1}->wpAny (model X.prog X.w) X.A (f (.int i t)) Q E s):
  UnR X f (rU fun i=> .int (g i)):=by
 intro pins s σ H x v Q I rx h
 obtain ⟨i,rfl,q⟩:=h
 obtain ⟨t,rfl⟩:=rx
 exact rule i t s _ _ ⟨.int (g i),H,I.tok _,⟨_,rfl⟩,q⟩
theorem zoY:UnR X (unaryOp .USub) (rU fun i=> .int (-i)):=unI fun _ _ _ _ _ q=>neg_int q
end
section
variable {X:Cx} {a b c:Expr} {ta tb tc:TE} {pos:Pos}
theorem zuL:OpR X (compareOp .Lt) (rI0 fun i j=> .bl (decide (i<j))):=ztw fun _ _ _ _ _ _ _ q=>lt_int q
theorem zuM:OpR X (compareOp .LtE) (rI0 fun i j=> .bl (decide (i<=j))):=ztw fun _ _ _ _ _ _ _ q=>le_int q
theorem zuo:OpR X (compareOp .Gt) (rI0 fun i j=> .bl (decide (j<i))):=ztw fun _ _ _ _ _ _ _ q=>gt_int q
theorem zum:OpR X (compareOp .GtE) (rI0 fun i j=> .bl (decide (j<=i))):=ztw fun _ _ _ _ _ _ _ q=>ge_int q
theorem OpR.or {f:Value->Value->Sem Value} {r r':R2} (h:OpR X f r) (h':OpR X f r'):OpR X f (fun x y H Q=>r x y H Q\/r' x y H Q):=by
 intro pins s σ H x y v u Q I rx ry q
 rcases q with q | q
 ·exact h pins s σ H x y v u Q I rx ry q
 ·exact h' pins s σ H x y v u Q I rx ry q
theorem zpK {op:CmpOp} {r:R2} (ho:OpR X (compareOp op) r) (ha:PE X a ta) (hb:PE X b tb) (hm:behindInMarks op b=false):PE X (.Compare a [op] [b] pos) (tOp r ta tb):=by
 intro pins s σ H Q I h
 exact wpAny_Compare1 (zuf ha hb I h fun v u s2 x y H2 I2 rx ry q=>ho pins s2 σ H2 x y v u Q I2 rx ry q) hm
noncomputable def zsh (t:TE):TT:=fun σ H Q=>t σ H fun x H'=> ∃ k,x= .bl k/\Q k H'
theorem zp8 {op:CmpOp} {r:R2} (ho:OpR X (compareOp op) r) (ha:PE X a ta) (hb:PE X b tb) (hm:behindInMarks op b=false):PT X (.Compare a [op] [b] pos) (zsh (tOp r ta tb)):=by
 intro pins s σ H Q I h
 refine wpAny_isTrue_Compare1 (thn (ha pins s σ H _ I h) fun v s1 ⟨x,H1,I1,r1,q1⟩=>thn (hb pins s1 σ H1 _ I1 q1) fun u s2 ⟨y,H2,I2,r2,q2⟩=>
   thn (ho pins s2 σ H2 x y v u _ I2 r1 r2 q2) fun c s3 ⟨z,H3,I3,r3,k,e,q3⟩=> ?_) hm
 subst e
 cases r3
 exact wpAny_truthy_bool ⟨H3,I3,q3⟩
noncomputable def zoR (r r':R2) (ta tb tc:TE):TE:=fun σ H Q=>ta σ H fun x H1=>tb σ H1 fun y H2=>r x y H2 fun z H3=> ∃ k,z= .bl k/\
 (if k=true then tc σ H3 fun w' H4=>r' y w' H4 Q else Q (.bl false) H3)
theorem znq {op op':CmpOp} {r r':R2} (ho:OpR X (compareOp op) r) (ho':OpR X (compareOp op') r') (ha:PE X a ta) (hb:PE X b tb) (hc:PE X c tc)
  (hm:lastMarks [op,op'] [b,c]=false:=by with_unfolding_all rfl):PT X (.Compare a [op,op'] [b,c] pos) (zsh (zoR r r' ta tb tc)):=by
 intro pins s σ H Q I h
 refine isTrue_chain (thn (ha pins s σ H _ I h) fun v s1 ⟨x,H1,I1,r1,q1⟩=>test_link (thn (hb pins s1 σ H1 _ I1 q1) fun u s2 ⟨y,H2,I2,r2,q2⟩=>
   thn (ho pins s2 σ H2 x y v u _ I2 r1 r2 q2) fun d s3 ⟨z,H3,I3,r3,k,e,q3⟩=> ?_)) hm
 subst e
 cases r3
 refine wpAny_truthy_bool ?_
 cases k with
 | false=>
  obtain ⟨k',e',q'⟩:=q3
  cases e'
  exact ite_ff ⟨H3,I3,q'⟩
 | true=>
  refine ite_tt (test_last (thn (hc pins s3 σ H3 _ I3 q3) fun w' s4 ⟨z',H4,I4,r4,q4⟩=>thn (ho' pins s4 σ H4 y z' u w' _ I4 r2 r4 q4) fun d' s5 ⟨z2,H5,I5,r5,k2,e2,q5⟩=> ?_))
  subst e2
  cases r5
  exact wpAny_truthy_bool ⟨H5,I5,q5⟩
def zuS (K:W.Frag) (x:V) (H:Hp) (k:Bool):Prop:=
 match x with
 | .non=>k=false
 | .bl b=>k=b
 | .int i=>k=(i != 0)
 | .str y=>y.length<=sizeLine/\k=((y.length:Int) != 0)
 | .byt y=>y.size<=sizeLine/\k=((y.size:Int) != 0)
 | .ref p=>(∃ xs,SqL K H p xs/\k= !xs.isEmpty)\/(∃ xs,SqT K H p xs/\k= !xs.isEmpty)\/ ∃ kvs,H p=some (.dK kvs)/\k= !kvs.isEmpty
 | _=>False
theorem zjQ {κ:Type} {kvs:List (κ×V)} {vs:List (κ×Value)} (r:KV kvs vs):(!vs.isEmpty)= !kvs.isEmpty:=by
 cases r<;>rfl
theorem zga {xs:List V} {its:List Value} (r:zaQ xs its):(!its.toArray.isEmpty)= !xs.isEmpty:=by
 cases r<;>simp
theorem zhq:(sizeLine:Nat)<2^63:=by rw [sizeLine_eq];decide
theorem zsA:zvI X (fun x H Q=> ∃ k,zuS X.K x H k/\Q k H):=by
 intro pins s σ H x v Q I rx h
 obtain ⟨k,e,q⟩:=h
 have hl:=zhq
 have hs:sizeLine=16777216:=sizeLine_eq
 cases x with
 | non=>
  cases rx
  have e':k=false:=e
  subst e'
  exact truthy_none ⟨H,I,q⟩
 | bl b=>
  cases rx
  have e':k=b:=e
  subst e'
  exact wpAny_truthy_bool ⟨H,I,q⟩
 | int i=>
  obtain ⟨t,rfl⟩:=rx
  have e':k=(i != 0):=e
  subst e'
  exact PySem.P.truthy_int ⟨H,I,q⟩
 | str y=>
  obtain ⟨t,rfl⟩:=rx
  obtain ⟨hy,e'⟩:y.length<=sizeLine/\k=((y.length:Int) != 0):=e
  subst e'
  exact PySem.P.truthy_str (by omega) ⟨H,I.tok _,q⟩
 | byt y=>
  obtain ⟨t,rfl⟩:=rx
  obtain ⟨hy,e'⟩:y.size<=sizeLine/\k=((y.size:Int) != 0):=e
  subst e'
  exact W.truthy_bytes (by omega) ⟨H,I.tok _,q⟩
 | ref p=>
  cases rx
  have e':(∃ xs,SqL X.K H p xs/\k= !xs.isEmpty)\/(∃ xs,SqT X.K H p xs/\k= !xs.isEmpty)\/ ∃ kvs,H p=some (.dK kvs)/\k= !kvs.isEmpty:=e
  rcases e' with ⟨xs,hx,e'⟩ | ⟨xs,hx,e'⟩ | ⟨kvs,hx,e'⟩
  ·subst e'
   obtain ⟨its,r,pl,hz⟩:=I.list hx
   have hlen:=r.length
   exact wpAny_truthy_list pl.isList (by simp only [qaA];omega) ⟨H,I.tok _,by rw [zga r];exact q⟩
  ·subst e'
   obtain ⟨its,r,pl,hz⟩:=I.tuple hx
   have hlen:=r.length
   exact truthy_tuple pl (by simp only [qaA];omega) ⟨H,I.tok _,by rw [zga r];exact q⟩
  ·subst e'
   obtain ⟨hz,hS,vs,r,m⟩:kvs.length<=sizeLine/\(p==sysModules)=false/\ ∃ vs,KV kvs vs/\s.heap.DictOf (zdM X.prog X.w) p vs:=I.hok p _ hx
   have hlen:kvs.length=vs.length:=Paired.length r
   exact wpAny_truthy_dict hS m (by omega) ⟨H,I.tok _,by rw [zjQ r];exact q⟩
 | _=>exact (show False from e).elim
theorem zmT (ha:PE X a ta) (he: ∀ whole,isTrue a X.env whole=(do let v<-whole;standAt a.pos;holding [v] (truthy v))):
  PT X a (fun σ H Q=>ta σ H fun x H'=> ∃ k,zuS X.K x H' k/\Q k H'):=by
 intro pins s σ H Q I h
 exact isTrue_plain (thn (ha pins s σ H _ I h) fun v s1 ⟨x,H1,I1,r1,q1⟩=>zsA pins s1 σ H1 x v Q I1 r1 q1) (he _)
theorem zkp:OpR X (binaryOp .Add) (fun x y H Q=> ∃ i j,x= .str i/\y= .str j/\i.length+j.length<=sizeLine/\Q (.str (i++j)) H):=by
 intro pins s σ H x y v u Q I rx ry h
 obtain ⟨i,j,rfl,rfl,hz,q⟩:=h
 obtain ⟨t,rfl⟩:=rx
 obtain ⟨t',rfl⟩:=ry
 exact add_str (fun t' tk=>⟨.str (i++j),H,I.tok _,⟨_,rfl⟩,q⟩) hz
theorem zfv {x:V} {us:List Value} (r:zaQ [x] us): ∃ u,us=[u]/\zbA x u:=by
 cases r with
 | cons r1 r2=>cases r2;exact ⟨_,rfl,r1⟩
theorem zsM {x y:V} {us:List Value} (r:zaQ [x,y] us): ∃ u w',us=[u,w']/\zbA x u/\zbA y w':=by
 cases r with
 | cons r1 r2=>
  cases r2 with
  | cons r3 r4=>cases r4;exact ⟨_,_,rfl,r1,r3⟩
theorem zkR (hc:X.calm=true):zaN X (.builtin "max") (fun xs H Q=> ∃ i j,xs=[.int i,.int j]/\Q (.int (if j>i then j else i)) H):=by
 intro pins s σ H xs us Q I r h
 obtain ⟨i,j,rfl,q⟩:=h
 obtain ⟨u,w',rfl,⟨t,rfl⟩,⟨t',rfl⟩⟩:=zsM r
 refine max_two_ints (I.ok.hd hc) fun h' tk k=>⟨_,H,I.kept k,?_,q⟩
 by_cases hj:j>i
 ·rw [qa4 hj,qa4 hj];exact ⟨_,rfl⟩
 ·rw [qa5 hj,qa5 hj];exact ⟨_,rfl⟩
theorem zlr (hc:X.calm=true):zaN X (.builtin "min") (fun xs H Q=> ∃ i j,xs=[.int i,.int j]/\Q (.int (if j<i then j else i)) H):=by
 intro pins s σ H xs us Q I r h
 obtain ⟨i,j,rfl,q⟩:=h
 obtain ⟨u,w',rfl,⟨t,rfl⟩,⟨t',rfl⟩⟩:=zsM r
 refine min_two_ints (I.ok.hd hc) fun h' tk k=>⟨_,H,I.kept k,?_,q⟩
 by_cases hj:j<i
 ·rw [qa4 hj,qa4 hj];exact ⟨_,rfl⟩
 ·rw [qa5 hj,qa5 hj];exact ⟨_,rfl⟩
end
structure zpJ (h:Heap) (x dx C:Addr) (mA:Str->Option Value):Prop where
 obj:h.get? x=some (W.instObj C dx)
 ns:h.Ns1 dx mA
 ne:dx≠x
theorem zmF {h:Heap} {dx:Addr} {mA:Str->Option Value} (n:h.Ns1 dx mA): ∃ od,h.get? dx=some od/\ ∀ name,W.lookIn name od=some (mA name):=by
 obtain ⟨o,es,ep,ho,hd,hk,_,hm⟩:=n
 refine ⟨o,ho,fun name=> ?_⟩
 have e:=hm name
 unfold nsFind findBy at e
 rw [<- Array.find?_toList] at e
 unfold W.lookIn
 rw [hd]
 dsimp only
 split
 ·rename_i y q
  rw [q] at e
  exact congrArg some e
 ·rename_i q
  rw [q] at e
  have a:es.toList.any (·.refKey)=false:=by
   rw [List.any_eq_false]
   intro y hy
   obtain ⟨z,t,hkey⟩:=hk y (Array.mem_toList_iff.mp hy)
   simp [DictEntry.refKey,hkey]
  have a': ¬es.toList.any (·.refKey)=true:=by rw [a];exact Bool.false_ne_true
  rw [qa5 a']
  exact congrArg some e
theorem zpJ.look {h:Heap} {x dx C:Addr} {mA:Str->Option Value} (I:zpJ h x dx C mA): ∃ od,W.InstAt h x (W.instObj C dx) C (some od)/\ ∀ name,W.lookIn name od=some (mA name):=
 let ⟨od,ho,hl⟩:=zmF I.ns
 ⟨od,⟨I.obj,rfl,rfl,ho⟩,hl⟩
section
variable {prog:Program} {w:World} {A:Around} {E:Value->Shared->Prop} {s:Shared} {K:W.Frag} {x dx C f:Addr} {mA:Str->Option Value} {name:Str} {v:Value}
theorem zp6 {expr:Bool} {Q:Value->Shared->Prop} (X:K.In s.heap) (I:zpJ s.heap x dx C mA) (hg:W.plainGet K C name=true) (hh:W.hasDictIn K C=true)
  (ha:W.findIn K (.ref C) name=some none) (hv:mA name=some v) (hv':W.handedIn v=true) (h:Q v {s with toks:=s.toks+1}):
  wpAny (model prog w) A (getAttr (.ref x) name expr) Q E s:=by
 obtain ⟨od,J,hl⟩:=I.look
 exact W.get_value X J (W.plainGet_of hg).1 (W.findObj_own hh ha rfl (by rw [hl,hv])) hv' h
theorem znK {pl:Sem Bool} {Q:Value×List Value->Shared->Prop} (X:K.In s.heap) (I:zpJ s.heap x dx C mA) (hg:W.plainGet K C name=true)
  (hf:W.findIn K (.ref C) name=some (some (.ref f))) (ht:W.isFn K (.ref f)=true) (hv:mA name=none) (h:Q (.ref f,[.ref x]) s):
  wpAny (model prog w) A (getMethod (.ref x) name pl) Q E s:=by
 obtain ⟨od,J,hl⟩:=I.look
 exact W.method_fn X J (W.plainGet_of hg).1 (W.plainGet_of hg).2 hf (beq_iff_eq.mp ht) (by show (W.lookIn name od).map (·.isSome)=some false;rw [hl,hv];rfl) h
theorem zpz {ns:List Str} {Q:Unit->Shared->Prop} (X:K.In s.heap) (I:zpJ s.heap x dx C mA)
  (hs:W.findIn K (.ref C) "__setattr__"=some (some (.builtin "object.__setattr__"))) (hp:W.plainOver K C=true) (ht:W.takerIn K C name=some none) (hh:W.hasDictIn K C=true)
  (hw:PySem.Within mA ns) (hsz:ns.length<=sizeLine)
  (h: ∀ h',zpJ h' x dx C (fun y=>if y=name then some v else mA y)->Heap.SameBut dx s.heap h'->Q () {s with heap:=h',toks:=s.toks+2}):
  wpAny (model prog w) A (setAttr (.ref x) name v) Q E s:=by
 obtain ⟨od,J,hl⟩:=I.look
 refine W.set_plain X J hs (W.osa_open (s:={s with toks:=s.toks+1}) (r:=none) X J hp ht fun b=> ?_)
 obtain ⟨cd,hc,hd'⟩:=W.any_some hh
 have hx:s.heap.get? x=some ⟨.ref C,some dx,.plain, #[]⟩:=I.obj
 refine qaW (qaX (qaW (qaW (wpAny_loadPart hx (qaW (W.Looks.here (s:={s with toks:=s.toks+1}) (W.looks_clsIn X hc) ?_))))))
 rw [hd']
 refine qaX (a:=some dx) (qaW (qaX (qaW ?_)))
 refine wpAny_nsSet1 (s:={s with toks:=s.toks+1}) I.ns fun h' hn2 hs2=> ?_
 obtain ⟨oD,esD,epD,hoD,hdD,hcD⟩:=hn2.count (PySem.Within.cons name v hw)
 refine qaW (wpAny_lookBehind hoD (by rw [hdD];exact pastItsLine_dict (qaS hcD (by rw [qaE];omega))) ?_)
 exact qaX (h _ ⟨(hs2.2 _ (Ne.symm I.ne)).trans I.obj,hn2,I.ne⟩ hs2)
theorem znL {R:Result->Shared->Prop} {vs:List Value} {kw:List (Str×Value)} (X:K.In s.heap) (hm:W.makesIn K C=true)
  (hi:W.findIn K (.ref C) "__init__"=some (some (.ref f))) (hf:W.typeIn K (.ref f)=some (.type "function"))
  (h:codeAny (model prog w) (A.under (.builtin "type.__call__" ⟨.ref C::vs,kw⟩)) (.call (.ref f) ⟨.ref (s.heap.objs.size+1)::vs,kw⟩) (W.InitBack (s.heap.objs.size+1) R)
    {s with heap:=(s.heap.push W.emptyDict).push (W.instObj C s.heap.objs.size)}):
  codeAny (model prog w) A (.call (.ref C) ⟨vs,kw⟩) R s:=by
 obtain ⟨hh,g,d,t,os⟩:=s
 exact W.make_core (W.makes_of X hm) (W.looks_findIn X hi) (fun self=>W.bind_fn X self hf) (.inl rfl) h
end
noncomputable def zhj (f:Str) (v:V):List (Str×V)->List (Str×V)
 | []=>[(f,v)]
 | (g,x)::r=>if g=f then (g,v)::r else (g,x)::zhj f v r
theorem zfK (f g:Str) (v:V): ∀ fs:List (Str×V),(zhj f v fs).lookup g=if g=f then some v else fs.lookup g
 | []=>by
  show List.lookup g [(f,v)]=_
  by_cases h:g=f
  ·have hb:(g==f)=true:=beq_iff_eq.mpr h
   simp only [List.lookup,hb,qa4 h]
  ·have hb:(g==f)=false:=beq_eq_false_iff_ne.mpr h
   simp only [List.lookup,hb,qa5 h]
 | (k,x)::r=>by
  have ih:=zfK f g v r
  rw [show zhj f v ((k,x)::r)=(if k=f then (k,v)::r else (k,x)::zhj f v r) from rfl]
  by_cases hk:k=f
  ·rw [qa4 hk]
   by_cases h:g=k
   ·have hb:(g==k)=true:=beq_iff_eq.mpr h
    simp only [List.lookup,hb,qa4 (h.trans hk)]
   ·have hb:(g==k)=false:=beq_eq_false_iff_ne.mpr h
    simp only [List.lookup,hb,qa5 (fun e:g=f=>h (e.trans hk.symm))]
  ·rw [qa5 hk]
   by_cases h:g=k
   ·have hb:(g==k)=true:=beq_iff_eq.mpr h
    simp only [List.lookup,hb,qa5 (fun e:g=f=>hk (h.symm.trans e))]
   ·have hb:(g==k)=false:=beq_eq_false_iff_ne.mpr h
    simp only [List.lookup,hb]
    exact ih
theorem zfs (f:Str) (v:V): ∀ fs:List (Str×V),f∈(zhj f v fs).map (·.1)/\ ∀ g,g∈fs.map (·.1)->g∈(zhj f v fs).map (·.1)
 | []=>⟨by simp [zhj],fun g h=>by simp at h⟩
 | (k,x)::r=>by
  obtain ⟨i1,i2⟩:=zfs f v r
  rw [show zhj f v ((k,x)::r)=(if k=f then (k,v)::r else (k,x)::zhj f v r) from rfl]
  by_cases hk:k=f
  ·rw [qa4 hk]
   subst hk
   exact ⟨by simp,fun g h=>by simpa using h⟩
  ·rw [qa5 hk]
   refine ⟨?_,fun g h=> ?_⟩
   ·rw [qaM]
    exact qan _ i1
   ·rw [qaM] at h ⊢
    rcases qaP.mp h with e | e
    ·exact qaP.mpr (.inl e)
    ·exact qan _ (i2 g e)
theorem zfw (f:Str) (v:V): ∀ fs:List (Str×V),(zhj f v fs).length<=fs.length+1
 | []=>by simp [zhj]
 | (k,x)::r=>by
  have ih:=zfw f v r
  rw [show zhj f v ((k,x)::r)=(if k=f then (k,v)::r else (k,x)::zhj f v r) from rfl]
  by_cases hk:k=f
  ·rw [qa4 hk,qaE,qaE];omega
  ·rw [qa5 hk,qaE,qaE];omega
theorem zmH.some_of {v:V} {o:Option Value} (r:zmH (some v) o): ∃ u,o=some u/\zbA v u:=by
 cases o with
 | none=>exact (show False from r).elim
 | some u=>exact ⟨u,rfl,r⟩
theorem zmH.none_of {o:Option Value} (r:zmH none o):o=none:=by
 cases o with
 | none=>rfl
 | some u=>exact (show False from r).elim
theorem zmw {v:V} {u:Value} (r:zbA v u):W.handedIn u=true:=by
 cases v with
 | non=>cases (show u=Value.none from r);rfl
 | bl b=>cases (show u=Value.bool b from r);rfl
 | int i=>obtain ⟨t,e⟩:=(show ∃ t,u=Value.int i t from r);cases e;rfl
 | str x=>obtain ⟨t,e⟩:=(show ∃ t,u=Value.str x t from r);cases e;rfl
 | byt b=>obtain ⟨t,e⟩:=(show ∃ t,u=Value.bytes b t from r);cases e;rfl
 | flt b=>obtain ⟨t,e⟩:=(show ∃ t,u=Value.float b t from r);cases e;rfl
 | ref a=>cases (show u=Value.ref a from r);rfl
 | ty n=>cases (show u=Value.type n from r);rfl
section
variable {P:Program} {w:World} {H H':Hp} {h h':Heap} {a C dx:Addr} {fs fs':List (Str×V)}
theorem zgD (hok:HOk P w H h) (e:H a=some (.ins C dx fs)): ∃ mA,zpJ h a dx C mA/\(∀ f,zmH (fs.lookup f) (mA f))/\PySem.Within mA (fs.map (·.1))/\fs.length<=1000/\H dx=some (.own a):=by
 obtain ⟨d,z,ne,ob,mA,n,r,q⟩:=(show zbY P w H h a (.ins C dx fs) from hok a _ e)
 exact ⟨mA,⟨ob,n,ne⟩,r,q,z,d⟩
end
structure Cls (K:W.Frag) (C:Addr):Prop where
 pg:W.plainGet K C Str.empty=true
 hd:W.hasDictIn K C=true
 po:W.plainOver K C=true
 sa:W.findIn K (.ref C) "__setattr__"=some (some (.builtin "object.__setattr__"))
theorem Cls.get {K:W.Frag} {C:Addr} (c:Cls K C) (f:Str):W.plainGet K C f=true:=c.pg
def zfA (K:W.Frag) (C:Addr) (f:Str):Prop:=W.findIn K (.ref C) f=some none
theorem zfA.taker {K:W.Frag} {C:Addr} {f:Str} (n:zfA K C f):W.takerIn K C f=some none:=by
 unfold W.takerIn
 rw [show W.findIn K (.ref C) f=some none from n]
 rfl
structure Con (K:W.Frag) (C:Addr) (f:Str) (v:V) (u:Value):Prop where
 at_:W.findIn K (.ref C) f=some (some u)
 rel:zbA v u
 get:W.specialIn K u "__get__"=some none
 cp:W.copiedNames.contains f=false
structure zfW (K:W.Frag) (C:Addr) (m:Str) (f:Addr):Prop where
 at_:W.findIn K (.ref C) m=some (some (.ref f))
 fn:W.isFn K (.ref f)=true
 kp:W.keepIn K (.ref f)=true
section
variable {X:Cx} {pins:List (Addr×Obj)} {σ:St} {H:Hp} {s:Shared} {a C dx:Addr} {fs:List (Str×V)} {f:Str} {v:V} {A:Around} {E:Value->Shared->Prop}
theorem zjR {b:Bool} {Q:Value->Shared->Prop} (I:Inv X pins σ H s) (e:H a=some (.ins C dx fs)) (c:Cls X.K C) (n:zfA X.K C f) (l:fs.lookup f=some v)
  (h: ∀ u s',Inv X pins σ H s'->zbA v u->Q u s'):wpAny (model X.prog X.w) A (getAttr (.ref a) f b) Q E s:=by
 obtain ⟨mA,O,r,_,_,_⟩:=zgD I.hok e
 obtain ⟨u,hu,ru⟩:=zmH.some_of (v:=v) (o:=mA f) (by rw [<- l];exact r f)
 exact zp6 I.kIn O (c.get f) c.hd n hu (zmw ru) (h u _ (I.tok _) ru)
theorem zgh {m:Str} {g:Addr} {pl:Sem Bool} {Q:Value×List Value->Shared->Prop} (I:Inv X pins σ H s) (e:H a=some (.ins C dx fs)) (c:Cls X.K C) (k:zfW X.K C m g) (l:fs.lookup m=none)
  (h:Q (.ref g,[.ref a]) s):wpAny (model X.prog X.w) A (getMethod (.ref a) m pl) Q E s:=by
 obtain ⟨mA,O,r,_,_,_⟩:=zgD I.hok e
 have hn:mA m=none:=zmH.none_of (by rw [<- l];exact r m)
 exact znK I.kIn O (c.get m) k.at_ k.fn hn h
theorem zjW {y:V} {u:Value} {Q:Unit->Shared->Prop} (I:Inv X pins σ H s) (e:H a=some (.ins C dx fs)) (c:Cls X.K C) (n:zfA X.K C f) (hl:fs.length<1000) (ry:zbA y u)
  (h: ∀ s',Inv X pins σ (upd H a (.ins C dx (zhj f y fs))) s'->Q () s'):wpAny (model X.prog X.w) A (setAttr (.ref a) f u) Q E s:=by
 obtain ⟨mA,O,r,wi,_,ho⟩:=zgD I.hok e
 have hz:(fs.map (·.1)).length<=sizeLine:=by rw [qaH,sizeLine_eq];omega
 refine zpz I.kIn O c.sa c.po n.taker c.hd wi hz fun h' O' sb=>h _ ?_
 have hd: ∃ o,h'.get? dx=some o:=let ⟨o,_,_,e',_⟩:=O'.ns;⟨o,e'⟩
 refine I.write (x:=a) (e:=dx) (by rw [e];exact True.intro) (.inr ho) (fun b q hb z=>(sb.2 b hb).trans z) hd ?_
 refine ⟨by rw [zau O.ne];exact ho,?_,O.ne,O'.obj,_,O'.ns,fun g=> ?_,fun g hg=> ?_⟩
 ·have:=zfw f y fs;omega
 ·show zmH ((zhj f y fs).lookup g) (if g=f then some u else mA g)
  rw [zfK]
  by_cases q:g=f
  ·rw [qa4 q,qa4 q];exact ry
  ·rw [qa5 q,qa5 q];exact r g
 ·by_cases q:g=f
  ·rw [q];exact (zfs f y fs).1
  ·refine (zfs f y fs).2 g (wi g fun z=>hg ?_)
   show (if g=f then some u else mA g)=none
   rw [qa5 q];exact z
theorem Inv.made (I:Inv X pins σ H s):Inv X pins σ (upd (upd H s.heap.objs.size (.own (s.heap.objs.size+1))) (s.heap.objs.size+1) (.ins C s.heap.objs.size []))
  {s with heap:=(s.heap.push W.emptyDict).push (W.instObj C s.heap.objs.size)}:=by
 have e1:(s.heap.push W.emptyDict).get? s.heap.objs.size=some W.emptyDict:=qar s.heap rfl
 have e2:((s.heap.push W.emptyDict).push (W.instObj C s.heap.objs.size)).get? (s.heap.objs.size+1)=some (W.instObj C s.heap.objs.size):=by
  have:=qar (s.heap.push W.emptyDict) (o:=W.instObj C s.heap.objs.size) rfl
  rwa [qaL] at this
 have e3:(s.heap.push W.emptyDict).Ns s.heap.objs.size (fun _=>none):=⟨W.emptyDict, #[],_,e1,rfl,(fun e he=>absurd he (by simp)),fun _=>rfl⟩
 have I1:=I.laid (a:=s.heap.objs.size) (o:= .own (s.heap.objs.size+1)) (h':=s.heap.push W.emptyDict) (t':=s.toks) (fun b u q=>qag _ q) (qaV _) ⟨_,e1⟩
 refine I1.laid (a:=s.heap.objs.size+1) (o:= .ins C s.heap.objs.size []) (t':=s.toks) (fun b u q=>qag _ q) (Nat.le_of_eq (qaL _ _)) ?_
 have ne:s.heap.objs.size≠s.heap.objs.size+1:=qaR (Nat.lt_succ_self _)
 refine ⟨by rw [zau ne,zaM],Nat.zero_le _,ne,e2,fun _=>none,(Heap.Ns1.of_empty e3).at fun o q=>qag _ q,fun _=>True.intro,fun y hy=>absurd rfl hy⟩
theorem zqb {prog:Program} {w:World} {env:Env} {e:Expr} {f:Str} {pos:Pos} {s:Shared} {Q:Value->Shared->Prop} (hb:attributeBase e f env (eval e env)=eval e env)
  (h:wpAny (model prog w) A (eval e env) (fun o s₁=>wpAny (model prog w) A (getAttr o f true) Q E s₁) E s):wpAny (model prog w) A (eval (.Attribute e f pos) env) Q E s:=
 Attribute_any_ h (by rw [arm_eval_Attribute,hb])
end
noncomputable def zvv (K:W.Frag) (ta:TE) (f:Str):TE:=fun σ H Q=>ta σ H fun x H1=> ∃ a C dx fs v,x= .ref a/\H1 a=some (.ins C dx fs)/\Cls K C/\zfA K C f/\fs.lookup f=some v/\Q v H1
noncomputable def zvb (K:W.Frag) (ta tv:TE) (f:Str):TS:=fun D σ H=>tv σ H fun y H1=>ta σ H1 fun x H2=> ∃ a C dx fs,x= .ref a/\H2 a=some (.ins C dx fs)/\Cls K C/\zfA K C f/\fs.length<1000/\
 D.nx σ (upd H2 a (.ins C dx (zhj f y fs)))
section
variable {X:Cx} {o e value:Expr} {f:Str} {pos pos' tpos:Pos} {ta tv:TE}
theorem zsQ (he:PE X e ta) (hb:attributeBase e f X.env (eval e X.env)=eval e X.env):PE X (.Attribute e f pos) (zvv X.K ta f):=by
 intro pins s σ H Q I h
 refine zqb hb (thn (he pins s σ H _ I h) fun u s1 ⟨x,H1,I1,rx,a,C,dx,fs,v,ex,ea,c,n,l,q⟩=> ?_)
 subst ex
 obtain rfl:u=Value.ref a:=rx
 exact zjR I1 ea c n l fun u' s2 I2 ru=>⟨v,H1,I2,ru,q⟩
theorem zsT (ha:PE X o ta) (hv:PE X value tv) (hs:swapsWith value (some (.Attribute o f pos')) pos.line X.env=pure false):PS X (.Assign [.Attribute o f pos'] value pos) (zvb X.K ta tv f):=by
 intro pins s σ H D I h
 refine plainObj_wpAny_Assign_Attribute (thn (hv pins s σ H _ I h) fun u s1 ⟨y,H1,I1,ry,q⟩=>thn (ha pins s1 σ H1 _ I1 q) fun ov s2 ⟨x,H2,I2,rx,a,C,dx,fs,ex,ea,c,n,l,q2⟩=> ?_) hs
 subst ex
 obtain rfl:ov=Value.ref a:=rx
 exact zjW I2 ea c n l ry fun s3 I3=>⟨σ,_,I3,q2⟩
end
section
variable {X:Cx} {pins:List (Addr×Obj)} {σ:St} {H:Hp} {s:Shared} {A:Around} {E:Value->Shared->Prop} {Q:Value->Shared->Prop} {c:Value} {b:Bool}
inductive zi7 (K:W.Frag) (H:Hp):V->Value->Prop where
 | non:zi7 K H .non (.type "NoneType")
 | bl (x:Bool):zi7 K H (.bl x) (.type "bool")
 | int (i:Int):zi7 K H (.int i) (.type "int")
 | str (x:Str):zi7 K H (.str x) (.type "str")
 | flt (x:UInt64):zi7 K H (.flt x) (.type "float")
 | lst {a:Addr} {xs:List V} (e:H a=some (.lst xs)):zi7 K H (.ref a) (.type "list")
 | frz {a:Addr} {o:Obj} {xs:List V} (e:H a=some (.frz o (.lst xs))):zi7 K H (.ref a) (.type "list")
 | tup {a:Addr} {xs:List V} (e:H a=some (.tup xs)):zi7 K H (.ref a) (.type "tuple")
 | dK {a:Addr} {kvs:List (Key×V)} (e:H a=some (.dK kvs)):zi7 K H (.ref a) (.type "dict")
 | dT {a:Addr} {kvs:List (List Key×V)} (e:H a=some (.dT kvs)):zi7 K H (.ref a) (.type "dict")
 | ins {a C dx:Addr} {fs:List (Str×V)} (e:H a=some (.ins C dx fs)) (cl:Cls K C) (ha:W.findIn K (.ref C) "__class__"=some (some (.builtin "object.__class__")))
   (hn:W.specialIn K (.builtin "object.__class__") "__get__"=some (some (.builtin "getset_descriptor.__get__"))) (htk:W.takesIn K (.builtin "object.__class__")=some true)
   (hm:W.mroIn K C (.type "object")=some true):zi7 K H (.ref a) (.ref C)
theorem zkH {x:V} {u t:Value} (I:Inv X pins σ H s) (rx:zbA x u) (ty:zi7 X.K H x t) (e:W.kitOne X.K t c=some b) (h: ∀ tk,Q (.bool b) {s with toks:=tk}):
  wpAny (model X.prog X.w) A (call (.builtin "isinstance") [u,c]) Q E s:=by
 cases ty with
 | non=>cases (show u=Value.none from rx);exact W.kia_one W.kitx_none I.kIn True.intro e (fun z=>nomatch z) h
 | bl y=>cases (show u=Value.bool y from rx);exact W.kia_one W.kitx_bool I.kIn True.intro e (fun z=>nomatch z) h
 | int i=>obtain ⟨t,q⟩:=(show ∃ t,u=Value.int i t from rx);cases q;exact W.kia_one W.kitx_int I.kIn True.intro e (fun z=>nomatch z) h
 | str y=>obtain ⟨t,q⟩:=(show ∃ t,u=Value.str y t from rx);cases q;exact W.kia_one W.kitx_str I.kIn True.intro e (fun z=>nomatch z) h
 | flt y=>obtain ⟨t,q⟩:=(show ∃ t,u=Value.float y t from rx);cases q;exact W.kia_one W.kitx_float I.kIn True.intro e (fun z=>nomatch z) h
 | @lst a xs ea=>
  cases (show u=Value.ref a from rx)
  obtain ⟨_,_,n,_,h1⟩:=(show zbY X.prog X.w H s.heap a (.lst xs) from I.hok a _ ea)
  exact W.kia_one W.kitx_list I.kIn ⟨_,h1,rfl⟩ e (fun z=>nomatch z) h
 | @frz a ob xs ea=>
  cases (show u=Value.ref a from rx)
  obtain ⟨_,_,_,n,_,h1⟩:=(show zbY X.prog X.w H s.heap a (.frz ob (.lst xs)) from I.hok a _ ea)
  exact W.kia_one W.kitx_list I.kIn ⟨_,h1,rfl⟩ e (fun z=>nomatch z) h
 | @tup a xs ea=>
  cases (show u=Value.ref a from rx)
  obtain ⟨_,_,_,p⟩:=(show zbY X.prog X.w H s.heap a (.tup xs) from I.hok a _ ea)
  obtain ⟨o,h1,h2,_⟩:=p
  exact W.kia_one W.kitx_tuple I.kIn ⟨o,h1,h2⟩ e (fun z=>nomatch z) h
 | @dK a kvs ea=>
  cases (show u=Value.ref a from rx)
  obtain ⟨_,_,vs,_,p⟩:=(show zbY X.prog X.w H s.heap a (.dK kvs) from I.hok a _ ea)
  obtain ⟨o,es,ep,h1,h2,_⟩:=p
  exact W.kia_one W.kitx_dict I.kIn ⟨o,h1,h2.1⟩ e (fun z=>nomatch z) h
 | @dT a kvs ea=>
  cases (show u=Value.ref a from rx)
  obtain ⟨_,_,xs,_,o,es,ep,h1,h2,_⟩:=(show zbY X.prog X.w H s.heap a (.dT kvs) from I.hok a _ ea)
  exact W.kia_one W.kitx_dict I.kIn ⟨o,h1,h2.1⟩ e (fun z=>nomatch z) h
 | @ins a C dx fs ea cl ha hn htk hm=>
  cases (show u=Value.ref a from rx)
  obtain ⟨mA,O,_⟩:=zgD I.hok ea
  obtain ⟨od,J,_⟩:=O.look
  exact W.kia_one (W.kitx_own (cl.get _) cl.hd ha hn htk hm) I.kIn J e (fun z=>nomatch z) h
end
structure zcn (k:Nat) (A:Around):Prop where
 hd:A.handled=none
 dp:A.depth+3*k+5<recursionLimit
 un:A.units+16*k+200<cLine
theorem zcn.mono {j k:Nat} {A:Around} (r:zcn k A) (h:j<=k):zcn j A:=⟨r.hd,by have:=r.dp;omega,by have:=r.un;omega⟩
theorem zcn.deeper {k:Nat} {A:Around} (r:zcn (k+1) A) (env:Env):zcn k (A.deeper env):=
 ⟨r.hd,by have:=r.dp;show A.depth+1+3*k+5<_;omega,by have:=r.un;show A.units+3+16*k+200<_;omega⟩
theorem zcn.in1 {k:Nat} {A:Around} (r:zcn (k+1) A):zcn k A.in1:=
 ⟨r.hd,by have:=r.dp;show A.depth+3*k+5<_;omega,by have:=r.un;show A.units+1+16*k+200<_;omega⟩
theorem zkh {A:Around} {C:Addr} {us:List Value} {kw:List (Str×Value)}:(A.under (.builtin "type.__call__" ⟨.ref C::us,kw⟩)).depth=A.depth+1:=by
 first | rfl | simp [Around.under,Code.weight,Code.isCreation,Code.isGuard,Code.isCaller,Code.frames,Code.isFrame,guardIds]
theorem zj7 {A:Around} {C:Addr} {us:List Value} {kw:List (Str×Value)}:(A.under (.builtin "type.__call__" ⟨.ref C::us,kw⟩)).units=A.units+1:=by
 first | rfl | simp [Around.under,Code.cUnits,Code.frames,Code.isFrame]
theorem zcn.make {k:Nat} {A:Around} (r:zcn (k+1) A) (C:Addr) (us:List Value) (kw:List (Str×Value)):zcn k (A.under (.builtin "type.__call__" ⟨.ref C::us,kw⟩)):=
 ⟨r.hd,by have:=r.dp;rw [zkh];omega,by have:=r.un;rw [zj7];omega⟩
theorem zcn.depth {k:Nat} {A:Around} (r:zcn k A):A.depth<recursionLimit:=by have:=r.dp;omega
theorem zcn.units {k:Nat} {A:Around} (r:zcn k A):A.units+64<cLine:=by have:=r.un;omega
noncomputable def zu0:TA:=fun _ H Q=>Q [] H
noncomputable def ztK (ta:TE) (tr:TA):TA:=fun σ H Q=>ta σ H fun x H1=>tr σ H1 fun xs H2=>Q (x::xs) H2
section
variable {X:Cx} {e:Expr} {es:List Expr} {te:TE} {t:TA} {pos:Pos}
theorem zed:PA X [] zu0:=fun _ _ _ _ H Q I h=>Calls.spliced_nil ⟨[],H,I,.nil,h⟩
theorem zcg (ha:PE X e te) (hr:PA X es t) (hs:starEach (e::es) X.env=(false,eval e X.env)::starEach es X.env:=by rfl):PA X (e::es) (ztK te t):=by
 intro pos pins s σ H Q I h
 rw [hs]
 show wpAny _ _ (spliced ((false,eval e X.env)::backTo pos (starEach es X.env))) _ _ s
 refine Calls.spliced_cons (thn (ha pins s σ H _ I h) fun u s1 ⟨x,H1,I1,r1,q1⟩=> ?_)
 exact thn (hr pos pins s1 σ H1 _ I1 q1) fun us s2 ⟨xs,H2,I2,r2,q2⟩=>⟨x::xs,H2,I2,.cons r1 r2,q2⟩
noncomputable def zvd (t:TA):TE:=fun σ H Q=>t σ H fun xs H1=>xs.length<=sizeLine/\ ∀ p,H1 p=none->Q (.ref p) (upd H1 p (.tup xs))
noncomputable def zpq (t:TA):TE:=fun σ H Q=>t σ H fun xs H1=>xs.length<=sizeLine/\ ∀ p,H1 p=none->Q (.ref p) (upd H1 p (.lst xs))
theorem zrw {x1} (h:PA X es t):PE X (.Tuple es x1 pos) (zvd t):=by
 intro pins s σ H Q I hq
 refine wpAny_Tuple_spliced (thn (h pos pins s σ H _ I hq) fun us s1 ⟨xs,H1,I1,r,z,q⟩=>⟨by rw [<- r.length];exact z,?_⟩)
 have hf:H1 s1.heap.objs.size=none:=I1.hok.fresh (qaV _)
 refine ⟨.ref s1.heap.objs.size,upd H1 s1.heap.objs.size (.tup xs),I1.laid (t':=s1.toks) (fun b u e=>qag _ e) (qaV _) ?_,rfl,q _ hf⟩
 exact ⟨z,us,r,⟨_,qar _ rfl,rfl,_,rfl⟩⟩
theorem zo0 (h:PA X es t):PE X (.List es pos) (zpq t):=by
 intro pins s σ H Q I hq
 refine wpAny_List_spliced (thn (h pos pins s σ H _ I hq) fun us s1 ⟨xs,H1,I1,r,z,q⟩=>⟨by rw [<- r.length];exact z,?_⟩)
 have hf:H1 s1.heap.objs.size=none:=I1.hok.fresh (qaV _)
 refine ⟨.ref s1.heap.objs.size,upd H1 s1.heap.objs.size (.lst xs),I1.laid (t':=s1.toks) (fun b u e=>qag _ e) (qaV _) ?_,rfl,q _ hf⟩
 exact ⟨z,us,0,r,qar _ rfl⟩
end
noncomputable abbrev Sp:=List V->Hp->VK->XK->Prop
noncomputable abbrev CXT:=List Env->Hp->Shared->XK->Value->Shared->Prop
structure zkv (P:Program) (w:World) (K:W.Frag) (mg:Str->Option Value) (base:Heap) (A:Around) (outer:List Env) (s:Shared) (H:Hp):Prop where
 frames:A.frames=some outer
 mod:Mod K mg base
 bs: ∀ b o,base.get? b=some o->s.heap.get? b=some o/\H b=none
 bsz:base.objs.size<=s.heap.objs.size
 funs:s.heap.FunFrames base outer
 frf: ∀ b∈frs outer,H b=none
 hok:HOk P w H s.heap
 bare:AllBare s.gens
 hand:zhw A H
def CE (outer:List Env) (P:Program) (w:World) (H:Hp) (s:Shared) (Q:VK) (u:Value) (s':Shared):Prop:=
 ∃ v H',s'.os=s.os/\AllBare s'.gens/\Un (frs outer) [] H H' s.heap s'.heap/\HOk P w H' s'.heap/\zbA v u/\Q v H'
def CR (CX:CXT) (outer:List Env) (P:Program) (w:World) (H:Hp) (s:Shared) (Q:VK) (E:XK) (r:Result) (s':Shared):Prop:=
 match r with
 | .ok (.ret u)=>CE outer P w H s Q u s'
 | .ok _=>False
 | .error e=>CX outer H s E e s'
structure zbh (P:Program) (w:World) (K:W.Frag) (mg:Str->Option Value) (base:Heap) (CX:CXT) (k:Nat) (f:Addr) (fd:FuncData) (ps:List Str) (sp:Sp):Prop where
 len: ∀ vs H Q E,sp vs H Q E->vs.length=ps.length
 run: ∀ (A:Around) (outer:List Env) (s:Shared) (H:Hp) (args:Args) (us:List Value) (vs:List V) (Q:VK) (E:XK),zcn k A->zkv P w K mg base A outer s H->BindsTo s fd args (ps.zip us)->zaQ vs us->sp vs H Q E->
  codeAny (model P w) A (.call (.ref f) args) (CR CX outer P w H s Q E) s
theorem zbh.mono {P:Program} {w:World} {K:W.Frag} {mg:Str->Option Value} {base:Heap} {CX:CXT} {j k:Nat} {f:Addr} {fd:FuncData} {ps:List Str} {sp:Sp} (F:zbh P w K mg base CX j f fd ps sp) (h:j<=k):
  zbh P w K mg base CX k f fd ps sp:=⟨F.len,fun A outer s H args us vs Q E hr=>F.run A outer s H args us vs Q E (hr.mono h)⟩
theorem zbh.imp {P:Program} {w:World} {K:W.Frag} {mg:Str->Option Value} {base:Heap} {CX:CXT} {k:Nat} {f:Addr} {fd:FuncData} {ps:List Str} {sp sp':Sp} (F:zbh P w K mg base CX k f fd ps sp)
  (h: ∀ vs H Q E,sp' vs H Q E->sp vs H Q E):zbh P w K mg base CX k f fd ps sp':=
 ⟨fun vs H Q E q=>F.len vs H Q E (h _ _ _ _ q),fun A outer s H args us vs Q E hr he hb hv hs=>F.run A outer s H args us vs Q E hr he hb hv (h _ _ _ _ hs)⟩
theorem zkv.make {P:Program} {w:World} {K:W.Frag} {mg:Str->Option Value} {base:Heap} {A:Around} {outer:List Env} {s:Shared} {H:Hp} (e:zkv P w K mg base A outer s H) (C:Addr) (us:List Value) (kw:List (Str×Value)):
  zkv P w K mg base (A.under (.builtin "type.__call__" ⟨.ref C::us,kw⟩)) outer s H:=⟨by first | exact e.frames | (simpa [Around.under,Code.envs,Code.isFrame,pushEnvs] using e.frames),e.mod,e.bs,e.bsz,e.funs,e.frf,e.hok,e.bare,e.hand⟩
theorem zkv.in1 {P:Program} {w:World} {K:W.Frag} {mg:Str->Option Value} {base:Heap} {A:Around} {outer:List Env} {s:Shared} {H:Hp} (e:zkv P w K mg base A outer s H):
  zkv P w K mg base A.in1 outer s H:=⟨e.frames,e.mod,e.bs,e.bsz,e.funs,e.frf,e.hok,e.bare,e.hand⟩
section
variable {X:Cx} {pins:List (Addr×Obj)} {σ:St} {H:Hp} {s s':Shared}
theorem Inv.env0 (I:Inv X pins σ H s):zkv X.prog X.w X.K X.mg X.base X.A X.stack s H:=
 ⟨I.ok.frames,I.ok.mod,I.bs,qaS I.ok.bsz I.sz,I.stack,I.stkFree,I.hok,I.bare,I.handA⟩
theorem Inv.after {Q:VK} {u:Value} (I:Inv X pins σ H s) (h:CE X.stack X.prog X.w H s Q u s'):EP X pins σ Q u s':=by
 obtain ⟨v,H',os,bare,un,hok,r,q⟩:=h
 obtain ⟨hh,g,d,t,os'⟩:=s'
 obtain rfl:os'=s.os:=os
 exact ⟨v,H',I.call (h':=hh) (g':=g) (d':=d) (t':=t) (ch:=[]) un hok bare (fun b z=>absurd z (by simp)),r,q⟩
end
noncomputable def zuy (sp:Sp) (dvs:List V) (E:XK) (t:TA):TE:=fun σ H Q=>t σ H fun vs H1=>sp (vs++dvs) H1 Q E
noncomputable def zr9 (C:Addr) (m:Str) (sp:Sp) (dvs:List V) (E:XK) (ta:TE) (t:TA):TE:=fun σ H Q=>ta σ H fun x H1=> ∃ a dx fs,x= .ref a/\H1 a=some (.ins C dx fs)/\fs.lookup m=none/\
 t σ H1 fun vs H2=>sp (x::(vs++dvs)) H2 Q E
noncomputable def zuK (C:Addr) (sp:Sp) (dvs:List V) (E:XK) (t:TA):TE:=fun σ H Q=>t σ H fun vs H1=> ∀ x dx,H1 x=none->H1 dx=none->dx≠x->
 sp (.ref x::(vs++dvs)) (upd (upd H1 dx (.own x)) x (.ins C dx [])) (fun v H2=>v= .non/\Q (.ref x) H2) E
def zav (K:W.Frag) (fd:FuncData) (ps:List Str) (ds:List Value):Prop:=
 ∀ (s:Shared) (us:List Value),K.In s.heap->(us++ds).length=ps.length->BindsTo s fd ⟨us,[]⟩ (ps.zip (us++ds))
theorem zav.all {K:W.Frag} {fd:FuncData} {ps:List Str} (h: ∀ us:List Value,us.length=ps.length->bindArgs fd ⟨us,[]⟩=pure (ps.zip us)):zav K fd ps []:=fun s us _ hl=>by
 rw [List.append_nil] at hl ⊢
 exact .of_eq (h us hl)
def zbW (CX:CXT) (X:Cx) (E:XK):Prop:= ∀ (pins:List (Addr×Obj)) (σ:St) (H:Hp) (s:Shared) (e:Value) (s':Shared),Inv X pins σ H s->CX X.stack H s E e s'->X.xe e s'
section
variable {X:Cx} {CX:CXT} {k:Nat} {f C:Addr} {fd:FuncData} {ps:List Str} {sp:Sp} {dvs:List V} {ds:List Value} {E:XK} {x m:Str} {p pos apos:Pos} {e o:Expr} {es:List Expr} {ta:TE} {t:TA}
theorem zls {pins:List (Addr×Obj)} {σ:St} {H:Hp} {s:Shared} {Q:VK} {us:List Value} {vs:List V} (F:zbh X.prog X.w X.K X.mg X.base CX k f fd ps sp) (hr:zcn k X.A) (hb:zav X.K fd ps ds) (hd:zaQ dvs ds) (hx:zbW CX X E)
  (I:Inv X pins σ H s) (r:zaQ vs us) (h:sp (vs++dvs) H Q E):wpAny (model X.prog X.w) X.A (call (.ref f) us) (EP X pins σ Q) X.xe s:=by
 have r2:zaQ (vs++dvs) (us++ds):=r.append hd
 have hl:(us++ds).length=ps.length:=by rw [<- r2.length];exact F.len _ _ _ _ h
 refine wpAny_call (codeAny_mono (F.run X.A X.stack s H ⟨us,[]⟩ (us++ds) (vs++dvs) Q E hr I.env0 (hb s us I.kIn hl) r2 h) fun r s' hq=> ?_)
 cases r with
 | error e=>exact hx pins σ H s e s' I hq
 | ok fl=>
  cases fl with
  | ret u=>exact I.after hq
  | next=>exact qa0 hq
  | brk=>exact qa0 hq
  | cont=>exact qa0 hq
theorem ziw (F:zbh X.prog X.w X.K X.mg X.base CX k f fd ps sp) (hr:zcn k X.A) (hg:Gl X x) (hm:X.mg x=some (.ref f)) (hk:W.keepIn X.K (.ref f)=true) (hb:zav X.K fd ps ds) (hd:zaQ dvs ds) (hx:zbW CX X E)
  (ha:PA X (e::es) t) (hdb:(x==("__debug__":Str))=false:=by decide) (he:starEach (e::es) X.env=(false,eval e X.env)::starEach es X.env:=by rfl) (hpl:(backTo pos (starEach es X.env)).any (·.1)=false:=by rfl):
  PE X (.Call (.Name x p) (e::es) [] pos) (zuy sp dvs E t):=by
 intro pins s σ H Q I h
 refine wpAny_Call_Name_kw (zgU I hg hm ?_ hdb)
 refine W.callWith_K (h₀:=X.base) I.ok.mod.kin hk (thn (ha pos pins s σ H _ I h) fun us s1 ⟨vs,H1,I1,r,q⟩=>⟨I1.kIn,?_⟩) he hpl
 exact zls F hr hb hd hx I1 r q
theorem ziF {pl:Sem Bool} (he:PE X o ta) (c:Cls X.K C) (hm:zfW X.K C m f) (F:zbh X.prog X.w X.K X.mg X.base CX k f fd ps sp) (hr:zcn k X.A) (hb:zav X.K fd ps ds) (hd:zaQ dvs ds) (hx:zbW CX X E) (ha:PA X (e::es) t)
  (hst:starEach (e::es) X.env=(false,eval e X.env)::starEach es X.env:=by rfl) (hpl:(backTo pos (starEach es X.env)).any (·.1)=false:=by rfl)
  (ht:eval (.Call (.Attribute o m apos) (e::es) [] pos) X.env=(do
    let ov<-eval o X.env
    standAt apos.atName
    let (f,first)<-holding [ov] (getMethod ov m pl)
    callWith pos f first (backTo pos (starEach (e::es) X.env)) (backToKw pos (keywordEach [] X.env))):=by rfl):
  PE X (.Call (.Attribute o m apos) (e::es) [] pos) (zr9 C m sp dvs E ta t):=by
 intro pins s σ H Q I h
 refine W.methodCall_KW (pl:=pl) (thn (he pins s σ H _ I h) fun u s1 ⟨x,H1,I1,rx,a,dx,fs,ex,ea,l,q⟩=> ?_) ht
 subst ex
 obtain rfl:u=Value.ref a:=rx
 refine zgh I1 ea c hm l ?_
 refine W.callWith_K (first:=[.ref a]) (h₀:=X.base) I.ok.mod.kin hm.kp (thn (ha pos pins s1 σ H1 _ I1 q) fun us s2 ⟨vs,H2,I2,r,q2⟩=>⟨I2.kIn,?_⟩) hst hpl
 exact zls (us:= .ref a::us) (vs:= .ref a::vs) F hr hb hd hx I2 (.cons rfl r) q2
theorem zg2 {pl:Sem Bool} (he:PE X o ta) (c:Cls X.K C) (hm:zfW X.K C m f) (F:zbh X.prog X.w X.K X.mg X.base CX k f fd ps sp) (hr:zcn k X.A) (hb:zav X.K fd ps ds) (hd:zaQ dvs ds) (hx:zbW CX X E)
  (ht:eval (.Call (.Attribute o m apos) [] [] pos) X.env=(do
    let ov<-eval o X.env
    standAt apos.atName
    let (f,first)<-holding [ov] (getMethod ov m pl)
    callWith pos f first (backTo pos (starEach [] X.env)) (backToKw pos (keywordEach [] X.env))):=by rfl):
  PE X (.Call (.Attribute o m apos) [] [] pos) (zr9 C m sp dvs E ta zu0):=by
 intro pins s σ H Q I h
 refine W.methodCall_KW (pl:=pl) (thn (he pins s σ H _ I h) fun u s1 ⟨x,H1,I1,rx,a,dx,fs,ex,ea,l,q⟩=> ?_) ht
 subst ex
 obtain rfl:u=Value.ref a:=rx
 refine zgh I1 ea c hm l ?_
 exact W.callWith_K0 (first:=[.ref a]) I1.kIn hm.kp (zls (us:=[.ref a]) (vs:=[.ref a]) F hr hb hd hx I1 (.cons rfl .nil) q)
structure Mk (K:W.Frag) (C f:Addr):Prop where
 makes:W.makesIn K C=true
 init:W.findIn K (.ref C) "__init__"=some (some (.ref f))
 fn:W.isFn K (.ref f)=true
 kp:W.keepIn K (.ref C)=true
theorem znV {pins:List (Addr×Obj)} {σ:St} {H:Hp} {s:Shared} {Q:VK} {us:List Value} {vs:List V} (M:Mk X.K C f) (F:zbh X.prog X.w X.K X.mg X.base CX k f fd ps sp) (hr:zcn (k+1) X.A) (hb:zav X.K fd ps ds) (hd:zaQ dvs ds)
  (hx:zbW CX X E) (I:Inv X pins σ H s) (r:zaQ vs us)
  (h: ∀ x dx,H x=none->H dx=none->dx≠x->sp (.ref x::(vs++dvs)) (upd (upd H dx (.own x)) x (.ins C dx [])) (fun v H2=>v= .non/\Q (.ref x) H2) E):
  wpAny (model X.prog X.w) X.A (call (.ref C) us) (EP X pins σ Q) X.xe s:=by
 have hq:=h (s.heap.objs.size+1) s.heap.objs.size (I.hok.fresh (Nat.le_succ _)) (I.hok.fresh (qaV _)) (qaR (Nat.lt_succ_self _))
 have I2:=Inv.made (C:=C) I
 have r2:zaQ (V.ref (s.heap.objs.size+1)::(vs++dvs)) (Value.ref (s.heap.objs.size+1)::(us++ds)):= .cons rfl (r.append hd)
 have hl:(Value.ref (s.heap.objs.size+1)::us++ds).length=ps.length:=by
  have e:=r2.length
  rw [F.len _ _ _ _ hq] at e
  exact e.symm
 refine wpAny_call (znL (f:=f) I.kIn M.makes M.init (beq_iff_eq.mp M.fn) (codeAny_mono (F.run _ X.stack _ _ ⟨Value.ref (s.heap.objs.size+1)::us,[]⟩ (Value.ref (s.heap.objs.size+1)::(us++ds)) _ _ E (hr.make C us [])
   (I2.env0.make C us []) (hb _ (Value.ref (s.heap.objs.size+1)::us) I2.kIn hl) r2 hq) fun r s' hq'=> ?_))
 cases r with
 | error e=>exact hx pins σ _ _ e s' I2 hq'
 | ok fl=>
  cases fl with
  | ret u=>
   obtain ⟨v,H',I3,rv,ev,q3⟩:=I2.after hq'
   subst ev
   exact ⟨rv,⟨V.ref (s.heap.objs.size+1),H',I3,rfl,q3⟩⟩
  | next=>exact qa0 hq'
  | brk=>exact qa0 hq'
  | cont=>exact qa0 hq'
theorem zqQ (M:Mk X.K C f) (F:zbh X.prog X.w X.K X.mg X.base CX k f fd ps sp) (hr:zcn (k+1) X.A) (hg:Gl X x) (hm:X.mg x=some (.ref C)) (hb:zav X.K fd ps ds) (hd:zaQ dvs ds) (hx:zbW CX X E)
  (ha:PA X (e::es) t) (hdb:(x==("__debug__":Str))=false:=by decide) (he:starEach (e::es) X.env=(false,eval e X.env)::starEach es X.env:=by rfl) (hpl:(backTo pos (starEach es X.env)).any (·.1)=false:=by rfl):
  PE X (.Call (.Name x p) (e::es) [] pos) (zuK C sp dvs E t):=by
 intro pins s σ H Q I h
 refine wpAny_Call_Name_kw (zgU I hg hm ?_ hdb)
 refine W.callWith_K (h₀:=X.base) I.ok.mod.kin M.kp (thn (ha pos pins s σ H _ I h) fun us s1 ⟨vs,H1,I1,r,q⟩=>⟨I1.kIn,?_⟩) he hpl
 exact znV M F hr hb hd hx I1 r q
end
section
variable {X:Cx} {CX:CXT} {k:Nat} {f C:Addr} {fd:FuncData} {ps ks:List Str} {sp:Sp} {E:XK} {x m:Str} {p pos apos kpos:Pos} {e o:Expr} {es:List Expr} {kws:List Keyword} {te ta:TE} {t tk:TA} {nm:Option Str}
structure zuZ (K:W.Frag) (fd:FuncData) (ps ks:List Str) (g:List Value->List Value->List Value) (gV:List V->List V->List V):Prop where
 to: ∀ (s:Shared) (us ws:List Value),K.In s.heap->(g us ws).length=ps.length->BindsTo s fd ⟨us,ks.zip ws⟩ (ps.zip (g us ws))
 rel: ∀ {vs:List V} {us:List Value} {zs:List V} {ws:List Value},zaQ vs us->zaQ zs ws->zaQ (gV vs zs) (g us ws)
variable {g:List Value->List Value->List Value} {gV:List V->List V->List V}
end
structure zap (N P:List Str) (sc:Scope):Prop where
 kind:sc.kind= .function
 co:sc.isCoroutine=false
 gen:sc.isGenerator=false
 nd:N.Nodup
 pre:N.take P.length=P
 par: ∀ x∈P,sc.names.lookup x=some .local\/sc.names.lookup x=some .cell
 nofree: ∀ y∈sc.names,y.2≠ .free
theorem zhF {kindOf:Str->Option NameKind} {x:Str}: ∀ {binds:List (Str×Value)} {m:Str->Option Value},(∀ v,(x,v)∉binds)->bindL kindOf binds m x=m x
 | [],_,_=>rfl
 | (n,v)::r,m,h=>by
  unfold bindL
  rw [zhF fun w hw=>h w (qan _ hw)]
  split
  ·have:x≠n:=by rintro rfl;exact h v qau
   simp [this]
  ·rfl
theorem zhm {kindOf:Str->Option NameKind} {x:Str}: ∀ {binds:List (Str×Value)} {m:Str->Option Value},(∀ v,(x,v)∉binds)->bindC kindOf binds m x=m x
 | [],_,_=>rfl
 | (n,v)::r,m,h=>by
  unfold bindC
  rw [zhm fun w hw=>h w (qan _ hw)]
  split
  ·rfl
  ·have:x≠n:=by rintro rfl;exact h v qau
   simp [this]
theorem zid {kindOf:Str->Option NameKind} {x:Str} {v:Value}: ∀ {P:List Str} {vs:List Value} {i:Nat} {m:Str->Option Value},P.Nodup->P[i]? = some x->vs[i]? = some v->kindOf x=some .local->
  bindL kindOf (P.zip vs) m x=some v
 | [],_,_,_,_,h,_,_=>by simp at h
 | _::_,[],_,_,_,_,h,_=>by simp at h
 | p::P,w::vs,0,m,nd,h1,h2,hk=>by
  simp at h1 h2;subst h1;subst h2
  show bindL kindOf ((p,w)::P.zip vs) m p=_
  unfold bindL
  rw [zhF fun v hv=>(List.nodup_cons.mp nd).1 (List.of_mem_zip hv).1,qa4 hk]
  simp
 | p::P,w::vs,i+1,m,nd,h1,h2,hk=>by
  show bindL kindOf ((p,w)::P.zip vs) m x=_
  unfold bindL
  exact zid (i:=i) (List.nodup_cons.mp nd).2 (by simpa using h1) (by simpa using h2) hk
theorem zhS {kindOf:Str->Option NameKind} {x:Str} {v:Value}: ∀ {P:List Str} {vs:List Value} {i:Nat} {m:Str->Option Value},P.Nodup->P[i]? = some x->vs[i]? = some v->kindOf x≠some .local->
  bindC kindOf (P.zip vs) m x=some v
 | [],_,_,_,_,h,_,_=>by simp at h
 | _::_,[],_,_,_,_,h,_=>by simp at h
 | p::P,w::vs,0,m,nd,h1,h2,hk=>by
  simp at h1 h2;subst h1;subst h2
  show bindC kindOf ((p,w)::P.zip vs) m p=_
  unfold bindC
  rw [zhm fun v hv=>(List.nodup_cons.mp nd).1 (List.of_mem_zip hv).1,qa5 hk]
  simp
 | p::P,w::vs,i+1,m,nd,h1,h2,hk=>by
  show bindC kindOf ((p,w)::P.zip vs) m x=_
  unfold bindC
  exact zhS (i:=i) (List.nodup_cons.mp nd).2 (by simpa using h1) (by simpa using h2) hk
noncomputable def zev (N:List Str) (vs:List V):St:=vs.map some++List.replicate (N.length - vs.length) none
noncomputable def zij (CX:CXT) (P:Program) (w:World) (K:W.Frag) (mg:Str->Option Value) (base:Heap) (N:List Str) (qual:Str) (scope:Scope) (f:Addr) (cd:Value) (A:Around) (outer:List Env) (s:Shared) (H:Hp) (E:XK):Cx where
 prog:=P
 w:=w
 K:=K
 mg:=mg
 base:=base
 A:=A.deeper (envOfC qual scope s.heap.objs.size f cd)
 N:=N
 s₀:=s
 H₀:=H
 env:=envOfC qual scope s.heap.objs.size f cd
 outer:=outer
 stack:=envOfC qual scope s.heap.objs.size f cd::outer
 ex:=[]
 calm:=true
 fn:=fun _=>true
 pn:=[]
 xe:=fun e s'=>wpAny (model P w) (A.deeper (envOfC qual scope s.heap.objs.size f cd)) (leaving (envOfC qual scope s.heap.objs.size f cd) e) (fun _ s''=>CX outer H s E e s'') (fun e' s''=>CX outer H s E e' s'') s'
theorem zi5 {sc:Scope} {n:Nat} {x:Str} (h:sc.names.lookup x=some .cell): ∃ c,(cellsFrom n sc.names []).lookup x=some c:=by
 have q:=W.cellsFrom_some sc.names n [] (.inl h)
 exact Option.isSome_iff_exists.mp q
theorem zhW {CX:CXT} {P:Program} {w:World} {K:W.Frag} {mg:Str->Option Value} {base:Heap} {N ps:List Str} {qual:Str} {scope:Scope} {f:Addr} {cd:Value} {A:Around} {outer:List Env} {s s1:Shared} {H:Hp} {E:XK} {us:List Value} {vs:List V}
  (S:zap N ps scope) {cm:Bool} (hd:cm=true->A.handled=none) (e0:zkv P w K mg base A outer s H) (hl:vs.length=ps.length) (r:zaQ vs us)
  (x:InCallC s s.heap.objs.size (bindL (envOfC qual scope s.heap.objs.size f cd).kindOf (ps.zip us) fun _=>none) (cellsFrom (s.heap.objs.size+1) scope.names []) (bindC (envOfC qual scope s.heap.objs.size f cd).kindOf (ps.zip us) fun _=>none) s1):
  Inv {zij CX P w K mg base N qual scope f cd A outer s H E with calm:=cm} [] (zev N vs) H s1:=by
 have hpl:ps.length<=N.length:=by have:=congrArg List.length S.pre;rw [List.length_take] at this;omega
 obtain ⟨h1,tk,rfl,hk⟩:=x.done
 have noA: ∀ b:Addr,b∉(zij CX P w K mg base N qual scope f cd A outer s H E).ex:=fun b z=>absurd (show b∈([]:List Addr) from z) (by simp)
 refine ⟨⟨e0.mod,S.kind,rfl,rfl,qaV _,fun y z c h1 h2=> ?_,fun y hy=> ?_,fun y c _ h=> ?_,hd,e0.hand,Around.frames_deeper e0.frames,.inr ⟨rfl,rfl⟩,fun b z=>absurd z (noA b),e0.bs,e0.bsz,fun b _ _=>noA b,fun b z=>absurd z (noA b),e0.funs,e0.frf⟩,
   rfl,e0.bare,Un.kept hk,⟨_,x.toInCall.ns,fun i y v h1 h2 h3=> ?_⟩,fun y c h=>⟨_,x.cell y c h⟩,e0.hok.fresh (qaV _),fun y c h=> ?_,fun p hp=>absurd (show p∈([]:List (Addr×Obj)) from hp) (by simp),e0.hok.kept hk,?_⟩
 ·exact name_of_addr x.apart (PySem.mem_of_lookup h1) (PySem.mem_of_lookup h2)
 ·have hy:scope.names.lookup y=some .cell\/scope.names.lookup y=some .free:=hy
  rcases hy with hy | hy
  ·exact zi5 hy
  ·exact absurd rfl (S.nofree _ (PySem.mem_of_lookup hy))
 ·exact Nat.le_of_lt (x.above y c (PySem.mem_of_lookup h))
 ·have hi:i<vs.length:=by
   unfold zev at h2
   by_cases hi:i<vs.length
   ·exact hi
   ·rw [qaa (by simpa using hi)] at h2
    rw [List.getElem?_replicate] at h2
    split at h2<;>cases h2
  have ha:vs[i]? = some v:=by
   unfold zev at h2
   rw [qad (by simpa using hi),List.getElem?_map] at h2
   cases e:vs[i]? with
   | none=>rw [e] at h2;cases h2
   | some a=>rw [e] at h2;cases h2;rfl
  obtain ⟨u,hu,rv⟩:=r.get ha
  have hp:ps[i]? = some y:=by
   rw [<- S.pre,List.getElem?_take_of_lt (by omega)];exact h1
  have ndP:ps.Nodup:=by rw [<- S.pre];exact S.nd.sublist (List.take_sublist _ _)
  refine ⟨u,rv,?_⟩
  rcases S.par y (List.mem_of_getElem? hp) with k | k
  ·exact .inl ⟨k,zid ndP hp hu k⟩
  ·obtain ⟨c,e⟩:=zi5 (n:=s.heap.objs.size+1) k
   refine .inr ⟨.inl k,c,e,?_⟩
   have q:=x.cell y c e
   rw [zhS ndP hp hu (by show scope.names.lookup y≠_;rw [k];decide)] at q
   exact q
 ·exact e0.hok.fresh (Nat.le_of_lt (x.above y c (PySem.mem_of_lookup h)))
 ·unfold zev
  show _=N.length
  rw [qav,qaH,List.length_replicate]
  omega
theorem zrX {CX:CXT} {P:Program} {w:World} {K:W.Frag} {mg:Str->Option Value} {base:Heap} {k:Nat} {f:Addr} {name qual:Str} {params:Arguments} {body:List Stmt} {scope:Scope} {dV kV doc pm cdv ct oc:Value} {an od:Option Addr}
  {osl:Array (Option Value)} {N ps:List Str} {sp:Sp} (lk:K.lookup f=some ⟨oc,od,.func (W.fnOf name qual params body scope dV kV doc pm an cdv ct),osl⟩) (hcd:W.codeIn K cdv qual=true) (S:zap N ps scope)
  (len: ∀ vs H Q E,sp vs H Q E->vs.length=ps.length)
  (hbody: ∀ (A:Around) (outer:List Env) (s:Shared) (H:Hp) (vs:List V) (Q:VK) (E:XK),zcn k (A.deeper (envOfC qual scope s.heap.objs.size f cdv))->sp vs H Q E->
    ∃ t,PSs (zij CX P w K mg base N qual scope f cdv A outer s H E) body t/\t {nx:=fun _ H'=>Q .non H',rt:=Q} (zev N vs) H):
  zbh P w K mg base CX (k+1) f (W.fnOf name qual params body scope dV kV doc pm an cdv ct) ps sp:=by
 refine ⟨len,fun A outer s H args us vs Q E hr e0 hb r hsp=> ?_⟩
 have hl:=len _ _ _ _ hsp
 have KX:K.In s.heap:=e0.mod.kin.keeps fun b o e=>(e0.bs b o e).1
 have lim:s.heap.NoLimit:=e0.mod.nolimit.keeps fun b o e=>(e0.bs b o e).1
 have hkind: ∀ y∈ps.zip us,scope.names.lookup y.1=some .local\/(scope.names.lookup y.1=some .cell/\((cellsFrom (s.heap.objs.size+1) scope.names []).lookup y.1).isSome=true):=fun ⟨n,v⟩ hy=>by
  rcases S.par n (List.of_mem_zip hy).1 with q | q
  ·exact .inl q
  ·exact .inr ⟨q,W.cellsFrom_some _ _ _ (.inl q)⟩
 refine codeAny_call_function hr.depth (KX _ _ lk) rfl S.co S.gen rfl (W.codeRec_of KX hcd) (hb _ _ _ _ ?_)
 refine wpAny_newFunctionEnv_cells S.kind hkind fun env he s1 x=> ?_
 subst he
 refine ⟨lim.keeps x.toInCall.keep,codeAny_func ?_⟩
 obtain ⟨t,ht,hq⟩:=hbody A outer s H vs Q E (hr.deeper _) hsp
 have I:Inv (zij CX P w K mg base N qual scope f cdv A outer s H E) [] (zev N vs) H s1:=zhW (cm:=true) S (fun _=>hr.hd) e0 hl r x
 refine qaZ (ht [] s1 (zev N vs) H _ I hq) (fun fl s' hs=> ?_) fun e s' hs=>hs
 have fin: ∀ {σ':St} {H':Hp} {v:V} {u:Value},Inv (zij CX P w K mg base N qual scope f cdv A outer s H E) [] σ' H' s'->zbA v u->Q v H'->CE outer P w H s Q u s':=
  fun {σ' H' v u} J rv q=>⟨v,H',J.os,J.bare,J.base,J.hok,rv,q⟩
 cases fl with
 | ret u=>
  obtain ⟨v,σ',H',J,rv,q⟩:=hs
  exact fin J rv q
 | next=>
  obtain ⟨σ',H',J,q⟩:=hs
  exact fin (v:=V.non) (u:=Value.none) J rfl q
 | brk=>
  obtain ⟨_,_,_,q⟩:=hs
  exact qa0 q
 | cont=>
  obtain ⟨_,_,_,q⟩:=hs
  exact qa0 q
section
variable {X:Cx} {x:Str} {p pos:Pos} {e:Expr} {es:List Expr} {t:TA} {id T:String} {r:List V->Hp->VK->Prop}
noncomputable def tCB (r:List V->Hp->VK->Prop) (t:TA):TE:=fun σ H Q=>t σ H fun vs H1=>r vs H1 Q
theorem ze2 (hc:zaN X (.builtin id) r) (hg:Gl X x) (hm:X.mg x=none) (hv:bootBuiltins x=some (.builtin id)) (ha:PA X (e::es) t) (hn:x≠"__name__":=by decide) (hdb:(x==("__debug__":Str))=false:=by decide)
  (he:starEach (e::es) X.env=(false,eval e X.env)::starEach es X.env:=by rfl) (hpl:(backTo pos (starEach es X.env)).any (·.1)=false:=by rfl):PE X (.Call (.Name x p) (e::es) [] pos) (tCB r t):=by
 intro pins s σ H Q I h
 refine wpAny_Call_Name_kw (zhn I hg hm hv ?_ hn hdb)
 exact PyProof.Rows.callWith_builtin1 (thn (ha pos pins s σ H _ I h) fun us s1 ⟨vs,H1,I1,r1,q1⟩=>hc pins s1 σ H1 vs us Q I1 r1 q1) he hpl
theorem zhL (hc:zaN X (.type T) r) (hg:Gl X x) (hm:X.mg x=none) (hv:bootBuiltins x=some (.type T)) (ha:PA X (e::es) t) (hn:x≠"__name__":=by decide) (hdb:(x==("__debug__":Str))=false:=by decide)
  (he:starEach (e::es) X.env=(false,eval e X.env)::starEach es X.env:=by rfl) (hpl:(backTo pos (starEach es X.env)).any (·.1)=false:=by rfl):PE X (.Call (.Name x p) (e::es) [] pos) (tCB r t):=by
 intro pins s σ H Q I h
 refine wpAny_Call_Name_kw (zhn I hg hm hv ?_ hn hdb)
 exact PyProof.Rows.callWith_type1 (thn (ha pos pins s σ H _ I h) fun us s1 ⟨vs,H1,I1,r1,q1⟩=>hc pins s1 σ H1 vs us Q I1 r1 q1) he hpl
end
end L2
namespace HT
open PySem PyProof.Rows
noncomputable def zdq:List Int->List Int->Bool
 | [],[]=>false
 | [],_::_=>true
 | _::_,[]=>false
 | x::xs,y::ys=>if x=y then zdq xs ys else decide (x<y)
theorem zko (x y:Int) (xs ys:List Int):zdq (x::xs) (y::ys)=if x=y then zdq xs ys else decide (x<y):=rfl
theorem zgH:zdq [] []=false:=rfl
theorem zfV (y:Int) (ys:List Int):zdq [] (y::ys)=true:=rfl
theorem zfR (x:Int) (xs:List Int):zdq (x::xs) []=false:=rfl
theorem znu (A:Around) (s:Shared) (a:Int) (t:Tok) (c:Int) (u:Tok): ∃ e,SeqAt.EqAt A s (.int a t) (.int c u) e/\(e=true↔a=c):=
 ⟨(a==c),SeqAt.EqAt.int_int a t c u,by simp⟩
theorem znS (A:Around) (s:Shared) (a:Int) (t:Tok) (c:Int) (u:Tok) (prog:Program) (w:World) (E:Value->Shared->Prop) (Q:Value->Shared->Prop) (h:Q (.bool (decide (a<c))) s):
  wpAny (model prog w) A (richCompare .Lt (.int a t) (.int c u)) Q E s:=
 (PyProof.Rows.lt_int h:wpAny (model prog w) A (compareOp .Lt (.int a t) (.int c u)) Q E s)
section
open PySem.SeqAt
open PySem.AutoSeq1 (wpAny_loadPart')
open PySem.MeetsSeq PySem.MeetsSeq2 PySem.MeetsSeq3
theorem zgX (l b:Addr) (items items2:Array Value) (n n2:Nat) (dd dd2:Option Addr) (sl sl2:Array (Option Value)) (ns ms:List Int) (hi:IntsAre items.toList ns) (hj:IntsAre items2.toList ms):
  Meets (Builtin.«tuple.__lt__» ⟨[.ref l,.ref b],[]⟩)
   (fun _ R s=>s.heap.get? l=some {cls:= .type "tuple",dict:=dd,data:= .seq items n,slots:=sl}/\s.heap.get? b=some {cls:= .type "tuple",dict:=dd2,data:= .seq items2 n2,slots:=sl2}/\
     R (.ok (.ret (.bool (zdq ns ms)))) s):=
 .of_wp fun prog w A R s h=>by
  obtain ⟨hp,g,d,tk,os⟩:=s;obtain ⟨hl,hb,h⟩:=h
  have f2:=AutoSeq1.sub_tuple_tuple
  have z1:items.size=ns.length:=by rw [<- hi.length];simp
  have z2:items2.size=ms.length:=by rw [<- hj.length];simp
  wp_walk using wpAny_loadPart' hl,wpAny_loadPart' hb,wpAny_forIn_list _ (fun rest b s'=>b.1=none/\s'=⟨hp,g,d,tk,os⟩/\ ∃ (vs ws:List Value) (ns' ms':List Int),rest=vs.zip ws/\
    IntsAre vs ns'/\IntsAre ws ms'/\ns'.length+items2.size=ms'.length+items.size/\R (.ok (.ret (.bool (zdq ns' ms')))) ⟨hp,g,d,tk,os⟩) _
  case turn=>
   rintro ⟨y,x⟩ rest b s' ⟨hb',rfl,vs,ws,ns',ms',hz,hvi,hwi,hlen,hR⟩
   cases hvi with
   | nil=>rw [List.zip_nil_left] at hz;cases hz
   | cons a t hvi'=>
    cases hwi with
    | nil=>rw [List.zip_nil_right] at hz;cases hz
    | cons c u hwi'=>
     rw [List.zip_cons_cons] at hz
     injection hz with hyx hrest
     injection hyx with hy hx
     subst hy hx
     rw [zko] at hR
     simp only [qaE] at hlen
     obtain ⟨e,he,hiff⟩:=znu A.in1 ⟨hp,g,d,tk,os⟩ a t c u
     refine qaW (he prog w _ _ ?_)
     cases e with
     | true=>
      rw [qa4 (hiff.mp rfl)] at hR
      wp_walk
      exact ⟨rfl,rfl,_,_,_,_,hrest,hvi',hwi',by omega,hR⟩
     | false=>
      rw [qa5 (fun q=>absurd (hiff.mpr q) Bool.false_ne_true)] at hR
      have hri:=znS A.in1 ⟨hp,g,d,tk,os⟩ a t c u prog w
      wp_walk using hri
      exact ⟨_,rfl,by simpa using hR⟩
  case fin=>
   rintro ⟨b1,b2⟩ s' ⟨hb',rfl,vs,ws,ns',ms',hz,hvi,hwi,hlen,hR⟩
   simp only at hb'
   subst hb'
   have hv:zdq ns' ms'=decide (items.size<items2.size):=by
    cases hvi with
    | nil=>
     cases hwi with
     | nil=>
      simp only [qaJ] at hlen
      rw [zgH]
      exact (decide_eq_false (by omega)).symm
     | cons c u hw=>
      simp only [qaJ,qaE] at hlen
      rw [zfV]
      exact (decide_eq_true (by omega)).symm
    | cons a t hv=>
     cases hwi with
     | nil=>
      simp only [qaJ,qaE] at hlen
      rw [zfR]
      exact (decide_eq_false (by omega)).symm
     | cons c u hw=>
      rw [List.zip_cons_cons] at hz
      cases hz
   rw [hv] at hR
   wp_walk
   exact ⟨_,rfl,by simpa [Builtin.Tuple.tupleCompareSizes] using hR⟩
  case h=>
   exact ⟨rfl,rfl,items.toList,items2.toList,ns,ms,rfl,hi,hj,by omega,h⟩
end
section
variable {prog:Program} {w:World} {A:Around} {E:Value->Shared->Prop} {s:Shared}
theorem zkq {l b:Addr} {items items2:Array Value} {ns ms:List Int} {Q:Value->Shared->Prop} (hl:IsTup s.heap l items) (hb:IsTup s.heap b items2) (hi:IntsAre items.toList ns) (hj:IntsAre items2.toList ms)
  (hu:A.units<cLine) (h:Q (.bool (zdq ns ms)) s):wpAny (model prog w) A (compareOp .Lt (.ref l) (.ref b)) Q E s:=by
 obtain ⟨⟨cls,dd,data,sl⟩,ho,hc,n,hd⟩:=id hl
 obtain ⟨⟨cls2,dd2,data2,sl2⟩,ho2,hc2,n2,hd2⟩:=id hb
 simp only at hc hd hc2 hd2
 subst hc hd hc2 hd2
 exact richCompare_meets_room (op:= .Lt) ⟨_,ho,rfl⟩ ⟨_,ho2,rfl⟩ PySem.F.slot_tuple_lt PySem.F.entry_tuple_lt (PySem.F.args_tuple_lt_2 _ _) (zgX l b items items2 n n2 dd dd2 sl sl2 ns ms hi hj)
  ⟨ho,ho2,show Value.bool (zdq ns ms)≠Value.notImplemented/\Q (.bool (zdq ns ms)) s from ⟨(fun x=>nomatch x),h⟩⟩ hu
theorem zp4 {t b:Addr} {vs ws:List Value} {Q:Value->Shared->Prop} (ht:IsTup s.heap t vs.toArray) (hb:IsTup s.heap b ws.toArray) (hv:vs≠[])
  (h1:ws=[]->Q (.ref t) s) (h2:ws≠[]->Q (.ref s.heap.objs.size) {s with heap:=s.heap.push {cls:= .type "tuple",data:= .seq (vs++ws).toArray}})
  (hsz:vs.length+ws.length<=sizeLine):wpAny (model prog w) A (binaryOp .Add (.ref t) (.ref b)) Q E s:=by
 obtain ⟨⟨cls,dd,data,sl⟩,ho,hc,n,hd⟩:=id ht
 obtain ⟨⟨cls2,dd2,data2,sl2⟩,ho2,hc2,n2,hd2⟩:=id hb
 simp only at hc hd hc2 hd2
 subst hc hd hc2 hd2
 have e:vs.toArray++ws.toArray=(vs++ws).toArray:=by simp
 by_cases hw:ws=[]
 ·exact concat_meets ⟨_,ho,rfl⟩ ⟨_,ho2,rfl⟩ noFill_tuple_add seq_tuple_add PySem.F.slot_tuple_add PySem.F.entry_tuple_add (PySem.F.args_tuple_add_2 _ _)
   (tuple_addW1 t b vs.toArray ws.toArray n n2 dd dd2 sl sl2 (by simpa using hv) (by simp [hw])) ⟨ho,ho2,h1 hw⟩
 ·refine concat_meets ⟨_,ho,rfl⟩ ⟨_,ho2,rfl⟩ noFill_tuple_add seq_tuple_add PySem.F.slot_tuple_add PySem.F.entry_tuple_add (PySem.F.args_tuple_add_2 _ _)
   (tuple_addW2 t b vs.toArray ws.toArray n n2 dd dd2 sl sl2 (by simpa using hv) (by simpa using hw) (by rw [qaA,qaA];exact hsz)) ⟨ho,ho2,?_⟩
  rw [e]
  exact h2 hw
noncomputable def sIx (n d:Nat):Option Int->Nat
 | none=>d
 | some v=>if v<0 then (v+(n:Int)).toNat else min v.toNat n
theorem zmm (n d k:Nat):sIx n d (some (k:Int))=min k n:=by
 show (if (k:Int)<0 then ((k:Int)+(n:Int)).toNat else min (k:Int).toNat n)=min k n
 rw [qa5 (by omega),qaB]
theorem zrr (n d:Nat) (hd:d<=n) (o:Option Int):sIx n d o<=n:=by
 cases o with
 | none=>exact hd
 | some v=>
  show (if v<0 then (v+(n:Int)).toNat else min v.toNat n)<=n
  by_cases hv:v<0
  ·rw [qa4 hv];omega
  ·rw [qa5 hv];exact Nat.min_le_right _ _
theorem zl6 (v:Int) (n d:Nat):(if v<0 then max (v+(n:Int)) 0 else min v (n:Int))=((sIx n d (some v):Nat):Int):=by
 show (if v<0 then max (v+(n:Int)) 0 else min v (n:Int))=(((if v<0 then (v+(n:Int)).toNat else min v.toNat n):Nat):Int)
 by_cases hv:v<0
 ·simp only [qa4 hv];omega
 ·simp only [qa5 hv];omega
theorem zj1 (lo hi:Option Int) (n:Nat):Builtin.Slice.sliceAdjust lo hi 1 (n:Int)=(((sIx n 0 lo:Nat):Int),((sIx n n hi:Nat):Int)):=by
 have h1: ¬((1:Int)<0):=by omega
 unfold Builtin.Slice.sliceAdjust
 simp only [h1,if_false]
 refine Prod.ext ?_ ?_
 ·cases lo with
  | none=>rfl
  | some v=>exact zl6 v n 0
 ·cases hi with
  | none=>rfl
  | some v=>exact zl6 v n n
theorem zki (i j:Nat):Builtin.Slice.slicePlaces (i:Int) (j:Int) 1=j - i:=by
 unfold Builtin.Slice.slicePlaces
 have h1:(1:Int)>0:=by omega
 simp only [h1,if_true,Int.ediv_one]
 split<;>omega
theorem zgi {v:Value} {o:Option Int} {Q:Option Int->Shared->Prop} (p:IsPart v o) (h:Q o s):wpAny (model prog w) A (Builtin.Slice.slicePartIndex v) Q E s:=by
 cases p with
 | none=>exact slicePart_none h
 | int i t=>exact slicePart_int h
theorem zc2 {sl:Addr} {vl vu:Value} {lo hi:Option Int} {n:Nat} {Q:Int×Int×Nat->Shared->Prop} (hs:s.heap.IsSliceOf sl vl vu .none) (pl:IsPart vl lo) (pu:IsPart vu hi)
  (h:Q (((sIx n 0 lo:Nat):Int),1,sIx n n hi - sIx n 0 lo) s):wpAny (model prog w) A (Builtin.Slice.sliceApplied (.ref sl) (pure (n:Int))) Q E s:=by
 obtain ⟨os,hos,hcs,hds⟩:=id hs
 unfold Builtin.Slice.sliceApplied Builtin.Slice.sliceFields
 refine qaW (qaW (wpAny_field hos hds (x:=vl) rfl (qaW (wpAny_field hos hds (x:=vu) rfl (qaW (wpAny_field hos hds (x:= .none) rfl (qaX ?_)))))))
 refine qaW (slicePart_none ?_)
 show wpAny _ _ (if ((1:Int)==0)=true then _ else _) _ _ s
 rw [qa5 (by decide)]
 refine qaW (zgi pl (qaW (zgi pu (qaW (qaX ?_)))))
 show wpAny _ _ (match Builtin.Slice.sliceAdjust lo hi 1 (n:Int) with | (lo,hi)=>pure (lo,(1:Int),Builtin.Slice.slicePlaces lo hi 1)) _ _ s
 rw [zj1 lo hi n]
 show wpAny _ _ (pure (((sIx n 0 lo:Nat):Int),(1:Int),Builtin.Slice.slicePlaces ((sIx n 0 lo:Nat):Int) ((sIx n n hi:Nat):Int) 1)) _ _ s
 rw [zki]
 exact qaX h
theorem zmM (xs:Array Value) (i k:Nat):((List.range k).filterMap fun (m:Nat)=>xs[((i:Int)+(m:Int)*1).toNat]?).toArray=((xs.toList.drop i).take k).toArray:=by
 have e:(fun (m:Nat)=>xs[((i:Int)+(m:Int)*1).toNat]?)=fun m=>xs[i+m]? := by
  funext m
  have:((i:Int)+(m:Int)*1).toNat=i+m:=by omega
  rw [this]
 rw [e]
 have:=pick_run xs i k
 rw [List.filterMap_map] at this
 have e2:((fun x=>xs[x]?)∘fun x=>i+x)=fun m=>xs[i+m]? := rfl
 rw [e2] at this
 rw [this]
theorem zes {t sl:Addr} {items:Array Value} {vl vu:Value} {lo hi:Option Int} {Q:Value->Shared->Prop} (ht:IsTup s.heap t items) (hs:s.heap.IsSliceOf sl vl vu .none) (pl:IsPart vl lo) (pu:IsPart vu hi)
  (hw: ¬(sIx items.size 0 lo=0/\sIx items.size items.size hi=items.size))
  (h:Q (.ref s.heap.objs.size) {s with heap:=s.heap.push {cls:= .type "tuple",data:= .seq ((items.toList.drop (sIx items.size 0 lo)).take (sIx items.size items.size hi - sIx items.size 0 lo)).toArray}})
  (hsz:items.size<=sizeLine):wpAny (model prog w) A (getItem (.ref t) (.ref sl)) Q E s:=by
 have htake:sizeOk (.seq ((items.toList.drop (sIx items.size 0 lo)).take (sIx items.size items.size hi - sIx items.size 0 lo)).toArray):=by
  show ((items.toList.drop (sIx items.size 0 lo)).take (sIx items.size items.size hi - sIx items.size 0 lo)).toArray.size<=sizeLine
  rw [qaA,List.length_take,List.length_drop,qas]
  omega
 have hj:sIx items.size items.size hi<=items.size:=zrr _ _ (qaV _) hi
 obtain ⟨os,hos,hcs,hds⟩:=id hs
 have hTs:s.TypeIs (.ref sl) "slice":=⟨os,hos,hcs⟩
 unfold getItem
 try with_reducible refine qaO ?_
 first | refine qaW (qaX ?_) | skip
 refine qaW (wpAny_sequenceKey ht.typeIs (by decide) ?_)
 refine qaW (wpAny_callSpecial?_slot (name:=Str.ofString "__getitem__") ht.typeIs PyProof.Rows.slot_tuple_getitem
   (wpAny_call_entry PyProof.Rows.slot_tuple_getitem ht.typeIs entry_tuple_getitem ?_ (args_tuple_getitem _ _)))
 show wpAny _ _ (Builtin.Tuple.tupleItemsOf (.ref t)>>=_) _ _ s
 refine qaW (tupleItemsOf_ ht ?_)
 refine qaW (wpAny_typeOf hTs ?_)
 rw [qa4 (by decide)]
 refine qaW (zc2 hs pl pu ?_)
 have hno: ¬((((sIx items.size 0 lo:Nat):Int)==0 && (1:Int)==1 && (sIx items.size items.size hi - sIx items.size 0 lo)==items.size)=true):=by
  intro q
  rw [qaG,qaG] at q
  have q1:((sIx items.size 0 lo:Nat):Int)=0:=eq_of_beq q.1.1
  have q2:sIx items.size items.size hi - sIx items.size 0 lo=items.size:=eq_of_beq q.2
  exact hw ⟨by omega,by omega⟩
 show wpAny _ _ (if (((sIx items.size 0 lo:Nat):Int)==0 && (1:Int)==1 && (sIx items.size items.size hi - sIx items.size 0 lo)==items.size)=true then _ else _) _ _ s
 rw [qa5 hno,zmM]
 first
  | exact qaW (m:=Builtin.Tuple.tupleExact _) (qaC (qaX ⟨_,rfl,qaX h⟩) htake)
  | exact qaW (m:=Builtin.Tuple.tupleExact _) (qaC (qaW (qaX (qaX ⟨_,rfl,qaX h⟩))) htake)
  | exact qaW (qaW (m:=Builtin.Tuple.tupleExact _) (qaC (qaX (qaX ⟨_,rfl,qaX h⟩)) htake))
  | exact qaW (qaW (m:=Builtin.Tuple.tupleExact _) (qaC (qaX ⟨_,rfl,qaX h⟩) htake))
end
end HT
namespace L2
open PySem PySem.Spec PyProof.Rows
noncomputable abbrev TO:=St->Hp->(Option Int->Hp->Prop)->Prop
def PO (X:Cx) (e:Option Expr) (t:TO):Prop:=
 ∀ (pins:List (Addr×Obj)) (s:Shared) (σ:St) (H:Hp) (Q:Option Int->Hp->Prop),Inv X pins σ H s->t σ H Q->
  wpAny (model X.prog X.w) X.A (evalPart e X.env) (fun u s'=> ∃ o H',Inv X pins σ H' s'/\IsPart u o/\Q o H') X.xe s
noncomputable def zqU:TO:=fun _ H Q=>Q none H
noncomputable def zup (t:TE):TO:=fun σ H Q=>t σ H fun x H1=> ∃ i,x= .int i/\Q (some i) H1
theorem zcd {ns:List Int}: ∀ {us:List Value},zaQ (ns.map V.int) us->IntsAre us ns:=by
 induction ns with
 | nil=>intro us r;rw [List.map_nil] at r;cases r;exact .nil
 | cons n ns ih=>
  intro us r
  rw [qaM] at r
  cases r with
  | cons r1 r2=>
   obtain ⟨t,e⟩:=r1
   subst e
   exact .cons n t (ih r2)
section
variable {X:Cx} {e:Expr} {te:TE} {lo hi:Option Expr} {tl th:TO} {pos p2:Pos}
theorem zqx:PO X none zqU:=by
 intro pins s σ H Q I h
 rw [evalPart_none]
 exact qaX ⟨none,H,I,.none,h⟩
theorem zph (h:PE X e te):PO X (some e) (zup te):=by
 intro pins s σ H Q I hw
 rw [evalPart_some]
 refine thn (h pins s σ H _ I hw) fun u s1 ⟨x,H1,I1,r1,q1⟩=> ?_
 obtain ⟨i,rfl,q⟩:=q1
 obtain ⟨t,rfl⟩:=r1
 exact ⟨some i,H1,I1,.int i t,q⟩
def SlR (X:Cx) (r:V->Option Int->Option Int->Hp->VK->Prop):Prop:=
 ∀ (pins:List (Addr×Obj)) (s:Shared) (σ:St) (H:Hp) (x:V) (v vl vu:Value) (lo hi:Option Int) (sl:Addr) (Q:VK),Inv X pins σ H s->zbA x v->s.heap.IsSliceOf sl vl vu .none->IsPart vl lo->IsPart vu hi->r x lo hi H Q->
  ∃ T id,typeLookup (.type T) "__getitem__"=pure (some (.builtin id))/\s.TypeIs v T/\wpAny (model X.prog X.w) X.A (getItem v (.ref sl)) (EP X pins σ Q) X.xe s
theorem SlR.or {r r':V->Option Int->Option Int->Hp->VK->Prop} (h:SlR X r) (h':SlR X r'):SlR X (fun x lo hi H Q=>r x lo hi H Q\/r' x lo hi H Q):=by
 intro pins s σ H x v vl vu lo hi sl Q I rx hs pl pu q
 rcases q with q | q
 ·exact h pins s σ H x v vl vu lo hi sl Q I rx hs pl pu q
 ·exact h' pins s σ H x v vl vu lo hi sl Q I rx hs pl pu q
noncomputable def tSl (r:V->Option Int->Option Int->Hp->VK->Prop) (te:TE) (tl th:TO):TE:=fun σ H Q=>te σ H fun x H1=>tl σ H1 fun l H2=>th σ H2 fun u H3=>r x l u H3 Q
theorem znD {r:V->Option Int->Option Int->Hp->VK->Prop} (hr:SlR X r) (he:PE X e te) (hl:PO X lo tl) (hu:PO X hi th):PE X (.Subscript e (.Slice lo hi none p2) pos) (tSl r te tl th):=by
 intro pins s σ H Q I h
 refine Subscript_ (thn (he pins s σ H _ I h) fun v s1 ⟨x,H1,I1,r1,q1⟩=> ?_)
 refine wpAny_Slice (thn (hl pins s1 σ H1 _ I1 q1) fun vl s2 ⟨l,H2,I2,pl,q2⟩=>thn (hu pins s2 σ H2 _ I2 q2) fun vu s3 ⟨u,H3,I3,pu,q3⟩=> ?_)
 rw [evalPart_none]
 refine qaX ?_
 have I4:Inv X pins σ H3 {s3 with heap:=s3.heap.push {cls:= .type "slice",data:= .fields #[vl,vu,.none]}}:=I3.kept (t':=s3.toks) fun b ob q=>qag _ q
 obtain ⟨T,id,hT,ht,hg⟩:=hr pins {s3 with heap:=s3.heap.push {cls:= .type "slice",data:= .fields #[vl,vu,.none]}} σ H3 x v vl vu l u s3.heap.objs.size Q I4 r1 (Heap.IsSliceOf.new ..) pl pu q3
 show wpAny (model X.prog X.w) X.A (subscriptTail e (.Slice lo hi none p2) v (.ref s3.heap.objs.size)) (EP X pins σ Q) X.xe {s3 with heap:=s3.heap.push {cls:= .type "slice",data:= .fields #[vl,vu,.none]}}
 exact tail_any (ops:=[.ref s3.heap.objs.size,v]) ht hT hg (by with_unfolding_all rfl)
noncomputable def zow (xs:List V) (lo hi:Option Int):List V:=(xs.drop (HT.sIx xs.length 0 lo)).take (HT.sIx xs.length xs.length hi - HT.sIx xs.length 0 lo)
theorem zfo (xs:List V) (lo hi:Option Int):(zow xs lo hi).length<=xs.length:=by
 unfold zow
 rw [List.length_take,List.length_drop]
 omega
noncomputable def zvz (K:W.Frag):V->Option Int->Option Int->Hp->VK->Prop:=fun x lo hi H Q=> ∃ a xs,x= .ref a/\SqT K H a xs/\
 ¬ (HT.sIx xs.length 0 lo=0/\HT.sIx xs.length xs.length hi=xs.length)/\ ∀ p,H p=none->Q (.ref p) (upd H p (.tup (zow xs lo hi)))
theorem zse:SlR X (zvz X.K):=by
 intro pins s σ H x v vl vu lo hi sl Q I rx hs pl pu h
 obtain ⟨a,xs,rfl,hx,hw,q⟩:=h
 cases rx
 obtain ⟨its,r,ht,hz⟩:=I.tuple hx
 have hlen:its.toArray.size=xs.length:=by rw [qaA];exact r.length.symm
 refine ⟨"tuple",_,PyProof.Rows.slot_tuple_getitem.lookup,ht.typeIs,?_⟩
 refine HT.zes ht hs pl pu (by rw [hlen];exact hw) ?_ (by rw [hlen];exact hz)
 rw [hlen]
 refine ⟨.ref s.heap.objs.size,_,I.laid (t':=s.toks) (o:= .tup (zow xs lo hi)) (fun b ob q=>qag _ q) (qaV _) ?_,rfl,q _ (I.hok.fresh (qaV _))⟩
 exact ⟨qaS (zfo xs lo hi) hz,_,(r.drop (HT.sIx xs.length 0 lo)).take (HT.sIx xs.length xs.length hi - HT.sIx xs.length 0 lo),IsTup.new _ _⟩
noncomputable def zus (K:W.Frag):R2:=fun x y H Q=> ∃ a b xs ys,x= .ref a/\y= .ref b/\SqT K H a xs/\SqT K H b ys/\xs≠[]/\xs.length+ys.length<=sizeLine/\
 (ys=[]->Q (.ref a) H)/\(ys≠[]-> ∀ p,H p=none->Q (.ref p) (upd H p (.tup (xs++ys))))
theorem zaQ.nil_iff {xs:List V} {us:List Value} (r:zaQ xs us):us=[]↔xs=[]:=by
 cases r with
 | nil=>simp
 | cons _ _=>simp
theorem zpR:OpR X (binaryOp .Add) (zus X.K):=by
 intro pins s σ H x y v u Q I rx ry h
 obtain ⟨a,b,xs,ys,rfl,rfl,ha,hb,hx,hz,q1,q2⟩:=h
 cases rx
 cases ry
 obtain ⟨its,r1,p1,_⟩:=I.tuple ha
 obtain ⟨its2,r2,p2,_⟩:=I.tuple hb
 refine HT.zp4 p1 p2 (fun z=>hx (r1.nil_iff.mp z)) (fun z=>⟨.ref a,H,I,rfl,q1 (r2.nil_iff.mp z)⟩) (fun z=> ?_) (by rw [<- r1.length, <-r2.length];exact hz)
 refine ⟨.ref s.heap.objs.size,_,I.laid (t':=s.toks) (o:= .tup (xs++ys)) (fun b ob q=>qag _ q) (qaV _) ?_,rfl,q2 (fun w=>z (r2.nil_iff.mpr w)) _ (I.hok.fresh (qaV _))⟩
 exact ⟨by rw [qav];exact hz,_,r1.append r2,IsTup.new _ _⟩
end
noncomputable def ixN (n:Nat) (i:Int):Option Nat:=if 0<=i then (if i<n then some i.toNat else none) else if -(n:Int)<=i then some (i+n).toNat else none
noncomputable def atI {α:Type} (xs:List α) (i:Int):Option α:=(ixN xs.length i).bind fun j=>xs[j]?
theorem zma {n:Nat} {i:Int} {j:Nat} (h:ixN n i=some j):seqIndex? i n=some j/\j<n/\ -(n:Int)<=i/\i<n:=by
 unfold ixN at h
 by_cases h0:0<=i
 ·rw [qa4 h0] at h
  by_cases h1:i<n
  ·rw [qa4 h1] at h
   have e:i.toNat=j:=Option.some.inj h
   exact ⟨by rw [seqIndex_of h0 h1,e],by omega,by omega,h1⟩
  ·rw [qa5 h1] at h;cases h
 ·rw [qa5 h0] at h
  by_cases h1: -(n:Int)<=i
  ·rw [qa4 h1] at h
   have e:(i+n).toNat=j:=Option.some.inj h
   exact ⟨by rw [seqIndex_neg (by omega) h1,e],by omega,h1,by omega⟩
  ·rw [qa5 h1] at h;cases h
theorem zlE {α:Type} {xs:List α} {i:Int} {v:α} (h:atI xs i=some v): ∃ j,seqIndex? i xs.length=some j/\xs[j]? = some v/\j<xs.length/\ -(xs.length:Int)<=i/\i<xs.length:=by
 unfold atI at h
 cases e:ixN xs.length i with
 | none=>rw [e] at h;cases h
 | some j=>
  rw [e] at h
  obtain ⟨h1,h2,h3,h4⟩:=zma e
  exact ⟨j,h1,h,h2,h3,h4⟩
theorem zdN {α:Type} {xs:List α} {j:Nat} {v:α} (h:xs[j]? = some v):atI xs (j:Int)=some v:=by
 have hj:j<xs.length:=(qac.mp h).1
 have e:ixN xs.length (j:Int)=some j:=by
  unfold ixN
  rw [qa4 (by omega),qa4 (by omega)];simp
 unfold atI;rw [e];exact h
theorem zjG {α:Type} (xs:List α) (v:α):atI (xs++[v]) (-1)=some v:=by
 have hl:(xs++[v]).length=xs.length+1:=by simp
 have e:ixN (xs++[v]).length (-1)=some xs.length:=by
  unfold ixN
  rw [hl,qa5 (by decide),qa4 (by omega)]
  congr 1
  omega
 unfold atI
 rw [e]
 show (xs++[v])[xs.length]? = some v
 simp
def ziG (b:Expr):Prop:= ∀ o i,subscripted b false o i=operate [o,i] (getItem o i)
def IxR (X:Cx) (r:R2):Prop:=
 ∀ (value slice:Expr) (pins:List (Addr×Obj)) (s:Shared) (σ:St) (H:Hp) (x y:V) (v u:Value) (Q:VK),Inv X pins σ H s->zbA x v->zbA y u->r x y H Q->
  subscripted slice false v u=operate [v,u] (getItem v u)->wpAny (model X.prog X.w) X.A (subscriptTail value slice v u) (EP X pins σ Q) X.xe s
def MtR (X:Cx) (id:String) (r:V->List V->Hp->VK->Prop):Prop:=
 ∀ (pins:List (Addr×Obj)) (s:Shared) (σ:St) (H:Hp) (x:V) (xs:List V) (v:Value) (us:List Value) (Q:VK),Inv X pins σ H s->zbA x v->zaQ xs us->r x xs H Q->
  wpAny (model X.prog X.w) X.A (call (.builtin id) (v::us)) (EP X pins σ Q) X.xe s
section
variable {X:Cx} {a b:Expr} {ta tb:TE} {pos:Pos}
theorem IxR.or {r r':R2} (h:IxR X r) (h':IxR X r'):IxR X (fun x y H Q=>r x y H Q\/r' x y H Q):=by
 intro value slice pins s σ H x y v u Q I rx ry q hs
 rcases q with q | q
 ·exact h value slice pins s σ H x y v u Q I rx ry q hs
 ·exact h' value slice pins s σ H x y v u Q I rx ry q hs
theorem MtR.or {id:String} {r r':V->List V->Hp->VK->Prop} (h:MtR X id r) (h':MtR X id r'):MtR X id (fun x xs H Q=>r x xs H Q\/r' x xs H Q):=by
 intro pins s σ H x xs v us Q I rx rs q
 rcases q with q | q
 ·exact h pins s σ H x xs v us Q I rx rs q
 ·exact h' pins s σ H x xs v us Q I rx rs q
theorem zt6 {r:R2} (hr:IxR X r) (ha:PE X a ta) (hb:PE X b tb) (hs:ziG b):PE X (.Subscript a b pos) (tOp r ta tb):=by
 intro pins s σ H Q I h
 exact Subscript_ (zuf ha hb I h fun v u s2 x y H2 I2 rx ry q=>hr a b pins s2 σ H2 x y v u Q I2 rx ry q (hs _ _))
noncomputable def zvj (K:W.Frag):R2:=fun x y H Q=> ∃ p xs i v,x= .ref p/\y= .int i/\SqL K H p xs/\atI xs i=some v/\Q v H
noncomputable def zve (K:W.Frag):R2:=fun x y H Q=> ∃ p xs i v,x= .ref p/\y= .int i/\SqT K H p xs/\atI xs i=some v/\Q v H
theorem zpe:IxR X (zvj X.K):=by
 intro value slice pins s σ H x y v u Q I rx ry h hs
 obtain ⟨p,xs,i,z,rfl,rfl,hq,he,q⟩:=h
 cases rx
 obtain ⟨t,rfl⟩:=ry
 obtain ⟨its,r,pl,hz⟩:=I.list hq
 obtain ⟨j,h1,h2,h3,h4,h5⟩:=zlE he
 obtain ⟨w,ew,rw'⟩:=r.get h2
 have hl:=r.length
 have hn:=zhq
 have fin:EP X pins σ Q w s:=⟨z,H,I,rw',q⟩
 by_cases h0:0<=i
 ·have hj:i.toNat=j:=by
   rw [seqIndex_of h0 h5] at h1
   exact Option.some.inj h1
  exact item_listR pl.isList h0 (by omega) (by rw [hj];simpa using ew) fin hs
 ·have hj:(i+(its.toArray.size:Int)).toNat=j:=by
   rw [seqIndex_neg (by omega) h4] at h1
   rw [qaA, <-hl]
   exact Option.some.inj h1
  exact subscriptTail_builtinR (x:=w) pl.isList.typeIs slot_list_getitem.lookup
   (wpAny_getItem_list_neg (Q:=fun r s'=>r=w/\EP X pins σ Q r s') pl.isList (by omega) (by rw [qaA]<;>omega) (by omega) (by rw [hj];simpa using ew) ⟨rfl,fin⟩) hs
theorem zsR:IxR X (zve X.K):=by
 intro value slice pins s σ H x y v u Q I rx ry h hs
 obtain ⟨p,xs,i,z,rfl,rfl,hq,he,q⟩:=h
 cases rx
 obtain ⟨t,rfl⟩:=ry
 obtain ⟨its,r,pl,hz⟩:=I.tuple hq
 obtain ⟨j,h1,h2,h3,h4,h5⟩:=zlE he
 obtain ⟨w,ew,rw'⟩:=r.get h2
 have hl:=r.length
 have hn:=zhq
 have fin:EP X pins σ Q w s:=⟨z,H,I,rw',q⟩
 exact subscriptTail_builtinR (x:=w) pl.typeIs slot_tuple_getitem.lookup
  (getItem_tuple (j:=j) (Q:=fun r s'=>r=w/\EP X pins σ Q r s') pl (by omega) (by omega) (by rw [qaA, <-hl];exact h1) (by simpa using ew) ⟨rfl,fin⟩) hs
theorem zkt (its:List Value) (n j:Nat) (u:Value):Obj.mapSeq (·.setIfInBounds j u) {cls:= .type "list",data:= .seq its.toArray n}={cls:= .type "list",data:= .seq (its.set j u).toArray n}:=by
 simp [Obj.mapSeq]
theorem Inv.lst {pins:List (Addr×Obj)} {σ:St} {H:Hp} {s:Shared} {p:Addr} {xs:List V} (I:Inv X pins σ H s) (h:H p=some (.lst xs)):
  ∃ (its:List Value) (n:Nat),zaQ xs its/\s.heap.get? p=some {cls:= .type "list",data:= .seq its.toArray n}/\xs.length<=sizeLine:=by
 obtain ⟨z,its,n,r,e⟩:=I.hok p _ h
 exact ⟨its,n,r,e,z⟩
theorem Inv.lstUpd {pins:List (Addr×Obj)} {σ:St} {H:Hp} {s:Shared} {p:Addr} {xs ys:List V} {its its':List Value} {n n':Nat} {f:Obj->Obj} (I:Inv X pins σ H s) (h:H p=some (.lst xs))
  (ho:s.heap.get? p=some {cls:= .type "list",data:= .seq its.toArray n}) (hf:f {cls:= .type "list",data:= .seq its.toArray n}={cls:= .type "list",data:= .seq its'.toArray n'}) (r:zaQ ys its') (hz:ys.length<=sizeLine) (t:Nat):
  Inv X pins σ (upd H p (.lst ys)) {s with heap:=s.heap.update p f,toks:=t}:=by
 have e:(s.heap.update p f).get? p=some {cls:= .type "list",data:= .seq its'.toArray n'}:=by
  rw [qal f ho (by rw [hf]<;>rfl),hf]
 refine I.write (x:=p) (e:=p) (by rw [h];trivial) (.inl rfl) (fun b u hb q=>(qah _ _ (Ne.symm hb)).trans q) ⟨_,e⟩ ?_
 exact ⟨hz,its',n',r,e⟩
noncomputable def zuN:V->V->V->Hp->(Hp->Prop)->Prop:=fun o i v H Q=> ∃ p xs k j,o= .ref p/\i= .int k/\H p=some (.lst xs)/\ixN xs.length k=some j/\Q (upd H p (.lst (xs.set j v)))
theorem zm1:zrl X zuN:=by
 intro pins s σ H o i v ov iv u Q I ro ri rv h
 obtain ⟨p,xs,k,j,rfl,rfl,hp,hj,q⟩:=h
 cases ro
 obtain ⟨t,rfl⟩:=ri
 obtain ⟨its,n,r,ho,hz⟩:=I.lst hp
 obtain ⟨h1,h2,h3,h4⟩:=zma hj
 have hl:=r.length
 have hn:=zhq
 have I':Inv X pins σ (upd H p (.lst (xs.set j v))) {s with heap:=s.heap.update p (Obj.mapSeq (·.setIfInBounds j u))}:=
  I.lstUpd hp ho (zkt its n j u) (r.set rv j) (by rw [qaI];exact hz) s.toks
 by_cases h0:0<=k
 ·have hk:k.toNat=j:=by
   rw [seqIndex_of h0 h4] at h1
   exact Option.some.inj h1
  exact W.ki_setAt ho h0 (by omega) (by rw [qaA, <-hl];exact h4) (by rw [hk];exact ⟨_,I',q⟩)
 ·have hk:(k+(its.toArray.size:Int)).toNat=j:=by
   rw [seqIndex_neg (by omega) h3] at h1
   rw [qaA, <-hl]
   exact Option.some.inj h1
  exact W.ki_setBack ho (by omega) (by rw [qaA, <-hl];exact h3) (by omega) (by rw [hk];exact ⟨_,I',q⟩)
theorem zht (lo hi:Option Int) (n:Nat):(sliceBounds lo hi none n).1=((HT.sIx n 0 lo:Nat):Int)/\(sliceBounds lo hi none n).2.1=((HT.sIx n n hi:Nat):Int)/\(sliceBounds lo hi none n).2.2=1:=by
 refine ⟨?_,?_,rfl⟩
 ·cases lo with
  | none=>simp [sliceBounds,HT.sIx]
  | some i=>
   simp only [sliceBounds,HT.sIx,Option.getD_none,show (1:Int)>0 by decide,if_true]
   by_cases h:i<0
   ·simp only [h,if_true]<;>omega
   ·simp only [h,if_false]<;>omega
 ·cases hi with
  | none=>simp [sliceBounds,HT.sIx]
  | some i=>
   simp only [sliceBounds,HT.sIx,Option.getD_none,show (1:Int)>0 by decide,if_true]
   by_cases h:i<0
   ·simp only [h,if_true]<;>omega
   ·simp only [h,if_false]<;>omega
theorem zha (its:List Value) (lo hi:Option Int):slicePick its.toArray lo hi none=((its.drop (HT.sIx its.length 0 lo)).take (HT.sIx its.length its.length hi - HT.sIx its.length 0 lo)).toArray:=by
 obtain ⟨h1,h2,h3⟩:=zht lo hi its.toArray.size
 unfold slicePick
 rw [h1,h2,h3]
 simp only [sliceRange_one,pick_run,qaA]<;>rfl
noncomputable def zu6 (K:W.Frag):V->Option Int->Option Int->Hp->VK->Prop:=fun x lo hi H Q=> ∃ a xs,x= .ref a/\SqL K H a xs/\ ∀ p,H p=none->Q (.ref p) (upd H p (.lst (zow xs lo hi)))
theorem zqa:SlR X (zu6 X.K):=by
 intro pins s σ H x v vl vu lo hi sl Q I rx hs pl pu h
 obtain ⟨a,xs,rfl,hx,q⟩:=h
 cases rx
 obtain ⟨its,r,ht,hz⟩:=I.list hx
 have hlen:=r.length
 refine ⟨"list",_,slot_list_getitem.lookup,ht.isList.typeIs,?_⟩
 refine wpAny_getItem_list_slice ht.isList hs pl pu .none (by simp) ?_ (by rw [qaA]<;>omega)
 rw [zha, <-hlen]
 refine ⟨.ref s.heap.objs.size,_,I.laid (t':=s.toks) (o:= .lst (zow xs lo hi)) (fun b ob q=>qag _ q) (qaV _) ?_,rfl,q _ (I.hok.fresh (qaV _))⟩
 exact ⟨qaS (zfo xs lo hi) hz,_,0,(r.drop (HT.sIx xs.length 0 lo)).take (HT.sIx xs.length xs.length hi - HT.sIx xs.length 0 lo),qar _ rfl⟩
theorem zhD:zaN X (.builtin "len") (fun xs H Q=> ∃ p ys,xs=[.ref p]/\(SqL X.K H p ys\/SqT X.K H p ys)/\Q (.int ys.length) H):=by
 intro pins s σ H xs us Q I r h
 obtain ⟨p,ys,rfl,hq,q⟩:=h
 obtain ⟨u,rfl,rx⟩:=zfv r
 cases rx
 have hn:=zhq
 rcases hq with hq | hq
 ·obtain ⟨its,r',pl,hz⟩:=I.list hq
  have hlen:=r'.length
  exact Calls.call_len_list pl.isList (by simp only [qaA]<;>omega) ⟨.int ys.length,H,I.tok _,⟨s.toks+1,by rw [qaA,hlen]⟩,q⟩
 ·obtain ⟨its,r',pl,hz⟩:=I.tuple hq
  have hlen:=r'.length
  exact len_tuple pl (by simp only [qaA]<;>omega) ⟨.int ys.length,H,I.tok _,⟨s.toks+1,by rw [qaA,hlen]⟩,q⟩
theorem zaN.or {f:Value} {r r':List V->Hp->VK->Prop} (h:zaN X f r) (h':zaN X f r'):zaN X f (fun xs H Q=>r xs H Q\/r' xs H Q):=by
 intro pins s σ H xs us Q I rs q
 rcases q with q | q
 ·exact h pins s σ H xs us Q I rs q
 ·exact h' pins s σ H xs us Q I rs q
theorem zh1:zaN X (.type "list") (fun xs H Q=> ∃ p ys,xs=[.ref p]/\(SqL X.K H p ys\/SqT X.K H p ys)/\ ∀ l,H l=none->Q (.ref l) (upd H l (.lst ys))):=by
 intro pins s σ H xs us Q I r h
 obtain ⟨p,ys,rfl,hq,q⟩:=h
 obtain ⟨u,rfl,rx⟩:=zfv r
 cases rx
 have fin: ∀ (its:List Value),zaQ ys its->ys.length<=sizeLine-> ∀ (h':Heap) (c':Nat),(∀ b o',s.heap.get? b=some o'->h'.get? b=some o')->
   h'.get? s.heap.objs.size=some {cls:= .type "list",dict:=none,data:= .seq its.toArray c',slots:= #[]}->EP X pins σ Q (.ref s.heap.objs.size) {s with heap:=h'}:=fun its r' hz h' c' kp e=>
  ⟨.ref s.heap.objs.size,_,I.laid (t':=s.toks) kp (qaV _) (show zbY X.prog X.w _ h' _ (.lst ys) from ⟨hz,its,c',r',e⟩),rfl,q _ (I.hok.fresh (qaV _))⟩
 rcases hq with hq | hq
 ·obtain ⟨its,r',pl,hz⟩:=I.list hq
  have hlen:=r'.length
  obtain ⟨o,ho,hc,n,hd⟩:=pl.isList
  exact call_list_seq p (.inl rfl) ho hc hd (fun h' c' kp e=>fin its r' hz h' c' kp e) (by simp only [qaA]<;>omega)
 ·obtain ⟨its,r',pl,hz⟩:=I.tuple hq
  have hlen:=r'.length
  obtain ⟨o,ho,hc,n,hd⟩:=pl
  exact call_list_seq p (.inr rfl) ho hc hd (fun h' c' kp e=>fin its r' hz h' c' kp e) (by simp only [qaA]<;>omega)
theorem zgC:zaN X (.type "tuple") (fun xs H Q=> ∃ p ys,xs=[.ref p]/\((SqL X.K H p ys/\ ∀ l,H l=none->Q (.ref l) (upd H l (.tup ys)))\/(SqT X.K H p ys/\Q (.ref p) H))):=by
 intro pins s σ H xs us Q I r h
 obtain ⟨p,ys,rfl,h⟩:=h
 obtain ⟨u,rfl,rx⟩:=zfv r
 cases rx
 rcases h with ⟨hq,q⟩ | ⟨hq,q⟩
 ·obtain ⟨its,r',pl,hz⟩:=I.list hq
  have hlen:=r'.length
  refine call_tuple_list pl.isList (fun h' kp=> ?_) (by simp only [qaA]<;>omega)
  have I1:Inv X pins σ H {s with heap:=h'}:=I.kept (t':=s.toks) kp
  have I2:Inv X pins σ (upd H h'.objs.size (.tup ys)) {s with heap:=h'.push {cls:= .type "tuple",data:= .seq its.toArray}}:=
   I1.laid (t':=s.toks) (fun b o e=>qag _ e) (qaV _) (show zbY X.prog X.w _ _ _ (.tup ys) from ⟨hz,its,r',IsTup.new _ _⟩)
  exact ⟨.ref h'.objs.size,_,I2,rfl,q _ (I1.hok.fresh (qaV _))⟩
 ·obtain ⟨its,r',pl,hz⟩:=I.tuple hq
  exact call_tuple_same pl ⟨.ref p,H,I,rfl,q⟩
def tyV (K:W.Frag) (T:String) (x:V) (H:Hp):Prop:=match x with
 | .str _=>T="str"
 | .int _=>T="int"
 | .ref p=>(T="list"/\ ∃ xs,SqL K H p xs)\/(T="tuple"/\ ∃ o,K.lookup p=some o/\o.cls= .type "tuple"/\o.dict=none)\/
   (T="dict"/\((∃ kvs,H p=some (.dK kvs))\/ ∃ kvs,H p=some (.dT kvs)))\/(T="set"/\ ∃ S n,H p=some (.set S n))
 | _=>False
theorem zoZ {pins:List (Addr×Obj)} {σ:St} {H:Hp} {s:Shared} {T:String} {x:V} {v:Value} (I:Inv X pins σ H s) (r:zbA x v) (ty:tyV X.K T x H):
  s.TypeIs v T/\ ∀ a,v= .ref a-> ∃ ob,s.heap.get? a=some ob/\ob.dict=none:=by
 cases x with
 | str z=>
  obtain ⟨t,rfl⟩:=r
  cases (show T="str" from ty)
  exact ⟨typeIs_str s z t,fun _ e=>nomatch e⟩
 | int i=>
  obtain ⟨t,rfl⟩:=r
  cases (show T="int" from ty)
  exact ⟨typeIs_int s i t,fun _ e=>nomatch e⟩
 | ref p=>
  cases r
  rcases ty with ⟨rfl,xs,hq⟩ | ⟨rfl,o,hk,hc,hd⟩ | ⟨rfl,hk⟩ | ⟨rfl,S,n,hk⟩
  ·obtain ⟨its,_,pl,_⟩:=I.list hq
   refine ⟨pl.isList.typeIs,fun a e=> ?_⟩
   cases e
   obtain ⟨o,n,e,c,hd,_⟩:=pl
   exact ⟨o,e,hd⟩
  ·refine ⟨⟨o,I.kIn p o hk,hc⟩,fun a e=> ?_⟩
   cases e
   exact ⟨o,I.kIn _ o hk,hd⟩
  ·have z: ∃ o,s.heap.get? p=some o/\o.ExactDict:=by
    rcases hk with ⟨kvs,hk⟩ | ⟨kvs,hk⟩
    ·obtain ⟨_,_,_,_,o,_,_,e,ex,_⟩:=I.hok p _ hk
     exact ⟨o,e,ex⟩
    ·obtain ⟨_,_,_,_,o,_,_,e,ex,_⟩:=I.hok p _ hk
     exact ⟨o,e,ex⟩
   obtain ⟨o,e,ex⟩:=z
   refine ⟨⟨o,e,ex.1⟩,fun a e2=> ?_⟩
   cases e2
   exact ⟨o,e,ex.2.1⟩
  ·obtain ⟨o,_,_,_,e,ex,_⟩:=I.hok p _ hk
   refine ⟨⟨o,e,ex.1⟩,fun a e2=> ?_⟩
   cases e2
   exact ⟨o,e,ex.2.1⟩
 | _=>exact qa0 ty
noncomputable def zu8 (K:W.Frag) (T:String) (r:V->List V->Hp->VK->Prop) (to:TE):TE:=fun σ H Q=>to σ H fun x H1=>tyV K T x H1/\r x [] H1 Q
noncomputable def tBM (K:W.Frag) (T:String) (r:V->List V->Hp->VK->Prop) (to:TE) (t:TA):TE:=fun σ H Q=>to σ H fun x H1=>tyV K T x H1/\t σ H1 fun xs H2=>r x xs H2 Q
variable {o e:Expr} {es:List Expr} {to:TE} {t:TA} {name:Str} {apos cpos:Pos} {T id:String} {r:V->List V->Hp->VK->Prop}
theorem zsn (pa:PlainAttrs T) (slot:Slot T name id) (hty:typeOf (.builtin id)=pure (.type "method_descriptor")) (hm:MtR X id r) (ho:PE X o to)
  (hbase:attributeBase o name X.env (eval o X.env)=eval o X.env:=by rfl) (hline:(apos.endLine==cpos.line)=true:=by rfl):PE X (.Call (.Attribute o name apos) [] [] cpos) (zu8 X.K T r to):=by
 intro pins s σ H Q I h
 refine wpAny_Call_method0_late hbase hline (thn (ho pins s σ H _ I h) fun v s1 ⟨x,H1,I1,r1,ty,q1⟩=> ?_)
 obtain ⟨h1,h2⟩:=zoZ I1 r1 ty
 exact ⟨T,id,pa,slot,hty,h1,h2,Calls.callWith_builtin rfl (PySem.evalArgs_none (hm pins s1 σ H1 x [] v [] Q I1 r1 .nil q1))⟩
theorem zoi (pa:PlainAttrs T) (slot:Slot T name id) (hty:typeOf (.builtin id)=pure (.type "method_descriptor")) (hm:MtR X id r) (ho:PE X o to) (ha:PA X (e::es) t)
  (hbase:attributeBase o name X.env (eval o X.env)=eval o X.env:=by rfl)
  (hfew:((backTo cpos (starEach (e::es) X.env)).all (fun x=> !x.1) && (backToKw cpos (keywordEach [] X.env)).all (fun x=>x.1.isSome)
    && decide ((e::es).length+([]:List Keyword).length+(if ([]:List Keyword).isEmpty then 0 else 1)<30))=true:=by rfl)
  (hline:(apos.endLine==cpos.line)=true:=by rfl) (hs:starEach (e::es) X.env=(false,eval e X.env)::starEach es X.env:=by rfl) (hplain:(backTo cpos (starEach es X.env)).any (·.1)=false:=by rfl):
  PE X (.Call (.Attribute o name apos) (e::es) [] cpos) (tBM X.K T r to t):=by
 intro pins s σ H Q I h
 refine wpAny_Call_method_late hbase hfew hline rfl (thn (ho pins s σ H _ I h) fun v s1 ⟨x,H1,I1,r1,ty,q1⟩=> ?_)
 obtain ⟨h1,h2⟩:=zoZ I1 r1 ty
 refine ⟨T,id,pa,slot,hty,h1,h2,?_⟩
 have hA:=ha cpos pins s1 σ H1 _ I1 q1
 rw [hs] at hA ⊢
 refine Calls.callWith_builtin (by show (false || (backTo cpos (starEach es X.env)).any (·.1))=false;rw [hplain]<;>rfl) (Calls.evalArgs_plain ?_)
 exact thn hA fun us s2 ⟨vs,H2,I2,r2,q2⟩=>hm pins s2 σ H2 x vs v us Q I2 r1 r2 q2
end
def MtM (X:Cx) (id:String) (r:V->List V->Hp->VK->Prop):Prop:=
 ∀ (pins:List (Addr×Obj)) (s:Shared) (σ:St) (H:Hp) (x:V) (xs:List V) (v:Value) (us:List Value) (Q:VK),Inv X pins σ H s->zbA x v->zaQ xs us->r x xs H Q->
  wpAny (model X.prog X.w) X.A (call (.builtin id) (v::us)) (EP X pins σ Q) X.xe s
theorem zaQ.one: ∀ {x:V} {us:List Value},zaQ [x] us-> ∃ u,us=[u]/\zbA x u
 | _,_,.cons r .nil=>⟨_,rfl,r⟩
theorem zaQ.two: ∀ {x y:V} {us:List Value},zaQ [x,y] us-> ∃ u v,us=[u,v]/\zbA x u/\zbA y v
 | _,_,_,.cons r (.cons q .nil)=>⟨_,_,rfl,r,q⟩
theorem zaQ.zero: ∀ {us:List Value},zaQ [] us->us=[]
 | _,.nil=>rfl
theorem zaQ.dropLast {xs:List V} {us:List Value} (h:zaQ xs us):zaQ xs.dropLast us.dropLast:=by
 induction h with
 | nil=>exact .nil
 | cons r t ih=>
  cases t with
  | nil=>exact .nil
  | cons q t'=>exact .cons r ih
theorem zaQ.eraseIdx: ∀ {xs:List V} {us:List Value} (i:Nat),zaQ xs us->zaQ (xs.eraseIdx i) (us.eraseIdx i)
 | _,_,_,.nil=> .nil
 | _,_,0,.cons _ t=>t
 | _,_,i+1,.cons r t=> .cons r (zaQ.eraseIdx i t)
theorem zaQ.reverse {xs:List V} {us:List Value} (h:zaQ xs us):zaQ xs.reverse us.reverse:=by
 induction h with
 | nil=>exact .nil
 | cons r t ih=>rw [List.reverse_cons,List.reverse_cons];exact zaQ.append ih (.cons r .nil)
theorem zaQ.rep {xs:List V} {us:List Value} (h:zaQ xs us): ∀ k:Nat,zaQ (List.replicate k xs).flatten (List.replicate k us).flatten
 | 0=> .nil
 | k+1=>by
  rw [List.replicate_succ,List.replicate_succ,List.flatten_cons,List.flatten_cons]
  exact zaQ.append h (zaQ.rep h k)
theorem zkm {α:Type} (l:List α):l.eraseIdx (l.length - 1)=l.dropLast:=by
 induction l with
 | nil=>rfl
 | cons a r ih=>
  cases r with
  | nil=>rfl
  | cons b r=>
   have e:(a::b::r).length - 1=((b::r).length - 1)+1:=by
    have h1:(a::b::r).length=r.length+2:=rfl
    have h2:(b::r).length=r.length+1:=rfl
    omega
   rw [e,List.eraseIdx_cons_succ,ih]
   all_goals rfl
theorem zhM (its:List Value): ∀ (k:Nat) (acc:List Value),
  List.foldl (fun x1 x2=>x1++x2) acc.toArray (List.replicate k its.toArray)=(acc++(List.replicate k its).flatten).toArray
 | 0,acc=>by simp
 | k+1,acc=>by
  have e:acc.toArray++its.toArray=(acc++its).toArray:=by simp
  have e2:(acc++its)++(List.replicate k its).flatten=acc++(List.replicate (k+1) its).flatten:=by
   rw [List.replicate_succ,List.flatten_cons,List.append_assoc]
  rw [<- e2, <-zhM its k (acc++its), <-e,List.replicate_succ,List.foldl_cons]
section
variable {X:Cx} {pins:List (Addr×Obj)} {σ:St} {H:Hp} {s:Shared} {l b:Addr} {xs ys zs:List V}
theorem Inv.lset {its its':List Value} {n:Nat} {f:Array Value->Array Value} {t':Nat} (I:Inv X pins σ H s) (hH:H l=some (.lst xs))
  (e:s.heap.get? l=some {cls:= .type "list",data:= .seq its.toArray n}) (hf:f its.toArray=its'.toArray) (hv:zaQ ys its') (hz:ys.length<=sizeLine):
  Inv X pins σ (upd H l (.lst ys)) {s with heap:=s.heap.update l (Obj.mapSeq f),toks:=t'}:=by
 have q:=PySem.IsL.update e f
 rw [hf] at q
 refine I.write (x:=l) (e:=l) (by rw [hH];exact trivial) (.inl rfl) (fun b' u hb hu=>(qah s.heap (Obj.mapSeq f) (Ne.symm hb)).trans hu) ⟨_,q⟩ ?_
 exact ⟨hz,its',_,hv,q⟩
theorem Inv.lnew {its:List Value} {t':Nat} (I:Inv X pins σ H s) (hv:zaQ ys its) (hz:ys.length<=sizeLine):
  Inv X pins σ (upd H s.heap.objs.size (.lst ys)) {s with heap:=s.heap.push {cls:= .type "list",data:= .seq its.toArray},toks:=t'}:=
 I.laid (fun _ _ q=>qag _ q) (qaV _) ⟨hz,its,0,hv,qar _ rfl⟩
theorem Inv.fresh (I:Inv X pins σ H s):H s.heap.objs.size=none:=I.hok.fresh (qaV _)
theorem Inv.lstM (I:Inv X pins σ H s) (hH:H l=some (.lst xs)):xs.length<=sizeLine/\ ∃ (its:List Value) (n:Nat),zaQ xs its/\xs.length=its.length/\s.heap.get? l=some {cls:= .type "list",data:= .seq its.toArray n}:=by
 obtain ⟨z,its,n,r,e⟩:=I.hok l _ hH
 exact ⟨z,its,n,r,r.length,e⟩
theorem zn1 {n:Nat} (h:n<=sizeLine):Builtin.List.listTooLong n=false:=by
 unfold Builtin.List.listTooLong
 exact decide_eq_false (by omega)
end
section
variable {X:Cx}
noncomputable def zqR:V->List V->Hp->VK->Prop:=fun x vs H Q=> ∃ l xs y,x= .ref l/\vs=[y]/\H l=some (.lst xs)/\xs.length<sizeLine/\Q .non (upd H l (.lst (xs++[y])))
theorem zh8:MtM X "list.append" zqR:=by
 intro pins s σ H x vs v us Q I rx rv h
 obtain ⟨l,xs,y,rfl,rfl,hH,hz,q⟩:=h
 cases rx
 obtain ⟨u,rfl,ru⟩:=rv.one
 obtain ⟨z,its,n,r,hl,e⟩:=I.lstM hH
 refine call_meets F.slot_list_append ⟨_,e,rfl⟩ F.entry_list_append (F.args_list_append_2 _ _) (PySem.list_append l its.toArray n u (by rw [qaA];omega)) ⟨e,?_⟩
 refine ⟨.non,_,I.lset (its':=its++[u]) hH e (by simp) (r.append (.cons ru .nil)) ?_,rfl,q⟩
 rw [qav,List.length_singleton]
 omega
noncomputable def zvf:V->List V->Hp->VK->Prop:=fun x vs H Q=> ∃ l xs y,x= .ref l/\vs=[]/\H l=some (.lst xs)/\xs[xs.length - 1]? = some y/\Q y (upd H l (.lst xs.dropLast))
theorem zrY:MtM X "list.pop" zvf:=by
 intro pins s σ H x vs v us Q I rx rv h
 obtain ⟨l,xs,y,rfl,rfl,hH,hy,q⟩:=h
 cases rx
 have hus:=rv.zero
 subst hus
 obtain ⟨z,its,n,r,hl,e⟩:=I.lstM hH
 obtain ⟨u,hu,ru⟩:=r.get hy
 have hy':its.toArray[its.toArray.size - 1]? = some u:=by
  show its.toArray[its.length - 1]? = some u
  rw [<- Array.getElem?_toList, <-hl]
  exact hu
 refine call_meets F.slot_list_pop ⟨_,e,rfl⟩ F.entry_list_pop (F.args_list_pop_1 _) (MeetsSeq.list_pop_last l its.toArray n u hy' (by rw [qaA];omega)) ⟨e,?_⟩
 refine ⟨y,_,I.lset (its':=its.dropLast) hH e ?_ r.dropLast ?_,ru,q⟩
 ·show its.toArray.eraseIdxIfInBounds (its.toArray.size - 1)=its.dropLast.toArray
  rw [qaA,List.eraseIdxIfInBounds_toArray,zkm]
 ·rw [List.length_dropLast]
  omega
noncomputable def zvt:R2:=fun x y H Q=> ∃ l b xs zs,x= .ref l/\y= .ref b/\H l=some (.lst xs)/\H b=some (.lst zs)/\xs.length+zs.length<=sizeLine/\ ∀ p,H p=none->Q (.ref p) (upd H p (.lst (xs++zs)))
theorem zrL:OpR X (binaryOp .Add) zvt:=by
 intro pins s σ H x y v u Q I rx ry h
 obtain ⟨l,b,xs,zs,rfl,rfl,hH,hB,hz,q⟩:=h
 cases rx
 cases ry
 obtain ⟨z,its,n,r,hl,e⟩:=I.lstM hH
 obtain ⟨z2,its2,n2,r2,hl2,e2⟩:=I.lstM hB
 refine PySem.P.add_list e e2 ?_ (by rw [qaA,qaA];omega)
 have ea:its.toArray++its2.toArray=(its++its2).toArray:=by simp
 rw [ea]
 exact ⟨.ref _,_,I.lnew (t':=s.toks) (r.append r2) (by rw [qav];omega),rfl,q _ I.fresh⟩
theorem zp9 {α:Type} (xs:List α) (k:Nat):(List.replicate k xs).flatten.length=k*xs.length:=by
 induction k with
 | zero=>simp
 | succ k ih=>rw [List.replicate_succ,List.flatten_cons,qav,ih,Nat.succ_mul,Nat.add_comm]
end
section
variable {prog:Program} {w:World} {A:Around} {E:Value->Shared->Prop} {s:Shared}
end
section
variable {X:Cx}
end
end L2
namespace Att
open PySem PySem.W PySem.Calls PyProof.Rows
theorem zfl {P:Params} {h:Heap}: ∀ (ns:List Int) (vs:List Value),WellAll P h vs (ns.map WData.int)->IntsAre vs ns:=by
 intro ns
 induction ns with
 | nil=>
  intro vs w
  rw [List.map_nil] at w
  cases w
  exact .nil
 | cons n ns ih=>
  intro vs w
  rw [qaM] at w
  cases w with
  | cons a b=>
   cases a
   exact .cons _ _ (ih _ b)
theorem zl1 {l:OpenLaw} {n:Nat} (hn:l.most=some n) {P:Params} {h:Heap} {args:List WData} {vals:List Value}
  (hpre:l.row.toRowW.claim.pre args=true) (hwl:WellAll P h vals args):
  ∃ a vs ns,vals=[Value.ref a]/\args=[WData.list (ns.map WData.int)]/\h.get? a=some {cls:= .type "list",data:= .seq vs.toArray}/\IntsAre vs ns/\ns.length<=n:=by
 have hsh:WShape.hasAll [] args [.list .int]=true:=(pre_splitW hpre).1
 have hc:l.pre.holds [] {args:=args}=true:=(pre_splitW hpre).2
 obtain ⟨d,r,rfl,h1,h2⟩:=hasAllW_cons hsh
 obtain rfl:=hasAllW_nil h2
 obtain ⟨xs,rfl,h3⟩:=hasW_list h1
 obtain ⟨ns,rfl⟩:=items_int h3
 have hlen:ns.length<=n:=by
  unfold OpenLaw.pre at hc
  have h4:(WTm.not (.lt (.lit (.int (n:Int))) (.len (.arg 0)))).holds [] {args:=[.list (ns.map .int)]}=true:=by
   have h4:=(holds_andW hc).1
   rw [hn] at h4
   exact h4
  have h5:=condW_of h4 (w_not (w_lt w_lit (w_len_list (w_arg rfl))))
  rw [qaH] at h5
  refine Nat.le_of_not_lt fun q=> ?_
  have q':(n:Int)<((ns.length:Nat):Int):=by omega
  first
   | (rw [decide_eq_true q'] at h5;exact absurd h5 (by decide))
   | (simp at h5;omega)
 cases hwl with
 | cons w1 w2=>
  cases w2
  cases w1 with
  | list ho hall=>exact ⟨_,_,ns,rfl,rfl,ho,zfl ns _ hall,hlen⟩
theorem zmq (l:OpenLaw) (args:List WData):l.row.toRowW.claim.post args (.bool true) args=true:=
 postW_of (r:=l.row.toRowW) (X:=(true==true))
  (show WShape.has [] (.bool true) .bool=true by first | rfl | decide | simp [WShape.has,WShape.arms,WShape.armsAll])
  (show (WTm.eq .res (.lit (.bool true))).value [] {args:=args,res:=some (.bool true),after:=args}=some (.bool (true==true)) from w_eq_bool (w_res rfl) w_lit) rfl
section
variable {prog:Program} {w:World} {A:Around} {E:Value->Shared->Prop} {s:Shared} {K:Frag}
end
end Att
namespace L2
open PySem PySem.Spec PyProof.Rows
theorem zfB: ∀ {vs:List Value} {ns:List Int},IntsAre vs ns->zaQ (ns.map V.int) vs
 | _,_,.nil=> .nil
 | _,_,.cons n t h=> .cons ⟨t,rfl⟩ (zfB h)
def zu3 (H:Hp):Prop:= ∀ b,H b=none\/ ∃ o xs,H b=some (.frz o (.lst xs))
theorem znR {P:Program} {w:World} {K:W.Frag} {mg mb:Str->Option Value} {CX:CXT} {k:Nat} {fa a:Addr} {fd:FuncData} {x:Str} {sp:Sp} {s₁:Shared} {vs:List Value} {ns:List Int}
  (KX:K.In s₁.heap) (hns:s₁.heap.Ns mainGlobals mg) (hb:s₁.heap.Ns builtinsNs mb) (hbb: ∀ x:Str,x≠"__name__"->mb x=bootBuiltins x) (hlim:s₁.heap.NoLimit) (hg:s₁.gens= #[])
  (ha:s₁.heap.get? a=some {cls:= .type "list",data:= .seq vs.toArray}) (hi:IntsAre vs ns) (hl:ns.length<=sizeLine) (hr:zcn k callerA)
  (F: ∀ base:Heap,K.In base->base.Ns mainGlobals mg->zbh P w K mg base CX k fa fd [x] sp) (hbind: ∀ (s:Shared) (u:Value),BindsTo s fd ⟨[u],[]⟩ [(x,u)])
  (hsp: ∀ H:Hp,zu3 H->SqL K H a (ns.map V.int)->sp [.ref a] H (fun v _=>v= .bl true) fun _ _ _=>False)
  (hCX: ∀ H e s',CX [] H s₁ (fun _ _ _=>False) e s'->False):
  codeAny (model P w) callerA (.call (.ref fa) ⟨[.ref a],[]⟩) (fun r s'=>r= .ok (.ret (.bool true))/\OldK s₁.heap s'.heap/\s'.os=s₁.os/\AllBare s'.gens) s₁:=by
 have rv:=zfB hi
 have lenV:=hi.length
 have core: ∀ H:Hp,zu3 H->SqL K H a (ns.map V.int)->HOk P w H s₁.heap->(∀ b,H b≠none->b=a)->(H a≠none->K.lookup a=none)->
   codeAny (model P w) callerA (.call (.ref fa) ⟨[.ref a],[]⟩) (fun r s'=>r= .ok (.ret (.bool true))/\OldK s₁.heap s'.heap/\s'.os=s₁.os/\AllBare s'.gens) s₁:=by
  intro H hO hS hok hA hK
  have base_of: ∀ {b:Addr} {o:Obj},s₁.heap.get? b=some o->H b=none->(zmU s₁.heap H).get? b=some o:=fun e n=>znQ e n
  have noA: ∀ {b:Addr} {o:Obj} {es:Array DictEntry} {ep:Nat},s₁.heap.get? b=some o->o.data= .dict es ep->H b=none:=fun {b o es ep} e d=>by
   cases q:H b with
   | none=>rfl
   | some u=>
    have e':b=a:=hA b (by rw [q];simp)
    subst e'
    rw [ha] at e;cases e
    have d':Data.seq vs.toArray _=Data.dict es ep:=d
    cases d'
  have nsK: ∀ {b:Addr} {m:Str->Option Value},s₁.heap.Ns b m->(zmU s₁.heap H).Ns b m:=fun {b m} ⟨o,es,ep,e,d,r⟩=>⟨o,es,ep,base_of e (noA e d),d,r⟩
  have hKb:K.In (zmU s₁.heap H):=fun b o e=>base_of (KX b o e) (by
    cases q:H b with
    | none=>rfl
    | some u=>
      have e':b=a:=hA b (by rw [q];simp)
      subst e'
      rw [hK (by rw [q];simp)] at e;cases e)
  have hM:Mod K mg (zmU s₁.heap H):=⟨hKb,nsK hns,⟨mb,nsK hb,hbb⟩,let ⟨mc,h1,h2⟩:=hlim;⟨mc,nsK h1,h2⟩⟩
  have e0:zkv P w K mg (zmU s₁.heap H) callerA [] s₁ H:=⟨rfl,hM,fun b o e=>zqu e,Nat.le_of_eq (zkC _ _),trivial,fun b hb=>absurd (show b∈([]:List Addr) from hb) (by simp),hok,.of_eq hg,.inl rfl⟩
  refine codeAny_mono ((F _ hKb (nsK hns)).run callerA [] s₁ H ⟨[.ref a],[]⟩ [.ref a] [.ref a] _ _ hr e0 (hbind s₁ (.ref a)) (.cons rfl .nil) (hsp H hO hS)) fun r s' h=> ?_
  cases r with
  | error e=>exact (hCX H e s' h).elim
  | ok fl=>
   cases fl with
   | next=>exact qa0 h
   | brk=>exact qa0 h
   | cont=>exact qa0 h
   | ret u=>
    obtain ⟨v,H',os,bare,un,hok',r',q⟩:=h
    have q':v= .bl true:=q
    subst q'
    obtain rfl:u=Value.bool true:=r'
    refine ⟨rfl,OldK.of_keep fun b o e=> ?_,os,bare⟩
    cases q:H b with
    | none=>exact un.keep b o e q (by intro z;exact absurd (show b∈([]:List Addr) from z) (by simp)) (by simp)
    | some u=>
     rcases hO b with z | ⟨ob,xs,z⟩
     ·rw [q] at z;cases z
     ·have z2:=un.frzs b ob _ z
      obtain ⟨e1,_⟩:=hok b _ z
      obtain ⟨e2,_⟩:=hok' b _ z2
      rw [e] at e1;cases e1
      exact e2
 cases hk:K.lookup a with
 | some o=>
  have e:=KX a o hk
  rw [ha] at e
  cases e
  refine core (fun _=>none) (fun _=> .inl rfl) (.inr ⟨_,vs.toArray,_,hk,rfl,rfl,rfl,by rw [qaA,lenV];exact hl,by simpa using rv⟩) (fun b u z=>by have z':(none:Option HO)=some u:=z;cases z') (fun b z=>absurd rfl z) fun z=>absurd rfl z
 | none=>
  refine core (fun b=>if b=a then some (.frz {cls:= .type "list",data:= .seq vs.toArray} (.lst (ns.map V.int))) else none) (fun b=> ?_) (.inl (.inr ⟨{cls:= .type "list",data:= .seq vs.toArray},qa4 rfl⟩)) (fun b u z=> ?_) (fun b z=> ?_) fun _=>hk
  ·by_cases hb:b=a
   ·exact .inr ⟨_,_,qa4 hb⟩
   ·exact .inl (qa5 hb)
  ·by_cases hb:b=a
   ·have z':=(qa4 hb).symm.trans z
    cases z'
    subst hb
    exact ⟨ha,by rw [qaH];exact hl,vs,_,rv,ha⟩
   ·have z':=(qa5 hb).symm.trans z
    cases z'
  ·by_cases hb:b=a
   ·exact hb
   ·exact absurd (qa5 hb) z
noncomputable def zeq (s:Stmt):Arguments:=match s with
 | .FunctionDef _ a _ _ _ _ _ _ _ _=>a
 | _=>{posonlyargs:=[],args:=[],vararg:=none,kwonlyargs:=[],kw_defaults:=[],kwarg:=none,defaults:=[]}
noncomputable def zcw (s:Stmt):List Stmt:=match s with
 | .FunctionDef _ _ b _ _ _ _ _ _ _=>b
 | _=>[]
noncomputable def zae (s:Stmt):Scope:=match s with
 | .FunctionDef _ _ _ _ _ _ sc _ _ _=>sc
 | _=>{kind:= .function,names:=[],isGenerator:=false,isCoroutine:=false}
noncomputable abbrev CX0:CXT:=fun _ _ _ _ _ _=>False
noncomputable abbrev E0:XK:=fun _ _ _=>False
theorem zka {X:Cx}:zbW CX0 X E0:=fun _ _ _ _ _ _ _ h=>h.elim
structure Fun (K:W.Frag) (x qual:Str) (st:Stmt) (f:Addr) (fd:FuncData):Prop where
 ex: ∃ (oc:Value) (od:Option Addr) (kV doc pm:Value) (an:Option Addr) (cdv ct:Value) (osl:Array (Option Value)),
  fd=W.fnOf x qual (zeq st) (zcw st) (zae st) .none kV doc pm an cdv ct/\K.lookup f=some ⟨oc,od,.func fd,osl⟩/\W.codeIn K cdv qual=true
 kp:W.keepIn K (.ref f)=true
section
variable {P:Program} {w:World} {K:W.Frag} {mg:Str->Option Value} {base:Heap}
theorem Fun.ok {x qual:Str} {st:Stmt} {f:Addr} {fd:FuncData} {N ps:List Str} {k:Nat} {sp:Sp} (F:Fun K x qual st f fd) (S:zap N ps (zae st)) (len: ∀ vs H Q E,sp vs H Q E->vs.length=ps.length)
  (hbody: ∀ (cdv:Value) (A:Around) (outer:List Env) (s:Shared) (H:Hp) (vs:List V) (Q:VK) (E:XK),zcn k (A.deeper (envOfC qual (zae st) s.heap.objs.size f cdv))->sp vs H Q E->
    ∃ t,PSs (zij CX0 P w K mg base N qual (zae st) f cdv A outer s H E).nox (zcw st) t/\t {nx:=fun _ H'=>Q .non H',rt:=Q} (zev N vs) H):zbh P w K mg base CX0 (k+1) f fd ps sp:=by
 obtain ⟨oc,od,kV,doc,pm,an,cdv,ct,osl,rfl,lk,hcd⟩:=F.ex
 refine zrX lk hcd S len fun A outer s H vs Q E hr hsp=> ?_
 obtain ⟨t,h,q⟩:=hbody cdv A outer s H vs Q E hr hsp
 exact ⟨t,h.nox,q⟩
theorem Fun.binds {x qual:Str} {st:Stmt} {f:Addr} {fd:FuncData} {ps:List Str} (F:Fun K x qual st f fd)
  (h: ∀ (kV doc pm:Value) (an:Option Addr) (cdv ct:Value) (us:List Value),us.length=ps.length->bindArgs (W.fnOf x qual (zeq st) (zcw st) (zae st) .none kV doc pm an cdv ct) ⟨us,[]⟩=pure (ps.zip us)):zav K fd ps []:=by
 obtain ⟨oc,od,kV,doc,pm,an,cdv,ct,osl,rfl,lk,hcd⟩:=F.ex
 exact .all (h kV doc pm an cdv ct)
theorem zaA {x qual:Str} {st:Stmt} {f:Addr} {oc:Value} {od an:Option Addr} {osl:Array (Option Value)} {kV doc pm cdv ct:Value} (l:K.lookup f=some ⟨oc,od,.func (W.fnOf x qual (zeq st) (zcw st) (zae st) .none kV doc pm an cdv ct),osl⟩)
  (c:W.codeIn K cdv qual=true) (k:W.keepIn K (.ref f)=true):Fun K x qual st f (W.fnOf x qual (zeq st) (zcw st) (zae st) .none kV doc pm an cdv ct):=⟨⟨oc,od,kV,doc,pm,an,cdv,ct,osl,rfl,l,c⟩,k⟩
end
section
variable {X:Cx}
theorem pv (i:Nat) {x:Str} {pos:Pos} (hN:X.N[i]? = some x:=by rfl) (hv:Vis X.env.scope x:=by first | exact Or.inl rfl | exact Or.inr (Or.inl rfl) | exact Or.inr (Or.inr rfl)) (hd:(x==("__debug__":Str))=false:=by decide)
  (hcd:(x==("__classdict__":Str))=false:=by decide):PE X (.Name x pos) (zuY i):=zoK hN hv hd hcd
end
theorem zpM {A B:Prop} (h:B):if false=true then A else B:=by
 rw [qa5 Bool.false_ne_true]
 exact h
theorem zpW {A B:Prop} (h:A):if true=true then A else B:=by
 rw [qa4 rfl]
 exact h
def zmJ (H H':Hp):Prop:= ∀ b o,H b=some o->H' b=some o
theorem zmJ.refl (H:Hp):zmJ H H:=fun _ _ h=>h
theorem zmJ.trans {H H1 H2:Hp} (a:zmJ H H1) (b:zmJ H1 H2):zmJ H H2:=fun c o h=>b c o (a c o h)
theorem zmJ.free {H H':Hp} (e:zmJ H H') {l:Addr} (h:H' l=Option.none):H l=Option.none:=by
 cases q:H l with
 | none=>rfl
 | some o=>
  rw [e l o q] at h
  cases h
theorem zmJ.seq {K:W.Frag} {H H':Hp} {a:Addr} {xs:List V} (e:zmJ H H') (h:SqL K H a xs):SqL K H' a xs:=by
 rcases h with (h | ⟨o,h⟩) | h
 ·exact .inl (.inl (e _ _ h))
 ·exact .inl (.inr ⟨o,e _ _ h⟩)
 ·exact .inr h
noncomputable def zbD (cells:List (Str×Addr)):List (Str×NameKind)->List (Str×Addr)->List (Str×Addr)
 | [],acc=>acc
 | (n,k)::r,acc=>if k== .free then zbD cells r ((n,(cells.lookup n).getD 0)::acc) else zbD cells r acc
theorem zej {scope:Scope} {env:Env} (h: ∀ x∈scope.names,x.2= .free-> ∃ c,env.cells.lookup x.1=some c):closureFor scope env=pure (zbD env.cells scope.names []):=by
 simp only [closureFor]
 generalize hn:scope.names=names at h
 clear hn
 generalize hacc:([]:List (Str×Addr))=acc
 clear hacc
 have key: ∀ (names:List (Str×NameKind)) (acc:List (Str×Addr)),(∀ x∈names,x.2= .free-> ∃ c,env.cells.lookup x.1=some c)->
   (forIn (m:=Sem) names acc fun (x:Str×NameKind) (r:List (Str×Addr))=>(match x with
     | (name,kind)=>if (kind==NameKind.free)=true then do
         let a<-cellOf env name
         pure (ForInStep.yield ((name,a)::r))
       else pure (ForInStep.yield r)))=pure (zbD env.cells names acc):=by
  intro names
  induction names with
  | nil=>intro acc _;rfl
  | cons x r ih=>
   intro acc h
   obtain ⟨n,k⟩:=x
   rw [List.forIn_cons]
   unfold zbD
   by_cases hk:(k==NameKind.free)=true
   ·simp only [hk,if_true]
    obtain ⟨c,hc⟩:=h (n,k) qau (by simpa using hk)
    have e:cellOf env n=pure c:=by unfold cellOf;rw [show env.cells.lookup n=some c from hc]
    rw [e,show (env.cells.lookup n).getD 0=c by rw [show env.cells.lookup n=some c from hc];rfl]
    exact ih _ fun y hy=>h y (qan _ hy)
   ·simp only [hk,if_false]
    exact ih _ fun y hy=>h y (qan _ hy)
 have k:=key names acc h
 refine Eq.trans (congrArg (fun (z:Sem (List (Str×Addr)))=>z>>=fun r=>pure r) k) ?_
 rfl
theorem zew {cells:List (Str×Addr)}: ∀ {names:List (Str×NameKind)} {acc:List (Str×Addr)} {n:Str} {c:Addr},(n,c)∈zbD cells names acc->
  (n,c)∈acc\/((n,NameKind.free)∈names/\c=(cells.lookup n).getD 0)
 | [],_,_,_,h=> .inl h
 | (y,k)::r,acc,n,c,h=>by
  unfold zbD at h
  by_cases hk:(k==NameKind.free)=true
  ·rw [qa4 hk] at h
   have ek:k= .free:=by simpa using hk
   subst ek
   rcases zew h with h | ⟨h1,h2⟩
   ·rcases qaP.mp h with e | h
    ·cases e
     exact .inr ⟨qau,rfl⟩
    ·exact .inl h
   ·exact .inr ⟨qan _ h1,h2⟩
  ·rw [qa5 hk] at h
   rcases zew h with h | ⟨h1,h2⟩
   ·exact .inl h
   ·exact .inr ⟨qan _ h1,h2⟩
theorem zdW {cells:List (Str×Addr)} {x:Str} {c:Addr} (hc:cells.lookup x=some c): ∀ (names:List (Str×NameKind)) (acc:List (Str×Addr)),((x,NameKind.free)∈names\/acc.lookup x=some c)->(zbD cells names acc).lookup x=some c
 | [],acc,h=>h.elim (fun z=>nomatch z) id
 | (y,k)::r,acc,h=>by
  unfold zbD
  by_cases hk:(k==NameKind.free)=true
  ·rw [qa4 hk]
   refine zdW hc r _ ?_
   by_cases hy:x=y
   ·subst hy
    exact .inr (by rw [List.lookup_cons,beq_self_eq_true,hc];rfl)
   ·rcases h with h | h
    ·rcases qaP.mp h with e | h
     ·cases e;exact absurd rfl hy
     ·exact .inl h
    ·refine .inr ?_
     rw [List.lookup_cons,show (x==y)=false by simpa using hy]
     exact h
  ·rw [qa5 hk]
   refine zdW hc r _ ?_
   rcases h with h | h
   ·rcases qaP.mp h with e | h
    ·cases e;exact absurd rfl hk
    ·exact .inl h
   ·exact .inr h
theorem zcZ: ∀ {names:List (Str×NameKind)} {n:Nat} {acc:List (Str×Addr)} {x:Str} {c:Addr},(x,c)∈cellsFrom n names acc->(x,c)∈acc\/(n<=c/\(x,NameKind.cell)∈names)
 | [],_,_,_,_,h=> .inl h
 | (y,k)::r,n,acc,x,c,h=>by
  unfold cellsFrom at h
  by_cases hk:(k==NameKind.cell)=true
  ·rw [qa4 hk] at h
   have ek:k= .cell:=by simpa using hk
   subst ek
   rcases zcZ h with h | ⟨h,h'⟩
   ·rcases qaP.mp h with e | h
    ·cases e;exact .inr ⟨qaV _,qau⟩
    ·exact .inl h
   ·exact .inr ⟨Nat.le_of_succ_le h,qan _ h'⟩
  ·rw [qa5 hk] at h
   rcases zcZ h with h | ⟨h,h'⟩
   ·exact .inl h
   ·exact .inr ⟨h,qan _ h'⟩
theorem zci {x:Str} {c:Addr}: ∀ (names:List (Str×NameKind)) (n:Nat) (acc:List (Str×Addr)),(x,NameKind.cell)∉names->acc.lookup x=some c->(cellsFrom n names acc).lookup x=some c
 | [],_,_,_,h=>h
 | (y,k)::r,n,acc,hn,h=>by
  unfold cellsFrom
  by_cases hk:(k==NameKind.cell)=true
  ·rw [qa4 hk]
   have ek:k= .cell:=by simpa using hk
   subst ek
   refine zci r _ _ (fun z=>hn (qan _ z)) ?_
   have hy:x≠y:=fun e=>hn (by rw [e];exact qau)
   rw [List.lookup_cons,show (x==y)=false by simpa using hy]
   exact h
  ·rw [qa5 hk]
   exact zci r _ _ (fun z=>hn (qan _ z)) h
theorem zcm: ∀ (names:List (Str×NameKind)) (n:Nat) (acc:List (Str×Addr)),(∀ x c,(x,c)∈acc->c<n)->(acc.Pairwise fun x y=>x.2≠y.2)->(cellsFrom n names acc).Pairwise fun x y=>x.2≠y.2
 | [],_,_,_,h=>h
 | (y,k)::r,n,acc,hlt,h=>by
  unfold cellsFrom
  by_cases hk:(k==NameKind.cell)=true
  ·rw [qa4 hk]
   refine zcm r (n+1) _ (fun x c hm=> ?_) (qay.mpr ⟨fun z hz e=> ?_,h⟩)
   ·rcases qaP.mp hm with e | hm
    ·cases e;exact Nat.lt_succ_self _
    ·exact Nat.lt_succ_of_lt (hlt x c hm)
   ·have:=hlt z.1 z.2 hz
    have e':n=z.2:=e
    exact qaN _ (e'▸this)
  ·rw [qa5 hk]
   exact zcm r n acc hlt h
noncomputable def zpy (env:Env) (scope:Scope) (C:Addr):Env:=
 {scope:=relabel scope env,locals:=C,globals:=env.globals,cells:=cellsFrom (C+1) scope.names (zbD env.cells scope.names []),qual:=env.qual,func:=none,code:=env.code,frame:=env.frame,builtins:=env.builtins}
section
variable {M:Model} {A:Around} {E:Value->Shared->Prop} {s:Shared}
theorem zf1 {scope:Scope} {env:Env} {cl:List (Str×Addr)} {Q:Env->Shared->Prop}
  (hQ: ∀ h',(∀ b o,s.heap.get? b=some o->h'.get? b=some o)->h'.Ns s.heap.objs.size (fun _=>none)->(∀ x c,(x,NameKind.cell)∈scope.names->(x,c)∈cellsFrom (s.heap.objs.size+1) scope.names cl->(x,c)∉cl->h'.IsCell c none)->
    Q {scope,locals:=s.heap.objs.size,globals:=env.globals,cells:=cellsFrom (s.heap.objs.size+1) scope.names cl,qual:=env.qual,func:=none,code:=env.code,frame:=env.frame,builtins:=env.builtins} {s with heap:=h'}):
  wpAny M A (newFunctionEnv scope env.globals cl [] env.qual none .none (some env)) Q E s:=by
 simp only [newFunctionEnv,Option.isSome_some,if_true]
 refine qaW (wpAny_alloc ?_)
 refine qaW (wpAny_layCells _ (fun name kind cells=>by cases hkc:kind==NameKind.cell<;>simp [hkc]) _ _ _ _ ?_)
 simp only [List.forIn_nil]
 refine qaW (qaX (qaX ?_))
 rw [show ({s with heap:=s.heap.push {cls:= .type "dict",data:= .dict #[]}}:Shared).heap.objs.size=s.heap.objs.size+1 from qaL ..]
 have key: ∀ (names:List (Str×NameKind)) (h:Heap) (acc:List (Str×Addr)) (x:Str) (c:Addr),(x,c)∈cellsFrom h.objs.size names acc->(x,c)∉acc->(pushCells h names).IsCell c none:=by
  intro names
  induction names with
  | nil=>intro h acc x c hm hn;exact absurd hm hn
  | cons y r ih=>
   intro h acc x c hm hn
   obtain ⟨n,k⟩:=y
   unfold cellsFrom at hm
   unfold pushCells
   by_cases hk:(k==NameKind.cell)=true
   ·rw [qa4 hk] at hm ⊢
    by_cases hin:(x,c)∈((n,h.objs.size)::acc)
    ·rcases qaP.mp hin with e | e
     ·cases e
      exact ⟨_,pushCells_keeps _ _ _ _ (qar _ rfl),rfl⟩
     ·exact absurd e hn
    ·refine ih (h.push {cls:= .type "cell",data:= .cell none}) ((n,h.objs.size)::acc) x c ?_ hin
     rw [qaL]
     exact hm
   ·rw [qa5 hk] at hm ⊢
    exact ih h acc x c hm hn
 refine hQ _ (fun b o e=>pushCells_keeps _ _ b o (qag _ e)) ((Heap.Ns.new s.heap (.type "dict")).keeps (pushCells_keeps _ _)) fun x c _ hm hn=> ?_
 refine key scope.names _ cl x c ?_ hn
 rw [qaL]
 exact hm
end
section
variable {prog:Program} {w:World} {A:Around} {E:Value->Shared->Prop} {R:Result->Shared->Prop} {s:Shared}
theorem zib {elt target iter:Expr} {ifs:List Expr} {scope:Scope} {pos:Pos} {it acc:Value} {env:Env} (I:Nat->Shared->Prop)
  (turn: ∀ n s,I n s->wpAny (model prog w) A (pyNext it) (fun r s₁=>match r with
    | none=>R (.ok .next) s₁
    | some v=>wpAny (model prog w) A (letOwnedTupleGo target it v) (fun _ s₁'=>wpAny (model prog w) A (assign target env v) (fun _ s₂=>
        wpAny (model prog w) A (forIn ifs true fun c r=>if r=true then do let ok<-isTrue c env (eval c env);pure (ForInStep.yield ok) else pure (ForInStep.yield r)) (fun ok s₃=>
          if ok=true then wpAny (model prog w) A (eval elt env) (fun x s₄=>
            wpAny (model prog w) A (call (.builtin "list.append") [acc,x]) (fun _ s₅=> ∃ m,m<n/\I m s₅) (fun _ _=>False) s₄) (fun _ _=>False) s₃
          else ∃ m,m<n/\I m s₃) (fun _ _=>False) s₂) (fun _ _=>False) s₁') (fun _ _=>False) s₁) (fun _ _=>False) s)
  (n:Nat) (h:I n s):
  codeAny (model prog w) A (.compLoop (.ListComp elt [⟨target,iter,ifs,0⟩] scope pos) 0 it acc env) R s:=by
 refine codeAny_loop rfl I (fun n s hI=> ?_) n h
 show wpAny _ A ((compTurn (.ListComp elt [⟨target,iter,ifs,0⟩] scope pos) 0 it acc env).onRaise (fun x=>do noteFrame x env;theTreesLotGoes x)) _ _ s
 refine wpAny_noted ?_
 rw [compTurn_list]
 refine qaW (wpAny_standAt (qaW (qaZ (turn n s hI) (fun r s₁ h₁=> ?_) fun _ _ h'=>h'.elim)))
 cases r with
 | none=>exact qaX h₁
 | some v=>
  refine qaW (qaZ h₁ (fun _ s₁' h₁'=> ?_) fun _ _ h'=>h'.elim)
  refine qaW (qaZ h₁' (fun _ s₂ h₂=>qaW (qaZ h₂ (fun ok s₃ h₃=> ?_) fun _ _ h'=>h'.elim)) fun _ _ h'=>h'.elim)
  cases ok with
  | false=>exact qaX ⟨rfl,h₃⟩
  | true=>
   exact qaW (qaW (qaZ h₃ (fun x s₄ h₄=>qaW (qaZ h₄ (fun _ s₅ h₅=>qaX (qaX ⟨rfl,h₅⟩)) fun _ _ h'=>h'.elim)) fun _ _ h'=>h'.elim))
end
noncomputable abbrev cxB (X:Cx) (scope:Scope) (N:List Str) (s:Shared) (H:Hp) (fp:List Addr):Cx:=
 {prog:=X.prog,w:=X.w,K:=X.K,mg:=X.mg,base:=X.base,A:=X.A,N:=N,s₀:=s,H₀:=H,env:=zpy X.env scope s.heap.objs.size,outer:=X.stack,stack:=X.stack,ex:=fp,
   fn:=fun x=>scope.names.lookup x==some .cell,calm:=X.calm,pn:=[],xe:=fun _ _=>False}
noncomputable def zoQ (Xn:List (Str×NameKind)) (XN:List Str) (names:List (Str×NameKind)) (N:List Str) (src:List (Option Nat)):Bool:=
 decide N.Nodup && decide (names.map (·.1)).Nodup && (src.length==N.length) &&
 names.all (fun x=>x.2 != .local || names.lookup x.1==some .local) &&
 names.all (fun x=>x.2 != .cell || names.lookup x.1==some .cell) &&
 names.all (fun x=>x.2 != .free || Xn.lookup x.1==some .cell || Xn.lookup x.1==some .free) &&
 (N.zip src).all (fun p=>match p.2 with
   | none=>true
   | some i=>XN[i]? == some p.1 && names.lookup p.1==some .free)
structure BOk (X:Cx) (scope:Scope) (N:List Str) (src:List (Option Nat)):Prop where
 kind:scope.kind= .function
 nd:N.Nodup
 keys:(scope.names.map (·.1)).Nodup
 len:src.length=N.length
 locs: ∀ x∈scope.names,x.2= .local->scope.names.lookup x.1=some .local
 cels: ∀ x∈scope.names,x.2= .cell->scope.names.lookup x.1=some .cell
 free: ∀ x∈scope.names,x.2= .free->X.env.kindOf x.1=some .cell\/X.env.kindOf x.1=some .free
 src: ∀ (k i:Nat) (x:Str),src[k]? = some (some i)->N[k]? = some x->X.N[i]? = some x/\scope.names.lookup x=some .free
theorem BOk.of {X:Cx} {scope:Scope} {N:List Str} {src:List (Option Nat)} {Xn:List (Str×NameKind)} {XN:List Str} (hk:scope.kind= .function) (hX:X.env.scope.names=Xn) (hN:X.N=XN)
  (h:zoQ Xn XN scope.names N src=true):BOk X scope N src:=by
 unfold zoQ at h
 simp only [qaG,qaD,List.all_eq_true,beq_iff_eq] at h
 obtain ⟨⟨⟨⟨⟨⟨h1,h2⟩,h3⟩,h4⟩,h4'⟩,h5⟩,h6⟩:=h
 refine ⟨hk,h1,h2,h3,fun x hx e=> ?_,fun x hx e=> ?_,fun x hx e=> ?_,fun k i x e1 e2=> ?_⟩
 ·have:=h4 x hx
  rw [e] at this
  simpa using this
 ·have:=h4' x hx
  rw [e] at this
  simpa using this
 ·have:=h5 x hx
  rw [e] at this
  unfold Env.kindOf
  rw [hX]
  simpa using this
 ·have hm:(x,some i)∈N.zip src:=by
   refine List.mem_iff_getElem?.mpr ⟨k,?_⟩
   rw [List.getElem?_zip_eq_some]
   exact ⟨e2,e1⟩
  have:=h6 _ hm
  dsimp only at this
  simp only [qaG,beq_iff_eq] at this
  rw [hN]
  exact this
noncomputable def bStart (src:List (Option Nat)) (σ:St):St:=src.map fun o=>o.bind fun i=>(σ[i]?).join
theorem zfY {scope:Scope} {env:Env} {x:Str}:(relabel scope env).names.lookup x=(scope.names.lookup x).map fun k=>if (k== .free && env.scope.kind== .function && env.kindOf x==some .cell) then .cell else k:=by
 show List.lookup x (scope.names.map _)=_
 induction scope.names with
 | nil=>rfl
 | cons y r ih=>
  obtain ⟨n,k⟩:=y
  rw [qaM]
  dsimp only
  by_cases hx:x=n
  ·subst hx
   by_cases hc:(k==NameKind.free && env.scope.kind== .function && env.kindOf x==some .cell)=true
   ·rw [qa4 hc,List.lookup_cons,List.lookup_cons,beq_self_eq_true]
    dsimp only [Option.map]
    rw [qa4 hc]
   ·rw [qa5 hc,List.lookup_cons,List.lookup_cons,beq_self_eq_true]
    dsimp only [Option.map]
    rw [qa5 hc]
  ·have hb:(x==n)=false:=by simpa using hx
   by_cases hc:(k==NameKind.free && env.scope.kind== .function && env.kindOf n==some .cell)=true
   ·rw [qa4 hc,List.lookup_cons,List.lookup_cons,hb]
    exact ih
   ·rw [qa5 hc,List.lookup_cons,List.lookup_cons,hb]
    exact ih
section
variable {X:Cx} {pins:List (Addr×Obj)} {σ:St} {H:Hp} {s:Shared} {scope:Scope} {N:List Str} {src:List (Option Nat)} {fp:List Addr}
theorem zqD (I:Inv X pins σ H s) (B:BOk X scope N src) {x:Str} {c:Addr} (h:(x,c)∈zbD X.env.cells scope.names []):X.env.cells.lookup x=some c/\(x,NameKind.free)∈scope.names:=by
 rcases zew h with z | ⟨z,e⟩
 ·exact nomatch z
 ·obtain ⟨c',hc⟩:=I.ok.has x (B.free _ z rfl)
  rw [hc] at e
  exact ⟨by rw [hc,e];rfl,z⟩
theorem zig {l:List (Str×NameKind)} (h:(l.map (·.1)).Nodup) {x:Str} {j k:NameKind} (a:(x,j)∈l) (b:(x,k)∈l):j=k:=by
 induction l with
 | nil=>exact nomatch a
 | cons y r ih=>
  obtain ⟨h1,h2⟩:=List.nodup_cons.mp (show (y.1::r.map (·.1)).Nodup from h)
  rcases qaP.mp a with e | a<;>rcases qaP.mp b with e' | b
  ·rw [<- e] at e';cases e';rfl
  ·exact absurd (qaU.mpr ⟨_,b,by rw [<- e]⟩) h1
  ·exact absurd (qaU.mpr ⟨_,a,by rw [<- e']⟩) h1
  ·exact ih h2 a b
theorem zeC (I:Inv X pins σ H s): ∀ (names:List (Str×NameKind)) (acc:List (Str×Addr)),(∀ x∈names,x.2= .free-> ∃ c,X.env.cells.lookup x.1=some c)->(names.map (·.1)).Nodup->(∀ x c,(x,c)∈acc->X.env.cells.lookup x=some c/\x∉names.map (·.1))->
  (acc.Pairwise fun x y=>x.2≠y.2)->(zbD X.env.cells names acc).Pairwise fun x y=>x.2≠y.2
 | [],_,_,_,_,h=>h
 | (n,k)::r,acc,hf,nd,ha,h=>by
  unfold zbD
  obtain ⟨h1,h2⟩:=List.nodup_cons.mp (show (n::r.map (·.1)).Nodup from nd)
  by_cases hk:(k==NameKind.free)=true
  ·rw [qa4 hk]
   obtain ⟨c,hc⟩:=hf (n,k) qau (by simpa using hk)
   have hc:X.env.cells.lookup n=some c:=hc
   rw [show (X.env.cells.lookup n).getD 0=c by rw [hc];rfl]
   refine zeC I r _ (fun x hx=>hf x (qan _ hx)) h2 (fun x c' hm=> ?_) (qay.mpr ⟨fun y hy e=> ?_,h⟩)
   ·rcases qaP.mp hm with e | hm
    ·cases e;exact ⟨hc,h1⟩
    ·exact ⟨(ha x c' hm).1,fun z=>(ha x c' hm).2 (qan _ z)⟩
   ·obtain ⟨q1,q2⟩:=ha y.1 y.2 hy
    have e':c=y.2:=e
    rw [<- e'] at q1
    have:=I.ok.inj _ _ _ hc q1
    exact q2 (by rw [<- this];exact qau)
  ·rw [qa5 hk]
   exact zeC I r acc (fun x hx=>hf x (qan _ hx)) h2 (fun x c' hm=>⟨(ha x c' hm).1,fun z=>(ha x c' hm).2 (qan _ z)⟩) h
theorem zkE (I:Inv X pins σ H s) (B:BOk X scope N src) (hf: ∀ b∈fp,zjH X pins H b) (hfo: ∀ b∈fp, ∃ o,s.heap.get? b=some o) {h':Heap} (hk: ∀ b o,s.heap.get? b=some o->h'.get? b=some o) (hns:h'.Ns s.heap.objs.size (fun _=>none))
  (hce: ∀ x c,(x,NameKind.cell)∈scope.names->(x,c)∈cellsFrom (s.heap.objs.size+1) scope.names (zbD X.env.cells scope.names [])->(x,c)∉zbD X.env.cells scope.names []->h'.IsCell c none):
  Inv (cxB X scope N s H fp) [] (bStart src σ) H {s with heap:=h'}:=by
 have cin: ∀ {x:Str} {c:Addr},(x,c)∈zbD X.env.cells scope.names []->X.env.cells.lookup x=some c/\(x,NameKind.free)∈scope.names:=fun h=>zqD I B h
 have old: ∀ {x:Str} {c:Addr},X.env.cells.lookup x=some c->c<s.heap.objs.size:=fun {x c} h=>(let ⟨_,q⟩:=I.cell x c h;q.lt)
 have all: ∀ {x:Str} {c:Addr},(x,c)∈cellsFrom (s.heap.objs.size+1) scope.names (zbD X.env.cells scope.names [])->(X.env.cells.lookup x=some c/\(x,NameKind.free)∈scope.names)\/(s.heap.objs.size<c/\(x,NameKind.cell)∈scope.names):=fun {x c} h=>by
  rcases zcZ h with z | ⟨z,z'⟩
  ·exact .inl (cin z)
  ·exact .inr ⟨z,z'⟩
 have lk: ∀ {x:Str} {c:Addr},(zpy X.env scope s.heap.objs.size).cells.lookup x=some c->(x,c)∈cellsFrom (s.heap.objs.size+1) scope.names (zbD X.env.cells scope.names []):=fun h=>PySem.mem_of_lookup h
 have hasF: ∀ x∈scope.names,x.2= .free-> ∃ c,X.env.cells.lookup x.1=some c:=fun x hx e=>I.ok.has x.1 (B.free x hx e)
 have ap:(cellsFrom (s.heap.objs.size+1) scope.names (zbD X.env.cells scope.names [])).Pairwise fun x y=>x.2≠y.2:=
  zcm _ _ _ (fun x c hm=>Nat.lt_succ_of_lt (old (cin hm).1)) (zeC I scope.names [] hasF B.keys (fun _ _ z=>nomatch z) .nil)
 have outer: ∀ {x:Str} {c:Addr},(x,NameKind.free)∈scope.names->X.env.cells.lookup x=some c->(zpy X.env scope s.heap.objs.size).cells.lookup x=some c:=fun {x c} h1 h2=>
  zci _ _ _ (fun z=>nomatch zig B.keys h1 z) (zdW h2 scope.names [] (.inl h1))
 have kinds: ∀ x,(zpy X.env scope s.heap.objs.size).kindOf x=(scope.names.lookup x).map fun k=>if (k== .free && X.env.scope.kind== .function && X.env.kindOf x==some .cell) then .cell else k:=fun x=>zfY
 have ckind: ∀ x,((zpy X.env scope s.heap.objs.size).kindOf x=some .cell\/(zpy X.env scope s.heap.objs.size).kindOf x=some .free)->scope.names.lookup x=some .cell\/scope.names.lookup x=some .free:=fun x h=>by
  rw [kinds x] at h
  cases e:scope.names.lookup x with
  | none=>rw [e] at h;simp at h
  | some k=>
   rw [e] at h
   cases k<;>simp at h ⊢
 refine ⟨⟨I.ok.mod,B.kind,I.ok.glob,I.ok.blt,qaV _,fun x y c h1 h2=>name_of_addr ap (lk h1) (lk h2),fun x hx=> ?_,fun x c hfn hx=> ?_,I.ok.hd,I.handA,I.ok.frames,.inl rfl,fun b hb=> ?_,I.bs,qaS I.ok.bsz I.sz,fun b o e hb=> ?_,fun b hb hb'=> ?_,I.stack,I.stkFree⟩,
   rfl,I.bare,Un.kept hk,⟨_,hns,fun i x v h1 h2 h3=> ?_⟩,fun x c h=> ?_,I.hok.fresh (qaV _),fun x c h=> ?_,fun p hp=>absurd (show p∈([]:List (Addr×Obj)) from hp) (by simp),I.hok.kept hk,?_⟩
 ·-- has
  rcases ckind x hx with h | h
  ·exact Option.isSome_iff_exists.mp (W.cellsFrom_some scope.names _ _ (.inl h))
  ·have hm:=PySem.mem_of_lookup h
   obtain ⟨c,hc⟩:=hasF _ hm rfl
   exact ⟨c,outer hm hc⟩
 ·-- cab
  have hfn:scope.names.lookup x=some .cell:=by simpa using hfn
  rcases all (lk hx) with ⟨_,z⟩ | ⟨z,_⟩
  ·exact absurd (zig B.keys z (PySem.mem_of_lookup hfn)) (by decide)
  ·exact Nat.le_of_lt z
 ·-- exf
  obtain ⟨o,ho⟩:=hfo b hb
  refine ⟨qaR (qaQ ho),fun x c hx z=> ?_⟩
  rcases all (lk hx) with ⟨q,_⟩ | ⟨q,_⟩
  ·exact (hf b hb).2.2.2.2.1 x c q z
  ·have:=qaQ ho
   rw [<- z] at this
   exact qaN _ (Nat.lt_trans q this)
 ·-- noex
  rcases (hf b hb).2.2.2.1 with z | z
  ·exact I.ok.noex b o e z
  ·exact qaN _ (qaw (qaw (qaQ e) I.ok.bsz) z)
 ·-- exfs
  rcases qaP.mp (I.stkSub b hb') with z | z
  ·exact (hf b hb).2.1 z
  ·exact (hf b hb).2.2.1 z
 ·-- loc
  unfold bStart at h2
  rw [List.getElem?_map] at h2
  cases e:src[i]? with
  | none=>rw [e] at h2;cases h2
  | some o=>
   rw [e] at h2
   cases o with
   | none=>cases h2
   | some j=>
    have h2:(σ[j]?).join=some v:=by simpa using h2
    have e3:σ[j]? = some (some v):=by
     cases q:σ[j]? with
     | none=>rw [q] at h2;cases h2
     | some z=>rw [q] at h2;simp at h2;rw [h2]
    obtain ⟨b1,b2⟩:=B.src i j x e h1
    have hm:=PySem.mem_of_lookup b2
    obtain ⟨m,hn,hl⟩:=I.loc
    have hfr:=B.free _ hm rfl
    obtain ⟨u,r,l⟩:=hl j x v b1 e3 (.inr hfr)
    rcases l with ⟨k,_⟩ | ⟨k,c,hc,q⟩
    ·rcases hfr with z | z<;>(have z':=k.symm.trans z;cases z')
    ·refine ⟨u,r,.inr ⟨?_,c,outer hm hc,q.keeps hk⟩⟩
     rw [kinds x,b2]
     dsimp only [Option.map]
     split
     ·exact .inl rfl
     ·exact .inr rfl
 ·-- cell
  rcases all (lk h) with ⟨q,_⟩ | ⟨q,q'⟩
  ·obtain ⟨v,z⟩:=I.cell x c q
   exact ⟨v,z.keeps hk⟩
  ·exact ⟨none,hce x c q' (lk h) fun z=>absurd (Nat.lt_trans q (old (cin z).1)) (qaN _)⟩
 ·-- freeC
  rcases all (lk h) with ⟨q,_⟩ | ⟨q,q'⟩
  ·exact I.freeC x c q
  ·exact I.hok.fresh (Nat.le_of_lt q)
 ·unfold bStart
  rw [qaH]
  exact B.len
end
def PCs (X:Cx) (ifs:List Expr) (t:TT):Prop:=
 ∀ (pins:List (Addr×Obj)) (s:Shared) (σ:St) (H:Hp) (Q:Bool->Hp->Prop),Inv X pins σ H s->t σ H Q->
  wpAny (model X.prog X.w) X.A (forIn ifs true fun c r=>if r=true then do let ok<-isTrue c X.env (eval c X.env);pure (ForInStep.yield ok) else pure (ForInStep.yield r)) (TP X pins σ Q) X.xe s
noncomputable def zu4:TT:=fun _ H Q=>Q true H
theorem zpN {X:Cx}:PCs X [] zu4:=fun pins s σ H Q I h=>wpAny_tests_nil ⟨H,I,h⟩
theorem zqN {X:Cx} {c:Expr} {t:TT} (h:PT X c t):PCs X [c] t:=fun pins s σ H Q I hw=>wpAny_tests_one (h pins s σ H Q I hw)
def ztx (J:It) (g:TG) (tc:TT) (te:TE) (σ0:St) (H1:Hp) (D:Addr) (Q:Hp->Prop):Prop:=
 ∃ W:Nat->Nat->St->Hp->Prop,(∃ m,W 0 m σ0 (upd H1 D (.lst [])))/\ ∀ i m σ' H',W i m σ' H'->
  (J.stop i H'/\Q H')\/(J.go i H'/\ ∃ Nn:St->Hp->Prop,(∀ σ2 H2,Nn σ2 H2-> ∃ m',m'<m/\W (i+1) m' σ2 H2)/\ ∀ x H2,J.yld i H' x H2->g x σ' H2 fun σ2 H3=>tc σ2 H3 fun b H4=>
    if b=true then te σ2 H4 fun y H5=> ∃ xs,H5 D=some (.lst xs)/\xs.length<sizeLine/\Nn σ2 (upd H5 D (.lst (xs++[y]))) else Nn σ2 H4)
section
variable {X:Cx} {scope:Scope} {N:List Str} {src:List (Option Nat)} {tg iter elt:Expr} {ifs:List Expr} {pos:Pos}
theorem zji {pins:List (Addr×Obj)} {σ:St} {H:Hp} {s₂:Shared} {it:Addr} {fp:List Addr} {tn:Nat->Heap->Prop} {J:It} {g:TG} {tc:TT} {te:TE} {Q:Addr->Hp->Prop} {E:Value->Shared->Prop} {RR:Value->Addr->Result->Shared->Prop}
  (B:BOk X scope N src)
  (hg: ∀ s H fp,PG (cxB X scope N s H fp) tg g) (ht: ∀ s H fp,PCs (cxB X scope N s H fp) ifs tc) (he: ∀ s H fp,PE (cxB X scope N s H fp) elt te)
  (I2:Inv X pins σ H s₂) (T:zri X.prog X.w X.K tg J fp it tn) (st2:tn 0 s₂.heap) (f2: ∀ b∈fp,zjH X pins H b) (hw: ∀ D,H D=none->ztx J g tc te (bStart src σ) H D (Q D))
  (hRR: ∀ D C H' s' m,Inv X pins σ H' s'->s'.heap.Ns C m->s₂.heap.objs.size<=C->C<s'.heap.objs.size->H' C=none->Q D H'->RR (.ref D) C (.ok .next) s'):
  wpAny (model X.prog X.w) X.A (newList []) (fun acc s₃=>wpAny (model X.prog X.w) X.A (newFunctionEnv scope X.env.globals (zbD X.env.cells scope.names []) [] X.env.qual none .none (some X.env)) (fun cenv s₄=>
    codeAny (model X.prog X.w) X.A (.compStart (.ListComp elt [⟨tg,iter,ifs,0⟩] scope pos) 0 (.ref it) acc {cenv with scope:=relabel scope X.env}) (RR acc cenv.locals) s₄) E s₃) E s₂:=by
 refine qaC (zf1 fun h₁ hk₁ hns₁ hce₁=> ?_)
 dsimp only at hk₁ hns₁ hce₁ ⊢
 have hfresh:H s₂.heap.objs.size=none:=I2.hok.fresh (qaV _)
 have I3:Inv X pins σ (upd H s₂.heap.objs.size (.lst [])) {s₂ with heap:=s₂.heap.push {cls:= .type "list",dict:=none,data:= .seq ([]:List Value).toArray}}:=by
  have:=I2.lnew (its:=[]) (ys:=[]) (t':=s₂.toks) .nil (Nat.zero_le _)
  exact this
 obtain ⟨W,⟨m0,w0⟩,turn⟩:=hw _ hfresh
 generalize hD:s₂.heap.objs.size=D at*
 generalize hs3:({s₂ with heap:=s₂.heap.push {cls:= .type "list",dict:=none,data:= .seq ([]:List Value).toArray}}:Shared)=s₃ at*
 have hh3:s₂.heap.push {cls:= .type "list",dict:=none,data:= .seq ([]:List Value).toArray}=s₃.heap:=by rw [<- hs3]
 rw [hh3] at hk₁ hns₁ hce₁ ⊢
 have push3: ∀ b o,s₂.heap.get? b=some o->s₃.heap.get? b=some o:=fun b o e=>by rw [<- hs3];exact qag _ e
 have sz3:s₃.heap.objs.size=D+1:=by rw [<- hs3, <-hD];exact qaL ..
 have fpo: ∀ b∈fp, ∃ o,s₂.heap.get? b=some o/\ ∀ v,o.data≠ .cell v:=T.obj _ _ st2
 have fpD: ∀ b∈fp,b≠D:=fun b hb z=>by
  obtain ⟨o,e,_⟩:=fpo b hb
  have:=qaQ e
  rw [z, <-hD] at this
  exact qaN _ this
 have f3: ∀ b∈fp,zjH X pins (upd H D (.lst [])) b:=fun b hb=>⟨by rw [zau (fpD b hb)];exact (f2 b hb).1,(f2 b hb).2⟩
 have I4:Inv (cxB X scope N s₃ (upd H D (.lst [])) fp) [] (bStart src σ) (upd H D (.lst [])) {s₃ with heap:=h₁}:=
  zkE I3 B f3 (fun b hb=>let ⟨o,e,_⟩:=fpo b hb;⟨o,push3 b o e⟩) hk₁ hns₁ hce₁
 have fB: ∀ {H':Hp},(∀ b∈fp,H' b=none)-> ∀ b∈fp,zjH (cxB X scope N s₃ (upd H D (.lst [])) fp) [] H' b:=fun {H'} hn b hb=>
  ⟨hn b hb,(I4.ok.exf b hb).1,I4.ok.exfs b hb,.inl hb,fun x c e=>(I4.ok.exf b hb).2 x c e,fun p hp=>absurd (show p∈([]:List (Addr×Obj)) from hp) (by simp)⟩
 have stat4: ∀ s',s'=({s₃ with heap:=h₁}:Shared)->codeAny (model X.prog X.w) X.A (.compLoop (.ListComp elt [⟨tg,iter,ifs,0⟩] scope pos) 0 (.ref it) (.ref D) (zpy X.env scope s₃.heap.objs.size)) (RR (.ref D) s₃.heap.objs.size) s':=by
  intro s' es
  refine zib (fun n s'=> ∃ i σ' H',Inv (cxB X scope N s₃ (upd H D (.lst [])) fp) [] σ' H' s'/\tn i s'.heap/\(∀ b∈fp,H' b=none)/\W i n σ' H') ?_ m0 ⟨0,_,_,by rw [es];exact I4,by rw [es];exact T.keep _ _ _ st2 fun b hb o e=>hk₁ b o (push3 b o e),fun b hb=>(f3 b hb).1,w0⟩
  rintro n s5 ⟨i,σ5,H5,I5,st5,fr5,w5⟩
  rcases turn i n σ5 H5 w5 with ⟨stop,qn⟩ | ⟨go,Nn,hN,step⟩
  ·refine thn (T.done (cxB X scope N s₃ (upd H D (.lst [])) fp) rfl rfl rfl i [] s5 σ5 H5 _ I5 (fB fr5) st5 stop) fun r s6 ⟨hr,I6⟩=> ?_
   subst hr
   obtain ⟨m,hnC,_⟩:=I6.loc
   have un:=I6.base
   have u2:Un (frs X.stack) fp H H5 s₂.heap s6.heap:=by
    refine Un.trans ?_ un
    have:=Un.laid (fs:=frs X.stack) (ex:=fp) (H:=H) (h:=s₂.heap) (h':=s₃.heap) (a:=D) (o:= .lst []) push3 (Nat.le_of_eq hD) hfresh
    exact this
   refine hRR D _ H5 s6 m (I2.call' (ch:=fp) (by rw [I6.os, <-hs3]) u2 I6.hok I6.bare fun b hb=> ?_) hnC (by rw [sz3];exact Nat.le_succ _) hnC.lt I6.free qn
   obtain ⟨q0,q1,q2,q3,q4,q5⟩:=f2 b hb
   exact ⟨q3,q1,q4,q5⟩
  ·refine thn (T.item (cxB X scope N s₃ (upd H D (.lst [])) fp) rfl rfl rfl i [] s5 σ5 H5 _ I5 (fB fr5) st5 go) fun r s6 ⟨u,hr,h6⟩=> ?_
   subst hr
   refine thn h6 fun _ s7 ⟨x,H7,I7,r7,y7,st7,fr7⟩=> ?_
   have I7':=I7.pinned (fB fr7) (T.obj _ _ st7)
   refine thn (hg _ _ _ _ s7 σ5 H7 x u _ I7' r7 (step x H7 y7)) fun _ s8 ⟨σ8,H8,I8,q8⟩=> ?_
   refine thn (ht _ _ _ _ s8 σ8 H8 _ I8 q8) fun ok s9 ⟨H9,I9,q9⟩=> ?_
   have again: ∀ {σ7:St} {Hz:Hp} {sz:Shared},Inv (cxB X scope N s₃ (upd H D (.lst [])) fp) ([]++zif fp s7.heap) σ7 Hz sz->Nn σ7 Hz-> ∃ m,m<n/\ ∃ i σ' H',Inv (cxB X scope N s₃ (upd H D (.lst [])) fp) [] σ' H' sz/\tn i sz.heap/\(∀ b∈fp,H' b=none)/\W i m σ' H':=fun {σz Hz sz} Iz nz=>by
    obtain ⟨m',hm,wz⟩:=hN _ _ nz
    refine ⟨m',hm,i+1,_,_,Iz.unpinned,T.keep _ _ _ st7 fun b hb o e=>(Iz.pin (b,o) (qak _ (qak _ (zdw hb e)))).1,fun b hb=> ?_,wz⟩
    obtain ⟨o,e,d⟩:=T.obj _ _ st7 b hb
    exact (Iz.pin (b,o) (qak _ (qak _ (zdw hb e)))).2.1
   cases ok with
   | false=>
    rw [qa5 (by decide)] at q9
    rw [qa5 (by decide)]
    exact again I9 q9
   | true=>
    rw [qa4 rfl] at q9
    rw [qa4 rfl]
    refine thn (he _ _ _ _ s9 σ8 H9 _ I9 q9) fun y s10 ⟨yv,H10,I10,ry,xs,e10,z10,q10⟩=> ?_
    refine thn (zh8 (X:=cxB X scope N s₃ (upd H D (.lst [])) fp) _ s10 σ8 H10 (.ref D) [yv] (.ref D) [y] (fun _ Hf=>Nn σ8 Hf) I10 rfl (.cons ry .nil) ⟨D,xs,yv,rfl,rfl,e10,z10,q10⟩) fun _ s11 ⟨_,H11,I11,_,q11⟩=> ?_
    exact again I11 q11
 exact codeAny_compStart_list (stat4 _ (by rw [<- hs3])) (T.self _ 0 _ _ _ (T.keep _ _ _ st2 fun b hb o e=>hk₁ b o (push3 b o e)) (stat4 _ (by rw [<- hs3])))
noncomputable def zn4 (wi:TI) (g:TG) (tc:TT) (te:TE) (src:List (Option Nat)):TE:=fun σ H Q=>wi σ H fun J H1=> ∀ D,H1 D=none->ztx J g tc te (bStart src σ) H1 D fun H'=>Q (.ref D) H'
theorem Inv.letGo {pins:List (Addr×Obj)} {σ:St} {H:Hp} {s:Shared} {C:Addr} {m:Str->Option Value} {h':Heap} (I:Inv X pins σ H s) (hn:s.heap.Ns C m) (hn':H C=none) (hC:X.s₀.heap.objs.size<=C) (hL:C≠X.env.locals) (hp: ∀ p∈X.pn++pins,p.1≠C) (hs:Heap.SameBut C s.heap h'):Inv X pins σ H {s with heap:=h'}:=by
 refine I.turned (t':=s.toks) (it:=C) (fun b o hb e=>(hs.2 b hb).trans e) hn' hL (.inr hC) (fun x c e z=> ?_) hp
 obtain ⟨v,o,ho,hd⟩:=I.cell x c e
 obtain ⟨o',es,ep,ho',hd',_⟩:=hn
 rw [z,ho'] at ho
 cases ho
 rw [hd'] at hd
 cases hd
theorem zl2 {wi:TI} {g:TG} {tc:TT} {te:TE} (B:BOk X scope N src) (hi:PI X tg iter wi)
  (hg: ∀ s H fp,PG (cxB X scope N s H fp) tg g) (ht: ∀ s H fp,PCs (cxB X scope N s H fp) ifs tc) (he: ∀ s H fp,PE (cxB X scope N s H fp) elt te)
  (hs: ∀ x,foldedSetIterable iter X.env x=pure x:=by intro _;rfl):PE X (.ListComp elt [⟨tg,iter,ifs,0⟩] scope pos) (zn4 wi g tc te src):=by
 intro pins s σ H Q I h
 rw [eval_ListComp]
 refine wpAny_comprehension_free (use:=none) rfl hs (zej fun x hx e=>I.ok.has x.1 (B.free x hx e)) B.kind B.locs ?_
 refine thn (hi pins s σ H _ I h) fun v s1 h1=>thn h1 fun itv s2 h2=> ?_
 obtain ⟨it,fp,tn,J,H2,e,I2,T,st2,f2,hw⟩:=h2
 subst e
 refine zji (RR:=fun acc C=>compPost (model X.prog X.w) X.A X.xe none (EP X pins σ Q) acc C) (Q:=fun D H'=>Q (.ref D) H') B hg ht he I2 T st2 f2 hw ?_
 intro D C H' s' m I' hn hC hCs hf q
 refine ⟨m,hn,fun h' hs'=>⟨.ref D,H',I'.letGo hn hf (qaS I2.sz hC) (fun z=> ?_) (fun p hp z=> ?_) hs',rfl,q⟩⟩
 ·exact qaN _ (qaw (z▸I2.lt) hC)
 ·have:=qaQ (I2.pin p hp).1
  rw [z] at this
  exact qaN _ (qaw this hC)
theorem zjT {wi:TI} {g:TG} {tc:TT} {te:TE} {i:Nat} {y:Str} {py spos:Pos} (B:BOk X scope N src) (hi:PI X tg iter wi)
  (hg: ∀ s H fp,PG (cxB X scope N s H fp) tg g) (ht: ∀ s H fp,PCs (cxB X scope N s H fp) ifs tc) (he: ∀ s H fp,PE (cxB X scope N s H fp) elt te)
  (hN:X.N.Nodup) (hy:X.N[i]? = some y) (hx:Loc X.env.scope y) (hsw:swapsWith (.ListComp elt [⟨tg,iter,ifs,0⟩] scope pos) (some (.Name y py)) spos.line X.env=pure true)
  (hf:X.fn y=true\/X.env.scope.names.lookup y=some .local:=by first | exact .inl rfl | exact .inr rfl | assumption)
  (hs: ∀ x,foldedSetIterable iter X.env x=pure x:=by intro _;rfl):PS X (.Assign [.Name y py] (.ListComp elt [⟨tg,iter,ifs,0⟩] scope pos) spos) (zul (zn4 wi g tc te src) (zq7 i)):=by
 intro pins s σ H D0 I h
 rw [exec_Assign_Name_used _ _ _ _ hsw]
 refine qaW (wpAny_standAt (qaW ?_))
 show wpAny _ X.A (do let _<-comprehension (.ListComp elt [⟨tg,iter,ifs,0⟩] scope pos) scope X.env _ (newList []) false (eval iter X.env) (some (assign (.Name y py) X.env))) _ _ s
 refine qaW (qaZ (wpAny_comprehension_free (use:=some (assign (.Name y py) X.env)) (Q:=fun _ s'=>SP X pins D0 .next s') rfl hs (zej fun x hx e=>I.ok.has x.1 (B.free x hx e)) B.kind B.locs ?_)
   (fun _ s' hq=>qaX (qaX hq)) fun _ _ e=>e)
 refine thn (hi pins s σ H _ I h) fun v s1 h1=>thn h1 fun itv s2 h2=> ?_
 obtain ⟨it,fp,tn,J,H2,e,I2,T,st2,f2,hw⟩:=h2
 subst e
 refine zji (RR:=fun acc C=>compPost (model X.prog X.w) X.A X.xe (some (assign (.Name y py) X.env)) (fun _ s'=>SP X pins D0 .next s') acc C) (Q:=fun D H'=>D0.nx (σ.set i (some (.ref D))) H') B hg ht he I2 T st2 f2 hw ?_
 intro D C H' s' m I' hn hC hCs hf' q
 show wpAny _ X.A (assign (.Name y py) X.env (.ref D)) _ _ _
 have hCL:C≠X.env.locals:=fun z=>qaN _ (qaw (z▸I2.lt) hC)
 have hCp: ∀ p∈X.pn++pins,p.1≠C:=fun p hp z=>by
  have:=qaQ (I2.pin p hp).1
  rw [z] at this
  exact qaN _ (qaw this hC)
 have hCc: ∀ x c,X.env.cells.lookup x=some c->c≠C:=fun x c e z=>by
  obtain ⟨v,hv⟩:=I2.cell x c e
  exact qaN _ (qaw (z▸hv.lt) hC)
 obtain ⟨oC,es,ep,hoC,hdC,hrest⟩:=hn
 have hCfs:C∉X.fs:=I2.nofs hC
 have Ip:Inv X (pins++[(C,oC)]) σ H' s':=I'.pins_of fun p hp=>by
  rcases qaK.mp hp with z | z
  ·exact I'.pin p (qak _ z)
  ·obtain rfl:p=(C,oC):=by simpa using z
   exact ⟨hoC,hf',hCL,hCfs,fun v z=>by have z':=hdC.symm.trans z;cases z'⟩
 refine wpAny_assign_Name (zeU Ip hN hy hx (v:= .ref D) rfl (fun s3 I3=> ?_) hf)
 have hC3:=(I3.pin (C,oC) (by simp)).1
 refine ⟨m,⟨oC,es,ep,hC3,hdC,hrest⟩,fun h' hs'=> ?_⟩
 exact ⟨_,H',(I3.unpinned).letGo ⟨oC,es,ep,hC3,hdC,hrest⟩ hf' (qaS I2.sz hC) hCL hCp hs',q⟩
end
end L2
namespace L3
open PySem PySem.Spec PyProof.Rows L2
inductive D where
 | non | bl (b:Bool) | int (i:Int) | str (x:Str) | tup (xs:List D) | lst (xs:List D) | cel (n:Nat) | set (xs:List Int) | dct | fn (a:Addr) | scr (xs:List D) | exn (c:String)
inductive C where
 | lst (xs:List D) | dic (kvs:List (Int×D)) | dit (ks:List (List Int)) | ins (c:String) (fs:List (Str×D)) | dead
noncomputable abbrev Hh:=List C
structure Io where
 c:List (Option Addr)
 x:List Addr
def Io.Has (ι:Io) (a:Addr):Prop:=some a∈ι.c\/a∈ι.x
inductive R (α:Type) where
 | ok (a:α) (h:Hh) | exc (c:String) (h:Hh) | bad
noncomputable def M (α:Type):=Hh->R α
@[inline] noncomputable def M.bind {α β:Type} (m:M α) (f:α->M β):M β:=fun h=>match m h with
 | .ok a h'=>f a h'
 | .exc c h'=> .exc c h'
 | .bad=> .bad
@[inline] noncomputable def M.pure {α:Type} (a:α):M α:=fun h=> .ok a h
noncomputable instance:Monad M where
 pure:=M.pure
 bind:=M.bind
noncomputable def M.bad {α:Type}:M α:=fun _=> .bad
def KL (K:W.Frag) (a:Addr) (xs:List V):Prop:=SqL K (fun _=>none) a xs
mutual
noncomputable def Rel (K:W.Frag) (ι:Io) (H:Hp):D->V->Prop
 | .non,v=>v= .non
 | .bl b,v=>v= .bl b
 | .int i,v=>v= .int i
 | .str x,v=>v= .str x
 | .tup ds,v=> ∃ a vs,v= .ref a/\(H a=some (.tup vs)/\ ¬ι.Has a)/\zaq K ι H ds vs
 | .lst ds,v=> ∃ a vs,v= .ref a/\(H a=some (.lst vs)/\ ¬ι.Has a)/\zaq K ι H ds vs
 | .scr ds,v=> ∃ a vs,v= .ref a/\((Rd H a (.lst vs)/\ ¬ι.Has a)\/KL K a vs)/\zaq K ι H ds vs
 | .cel n,v=> ∃ a,v= .ref a/\(ι.c[n]? = some (some a)\/ι.c[n]? = some none)
 | .set xs,v=> ∃ a,v= .ref a/\H a=some (.set (fun k=>xs.any (· == k)) xs.length)/\ ¬ι.Has a
 | .dct,v=> ∃ a,v= .ref a/\H a=some (.dK [])/\ ¬ι.Has a
 | .fn a,v=>v= .ref a
 | .exn c,v=> ∃ a o C head vs,v= .ref a/\(H a=some (.frz o (.own 0))/\ ¬ι.Has a)/\W.nsIn K mainGlobals (c:Str)=some (some (.ref C))/\o.cls= .ref C/\o.dict=none/\o.data= .fields vs/\vs[2]? = some .none/\vs[1]? = some head
noncomputable def zaq (K:W.Frag) (ι:Io) (H:Hp):List D->List V->Prop
 | [],vs=>vs=[]
 | d::ds,vs=> ∃ v r,vs=v::r/\Rel K ι H d v/\zaq K ι H ds r
end
structure zbE (ι:Io) (H:Hp) (ι':Io) (H':Hp):Prop where
 old: ∀ (n:Nat) (o:Option Addr),ι.c[n]? = some o->ι'.c[n]? = some o\/ι'.c[n]? = some none
 new: ∀ a,some a∈ι'.c->some a∈ι.c\/H a=none
 hid:ι'.x=ι.x
 hidk: ∀ a∈ι.x,H' a=H a
 keep: ∀ b o,H b=some o-> ¬ι.Has b->H' b=some o
theorem zbE.refl (ι:Io) (H:Hp):zbE ι H ι H:=⟨fun _ _ h=> .inl h,fun _ h=> .inl h,rfl,fun _ _=>rfl,fun _ _ h _=>h⟩
theorem zbE.nin {ι ι':Io} {H H':Hp} (s:zbE ι H ι' H') {a:Addr} {o:HO} (h:H a=some o) (n: ¬ι.Has a): ¬ι'.Has a:=fun z=>by
 rcases z with z | z
 ·rcases s.new a z with z | z
  ·exact n (.inl z)
  ·rw [h] at z;cases z
 ·rw [s.hid] at z;exact n (.inr z)
theorem zbE.trans {ι ι1 ι2:Io} {H H1 H2:Hp} (s:zbE ι H ι1 H1) (t:zbE ι1 H1 ι2 H2):zbE ι H ι2 H2 where
 old:=fun n o h=>by
  rcases s.old n o h with h | h
  ·exact t.old n o h
  ·rcases t.old n _ h with h | h<;>exact .inr h
 new:=fun a h=>by
  rcases t.new a h with h | h
  ·exact s.new a h
  ·by_cases z:some a∈ι.c
   ·exact .inl z
   ·refine .inr ?_
    cases q:H a with
    | none=>rfl
    | some o=>
     by_cases z':a∈ι.x
     ·rw [s.hidk a z',q] at h;cases h
     ·rw [s.keep a o q (fun w=>w.elim z z')] at h;cases h
 hid:=t.hid.trans s.hid
 hidk:=fun a h=>(t.hidk a (by rw [s.hid];exact h)).trans (s.hidk a h)
 keep:=fun b o h n=>t.keep b o (s.keep b o h n) (s.nin h n)
theorem zbE.rd {ι ι':Io} {H H':Hp} (s:zbE ι H ι' H') {a:Addr} {u:HO} (h:Rd H a u) (n: ¬ι.Has a):Rd H' a u/\ ¬ι'.Has a:=by
 rcases h with h | ⟨o,h⟩
 ·exact ⟨.inl (s.keep _ _ h n),s.nin h n⟩
 ·exact ⟨.inr ⟨o,s.keep _ _ h n⟩,s.nin h n⟩
structure Pass (ι:Io) (H:Hp) (ι':Io) (H':Hp):Prop where
 old: ∀ (n:Nat) (o:Option Addr),ι.c[n]? = some o->ι'.c[n]? = some o\/ι'.c[n]? = some none
 keep: ∀ b o,H b=some o-> ¬ι.Has b->H' b=some o/\ ¬ι'.Has b
theorem zbE.pass {ι ι':Io} {H H':Hp} (s:zbE ι H ι' H'):Pass ι H ι' H':=⟨s.old,fun b o h n=>⟨s.keep b o h n,s.nin h n⟩⟩
theorem Pass.rd {ι ι':Io} {H H':Hp} (s:Pass ι H ι' H') {a:Addr} {u:HO} (h:Rd H a u) (n: ¬ι.Has a):Rd H' a u/\ ¬ι'.Has a:=by
 rcases h with h | ⟨o,h⟩
 ·exact ⟨.inl (s.keep _ _ h n).1,(s.keep _ _ h n).2⟩
 ·exact ⟨.inr ⟨o,(s.keep _ _ h n).1⟩,(s.keep _ _ h n).2⟩
section
variable {K:W.Frag} {ι ι':Io} {H H':Hp}
mutual
theorem Rel.pass (s:Pass ι H ι' H'): ∀ {d:D} {v:V},Rel K ι H d v->Rel K ι' H' d v
 | .non,_,h=>by simpa [Rel] using h
 | .bl _,_,h=>by simpa [Rel] using h
 | .int _,_,h=>by simpa [Rel] using h
 | .str _,_,h=>by simpa [Rel] using h
 | .tup ds,v,h=>by
  simp only [Rel] at h ⊢
  obtain ⟨a,vs,e,h1,h2⟩:=h
  exact ⟨a,vs,e,s.keep _ _ h1.1 h1.2,zaq.pass s h2⟩
 | .lst ds,v,h=>by
  simp only [Rel] at h ⊢
  obtain ⟨a,vs,e,h1,h2⟩:=h
  exact ⟨a,vs,e,s.keep _ _ h1.1 h1.2,zaq.pass s h2⟩
 | .scr ds,v,h=>by
  simp only [Rel] at h ⊢
  obtain ⟨a,vs,e,h1,h2⟩:=h
  exact ⟨a,vs,e,h1.imp (fun z=>s.rd z.1 z.2) id,zaq.pass s h2⟩
 | .cel n,v,h=>by
  simp only [Rel] at h ⊢
  obtain ⟨a,e,h⟩:=h
  refine ⟨a,e,?_⟩
  rcases h with h | h
  ·exact s.old n _ h
  ·rcases s.old n _ h with h | h<;>exact .inr h
 | .set xs,v,h=>by
  simp only [Rel] at h ⊢
  obtain ⟨a,e,h,n⟩:=h
  exact ⟨a,e,(s.keep _ _ h n).1,(s.keep _ _ h n).2⟩
 | .dct,v,h=>by
  simp only [Rel] at h ⊢
  obtain ⟨a,e,h,n⟩:=h
  exact ⟨a,e,(s.keep _ _ h n).1,(s.keep _ _ h n).2⟩
 | .fn _,_,h=>by simpa [Rel] using h
 | .exn _,_,h=>by
  simp only [Rel] at h ⊢
  obtain ⟨a,o,C,head,vs,e,h1,h2⟩:=h
  exact ⟨a,o,C,head,vs,e,s.keep _ _ h1.1 h1.2,h2⟩
theorem zaq.pass (s:Pass ι H ι' H'): ∀ {ds:List D} {vs:List V},zaq K ι H ds vs->zaq K ι' H' ds vs
 | [],_,h=>by simpa [zaq] using h
 | d::ds,_,h=>by
  simp only [zaq] at h ⊢
  obtain ⟨v,r,e,h1,h2⟩:=h
  exact ⟨v,r,e,Rel.pass s h1,zaq.pass s h2⟩
end
theorem Rel.step (s:zbE ι H ι' H') {d:D} {v:V} (h:Rel K ι H d v):Rel K ι' H' d v:=h.pass s.pass
theorem zaq.step (s:zbE ι H ι' H') {ds:List D} {vs:List V} (h:zaq K ι H ds vs):zaq K ι' H' ds vs:=h.pass s.pass
theorem zaq.nil:zaq K ι H [] []:=by simp [zaq]
theorem zaq.cons {d:D} {ds:List D} {v:V} {vs:List V} (h:Rel K ι H d v) (t:zaq K ι H ds vs):zaq K ι H (d::ds) (v::vs):=by simp only [zaq];exact ⟨v,vs,rfl,h,t⟩
theorem zaq.length: ∀ {ds:List D} {vs:List V},zaq K ι H ds vs->ds.length=vs.length
 | [],_,h=>by simp only [zaq] at h;subst h;rfl
 | d::ds,_,h=>by
  simp only [zaq] at h
  obtain ⟨v,r,rfl,_,h⟩:=h
  simp [zaq.length h]
theorem zaq.get: ∀ {ds:List D} {vs:List V} {i:Nat} {d:D},zaq K ι H ds vs->ds[i]? = some d-> ∃ v,vs[i]? = some v/\Rel K ι H d v
 | [],_,_,_,_,e=>by simp at e
 | d::ds,_,i,x,h,e=>by
  simp only [zaq] at h
  obtain ⟨v,r,rfl,h1,h2⟩:=h
  cases i with
  | zero=>simp at e;subst e;exact ⟨v,rfl,h1⟩
  | succ i=>simp at e;simpa using zaq.get h2 e
theorem zaq.getV: ∀ {ds:List D} {vs:List V} {i:Nat} {v:V},zaq K ι H ds vs->vs[i]? = some v-> ∃ d,ds[i]? = some d/\Rel K ι H d v
 | [],_,_,_,h,e=>by simp only [zaq] at h;subst h;simp at e
 | d::ds,_,i,x,h,e=>by
  simp only [zaq] at h
  obtain ⟨v,r,rfl,h1,h2⟩:=h
  cases i with
  | zero=>simp at e;subst e;exact ⟨d,rfl,h1⟩
  | succ i=>simp at e;simpa using zaq.getV h2 e
theorem zaq.append: ∀ {ds es:List D} {vs ws:List V},zaq K ι H ds vs->zaq K ι H es ws->zaq K ι H (ds++es) (vs++ws)
 | [],_,_,_,h,t=>by simp only [zaq] at h;subst h;exact t
 | d::ds,es,_,ws,h,t=>by
  simp only [zaq] at h
  obtain ⟨v,r,rfl,h1,h2⟩:=h
  exact zaq.cons h1 (zaq.append h2 t)
theorem zaq.take: ∀ {ds:List D} {vs:List V} (n:Nat),zaq K ι H ds vs->zaq K ι H (ds.take n) (vs.take n)
 | _,_,0,_=>by simpa using zaq.nil
 | [],_,n+1,h=>by simp only [zaq] at h;subst h;exact zaq.nil
 | d::ds,_,n+1,h=>by
  simp only [zaq] at h
  obtain ⟨v,r,rfl,h1,h2⟩:=h
  exact zaq.cons h1 (zaq.take n h2)
theorem zaq.drop: ∀ {ds:List D} {vs:List V} (n:Nat),zaq K ι H ds vs->zaq K ι H (ds.drop n) (vs.drop n)
 | _,_,0,h=>h
 | [],_,n+1,h=>by simp only [zaq] at h;subst h;exact zaq.nil
 | d::ds,_,n+1,h=>by
  simp only [zaq] at h
  obtain ⟨v,r,rfl,h1,h2⟩:=h
  exact zaq.drop n h2
theorem zaq.reverse {ds:List D} {vs:List V} (h:zaq K ι H ds vs):zaq K ι H ds.reverse vs.reverse:=by
 induction ds generalizing vs with
 | nil=>simp only [zaq] at h;subst h;exact zaq.nil
 | cons d ds ih=>
  simp only [zaq] at h
  obtain ⟨v,r,rfl,h1,h2⟩:=h
  rw [List.reverse_cons,List.reverse_cons]
  exact zaq.append (ih h2) (zaq.cons h1 zaq.nil)
theorem zaq.set {d:D} {v:V} (hd:Rel K ι H d v): ∀ {ds:List D} {vs:List V} (i:Nat),zaq K ι H ds vs->zaq K ι H (ds.set i d) (vs.set i v)
 | [],_,_,h=>by simp only [zaq] at h;subst h;exact zaq.nil
 | x::ds,_,i,h=>by
  simp only [zaq] at h
  obtain ⟨w,r,rfl,h1,h2⟩:=h
  cases i with
  | zero=>exact zaq.cons hd h2
  | succ i=>exact zaq.cons h1 (zaq.set hd i h2)
theorem zdh: ∀ {is:List Int} {vs:List V},zaq K ι H (is.map D.int) vs↔vs=is.map V.int
 | [],vs=>by simp [zaq]
 | i::is,vs=>by
  simp only [qaM,zaq]
  constructor
  ·rintro ⟨v,r,rfl,h1,h2⟩
   simp only [Rel] at h1
   rw [h1,zdh.mp h2]
  ·rintro rfl
   exact ⟨_,_,rfl,by simp [Rel],zdh.mpr rfl⟩
noncomputable def CO (K:W.Frag) (ι:Io) (H:Hp):C->HO->Prop
 | .lst ds,o=> ∃ vs,o= .lst vs/\zaq K ι H ds vs
 | .dic kvs,o=> ∃ vs,o= .dK vs/\Paired (fun (p:Int×D) (q:Key×V)=>q.1= .inl p.1/\Rel K ι H p.2 q.2) kvs vs
 | .dit ks,o=>o= .dT (ks.map fun k=>(k.map Sum.inl,V.bl true))
 | .ins c fs,o=> ∃ C dx vs,o= .ins C dx vs/\W.nsIn K mainGlobals (c:Str)=some (some (.ref C))/\Paired (fun (p:Str×D) (q:Str×V)=>q.1=p.1/\Rel K ι H p.2 q.2) fs vs
 | .dead,_=>False
theorem CO.pass {c:C} {o:HO} (s:Pass ι H ι' H') (h:CO K ι H c o):CO K ι' H' c o:=by
 cases c with
 | lst ds=>obtain ⟨vs,e,r⟩:=h;exact ⟨vs,e,r.pass s⟩
 | dic kvs=>
  obtain ⟨vs,e,r⟩:=h
  refine ⟨vs,e,?_⟩
  clear e
  induction r with
  | nil=>exact .nil
  | cons a t ih=>exact .cons ⟨a.1,a.2.pass s⟩ ih
 | dit ks=>exact h
 | ins c fs=>
  obtain ⟨C,dx,vs,e,hc,r⟩:=h
  refine ⟨C,dx,vs,e,hc,?_⟩
  clear e
  induction r with
  | nil=>exact .nil
  | cons a t ih=>exact .cons ⟨a.1,a.2.pass s⟩ ih
 | dead=>exact h
structure za4 (K:W.Frag) (ι:Io) (H:Hp) (h:Hh):Prop where
 len:h.length=ι.c.length
 inj: ∀ (m n:Nat) (a:Addr),ι.c[m]? = some (some a)->ι.c[n]? = some (some a)->m=n
 at_: ∀ (n:Nat) (a:Addr) (c:C),ι.c[n]? = some (some a)->h[n]? = some c-> ∃ o,H a=some o/\CO K ι H c o
 dead: ∀ (n:Nat),ι.c[n]? = some none->h[n]? = some .dead
 hidt: ∀ a∈ι.x,(∃ vs,H a=some (.lst vs))/\some a∉ι.c
noncomputable abbrev Sd:=List (Option D)
def zcz (K:W.Frag) (ι:Io) (H:Hp) (sd:Sd) (σ:L2.St):Prop:=sd.length=σ.length/\ ∀ (i:Nat) (d:D),sd[i]? = some (some d)-> ∃ v,σ[i]? = some (some v)/\Rel K ι H d v
theorem zcz.pass {sd:Sd} {σ:L2.St} (s:Pass ι H ι' H') (h:zcz K ι H sd σ):zcz K ι' H' sd σ:=⟨h.1,fun i d e=>let ⟨v,h1,h2⟩:=h.2 i d e;⟨v,h1,h2.pass s⟩⟩
theorem zcz.step {sd:Sd} {σ:L2.St} (s:zbE ι H ι' H') (h:zcz K ι H sd σ):zcz K ι' H' sd σ:=⟨h.1,fun i d e=>let ⟨v,h1,h2⟩:=h.2 i d e;⟨v,h1,h2.step s⟩⟩
theorem zcz.set {sd:Sd} {σ:L2.St} {d:D} {v:V} (h:zcz K ι H sd σ) (r:Rel K ι H d v) (i:Nat):zcz K ι H (sd.set i (some d)) (σ.set i (some v)):=by
 refine ⟨by rw [qaI,qaI];exact h.1,fun j d' e=> ?_⟩
 by_cases hij:i=j
 ·subst hij
  by_cases hl:i<sd.length
  ·rw [qai hl] at e
   cases e
   exact ⟨v,by rw [qai (by rw [<- h.1];exact hl)],r⟩
  ·rw [List.getElem?_eq_none (by rw [qaI];omega)] at e
   cases e
 ·rw [qao hij] at e ⊢
  exact h.2 j d' e
theorem zcz.skip {sd:Sd} {σ:L2.St} {o:Option V} (h:zcz K ι H sd σ) (i:Nat) (hn:sd[i]? = some none):zcz K ι H sd (σ.set i o):=by
 refine ⟨by rw [qaI];exact h.1,fun j d' e=> ?_⟩
 by_cases hij:i=j
 ·subst hij;rw [hn] at e;cases e
 ·rw [qao hij];exact h.2 j d' e
end
noncomputable abbrev St:=L2.St
noncomputable abbrev XE:=String->Hp->Prop
def Fin {α:Type} (K:W.Frag) (E:XE) (ι:Io) (H:Hp) (r:R α) (P:α->Io->Hp->Prop):Prop:=match r with
 | .ok a h'=> ∀ ι' H',zbE ι H ι' H'->za4 K ι' H' h'->P a ι' H'
 | .exc c h'=> ∀ ι' H',zbE ι H ι' H'->za4 K ι' H' h'->E c H'
 | .bad=>False
section
variable {α β:Type} {K:W.Frag} {E:XE} {ι ι':Io} {H H':Hp}
theorem Fin.step {r:R α} {P:α->Io->Hp->Prop} (s:zbE ι H ι' H') (h:Fin K E ι H r P):Fin K E ι' H' r P:=by
 cases r with
 | ok a h'=>exact fun ι2 H2 t hr=>h ι2 H2 (s.trans t) hr
 | exc c h'=>exact fun ι2 H2 t hr=>h ι2 H2 (s.trans t) hr
 | bad=>exact h
theorem Fin.mono {r:R α} {P P':α->Io->Hp->Prop} (h:Fin K E ι H r P) (m: ∀ a ι' H',P a ι' H'->P' a ι' H'):Fin K E ι H r P':=by
 cases r with
 | ok a h'=>exact fun ι2 H2 t hr=>m _ _ _ (h ι2 H2 t hr)
 | exc c h'=>exact h
 | bad=>exact h
theorem Fin.bind {m:M α} {f:α->M β} {h:Hh} {P:β->Io->Hp->Prop} {P':α->Io->Hp->Prop} (q:Fin K E ι H ((m>>=f) h) P)
  (k: ∀ a h' ι' H',m h= .ok a h'->zbE ι H ι' H'->za4 K ι' H' h'->Fin K E ι' H' (f a h') P->P' a ι' H'):Fin K E ι H (m h) P':=by
 have q':Fin K E ι H (M.bind m f h) P:=q
 unfold M.bind at q'
 cases e:m h with
 | ok a h'=>
  rw [e] at q'
  intro ι' H' s hr
  exact k a h' ι' H' e s hr (Fin.step s q')
 | exc c h'=>rw [e] at q';exact q'
 | bad=>rw [e] at q';exact q'
theorem Fin.out {a:α} {h:Hh} {P:α->Io->Hp->Prop} (hr:za4 K ι H h) (q:Fin K E ι H ((pure a:M α) h) P):P a ι H:=q ι H (zbE.refl _ _) hr
theorem Fin.no {h:Hh} {P:α->Io->Hp->Prop} {Z:Prop} (q:Fin K E ι H ((M.bad:M α) h) P):Z:=qa0 q
end
noncomputable def zf8 (K:W.Frag) (E:XE) (f:Sd->M D):TE:=fun σ H Q=> ∃ ι h sd,zcz K ι H sd σ/\za4 K ι H h/\Fin K E ι H (f sd h) fun d ι' H'=> ∀ v,Rel K ι' H' d v->Q v H'
noncomputable def zf5 (K:W.Frag) (E:XE) (f:Sd->M Bool):TT:=fun σ H Q=> ∃ ι h sd,zcz K ι H sd σ/\za4 K ι H h/\Fin K E ι H (f sd h) fun b ι' H'=>Q b H'
noncomputable def zu5 (K:W.Frag) (E:XE) (f:Sd->M (List D)):TA:=fun σ H Q=> ∃ ι h sd,zcz K ι H sd σ/\za4 K ι H h/\Fin K E ι H (f sd h) fun ds ι' H'=> ∀ vs,zaq K ι' H' ds vs->Q vs H'
noncomputable abbrev SE (X:Cx) (E:XE) (e:Expr) (f:Sd->M D):Prop:=PE X e (zf8 X.K E f)
noncomputable abbrev ST (X:Cx) (E:XE) (e:Expr) (f:Sd->M Bool):Prop:=PT X e (zf5 X.K E f)
noncomputable abbrev SA (X:Cx) (E:XE) (es:List Expr) (f:Sd->M (List D)):Prop:=PA X es (zu5 X.K E f)
noncomputable def zd2 (K:W.Frag) (E:XE) (F:D->D->M D):R2:=fun x y H Q=> ∃ ι h d1 d2,Rel K ι H d1 x/\Rel K ι H d2 y/\za4 K ι H h/\Fin K E ι H (F d1 d2 h) fun d ι' H'=> ∀ v,Rel K ι' H' d v->Q v H'
noncomputable def ziV (K:W.Frag) (E:XE) (F:List D->M D):List V->Hp->VK->Prop:=fun xs H Q=> ∃ ι h ds,zaq K ι H ds xs/\za4 K ι H h/\Fin K E ι H (F ds h) fun d ι' H'=> ∀ v,Rel K ι' H' d v->Q v H'
theorem PE.imp {X:Cx} {e:Expr} {t t':TE} (h:PE X e t) (m: ∀ σ H Q,t' σ H Q->t σ H Q):PE X e t':=fun pins s σ H Q I q=>h pins s σ H Q I (m _ _ _ q)
theorem PT.imp {X:Cx} {e:Expr} {t t':TT} (h:PT X e t) (m: ∀ σ H Q,t' σ H Q->t σ H Q):PT X e t':=fun pins s σ H Q I q=>h pins s σ H Q I (m _ _ _ q)
theorem PA.imp {X:Cx} {e:List Expr} {t t':TA} (h:PA X e t) (m: ∀ σ H Q,t' σ H Q->t σ H Q):PA X e t':=fun pos pins s σ H Q I q=>h pos pins s σ H Q I (m _ _ _ q)
theorem OpR.imp {X:Cx} {f:Value->Value->Sem Value} {r r':R2} (h:OpR X f r) (m: ∀ x y H Q,r' x y H Q->r x y H Q):OpR X f r':=fun pins s σ H x y v u Q I rx ry q=>h pins s σ H x y v u Q I rx ry (m _ _ _ _ q)
theorem zaN.imp {X:Cx} {f:Value} {r r':List V->Hp->VK->Prop} (h:zaN X f r) (m: ∀ xs H Q,r' xs H Q->r xs H Q):zaN X f r':=by
 intro pins s σ H xs us Q I rx q
 exact h pins s σ H xs us Q I rx (m _ _ _ q)
theorem IxR.imp {X:Cx} {r r':R2} (h:IxR X r) (m: ∀ x y H Q,r' x y H Q->r x y H Q):IxR X r':=by
 intro value slice pins s σ H x y v u Q I rx ry q hs
 exact h value slice pins s σ H x y v u Q I rx ry (m _ _ _ _ q) hs
theorem MtM.imp {X:Cx} {id:String} {r r':V->List V->Hp->VK->Prop} (h:MtM X id r) (m: ∀ x xs H Q,r' x xs H Q->r x xs H Q):MtM X id r':=fun pins s σ H x xs v us Q I rx rs q=>h pins s σ H x xs v us Q I rx rs (m _ _ _ _ q)
theorem SlR.imp {X:Cx} {r r':V->Option Int->Option Int->Hp->VK->Prop} (h:SlR X r) (m: ∀ x l u H Q,r' x l u H Q->r x l u H Q):SlR X r':=fun pins s σ H x v vl vu lo hi sl Q I rx hs pl pu q=>h pins s σ H x v vl vu lo hi sl Q I rx hs pl pu (m _ _ _ _ _ q)
theorem zrl.imp {X:Cx} {r r':ztb} (h:zrl X r) (m: ∀ o i v H Q,r' o i v H Q->r o i v H Q):zrl X r':=fun pins s σ H o i v ov iv u Q I ro ri rv q=>h pins s σ H o i v ov iv u Q I ro ri rv (m _ _ _ _ _ q)
theorem PI.imp {X:Cx} {tg iter:Expr} {t t':TI} (h:PI X tg iter t) (m: ∀ σ H Q,t' σ H Q->t σ H Q):PI X tg iter t':=fun pins s σ H Q I q=>h pins s σ H Q I (m _ _ _ q)
theorem PG.imp {X:Cx} {tg:Expr} {t t':TG} (h:PG X tg t) (m: ∀ v σ H Q,t' v σ H Q->t v σ H Q):PG X tg t':=fun pins s σ H v u Q I r q=>h pins s σ H v u Q I r (m _ _ _ _ q)
theorem PS.imp {X:Cx} {st:Stmt} {t t':TS} (h:PS X st t) (m: ∀ D σ H,t' D σ H->t D σ H):PS X st t':=fun pins s σ H D I q=>h pins s σ H D I (m _ _ _ q)
theorem PSs.imp {X:Cx} {st:List Stmt} {t t':TS} (h:PSs X st t) (m: ∀ D σ H,t' D σ H->t D σ H):PSs X st t':=fun pins s σ H D I q=>h pins s σ H D I (m _ _ _ q)
section
variable {X:Cx} {E:XE} {a b e:Expr} {es:List Expr} {pos:Pos} {fa fb:Sd->M D}
theorem te2 {K:W.Frag} {F:D->D->M D} {r:R2} (hr: ∀ x y H Q,zd2 K E F x y H Q->r x y H Q) (σ:St) (H:Hp) (Q:VK) (q:zf8 K E (fun sd=>do let x<-fa sd;let y<-fb sd;F x y) σ H Q):tOp r (zf8 K E fa) (zf8 K E fb) σ H Q:=by
 obtain ⟨ι,h,sd,L,hh,q⟩:=q
 refine ⟨ι,h,sd,L,hh,Fin.bind q fun d1 h1 ι1 H1 e1 s1 hr1 q1 v r1=> ?_⟩
 refine ⟨ι1,h1,sd,L.step s1,hr1,Fin.bind q1 fun d2 h2 ι2 H2 e2 s2 hr2 q2 w r2=> ?_⟩
 exact hr _ _ _ _ ⟨ι2,h2,d1,d2,r1.step s2,r2,hr2,q2⟩
theorem ztE {op:Operator} {F:D->D->M D} (ho:OpR X (binaryOp op) (zd2 X.K E F)) (ha:SE X E a fa) (hb:SE X E b fb):SE X E (.BinOp a op b pos) (fun sd=>do let x<-fa sd;let y<-fb sd;F x y):=
 PE.imp (zt5 ho ha hb) (te2 fun _ _ _ _ q=>q)
theorem zsj {op:CmpOp} {F:D->D->M D} (ho:OpR X (compareOp op) (zd2 X.K E F)) (ha:SE X E a fa) (hb:SE X E b fb) (hm:behindInMarks op b=false):SE X E (.Compare a [op] [b] pos) (fun sd=>do let x<-fa sd;let y<-fb sd;F x y):=
 PE.imp (zpK ho ha hb hm) (te2 fun _ _ _ _ q=>q)
theorem zug {F:D->D->M D} (ho:IxR X (zd2 X.K E F)) (ha:SE X E a fa) (hb:SE X E b fb) (hs:ziG b):SE X E (.Subscript a b pos) (fun sd=>do let x<-fa sd;let y<-fb sd;F x y):=
 PE.imp (zt6 ho ha hb hs) (te2 fun _ _ _ _ q=>q)
noncomputable def zdp:D->M Bool
 | .bl b=>pure b
 | _=>M.bad
theorem zfx {K:W.Frag} {f:Sd->M D} (σ:St) (H:Hp) (Q:Bool->Hp->Prop) (q:zf5 K E (fun sd=>do let x<-f sd;zdp x) σ H Q):(zf8 K E f) σ H fun x H1=> ∃ c,x= .bl c/\Q c H1:=by
 obtain ⟨ι,h,sd,L,hh,q⟩:=q
 refine ⟨ι,h,sd,L,hh,Fin.bind q fun d1 h1 ι1 H1 e1 s1 hr1 q2 v r1=> ?_⟩
 cases d1 with
 | bl b=>simp only [Rel] at r1;exact ⟨b,r1,Fin.out hr1 q2⟩
 | _=>exact qa0 q2
theorem zsl {op:CmpOp} {F:D->D->M D} (ho:OpR X (compareOp op) (zd2 X.K E F)) (ha:SE X E a fa) (hb:SE X E b fb) (hm:behindInMarks op b=false):
  ST X E (.Compare a [op] [b] pos) (fun sd=>do let z<-(do let x<-fa sd;let y<-fb sd;F x y);zdp z):=by
 refine PT.imp (zp8 ho ha hb hm) fun σ H Q q=> ?_
 have q1:=zfx (f:=fun sd=>do let x<-fa sd;let y<-fb sd;F x y) σ H Q q
 exact te2 (fun _ _ _ _ q=>q) σ H _ q1
theorem zsa {f:Sd->M D} (h:SE X E e f) (he: ∀ whole,isTrue e X.env whole=(do let v<-whole;standAt e.pos;holding [v] (truthy v)):=by intro _;rfl):ST X E e (fun sd=>do let x<-f sd;zdp x):=
 PT.imp (zr4 h he) fun σ H Q q=>zfx σ H Q q
theorem zsk {t:Sd->M Bool} (ha:ST X E a t):ST X E (.UnaryOp .Not a pos) (fun sd=>do let c<-t sd;pure (!c)):=by
 refine PT.imp (ztk ha) fun σ H Q ⟨ι,h,sd,L,hh,q⟩=>⟨ι,h,sd,L,hh,Fin.bind q fun c h1 ι1 H1 e1 s1 hr1 q1=> ?_⟩
 exact Fin.out hr1 q1
theorem zqY {t:Sd->M Bool} (ha:ST X E a t):PW X (.BoolOp .And [a] pos) (zf5 X.K E t):=pw_and1 ha
theorem ztl {t:Sd->M Bool} (ha:ST X E a t):PW X (.BoolOp .Or [a] pos) (zf5 X.K E t):=pw_or1 ha
theorem PW.imp {t t':TT} (h:PW X e t) (m: ∀ σ H Q,t' σ H Q->t σ H Q):PW X e t':=fun whole pins s σ H Q I q=>h whole pins s σ H Q I (m _ _ _ q)
theorem ztg {rest:List Expr} {t u:Sd->M Bool} (ha:ST X E a t) (hb:PW X (.BoolOp .And (b::rest) pos) (zf5 X.K E u)):PW X (.BoolOp .And (a::b::rest) pos) (zf5 X.K E fun sd=>do let c<-t sd;if c=true then u sd else pure false):=by
 refine PW.imp (pw_and ha hb) fun σ H Q ⟨ι,h,sd,L,hh,q⟩=>⟨ι,h,sd,L,hh,Fin.bind q fun c h1 ι1 H1 e1 s1 hr1 q1=> ?_⟩
 cases c with
 | true=>exact zpW ⟨ι1,h1,sd,L.step s1,hr1,q1⟩
 | false=>exact zpM (Fin.out hr1 q1)
theorem zt0 {rest:List Expr} {t u:Sd->M Bool} (ha:ST X E a t) (hb:PW X (.BoolOp .Or (b::rest) pos) (zf5 X.K E u)):PW X (.BoolOp .Or (a::b::rest) pos) (zf5 X.K E fun sd=>do let c<-t sd;if c=true then pure true else u sd):=by
 refine PW.imp (pw_or ha hb) fun σ H Q ⟨ι,h,sd,L,hh,q⟩=>⟨ι,h,sd,L,hh,Fin.bind q fun c h1 ι1 H1 e1 s1 hr1 q1=> ?_⟩
 cases c with
 | false=>exact zpM ⟨ι1,h1,sd,L.step s1,hr1,q1⟩
 | true=>exact zpW (Fin.out hr1 q1)
theorem zpZ {op:BoolOp} {vs:List Expr} {t:Sd->M Bool} (h:PW X (.BoolOp op vs pos) (zf5 X.K E t)):ST X E (.BoolOp op vs pos) t:=h.pt
theorem zrx {op:BoolOp} (h:SE X E a fa):SE X E (.BoolOp op [a] pos) fa:=zsc h
theorem zs9 {rest:List Expr} (ha:SE X E a fa) (hb:SE X E (.BoolOp .And (b::rest) pos) fb):SE X E (.BoolOp .And (a::b::rest) pos) (fun sd=>do let c<-(do let x<-fa sd;zdp x);if c=true then fb sd else pure (.bl false)):=by
 refine PE.imp (zrS ha hb) fun σ H Q ⟨ι,h,sd,L,hh,q⟩=> ?_
 have q1:=zfx (K:=X.K) (E:=E) (f:=fa) σ H (fun c H1=>if c=true then zf8 X.K E fb σ H1 Q else Q (.bl false) H1) ⟨ι,h,sd,L,hh,Fin.bind q fun c h1 ι1 H1 e1 s1 hr1 q1=> ?_⟩
 ·exact q1
 ·cases c with
  | true=>exact zpW ⟨ι1,h1,sd,L.step s1,hr1,q1⟩
  | false=>exact zpM (Fin.out hr1 q1 _ (by simp [Rel]))
theorem ztm (ha:SE X E a fa):SE X E (.UnaryOp .Not a pos) (fun sd=>do let c<-(do let x<-fa sd;zdp x);pure (.bl (!c))):=by
 refine PE.imp (zr8 ha) fun σ H Q ⟨ι,h,sd,L,hh,q⟩=> ?_
 have q1:=zfx (K:=X.K) (E:=E) (f:=fa) σ H (fun c H1=>Q (.bl (!c)) H1) ⟨ι,h,sd,L,hh,Fin.bind q fun c h1 ι1 H1 e1 s1 hr1 q1=> ?_⟩
 ·exact q1
 ·exact Fin.out hr1 q1 _ (by simp [Rel])
noncomputable def zag (i:Nat):Sd->M D:=fun sd=>match sd[i]? with
 | some (some d)=>pure d
 | _=>M.bad
theorem zte (i:Nat) {x:Str} (hN:X.N[i]? = some x) (hv:Vis X.env.scope x) (hd:(x==("__debug__":Str))=false:=by decide) (hcd:(x==("__classdict__":Str))=false:=by decide):SE X E (.Name x pos) (zag i):=by
 refine PE.imp (zoK hN hv hd hcd) fun σ H Q ⟨ι,h,sd,L,hh,q⟩=> ?_
 unfold zag at q
 cases e:sd[i]? with
 | none=>rw [e] at q;exact qa0 q
 | some o=>
  rw [e] at q
  cases o with
  | none=>exact qa0 q
  | some d=>
   obtain ⟨v,e1,r⟩:=L.2 i d e
   exact ⟨v,e1,Fin.out hh q v r⟩
theorem zd9 {K:W.Frag} {d:D} {v:V} (r: ∀ ι H,Rel K ι H d v) (σ:St) (H:Hp) (Q:VK) (q:zf8 K E (fun _=>pure d) σ H Q):tC v σ H Q:=by
 obtain ⟨ι,h,sd,L,hh,q⟩:=q
 exact Fin.out hh q v (r _ _)
theorem zsq {i:Int} {j:Nat}:SE X E (.Constant (.int i) j pos) (fun _=>pure (.int i)):=PE.imp zpa (zd9 fun _ _=>by simp [Rel])
theorem ztN {i:Bool} {j:Nat}:SE X E (.Constant (.bool i) j pos) (fun _=>pure (.bl i)):=PE.imp zst (zd9 fun _ _=>by simp [Rel])
theorem zrR {j:Nat}:SE X E (.Constant .none j pos) (fun _=>pure .non):=PE.imp zs7 (zd9 fun _ _=>by simp [Rel])
theorem zsu {i:Str} {j:Nat}:SE X E (.Constant (.str i) j pos) (fun _=>pure (.str i)):=PE.imp zoV (zd9 fun _ _=>by simp [Rel])
theorem znB {x:Str} {i:Int} {t:Tok} (hg:Gl X x) (hm:X.mg x=some (.int i t)) (hd:(x==("__debug__":Str))=false:=by decide):SE X E (.Name x pos) (fun _=>pure (.int i)):=PE.imp (zmi (v:= .int i) hg hm ⟨t,rfl⟩ hd) (zd9 fun _ _=>by simp [Rel])
theorem zsI:SA X E [] (fun _=>pure []):=PA.imp zed fun σ H Q ⟨ι,h,sd,L,hh,q⟩=>Fin.out hh q [] zaq.nil
theorem zqt {fs:Sd->M (List D)} (ha:SE X E e fa) (hr:SA X E es fs) (hs:starEach (e::es) X.env=(false,eval e X.env)::starEach es X.env:=by rfl):SA X E (e::es) (fun sd=>do let x<-fa sd;let r<-fs sd;pure (x::r)):=by
 refine PA.imp (zcg ha hr hs) fun σ H Q ⟨ι,h,sd,L,hh,q⟩=>⟨ι,h,sd,L,hh,Fin.bind q fun d h1 ι1 H1 e1 s1 hr1 q1 v rv=> ?_⟩
 refine ⟨ι1,h1,sd,L.step s1,hr1,Fin.bind q1 fun ds h2 ι2 H2 e2 s2 hr2 q2 vs rvs=> ?_⟩
 exact Fin.out hr2 q2 _ (zaq.cons (rv.step s2) rvs)
end
theorem za4.nin {K:W.Frag} {ι:Io} {H:Hp} {h:Hh} (hr:za4 K ι H h) {p:Addr} (hp:H p=none): ¬ι.Has p:=fun z=>by
 rcases z with z | z
 ·obtain ⟨n,hn⟩:=List.mem_iff_getElem?.mp z
  have hl:n<h.length:=by rw [hr.len];exact (qac.mp hn).1
  obtain ⟨o,e,_⟩:=hr.at_ n p h[n] hn (by simp [hl])
  rw [hp] at e
  cases e
 ·obtain ⟨⟨o,e⟩,_⟩:=hr.hidt p z
  rw [hp] at e
  cases e
theorem za4.laidS {K:W.Frag} {ι:Io} {H:Hp} {h:Hh} (hr:za4 K ι H h) {p:Addr} {o:HO} (hp:H p=none):zbE ι H ι (upd H p o):=
 ⟨fun _ _ h=> .inl h,fun _ h=> .inl h,rfl,fun a ha=>zau fun z=>hr.nin hp (.inr (z▸ha)),fun b o' h _=>by rw [zau (zaO h hp)];exact h⟩
theorem za4.laid {K:W.Frag} {ι:Io} {H:Hp} {h:Hh} {p:Addr} {o:HO} (hr:za4 K ι H h) (hp:H p=none):za4 K ι (upd H p o) h:=
 ⟨hr.len,hr.inj,fun n a c hn hc=>by
   obtain ⟨o',e2,e3⟩:=hr.at_ n a c hn hc
   exact ⟨o',by rw [zau (zaO e2 hp)];exact e2,e3.pass (hr.laidS hp).pass⟩,hr.dead,fun a ha=>⟨by rw [zau (show a≠p from fun z=>hr.nin hp (.inr (z▸ha)))];exact (hr.hidt a ha).1,(hr.hidt a ha).2⟩⟩
noncomputable def fits (n:Nat):M Unit:=if n<=sizeLine then pure () else M.bad
theorem Fin.fits {α:Type} {K:W.Frag} {E:XE} {ι:Io} {H:Hp} {n:Nat} {f:M α} {h:Hh} {P:α->Io->Hp->Prop} (q:Fin K E ι H ((do L3.fits n;f) h) P):n<=sizeLine/\Fin K E ι H (f h) P:=by
 have q':Fin K E ι H (M.bind (L3.fits n) (fun _=>f) h) P:=q
 unfold M.bind L3.fits at q'
 by_cases hn:n<=sizeLine
 ·rw [qa4 hn] at q'
  exact ⟨hn,q'⟩
 ·rw [qa5 hn] at q'
  exact qa0 q'
section
variable {X:Cx} {E:XE} {es:List Expr} {pos:Pos} {fs:Sd->M (List D)}
theorem zrj {K:W.Frag} {ι:Io} {H:Hp} {h:Hh} {ds:List D} {vs:List V} {Q:VK} (hr:za4 K ι H h) (rl:zaq K ι H ds vs) (q:Fin K E ι H ((pure (.tup ds):M D) h) fun d ι' H'=> ∀ v,Rel K ι' H' d v->Q v H') {p:Addr} (hp:H p=none):Q (.ref p) (upd H p (.tup vs)):=
 q ι _ (hr.laidS hp) (hr.laid hp) _ (by
   simp only [Rel]
   exact ⟨p,vs,rfl,⟨zaM,hr.nin hp⟩,rl.step (hr.laidS hp)⟩)
theorem zqh {K:W.Frag} {ι:Io} {H:Hp} {h:Hh} {ds:List D} {vs:List V} {Q:VK} (hr:za4 K ι H h) (rl:zaq K ι H ds vs) (q:Fin K E ι H ((pure (.lst ds):M D) h) fun d ι' H'=> ∀ v,Rel K ι' H' d v->Q v H') {p:Addr} (hp:H p=none):Q (.ref p) (upd H p (.lst vs)):=
 q ι _ (hr.laidS hp) (hr.laid hp) _ (by
   simp only [Rel]
   exact ⟨p,vs,rfl,⟨zaM,hr.nin hp⟩,rl.step (hr.laidS hp)⟩)
noncomputable def zfn (ds:List D):M D:=fun h=> .ok (.cel h.length) (h++[.lst ds])
theorem zpw {K:W.Frag} {ι:Io} {H:Hp} {h:Hh} {c0:C} {o0:HO} {Q:VK} (hr:za4 K ι H h) (co:CO K ι H c0 o0) (q:Fin K E ι H (.ok (.cel h.length) (h++[c0])) fun d ι' H'=> ∀ v,Rel K ι' H' d v->Q v H') {p:Addr} (hp:H p=none):Q (.ref p) (upd H p o0):=by
 have hlen:=hr.len
 have nh:=hr.nin hp
 have st:zbE ι H ⟨ι.c++[some p],ι.x⟩ (upd H p o0):=by
  refine ⟨fun n o h=> .inl ?_,fun a h=> ?_,rfl,fun a ha=>zau fun z=>nh (.inr (z▸ha)),fun b o' h _=>by rw [zau (zaO h hp)];exact h⟩
  ·show (ι.c++[some p])[n]? = _
   rw [qad (qac.mp h).1];exact h
  ·rcases qaK.mp h with h | h
   ·exact .inl h
   ·simp at h;subst h;exact .inr hp
 have at_: ∀ (n:Nat) (a:Addr),(ι.c++[some p])[n]? = some (some a)->(ι.c[n]? = some (some a))\/(n=ι.c.length/\a=p):=fun n a h=>by
  by_cases hl:n<ι.c.length
  ·rw [qad hl] at h;exact .inl h
  ·rw [qaa (by omega)] at h
   have:n - ι.c.length=0:=by
    cases z:n - ι.c.length with
    | zero=>rfl
    | succ k=>rw [z] at h;simp at h
   rw [this] at h
   simp at h
   exact .inr ⟨by omega,h.symm⟩
 refine q _ _ st ⟨?_,fun m n a h1 h2=> ?_,fun n a c h1 h2=> ?_,fun n h1=> ?_,fun a ha=>⟨?_,fun z=> ?_⟩⟩ _ ?_
 ·show (h++[c0]).length=(ι.c++[some p]).length
  rw [qav,qav,hlen];rfl
 ·rcases at_ m a h1 with z1 | ⟨z1,z1'⟩<;>rcases at_ n a h2 with z2 | ⟨z2,z2'⟩
  ·exact hr.inj m n a z1 z2
  ·subst z2';exact absurd (.inl (List.mem_of_getElem? z1)) nh
  ·subst z1';exact absurd (.inl (List.mem_of_getElem? z2)) nh
  ·rw [z1,z2]
 ·rcases at_ n a h1 with z1 | ⟨z1,z1'⟩
  ·rw [qad (by rw [hlen];exact (qac.mp z1).1)] at h2
   obtain ⟨o',e2,e3⟩:=hr.at_ n a c z1 h2
   exact ⟨o',by rw [zau (zaO e2 hp)];exact e2,e3.pass st.pass⟩
  ·subst z1 z1'
   rw [<- hlen,qaa (qaV _)] at h2
   simp at h2
   subst h2
   exact ⟨o0,zaM,co.pass st.pass⟩
 ·have h1:(ι.c++[some p])[n]? = some none:=h1
  by_cases hl:n<ι.c.length
  ·rw [qad hl] at h1
   rw [qad (by rw [hlen];exact hl)]
   exact hr.dead n h1
  ·rw [qaa (by omega)] at h1
   cases z:n - ι.c.length with
   | zero=>rw [z] at h1;simp at h1
   | succ k=>rw [z] at h1;simp at h1
 ·rw [zau (show a≠p from fun z=>nh (.inr (z▸ha)))]
  exact (hr.hidt a ha).1
 ·rcases qaK.mp z with z | z
  ·exact (hr.hidt a ha).2 z
  ·simp at z;subst z;exact nh (.inr ha)
 ·simp only [Rel]
  refine ⟨p,rfl,.inl ?_⟩
  show (ι.c++[some p])[h.length]? = _
  rw [hlen,qaa (qaV _)]
  simp
theorem zvA {K:W.Frag} {ι:Io} {H:Hp} {h:Hh} {ds:List D} {vs:List V} {Q:VK} (hr:za4 K ι H h) (rl:zaq K ι H ds vs) (q:Fin K E ι H (zfn ds h) fun d ι' H'=> ∀ v,Rel K ι' H' d v->Q v H') {p:Addr} (hp:H p=none):Q (.ref p) (upd H p (.lst vs)):=
 zpw hr (c0:= .lst ds) ⟨vs,rfl,rl⟩ q hp
theorem zsY {x1} (h:SA X E es fs):SE X E (.Tuple es x1 pos) (fun sd=>do let ds<-fs sd;fits ds.length;pure (.tup ds)):=by
 refine PE.imp (zrw h) fun σ H Q ⟨ι,h,sd,L,hh,q⟩=>⟨ι,h,sd,L,hh,Fin.bind q fun ds h1 ι1 H1 e1 s1 hr1 q1 vs rvs=> ?_⟩
 obtain ⟨z,q2⟩:=Fin.fits q1
 exact ⟨by rw [<- rvs.length];exact z,fun p hp=>zrj hr1 rvs q2 hp⟩
theorem zsv (h:SA X E es fs):SE X E (.List es pos) (fun sd=>do let ds<-fs sd;fits ds.length;pure (.lst ds)):=by
 refine PE.imp (zo0 h) fun σ H Q ⟨ι,h,sd,L,hh,q⟩=>⟨ι,h,sd,L,hh,Fin.bind q fun ds h1 ι1 H1 e1 s1 hr1 q1 vs rvs=> ?_⟩
 obtain ⟨z,q2⟩:=Fin.fits q1
 exact ⟨by rw [<- rvs.length];exact z,fun p hp=>zqh hr1 rvs q2 hp⟩
theorem zqj (h:SA X E es fs):SE X E (.List es pos) (fun sd=>do let ds<-fs sd;fits ds.length;zfn ds):=by
 refine PE.imp (zo0 h) fun σ H Q ⟨ι,h,sd,L,hh,q⟩=>⟨ι,h,sd,L,hh,Fin.bind q fun ds h1 ι1 H1 e1 s1 hr1 q1 vs rvs=> ?_⟩
 obtain ⟨z,q2⟩:=Fin.fits q1
 exact ⟨by rw [<- rvs.length];exact z,fun p hp=>zvA hr1 rvs q2 hp⟩
end
inductive Out where
 | nx (sd:Sd) | rt (d:D) | bk (sd:Sd) | ct (sd:Sd)
noncomputable def ziO (K:W.Frag) (D0:zoD):Out->Io->Hp->Prop
 | .nx sd',ι',H'=> ∀ σ',zcz K ι' H' sd' σ'->D0.nx σ' H'
 | .rt d,ι',H'=> ∀ v,Rel K ι' H' d v->D0.rt v H'
 | .bk sd',ι',H'=> ∀ σ',zcz K ι' H' sd' σ'->D0.bk σ' H'
 | .ct sd',ι',H'=> ∀ σ',zcz K ι' H' sd' σ'->D0.ct σ' H'
noncomputable def zuP (K:W.Frag) (E:XE) (G:Sd->M Out):TS:=fun D0 σ H=> ∃ ι h sd,zcz K ι H sd σ/\za4 K ι H h/\Fin K E ι H (G sd h) (ziO K D0)
noncomputable abbrev SS (X:Cx) (E:XE) (st:Stmt) (G:Sd->M Out):Prop:=PS X st (zuP X.K E G)
noncomputable abbrev SSs (X:Cx) (E:XE) (st:List Stmt) (G:Sd->M Out):Prop:=PSs X st (zuP X.K E G)
noncomputable def andThen (o:Out) (g:Sd->M Out):M Out:=match o with
 | .nx sd=>g sd
 | o=>pure o
section
variable {X:Cx} {E:XE} {pos:Pos}
theorem zs0:SSs X E [] (fun sd=>pure (.nx sd)):=PSs.imp zqB fun D0 σ H ⟨ι,h,sd,L,hh,q⟩=>Fin.out hh q σ L
theorem zqA {st:Stmt} {rest:List Stmt} {g g':Sd->M Out} (h1:SS X E st g) (h2:SSs X E rest g'):SSs X E (st::rest) (fun sd=>do let o<-g sd;andThen o g'):=by
 refine PSs.imp (zmV h1 h2) fun D0 σ H ⟨ι,h,sd,L,hh,q⟩=>⟨ι,h,sd,L,hh,Fin.bind q fun o h1 ι1 H1 e1 s1 hr1 q1=> ?_⟩
 cases o with
 | nx sd'=>exact fun σ' L'=>⟨ι1,h1,sd',L',hr1,q1⟩
 | rt d=>exact Fin.out (E:=E) (P:=ziO X.K D0) hr1 q1
 | bk sd'=>exact Fin.out (E:=E) (P:=ziO X.K D0) hr1 q1
 | ct sd'=>exact Fin.out (E:=E) (P:=ziO X.K D0) hr1 q1
theorem zsD {st:Stmt} {g:Sd->M Out} (h1:SS X E st g):SSs X E [st] g:=zpP h1
theorem zrG {e:Expr} {f:Sd->M D} (he:SE X E e f) (hs:swapsWith e none pos.line X.env=pure false:=by rfl):SS X E (.Expr e pos) (fun sd=>do let _<-f sd;pure (.nx sd)):=by
 refine PS.imp (zpk he hs) fun D0 σ H ⟨ι,h,sd,L,hh,q⟩=>⟨ι,h,sd,L,hh,Fin.bind q fun d h1 ι1 H1 e1 s1 hr1 q1 v rv=> ?_⟩
 exact Fin.out hr1 q1 σ (L.step s1)
theorem zuD {e:Expr} {f:Sd->M D} (he:SE X E e f):SS X E (.Return (some e) pos) (fun sd=>do let d<-f sd;pure (.rt d)):=by
 refine PS.imp (zrA he) fun D0 σ H ⟨ι,h,sd,L,hh,q⟩=>⟨ι,h,sd,L,hh,Fin.bind q fun d h1 ι1 H1 e1 s1 hr1 q1 v rv=> ?_⟩
 exact Fin.out hr1 q1 v rv
theorem zvC {c:Expr} {a b:List Stmt} {t:Sd->M Bool} {g g':Sd->M Out} (hc:ST X E c t) (ha:SSs X E a g) (hb:SSs X E b g'):SS X E (.If c a b pos) (fun sd=>do let c<-t sd;if c=true then g sd else g' sd):=by
 refine PS.imp (zur hc ha hb) fun D0 σ H ⟨ι,h,sd,L,hh,q⟩=>⟨ι,h,sd,L,hh,Fin.bind q fun c h1 ι1 H1 e1 s1 hr1 q1=> ?_⟩
 cases c with
 | true=>exact zpW ⟨ι1,h1,sd,L.step s1,hr1,q1⟩
 | false=>exact zpM ⟨ι1,h1,sd,L.step s1,hr1,q1⟩
noncomputable def zrV (K:W.Frag) (E:XE) (g:D->Sd->M Sd):TG:=fun v σ H Q=> ∃ ι h sd d,zcz K ι H sd σ/\za4 K ι H h/\Rel K ι H d v/\Fin K E ι H (g d sd h) fun sd' ι' H'=> ∀ σ',zcz K ι' H' sd' σ'->Q σ' H'
noncomputable def ztT (K:W.Frag) (E:XE) (g:List D->Sd->M Sd):TGs:=fun vs σ H Q=> ∃ ι h sd ds,zcz K ι H sd σ/\za4 K ι H h/\zaq K ι H ds vs/\Fin K E ι H (g ds sd h) fun sd' ι' H'=> ∀ σ',zcz K ι' H' sd' σ'->Q σ' H'
noncomputable abbrev SG (X:Cx) (E:XE) (tg:Expr) (g:D->Sd->M Sd):Prop:=PG X tg (zrV X.K E g)
noncomputable abbrev SGs (X:Cx) (E:XE) (tgs:List Expr) (g:List D->Sd->M Sd):Prop:=PGs X tgs (ztT X.K E g)
noncomputable def zbC (i:Nat):D->Sd->M Sd:=fun d sd=>pure (sd.set i (some d))
theorem zpD (i:Nat) {x:Str} (hN:X.N.Nodup) (hi:X.N[i]? = some x) (hx:Loc X.env.scope x) (hf:X.fn x=true\/X.env.scope.names.lookup x=some .local):SG X E (.Name x pos) (zbC i):=by
 refine PG.imp (zp5 hN hi hx hf) fun v σ H Q ⟨ι,h,sd,d,L,hh,r,q⟩=> ?_
 exact Fin.out hh q _ (L.set r i)
theorem PGs.imp {tgs:List Expr} {t t':TGs} (h:PGs X tgs t) (m: ∀ v σ H Q,t' v σ H Q->t v σ H Q):PGs X tgs t':=fun pins s σ H v u Q I r q=>h pins s σ H v u Q I r (m _ _ _ _ q)
noncomputable def zf0:List D->Sd->M Sd:=fun ds sd=>match ds with | []=>pure sd | _=>M.bad
noncomputable def zb6 (g:D->Sd->M Sd) (gs:List D->Sd->M Sd):List D->Sd->M Sd:=fun ds sd=>match ds with
 | []=>M.bad
 | d::r=>do let sd1<-g d sd;gs r sd1
theorem zqZ:SGs X E [] zf0:=by
 refine PGs.imp zql fun v σ H Q ⟨ι,h,sd,ds,L,hh,r,q⟩=> ?_
 cases ds with
 | nil=>simp only [zaq] at r;exact ⟨r,Fin.out hh q _ L⟩
 | cons d r=>exact qa0 q
theorem znG {e:Expr} {es:List Expr} {g:D->Sd->M Sd} {gs:List D->Sd->M Sd} (h1:SG X E e g) (h2:SGs X E es gs)
  (hs:(assignEach (e::es) X.env).map (·.2)=assign e X.env::(assignEach es X.env).map (·.2):=by rfl):SGs X E (e::es) (zb6 g gs):=by
 refine PGs.imp (znU h1 h2 hs) fun v σ H Q ⟨ι,h,sd,ds,L,hh,r,q⟩=> ?_
 cases ds with
 | nil=>exact qa0 q
 | cons d ds=>
  simp only [zaq] at r
  obtain ⟨v1,vr,rfl,r1,r2⟩:=r
  refine ⟨v1,vr,rfl,ι,h,sd,d,L,hh,r1,Fin.bind q fun sd1 h1 ι1 H1 e1 s1 hr1 q1 σ1 L1=> ?_⟩
  exact ⟨ι1,h1,sd1,ds,L1,hr1,r2.step s1,q1⟩
noncomputable def zfS (n:Nat) (gs:List D->Sd->M Sd):D->Sd->M Sd:=fun d sd=>match d with
 | .tup ds=>if ds.length=n then gs ds sd else M.bad
 | _=>M.bad
theorem zdg {K:W.Frag} {ι:Io} {H:Hp} {ds:List D} {v:V} (h:Rel K ι H (.tup ds) v): ∃ a vs,v= .ref a/\SqT K H a vs/\zaq K ι H ds vs:=by
 simp only [Rel] at h
 obtain ⟨a,vs,e,h1,h2⟩:=h
 exact ⟨a,vs,e,.inl (.inl h1.1),h2⟩
theorem zlx {K:W.Frag} {ι:Io} {H:Hp} {ds:List D} {v:V} (h:Rel K ι H (.scr ds) v): ∃ a vs,v= .ref a/\SqL K H a vs/\zaq K ι H ds vs:=by
 simp only [Rel] at h
 obtain ⟨a,vs,e,h1,h2⟩:=h
 refine ⟨a,vs,e,?_,h2⟩
 rcases h1 with h1 | h1
 ·exact .inl h1.1
 ·rcases h1 with h1 | h1
  ·rcases h1 with h1 | ⟨o,h1⟩<;>cases h1
  ·exact .inr h1
theorem zd8 {K:W.Frag} {ι:Io} {H:Hp} {ds:List D} {v:V} (h:Rel K ι H (.lst ds) v): ∃ a vs,v= .ref a/\SqL K H a vs/\zaq K ι H ds vs:=by
 simp only [Rel] at h
 obtain ⟨a,vs,e,h1,h2⟩:=h
 exact ⟨a,vs,e,.inl (.inl h1.1),h2⟩
theorem zsV {es:List Expr} {k:Nat} {gs:List D->Sd->M Sd} {n:Nat} (hc:X.calm=true) (h:SGs X E es gs)
  (hn:(assignEach es X.env).length=n:=by rfl) (hst:(assignEach es X.env).findIdx? (·.1)=none:=by rfl):SG X E (.Tuple es k pos) (zfS n gs):=by
 refine PG.imp (zso hc h hn hst) fun v σ H Q ⟨ι,h,sd,d,L,hh,r,q⟩=> ?_
 cases d with
 | tup ds=>
  obtain ⟨a,vs,e,h1,h2⟩:=zdg r
  have q:Fin X.K E ι H ((if ds.length=n then gs ds sd else M.bad) h) _:=q
  by_cases hl:ds.length=n
  ·rw [qa4 hl] at q
   exact ⟨a,vs,e,h1,by rw [<- h2.length];exact hl,ι,h,sd,ds,L,hh,h2,q⟩
  ·rw [qa5 hl] at q
   exact qa0 q
 | _=>exact qa0 q
theorem zux {tg e:Expr} {f:Sd->M D} {g:D->Sd->M Sd} (he:SE X E e f) (hg:SG X E tg g) (hs:swapsWithSole [tg] e pos.line X.env=pure false:=by rfl) (hw:swappedStores [tg] e X.env=pure none:=by rfl)
  (h1:(assignEach [tg] X.env).map (·.2)=[assign tg X.env]:=by rfl):SS X E (.Assign [tg] e pos) (fun sd=>do let d<-f sd;let sd'<-g d sd;pure (.nx sd')):=by
 refine PS.imp (zrD he hg hs hw h1) fun D0 σ H ⟨ι,h,sd,L,hh,q⟩=>⟨ι,h,sd,L,hh,Fin.bind q fun d h1 ι1 H1 e1 s1 hr1 q1 v rv=> ?_⟩
 exact ⟨ι1,h1,sd,d,L.step s1,hr1,rv,Fin.bind q1 fun sd' h2 ι2 H2 e2 s2 hr2 q2=>Fin.out hr2 q2⟩
theorem ztF (i:Nat) {x:Str} {e:Expr} {f:Sd->M D} {pos':Pos} (hN:X.N.Nodup) (hi:X.N[i]? = some x) (hx:Loc X.env.scope x) (hf:X.fn x=true\/X.env.scope.names.lookup x=some .local) (he:SE X E e f) (hs:swapsWith e (some (.Name x pos')) pos.line X.env=pure false:=by rfl):
  SS X E (.Assign [.Name x pos'] e pos) (fun sd=>do let d<-f sd;pure (.nx (sd.set i (some d)))):=by
 refine PS.imp (zsL hN hi hx he hs hf) fun D0 σ H ⟨ι,h,sd,L,hh,q⟩=>⟨ι,h,sd,L,hh,Fin.bind q fun d h1 ι1 H1 e1 s1 hr1 q1 v rv=> ?_⟩
 exact Fin.out hr1 q1 _ ((L.step s1).set rv i)
def ztv (H H2:Hp):Prop:=H2=H\/ ∃ q vs,H q=none/\H2=upd H q (.tup vs)
theorem ztv.step {K:W.Frag} {ι:Io} {H H2:Hp} {h:Hh} (g:ztv H H2) (hr:za4 K ι H h):zbE ι H ι H2/\za4 K ι H2 h:=by
 rcases g with e | ⟨q,vs,hq,e⟩
 ·subst e;exact ⟨zbE.refl _ _,hr⟩
 ·subst e;exact ⟨hr.laidS hq,hr.laid hq⟩
structure zrk (K:W.Frag) (ι:Io) (H:Hp) (J:It) (ds:List D):Prop where
 go: ∀ ι' H' (i:Nat),Pass ι H ι' H'->i<ds.length->J.go i H'
 yld: ∀ ι' H' h (i:Nat) x H2,Pass ι H ι' H'->za4 K ι' H' h->i<ds.length->J.yld i H' x H2->ztv H' H2/\ ∃ d,ds[i]? = some d/\Rel K ι' H2 d x
 stop: ∀ ι' H',Pass ι H ι' H'->J.stop ds.length H'
noncomputable def zuX (K:W.Frag) (E:XE) (f:Sd->M (List D)):TI:=fun σ H Q=> ∃ ι h sd,zcz K ι H sd σ/\za4 K ι H h/\Fin K E ι H (f sd h) fun ds ι' H'=> ∀ J,zrk K ι' H' J ds->Q J H'
noncomputable abbrev SI (X:Cx) (E:XE) (tg iter:Expr) (f:Sd->M (List D)):Prop:=PI X tg iter (zuX X.K E f)
noncomputable def zgr:D->M (List D)
 | .tup ds=>pure ds
 | .lst ds=>pure ds
 | _=>M.bad
theorem zod {K:W.Frag} {ι:Io} {H:Hp} {a:Addr} {vs:List V} {ds:List D} (h: ∀ ι' H',Pass ι H ι' H'->SqT K H' a vs) (rl:zaq K ι H ds vs):zrk K ι H (Itt K a) ds where
 go:=fun ι' H' i s hi=>⟨vs,vs[i]'(by rw [<- rl.length];exact hi),h ι' H' s,by simp⟩
 yld:=fun ι' H' _ i x H2 s _ hi ⟨e,y⟩=>by
  subst e
  have hx:=y vs (h ι' _ s)
  obtain ⟨d,e1,e2⟩:=rl.getV hx
  exact ⟨.inl rfl,d,e1,e2.pass s⟩
 stop:=fun ι' H' s=>⟨vs,h ι' H' s,by rw [rl.length];exact qaV _⟩
theorem znl {K:W.Frag} {ι:Io} {H:Hp} {a:Addr} {vs:List V} {ds:List D} (h: ∀ ι' H',Pass ι H ι' H'->SqL K H' a vs) (rl:zaq K ι H ds vs):zrk K ι H (Itl K a) ds where
 go:=fun ι' H' i s hi=>⟨vs,vs[i]'(by rw [<- rl.length];exact hi),h ι' H' s,by simp⟩
 yld:=fun ι' H' _ i x H2 s _ hi ⟨e,y⟩=>by
  subst e
  have hx:=y vs (h ι' _ s)
  obtain ⟨d,e1,e2⟩:=rl.getV hx
  exact ⟨.inl rfl,d,e1,e2.pass s⟩
 stop:=fun ι' H' s=>⟨vs,h ι' H' s,by rw [rl.length];exact qaV _⟩
theorem Pass.refl (ι:Io) (H:Hp):Pass ι H ι H:=(zbE.refl ι H).pass
theorem zk3 {K:W.Frag} {ι:Io} {H:Hp} {ds:List D} {v:V} (h:Rel K ι H (.tup ds) v): ∃ a vs,v= .ref a/\(∀ ι' H',Pass ι H ι' H'->SqT K H' a vs)/\zaq K ι H ds vs:=by
 simp only [Rel] at h
 obtain ⟨a,vs,e,h1,h2⟩:=h
 exact ⟨a,vs,e,fun ι' H' s=> .inl (.inl (s.keep _ _ h1.1 h1.2).1),h2⟩
theorem zqp {K:W.Frag} {ι:Io} {H:Hp} {ds:List D} {v:V} (h:Rel K ι H (.lst ds) v): ∃ a vs,v= .ref a/\(∀ ι' H',Pass ι H ι' H'->SqL K H' a vs)/\zaq K ι H ds vs:=by
 simp only [Rel] at h
 obtain ⟨a,vs,e,h1,h2⟩:=h
 exact ⟨a,vs,e,fun ι' H' s=> .inl (.inl (s.keep _ _ h1.1 h1.2).1),h2⟩
end
end L3
namespace L2
open PySem PySem.Spec PyProof.Rows
noncomputable def zuQ (K:W.Frag) (tl:TE):TI:=fun σ H R=>tl σ H fun x H1=> ∃ a,x= .ref a/\(((∃ xs,SqL K H1 a xs)/\R (Itl K a) H1)\/((∃ xs,SqT K H1 a xs)/\R (Itt K a) H1))
theorem zoL {X:Cx} {tg:Expr} {l:Expr} {tl:TE} (hl:PE X l tl):PI X tg l (zuQ X.K tl):=by
 intro pins s σ H R I h
 refine thn (hl pins s σ H _ I h) fun v s1 ⟨x,H1,I1,r1,q1⟩=> ?_
 obtain ⟨a,e,⟨⟨xs,hq⟩,q⟩ | ⟨⟨xs,hq⟩,q⟩⟩:=q1
 ·subst e
  cases r1
  obtain ⟨its,rv,p,hz⟩:=I1.list hq
  refine wpAny_pyIter_list p.isList ?_
  refine ⟨s1.heap.objs.size,[s1.heap.objs.size],_,_,H1,rfl,I1.kept (t':=s1.toks) fun b o e=>qag _ e,zlw a _,⟨_,qar _ rfl,rfl,rfl⟩,fun b hb=> ?_,q⟩
  have e:b=s1.heap.objs.size:=by simpa using hb
  subst e
  exact I1.fpOk (qaV _) (I1.hok.fresh (qaV _))
 ·subst e
  cases r1
  obtain ⟨its,rv,p,hz⟩:=I1.tuple hq
  refine wpAny_pyIter_tuple (show s1.heap.IsTuple a its.toArray from p) ?_
  refine ⟨s1.heap.objs.size,[s1.heap.objs.size],_,_,H1,rfl,I1.kept (t':=s1.toks) fun b o e=>qag _ e,zj6 a _,⟨_,qar _ rfl,rfl,rfl⟩,fun b hb=> ?_,q⟩
  have e:b=s1.heap.objs.size:=by simpa using hb
  subst e
  exact I1.fpOk (qaV _) (I1.hok.fresh (qaV _))
end L2
namespace L3
open PySem PySem.Spec PyProof.Rows L2
section
variable {X:Cx} {E:XE} {pos:Pos}
theorem zs8 {tg e:Expr} {f:Sd->M D} (he:SE X E e f):SI X E tg e (fun sd=>do let d<-f sd;zgr d):=by
 refine PI.imp (zoL he) fun σ H Q ⟨ι,h,sd,L,hh,q⟩=>⟨ι,h,sd,L,hh,Fin.bind q fun d h1 ι1 H1 e1 s1 hr1 q1 v rv=> ?_⟩
 cases d with
 | lst ds=>
  obtain ⟨a,vs,e,h1',h2⟩:=zqp rv
  exact ⟨a,e,.inl ⟨⟨vs,h1' _ _ (Pass.refl _ _)⟩,Fin.out hr1 q1 _ (znl h1' h2)⟩⟩
 | tup ds=>
  obtain ⟨a,vs,e,h1',h2⟩:=zk3 rv
  exact ⟨a,e,.inr ⟨⟨vs,h1' _ _ (Pass.refl _ _)⟩,Fin.out hr1 q1 _ (zod h1' h2)⟩⟩
 | _=>exact qa0 q1
noncomputable def zf4 (lo:Int) (n:Nat):List D:=(List.range n).map fun (k:Nat)=>D.int (lo+(k:Int))
theorem zn9 {K:W.Frag} {ι:Io} {H:Hp} {lo:Int} {n:Nat}:zrk K ι H (Itr lo n) (zf4 lo n) where
 go:=fun ι' H' i s hi=>by show i<n;simpa [zf4] using hi
 yld:=fun ι' H' _ i x H2 s _ hi ⟨e,y⟩=>by
  subst e y
  have hi:i<n:=by simpa [zf4] using hi
  refine ⟨.inl rfl,.int (lo+i),?_,by simp [Rel]⟩
  simp [zf4,hi]
 stop:=fun ι' H' s=>by
  show n<=(zf4 lo n).length
  simp [zf4]
noncomputable def zdY (j:Int):Bool:=decide (-(2^62)<=j) && decide (j<2^62)
noncomputable def zmy:List D->M (List D)
 | [.int j]=>if zdY j=true then pure (zf4 0 j.toNat) else M.bad
 | _=>M.bad
theorem zfb {j:Int} (h:zdY j=true): -(2^62)<=j/\j<2^62:=by
 unfold zdY at h
 simpa using h
theorem zpm {tg a:Expr} {p:Pos} {fs:Sd->M (List D)} (hg:Gl X "range") (hm:X.mg "range"=none) (ha:SA X E [a] fs) (hs:starEach [a] X.env=[(false,eval a X.env)]:=by rfl):
  SI X E tg (.Call (.Name "range" p) [a] [] pos) (fun sd=>do let ds<-fs sd;zmy ds):=by
 refine PI.imp (zk4 hg hm ha hs) fun σ H Q ⟨ι,h,sd,L,hh,q⟩=>⟨ι,h,sd,L,hh,Fin.bind q fun ds h1 ι1 H1 e1 s1 hr1 q1 vs rv=> ?_⟩
 match ds,rv,q1 with
 | [.int j],rv,q1=>
  simp only [zaq,Rel] at rv
  obtain ⟨v,r,rfl,rfl,rfl⟩:=rv
  have q1:Fin X.K E ι1 H1 ((if zdY j=true then (pure (zf4 0 j.toNat):M (List D)) else M.bad) h1) _:=q1
  by_cases hj:zdY j=true
  ·rw [qa4 hj] at q1
   exact ⟨j,rfl,(zfb hj).1,(zfb hj).2,Fin.out hr1 q1 _ zn9⟩
  ·rw [qa5 hj] at q1
   exact qa0 q1
 | [],_,q1=>exact qa0 q1
 | .non::_,_,q1=>exact qa0 q1
 | .bl _::_,_,q1=>exact qa0 q1
 | .str _::_,_,q1=>exact qa0 q1
 | .tup _::_,_,q1=>exact qa0 q1
 | .lst _::_,_,q1=>exact qa0 q1
 | .cel _::_,_,q1=>exact qa0 q1
 | .set _::_,_,q1=>exact qa0 q1
 | .dct::_,_,q1=>exact qa0 q1
 | .fn _::_,_,q1=>exact qa0 q1
 | .scr _::_,_,q1=>exact qa0 q1
 | .exn _::_,_,q1=>exact qa0 q1
 | .int _::_::_,_,q1=>exact qa0 q1
noncomputable def zbv (body:D->Sd->M Out):List D->Sd->M Out
 | [],sd=>pure (.nx sd)
 | x::r,sd=>do
  let o<-body x sd
  match o with
  | .nx sd'=>zbv body r sd'
  | .ct sd'=>zbv body r sd'
  | .bk sd'=>pure (.nx sd')
  | .rt d=>pure (.rt d)
theorem ztH {tg iter:Expr} {body:List Stmt} {fi:Sd->M (List D)} {g:D->Sd->M Sd} {gb:Sd->M Out} (hc:X.calm=true) (hp:PassesOwn (model X.prog X.w) X.A X.env X.xe) (hi:SI X E tg iter fi) (hg:SG X E tg g) (hb:SSs X E body gb)
  (hs: ∀ x,foldedSetIterable iter X.env x=pure x:=by intro _;rfl):SS X E (.For tg iter body [] pos) (fun sd=>do let ds<-fi sd;zbv (fun x sd=>do let sd1<-g x sd;gb sd1) ds sd):=by
 refine PS.imp (zrF hp hc hi hg hb hs) fun D0 σ H ⟨ι,h,sd,L,hh,q⟩=>⟨ι,h,sd,L,hh,Fin.bind q fun ds h1 ι1 H1 e1 s1 hr1 q1 J ok=> ?_⟩
 refine ⟨fun i m σ' H'=>m=ds.length - i/\i<=ds.length/\ ∃ ι' h' sd',zbE ι1 H1 ι' H'/\zcz X.K ι' H' sd' σ'/\za4 X.K ι' H' h'/\Fin X.K E ι' H' (zbv (fun x sd=>do let sd1<-g x sd;gb sd1) (ds.drop i) sd' h') (ziO X.K D0),
   ⟨_,rfl,Nat.zero_le _,ι1,h1,sd,zbE.refl _ _,L.step s1,hr1,by simpa using q1⟩,?_⟩
 rintro i m σ2 H2 ⟨rfl,hi2,ι2,h2,sd2,s2,L2,hr2,q2⟩
 by_cases hlt:i<ds.length
 ·right
  refine ⟨ok.go ι2 H2 i s2.pass hlt,fun σ' H'=>i+1<=ds.length/\ ∃ ι' h' sd',zbE ι1 H1 ι' H'/\zcz X.K ι' H' sd' σ'/\za4 X.K ι' H' h'/\Fin X.K E ι' H' (zbv (fun x sd=>do let sd1<-g x sd;gb sd1) (ds.drop (i+1)) sd' h') (ziO X.K D0),
    fun σ' H' p=>⟨ds.length - (i+1),by omega,rfl,p.1,p.2⟩,fun x H3 y=> ?_⟩
  obtain ⟨gr,d,ed,rd⟩:=ok.yld ι2 H2 h2 i x H3 s2.pass hr2 hlt y
  obtain ⟨s3,hr3⟩:=gr.step hr2
  have edr:ds.drop i=d::ds.drop (i+1):=by
   rw [qae hlt]
   rw [qaf hlt] at ed
   rw [Option.some.inj ed]
  rw [edr] at q2
  have q3:Fin X.K E ι2 H3 (zbv (fun x sd=>do let sd1<-g x sd;gb sd1) (d::ds.drop (i+1)) sd2 h2) (ziO X.K D0):=Fin.step s3 q2
  refine ⟨ι2,h2,sd2,d,L2.step s3,hr3,rd,?_⟩
  have q5:Fin X.K E ι2 H3 ((g d sd2>>=fun sd1=>(gb sd1>>=fun o=>(match o with
    | .nx sd'=>zbv (fun x sd=>do let sd1<-g x sd;gb sd1) (ds.drop (i+1)) sd'
    | .ct sd'=>zbv (fun x sd=>do let sd1<-g x sd;gb sd1) (ds.drop (i+1)) sd'
    | .bk sd'=>pure (.nx sd')
    | .rt d=>pure (.rt d):M Out))) h2) (ziO X.K D0):=by
   have e:(zbv (fun x sd=>do let sd1<-g x sd;gb sd1) (d::ds.drop (i+1)) sd2 h2)=((g d sd2>>=fun sd1=>(gb sd1>>=fun o=>(match o with
     | .nx sd'=>zbv (fun x sd=>do let sd1<-g x sd;gb sd1) (ds.drop (i+1)) sd'
     | .ct sd'=>zbv (fun x sd=>do let sd1<-g x sd;gb sd1) (ds.drop (i+1)) sd'
     | .bk sd'=>pure (.nx sd')
     | .rt d=>pure (.rt d):M Out))) h2):=by
    show M.bind (M.bind (g d sd2) gb) _ h2=M.bind (g d sd2) _ h2
    unfold M.bind
    cases g d sd2 h2<;>rfl
   rw [<- e]
   exact q3
  refine Fin.bind q5 fun sd6 h6 ι6 H6 e6 s6 hr6 q6 σ6 L6=> ?_
  refine ⟨ι6,h6,sd6,L6,hr6,Fin.bind q6 fun o h7 ι7 H7 e7 s7 hr7 q7=> ?_⟩
  have st7:zbE ι1 H1 ι7 H7:=((s2.trans s3).trans s6).trans s7
  cases o with
  | nx sd'=>exact fun σ' L'=>⟨hlt,ι7,h7,sd',st7,L',hr7,q7⟩
  | ct sd'=>exact fun σ' L'=>⟨hlt,ι7,h7,sd',st7,L',hr7,q7⟩
  | bk sd'=>exact fun σ' L'=>Fin.out (E:=E) (P:=ziO X.K D0) hr7 q7 σ' L'
  | rt d=>exact fun v rv=>Fin.out (E:=E) (P:=ziO X.K D0) hr7 q7 v rv
 ·left
  have e:i=ds.length:=by omega
  subst e
  refine ⟨ok.stop ι2 H2 s2.pass,?_⟩
  rw [List.drop_length] at q2
  exact Fin.out (E:=E) (P:=ziO X.K D0) hr2 q2 σ2 L2
noncomputable def zco (f:D->M (Option D)):List D->M (List D)
 | []=>pure []
 | x::r=>do
  let o<-f x
  let ys<-zco f r
  pure (match o with | some y=>y::ys | none=>ys)
noncomputable def zbw (g:D->Sd->M Sd) (tc:Sd->M Bool) (te:Sd->M D) (sd:Sd) (x:D):M (Option D):=do
 let sd1<-g x sd
 let c<-tc sd1
 if c=true then do
  let y<-te sd1
  pure (some y)
 else pure none
end
noncomputable def Io.hide (ι:Io) (p:Addr):Io:=⟨ι.c,p::ι.x⟩
noncomputable def Io.show (ι:Io):Io:=⟨ι.c,ι.x.tail⟩
theorem zm9 {ι:Io} {a:Addr} (h:ι.show.Has a):ι.Has a:=h.imp id List.mem_of_mem_tail
section
variable {K:W.Frag} {ι ι':Io} {H H':Hp} {p:Addr} {o:HO} {h:Hh}
theorem zfi (hp:H p=none):Pass ι H (ι.hide p) (upd H p o):=⟨fun _ _ z=> .inl z,fun b o' hb n=>⟨by rw [zau (zaO hb hp)];exact hb,fun z=>by
  rcases z with z | z
  · exact n (.inl z)
  · rcases qaP.mp z with z | z
    · rw [z,hp] at hb;cases hb
    · exact n (.inr z)⟩⟩
theorem zfp:Pass ι H ι.show H:=⟨fun _ _ z=> .inl z,fun b o' hb n=>⟨hb,fun z=>n (zm9 z)⟩⟩
theorem zd6 (hp:p∈ι.x):Pass ι H ι (upd H p o):=⟨fun _ _ z=> .inl z,fun b o' hb n=>⟨by rw [zau (show b≠p from fun z=>n (.inr (z▸hp)))];exact hb,n⟩⟩
theorem za4.hide {ws:List V} (hr:za4 K ι H h) (hp:H p=none):za4 K (ι.hide p) (upd H p (.lst ws)) h:=
 ⟨hr.len,hr.inj,fun n a c h1 h2=>by
   obtain ⟨o',e2,e3⟩:=hr.at_ n a c h1 h2
   exact ⟨o',by rw [zau (zaO e2 hp)];exact e2,e3.pass (zfi hp)⟩,hr.dead,fun a ha=>by
   rcases qaP.mp ha with z | z
   · subst z;exact ⟨⟨ws,zaM⟩,fun z=>hr.nin hp (.inl z)⟩
   · refine ⟨?_,(hr.hidt a z).2⟩
     rw [zau (show a≠p from fun w=>hr.nin hp (.inr (w▸z)))]
     exact (hr.hidt a z).1⟩
theorem za4.hid {ws:List V} (hr:za4 K ι H h) (hp:p∈ι.x):za4 K ι (upd H p (.lst ws)) h:=
 ⟨hr.len,hr.inj,fun n a c h1 h2=>by
   obtain ⟨o',e2,e3⟩:=hr.at_ n a c h1 h2
   have ne:a≠p:=fun z=>(hr.hidt p hp).2 (z▸List.mem_of_getElem? h1)
   exact ⟨o',by rw [zau ne];exact e2,e3.pass (zd6 hp)⟩,hr.dead,fun a ha=>by
   refine ⟨?_,(hr.hidt a ha).2⟩
   by_cases z:a=p
   · subst z;exact ⟨ws,zaM⟩
   · rw [zau z];exact (hr.hidt a ha).1⟩
theorem za4.show (hr:za4 K ι H h):za4 K ι.show H h:=
 ⟨hr.len,hr.inj,fun n a c h1 h2=>by
   obtain ⟨o',e2,e3⟩:=hr.at_ n a c h1 h2
   exact ⟨o',e2,e3.pass zfp⟩,hr.dead,fun a ha=>hr.hidt a (List.mem_of_mem_tail ha)⟩
theorem zh9 {ι1 ι2:Io} {H1 H2:Hp} (hp:H p=none) (hpx:p∉ι.x) (hx:ι1.x=p::ι.x) (s:zbE ι H ι1.show H1) (t:zbE ι1 H1 ι2 H2):zbE ι H ι2.show (upd H2 p o) where
 old:=fun n q h=>by
  rcases s.old n q h with h | h
  ·exact t.old n q h
  ·rcases t.old n _ h with h | h<;>exact .inr h
 new:=fun a h=>by
  rcases t.new a h with h | h
  ·exact s.new a h
  ·by_cases z:some a∈ι.c
   ·exact .inl z
   ·refine .inr ?_
    cases q:H a with
    | none=>rfl
    | some o=>
     by_cases z':a∈ι.x
     ·rw [s.hidk a z',q] at h;cases h
     ·rw [s.keep a o q (fun w=>w.elim z z')] at h;cases h
 hid:=by
  show ι2.x.tail=ι.x
  rw [t.hid,hx]
  rfl
 hidk:=fun a ha=>by
  have z:a≠p:=fun z=>hpx (z▸ha)
  rw [zau z,t.hidk a (by rw [hx];exact qan _ ha)]
  exact s.hidk a ha
 keep:=fun b q hb n=>by
  have ne:b≠p:=zaO hb hp
  rw [zau ne]
  refine t.keep b q (s.keep b q hb n) fun z=> ?_
  rcases z with z | z
  ·rcases s.new b z with z | z
   ·exact n (.inl z)
   ·rw [hb] at z;cases z
  ·rw [hx] at z
   rcases qaP.mp z with z | z
   ·exact ne z
   ·exact n (.inr z)
theorem zbE.shown {ι2:Io} {H2:Hp} {r:List Addr} (hx:ι.x=p::r) (t:zbE ι H ι2 H2):zbE ι.show H ι2.show H2 where
 old:=t.old
 new:=t.new
 hid:=by show ι2.x.tail=ι.x.tail;rw [t.hid]
 hidk:=fun a ha=>t.hidk a (List.mem_of_mem_tail ha)
 keep:=fun b q hb n=>by
  by_cases z:b=p
  ·subst z
   rw [t.hidk b (by rw [hx];exact qau)]
   exact hb
  ·refine t.keep b q hb fun w=> ?_
   rcases w with w | w
   ·exact n (.inl w)
   ·rw [hx] at w
    rcases qaP.mp w with w | w
    ·exact z w
    ·exact n (.inr (by show b∈ι.x.tail;rw [hx];exact w))
theorem Fin.bindB {α β:Type} {E:XE} {m:M α} {f:α->M β} {P:β->Io->Hp->Prop} {P':α->Io->Hp->Prop} {ιb:Io} {Hb:Hp} (q:Fin K E ιb Hb ((m>>=f) h) P)
  (conv: ∀ ι' H' h',zbE ι H ι' H'->za4 K ι' H' h'-> ∃ ι'',zbE ιb Hb ι'' H'/\za4 K ι'' H' h')
  (k: ∀ a h' ι' H',m h= .ok a h'->zbE ι H ι' H'->za4 K ι' H' h'->Fin K E ιb Hb (f a h') P->P' a ι' H'):Fin K E ι H (m h) P':=by
 have q':Fin K E ιb Hb (M.bind m f h) P:=q
 unfold M.bind at q'
 cases e:m h with
 | ok a h'=>
  rw [e] at q'
  intro ι' H' s hr
  exact k a h' ι' H' e s hr q'
 | exc c h'=>
  rw [e] at q'
  intro ι' H' s hr
  obtain ⟨ι'',s2,hr2⟩:=conv ι' H' h' s hr
  exact q' _ _ s2 hr2
 | bad=>rw [e] at q';exact q'
end
noncomputable instance:LawfulMonad M:=LawfulMonad.mk' M
 (id_map:=fun x=>by
   funext h
   show M.bind x (fun a=>M.pure (id a)) h=x h
   unfold M.bind M.pure
   cases x h<;>rfl)
 (pure_bind:=fun x f=>rfl)
 (bind_assoc:=fun x f g=>by
   funext h
   show M.bind (M.bind x f) g h=M.bind x (fun a=>M.bind (f a) g) h
   unfold M.bind
   cases x h<;>rfl)
noncomputable def zao (src:List (Option Nat)) (sd:Sd):Sd:=src.map fun o=>o.bind fun i=>(sd[i]?).join
theorem zcz.bStart {K:W.Frag} {ι:Io} {H:Hp} {sd:Sd} {σ:L2.St} {src:List (Option Nat)} (h:zcz K ι H sd σ):zcz K ι H (zao src sd) (bStart src σ):=by
 refine ⟨by unfold zao L2.bStart;rw [qaH,qaH],fun i d e=> ?_⟩
 unfold zao at e
 unfold L2.bStart
 rw [List.getElem?_map] at e ⊢
 cases z:src[i]? with
 | none=>rw [z] at e;cases e
 | some o=>
  rw [z] at e
  cases o with
  | none=>cases e
  | some j=>
   have e:(sd[j]?).join=some d:=by simpa using e
   cases w:sd[j]? with
   | none=>rw [w] at e;cases e
   | some q=>
    rw [w] at e
    have e:q=some d:=by simpa using e
    subst e
    obtain ⟨v,h1,h2⟩:=h.2 j d w
    exact ⟨v,by simp [h1],h2⟩
def zaY (g:D->Sd->M Sd) (src:List (Option Nat)):Prop:= ∀ x sd h sd1 h1,sd.length=src.length->(∀ (i:Nat),src[i]? = some none->sd[i]? = some none)->g x sd h= .ok sd1 h1->sd1.length=sd.length/\ ∀ (i:Nat) d,src[i]? ≠ some none->sd[i]? = some (some d)->sd1[i]? = some (some d)
def zcU (g:List D->Sd->M Sd) (src:List (Option Nat)):Prop:= ∀ x sd h sd1 h1,g x sd h= .ok sd1 h1->sd1.length=sd.length/\ ∀ (i:Nat) d,src[i]? ≠ some none->sd[i]? = some (some d)->sd1[i]? = some (some d)
theorem zlf {i:Nat} {src:List (Option Nat)} (h:src[i]? = some none): ∀ x sd h sd1 h1,zbC i x sd h= .ok sd1 h1->sd1.length=sd.length/\ ∀ (j:Nat) d,src[j]? ≠ some none->sd[j]? = some (some d)->sd1[j]? = some (some d):=fun x sd h0 sd1 h1 e=>by
 have e:R.ok (sd.set i (some x)) h0= .ok sd1 h1:=e
 cases e
 refine ⟨qaI,fun j d hj e=> ?_⟩
 rw [qao (show i≠j from fun z=>hj (z▸h))]
 exact e
theorem zaY.name {i:Nat} {src:List (Option Nat)} (h:src[i]? = some none):zaY (zbC i) src:=fun x sd h0 sd1 h1 _ _ e=>zlf h x sd h0 sd1 h1 e
theorem zcU.nil {src:List (Option Nat)}:zcU zf0 src:=fun x sd h sd1 h1 e=>by
 cases x with
 | nil=>
  have e:R.ok sd h= .ok sd1 h1:=e
  cases e
  exact ⟨rfl,fun _ _ _ z=>z⟩
 | cons _ _=>cases (show R.bad=R.ok sd1 h1 from e)
theorem zcU.cons {i:Nat} {gs:List D->Sd->M Sd} {src:List (Option Nat)} (h:src[i]? = some none) (t:zcU gs src):zcU (zb6 (zbC i) gs) src:=fun x sd h0 sd1 h1 e=>by
 cases x with
 | nil=>cases (show R.bad=R.ok sd1 h1 from e)
 | cons d r=>
  have e:gs r (sd.set i (some d)) h0= .ok sd1 h1:=e
  obtain ⟨e1,e2⟩:=t r _ h0 sd1 h1 e
  refine ⟨by rw [e1,qaI],fun j d' hj z=>e2 j d' hj ?_⟩
  rw [qao (show i≠j from fun z=>hj (z▸h))]
  exact z
theorem zaY.tup {n:Nat} {gs:List D->Sd->M Sd} {src:List (Option Nat)} (t:zcU gs src):zaY (zfS n gs) src:=fun x sd h0 sd1 h1 _ _ e=>by
 cases x with
 | tup ds=>
  have e:(if ds.length=n then gs ds sd else M.bad) h0= .ok sd1 h1:=e
  by_cases hl:ds.length=n
  ·rw [qa4 hl] at e;exact t _ _ _ _ _ e
  ·rw [qa5 hl] at e;cases (show R.bad=R.ok sd1 h1 from e)
 | _=>cases (show R.bad=R.ok sd1 h1 from e)
section
variable {X:Cx} {E:XE} {scope:Scope} {N:List Str} {src:List (Option Nat)} {tg iter elt:Expr} {ifs:List Expr} {pos:Pos}
noncomputable abbrev SCs (X:Cx) (E:XE) (ifs:List Expr) (t:Sd->M Bool):Prop:=PCs X ifs (zf5 X.K E t)
theorem zsJ:SCs X E [] (fun _=>pure true):=fun pins s σ H Q I ⟨ι,h,sd,L,hh,q⟩=>zpN pins s σ H Q I (Fin.out hh q)
theorem zsP {c:Expr} {t:Sd->M Bool} (h:ST X E c t):SCs X E [c] t:=zqN h
theorem blk {K:W.Frag} {g:D->Sd->M Sd} {tc:Sd->M Bool} {te:Sd->M D} {J:It} {ds:List D} {ι:Io} {H:Hp} {h:Hh} {sd:Sd} {σ:L2.St} {Q:VK} {p:Addr} (hk:zaY g src) (L:zcz K ι H sd σ) (hr:za4 K ι H h) (ok:zrk K ι H J ds) (hz:ds.length<=sizeLine)
  (q:Fin K E ι H ((do let ys<-zco (zbw g tc te (zao src sd)) ds;pure (D.lst ys)) h) fun d ι' H'=> ∀ v,Rel K ι' H' d v->Q v H') (hp:H p=none):
  ztx J (zrV K E g) (zf5 K E tc) (zf8 K E te) (bStart src σ) H p fun H'=>Q (.ref p) H':=by
 generalize hP:(fun (d:D) (ι':Io) (H':Hp)=> ∀ v,Rel K ι' H' d v->Q v H')=P at q
 generalize hf:zbw g tc te (zao src sd)=f at q
 have hpx:p∉ι.x:=fun z=>hr.nin hp (.inr z)
 have h0len:(zao src sd).length=src.length:=by unfold zao;rw [qaH]
 have h0non: ∀ (i:Nat),src[i]? = some none->(zao src sd)[i]? = some none:=fun i e=>by unfold zao;rw [List.getElem?_map,e];rfl
 refine ⟨fun i m σ' H'=>m=ds.length - i/\i<=ds.length/\ ∃ ι' h' done vs,ι'.x=p::ι.x/\zbE ι H ι'.show H'/\zcz K ι' H' (zao src sd) σ'/\za4 K ι' H' h'/\H' p=some (.lst vs)/\zaq K ι' H' done vs/\done.length<=i/\
     Fin K E ι H ((do let ys<-zco f (ds.drop i);pure (D.lst (done++ys))) h') P,
   ⟨_,rfl,Nat.zero_le _,ι.hide p,h,[],[],rfl,?_,L.bStart.pass (zfi hp),hr.hide hp,zaM,zaq.nil,qaV _,?_⟩,?_⟩
 ·have:=hr.laidS (o:= .lst []) hp
  exact ⟨this.old,this.new,this.hid,this.hidk,this.keep⟩
 ·simpa using q
 rintro i m σ2 H2 ⟨rfl,hi2,ι2,h2,done,vs,hx2,s2,L2,hr2,e2,rl2,dl2,q2⟩
 have ps2:Pass ι H ι2 H2:=⟨s2.old,fun b o hb n=>⟨s2.keep b o hb n,fun z=>by
   rcases z with z | z
   · exact s2.nin hb n (.inl z)
   · rw [hx2] at z
     rcases qaP.mp z with z | z
     · rw [z,hp] at hb;cases hb
     · exact n (.inr z)⟩⟩
 have hp2:p∈ι2.x:=by rw [hx2];exact qau
 have base: ∀ {ι':Io} {H':Hp},zbE ι2 H2 ι' H'->zbE ι H ι'.show H':=fun t=>s2.trans (t.shown hx2)
 by_cases hlt:i<ds.length
 ·right
  refine ⟨ok.go ι2 H2 i ps2 hlt,fun σ' H'=>i+1<=ds.length/\ ∃ ι' h' done vs,ι'.x=p::ι.x/\zbE ι H ι'.show H'/\zcz K ι' H' (zao src sd) σ'/\za4 K ι' H' h'/\H' p=some (.lst vs)/\zaq K ι' H' done vs/\done.length<=i+1/\
    Fin K E ι H ((do let ys<-zco f (ds.drop (i+1));pure (D.lst (done++ys))) h') P,fun σ' H' z=>⟨ds.length - (i+1),by omega,rfl,z.1,z.2⟩,fun x H3 y=> ?_⟩
  obtain ⟨gr,d,ed,rd⟩:=ok.yld ι2 H2 h2 i x H3 ps2 hr2 hlt y
  obtain ⟨s3,hr3⟩:=gr.step hr2
  have edr:ds.drop i=d::ds.drop (i+1):=by
   rw [qae hlt]
   rw [qaf hlt] at ed
   rw [Option.some.inj ed]
  rw [edr] at q2
  have q3:=q2
  have st3:zbE ι2 H2 ι2 H3:=s3
  have e3:H3 p=some (.lst vs):=by rw [s3.hidk p hp2];exact e2
  have eq1:(do let ys<-zco f (d::ds.drop (i+1));pure (D.lst (done++ys)):M D)=(g d (zao src sd)>>=fun sd1=>tc sd1>>=fun c=>if c=true then (te sd1>>=fun y=>zco f (ds.drop (i+1))>>=fun ys=>pure (D.lst (done++[y]++ys))) else (zco f (ds.drop (i+1))>>=fun ys=>pure (D.lst (done++ys)))):=by
   rw [zco]
   rw [<- hf]
   simp only [zbw,bind_assoc]
   refine congrArg _ (funext fun sd1=> ?_)
   refine congrArg _ (funext fun c=> ?_)
   cases c with
   | true=>simp only [if_true,bind_assoc,pure_bind,List.append_assoc,List.cons_append,List.nil_append]
   | false=>simp only [qax,if_false,pure_bind]
  rw [eq1] at q3
  refine ⟨ι2,h2,zao src sd,d,L2.step s3,hr3,rd,?_⟩
  refine Fin.bindB q3 (fun ι' H' h' s hr'=>⟨ι'.show,base (s3.trans s),hr'.show⟩) fun sd4 h4 ι4 H4 e4 s4 hr4 q4 σ4 L4=> ?_
  have hx4:ι4.x=p::ι.x:=by rw [s4.hid];exact hx2
  obtain ⟨k1,k2⟩:=hk d _ h2 sd4 h4 h0len h0non e4
  refine ⟨ι4,h4,sd4,L4,hr4,Fin.bindB q4 (fun ι' H' h' s hr'=>⟨ι'.show,base ((s3.trans s4).trans s),hr'.show⟩) fun c h5 ι5 H5 e5 s5 hr5 q5=> ?_⟩
  have hx5:ι5.x=p::ι.x:=by rw [s5.hid];exact hx4
  have sub: ∀ {ι':Io} {H':Hp},zcz K ι' H' sd4 σ4->zcz K ι' H' (zao src sd) σ4:=fun {ι' H'} z=>⟨by rw [<- k1];exact z.1,fun j d' e=>z.2 j d' (k2 j d' (fun w=>by rw [h0non j w] at e;cases e) e)⟩
  have st5:zbE ι2 H2 ι5 H5:=(s3.trans s4).trans s5
  cases c with
  | false=>
   exact zpM ⟨hlt,ι5,h5,done,vs,hx5,base st5,sub (L4.step s5),hr5,by rw [st5.hidk p hp2];exact e2,rl2.step st5,Nat.le_succ_of_le dl2,q5⟩
  | true=>
   refine zpW ⟨ι5,h5,sd4,L4.step s5,hr5,Fin.bindB q5 (fun ι' H' h' s hr'=>⟨ι'.show,base (st5.trans s),hr'.show⟩) fun yd h6 ι6 H6 e6 s6 hr6 q6 y ry=> ?_⟩
   have st6:zbE ι2 H2 ι6 H6:=st5.trans s6
   have hx6:ι6.x=p::ι.x:=by rw [s6.hid];exact hx5
   have hp6:p∈ι6.x:=by rw [hx6];exact qau
   have e6':H6 p=some (.lst vs):=by rw [st6.hidk p hp2];exact e2
   refine ⟨vs,e6',by rw [<- rl2.length];omega,hlt,ι6,h6,done++[yd],vs++[y],hx6,zh9 hp hpx hx2 s2 st6,?_,hr6.hid hp6,zaM,?_,?_,?_⟩
   ·exact ((sub (L4.step s5)).step s6).pass (zd6 hp6)
   ·exact ((rl2.step st6).append (zaq.cons ry zaq.nil)).pass (zd6 hp6)
   ·rw [qav,List.length_singleton];omega
   ·exact q6
 ·left
  have e:i=ds.length:=by omega
  subst e
  refine ⟨ok.stop ι2 H2 ps2,?_⟩
  rw [List.drop_length] at q2
  have q3:P (.lst done) ι2.show H2:=by
   have:Fin K E ι H ((pure (D.lst (done++[])):M D) h2) P:=q2
   rw [List.append_nil] at this
   exact this _ _ s2 hr2.show
  rw [<- hP] at q3
  refine q3 (.ref p) ?_
  simp only [Rel]
  refine ⟨p,vs,rfl,⟨e2,fun z=> ?_⟩,rl2.pass zfp⟩
  rcases z with z | z
  ·exact (hr2.hidt p (by rw [hx2];exact qau)).2 z
  ·exact hpx (by have z:p∈ι2.x.tail:=z;rw [hx2] at z;exact z)
noncomputable def zba (fi:Sd->M (List D)) (g:D->Sd->M Sd) (tc:Sd->M Bool) (te:Sd->M D) (src:List (Option Nat)):Sd->M D:=fun sd=>do
 let ds<-fi sd
 fits ds.length
 let ys<-zco (zbw g tc te (zao src sd)) ds
 pure (D.lst ys)
theorem zk6 {K:W.Frag} {fi:Sd->M (List D)} {g:D->Sd->M Sd} {tc:Sd->M Bool} {te:Sd->M D} (hk:zaY g src) (σ:L2.St) (H:Hp) (Q:VK) (q:zf8 K E (zba fi g tc te src) σ H Q):
  zn4 (zuX K E fi) (zrV K E g) (zf5 K E tc) (zf8 K E te) src σ H Q:=by
 obtain ⟨ι,h,sd,L,hh,q⟩:=q
 refine ⟨ι,h,sd,L,hh,Fin.bind q fun ds h1 ι1 H1 e1 s1 hr1 q1 J ok p hp=> ?_⟩
 obtain ⟨z,q2⟩:=Fin.fits q1
 exact blk hk (L.step s1) hr1 ok z q2 hp
theorem zpn {fi:Sd->M (List D)} {g:D->Sd->M Sd} {tc:Sd->M Bool} {te:Sd->M D} (B:BOk X scope N src) (hk:zaY g src) (hi:SI X E tg iter fi)
  (hg: ∀ s H fp,SG (cxB X scope N s H fp) E tg g) (ht: ∀ s H fp,SCs (cxB X scope N s H fp) E ifs tc) (he: ∀ s H fp,SE (cxB X scope N s H fp) E elt te)
  (hs: ∀ x,foldedSetIterable iter X.env x=pure x:=by intro _;rfl):SE X E (.ListComp elt [⟨tg,iter,ifs,0⟩] scope pos) (zba fi g tc te src):=
 PE.imp (zl2 B hi hg ht he hs) (zk6 hk)
theorem zmB {fi:Sd->M (List D)} {g:D->Sd->M Sd} {tc:Sd->M Bool} {te:Sd->M D} (i:Nat) {y:Str} {py spos:Pos} (B:BOk X scope N src) (hk:zaY g src) (hi:SI X E tg iter fi)
  (hg: ∀ s H fp,SG (cxB X scope N s H fp) E tg g) (ht: ∀ s H fp,SCs (cxB X scope N s H fp) E ifs tc) (he: ∀ s H fp,SE (cxB X scope N s H fp) E elt te)
  (hN:X.N.Nodup) (hy:X.N[i]? = some y) (hx:Loc X.env.scope y) (hf:X.fn y=true\/X.env.scope.names.lookup y=some .local) (hsw:swapsWith (.ListComp elt [⟨tg,iter,ifs,0⟩] scope pos) (some (.Name y py)) spos.line X.env=pure true)
  (hs: ∀ x,foldedSetIterable iter X.env x=pure x:=by intro _;rfl):SS X E (.Assign [.Name y py] (.ListComp elt [⟨tg,iter,ifs,0⟩] scope pos) spos) (fun sd=>do let d<-zba fi g tc te src sd;pure (.nx (sd.set i (some d)))):=by
 refine PS.imp (zjT B hi hg ht he hN hy hx hsw hf hs) fun D0 σ H ⟨ι,h,sd,L,hh,q⟩=>zk6 hk σ H _ ⟨ι,h,sd,L,hh,Fin.bind q fun d h1 ι1 H1 e1 s1 hr1 q1 v rv=> ?_⟩
 exact Fin.out (E:=E) (P:=ziO X.K D0) hr1 q1 _ ((L.step s1).set rv i)
end
section
variable {K:W.Frag} {ι:Io} {H:Hp} {h:Hh} {n:Nat} {a:Addr}
theorem ze9 {o:HO} (hn:ι.c[n]? = some (some a)):Pass ι H ι (upd H a o):=⟨fun _ _ z=> .inl z,fun b o' hb nb=>⟨by rw [zau (show b≠a from fun z=>nb (.inl (z▸List.mem_of_getElem? hn)))];exact hb,nb⟩⟩
theorem za4.cellS {o:HO} (hr:za4 K ι H h) (hn:ι.c[n]? = some (some a)):zbE ι H ι (upd H a o):=
 ⟨fun _ _ z=> .inl z,fun _ z=> .inl z,rfl,fun b hb=>zau fun z=>(hr.hidt b hb).2 (z▸List.mem_of_getElem? hn),fun b o' hb nb=>((ze9 hn).keep b o' hb nb).1⟩
theorem za4.cellO {c':C} {o':HO} (hr:za4 K ι H h) (hn:ι.c[n]? = some (some a)) (co:CO K ι H c' o'):za4 K ι (upd H a o') (h.set n c'):=by
 refine ⟨by rw [qaI];exact hr.len,hr.inj,fun m b c hm hc=> ?_,fun m hm=> ?_,fun b hb=>⟨?_,(hr.hidt b hb).2⟩⟩
 ·by_cases e:n=m
  ·subst e
   rw [hn] at hm
   cases hm
   rw [qai (by rw [hr.len];exact (qac.mp hn).1)] at hc
   cases hc
   exact ⟨o',zaM,co.pass (ze9 hn)⟩
  ·rw [qao e] at hc
   obtain ⟨o2,e2,e3⟩:=hr.at_ m b c hm hc
   have ne:b≠a:=fun z=>by subst z;exact e (hr.inj n m b hn hm)
   exact ⟨o2,by rw [zau ne];exact e2,e3.pass (ze9 hn)⟩
 ·have e:n≠m:=fun z=>by subst z;rw [hn] at hm;cases hm
  rw [qao e]
  exact hr.dead m hm
 ·rw [zau (show b≠a from fun z=>(hr.hidt b hb).2 (z▸List.mem_of_getElem? hn))]
  exact (hr.hidt b hb).1
theorem za4.cell {ds':List D} {vs':List V} (hr:za4 K ι H h) (hn:ι.c[n]? = some (some a)) (rl:zaq K ι H ds' vs'):za4 K ι (upd H a (.lst vs')) (h.set n (.lst ds')):=hr.cellO hn ⟨vs',rfl,rl⟩
theorem za4.read {ds:List D} {v:V} (hr:za4 K ι H h) (r:Rel K ι H (.cel n) v) (e:h[n]? = some (.lst ds)): ∃ a vs,v= .ref a/\ι.c[n]? = some (some a)/\H a=some (.lst vs)/\zaq K ι H ds vs:=by
 simp only [Rel] at r
 obtain ⟨a,e1,r | r⟩:=r
 ·obtain ⟨o,e3,vs,rfl,e4⟩:=hr.at_ n a _ r e
  exact ⟨a,vs,e1,r,e3,e4⟩
 ·rw [hr.dead n r] at e
  cases e
end
noncomputable def zah (n:Nat):M (List D):=fun h=>match h[n]? with
 | some (.lst ds)=> .ok ds h
 | _=> .bad
noncomputable def zbe (n:Nat) (ds:List D):M Unit:=fun h=> .ok () (h.set n (.lst ds))
theorem zcH {n:Nat} {h h':Hh} {ds:List D} (e:zah n h= .ok ds h'):h'=h/\h[n]? = some (.lst ds):=by
 unfold zah at e
 cases z:h[n]? with
 | none=>rw [z] at e;cases e
 | some c=>
  rw [z] at e
  cases c with
  | lst xs=>cases e;exact ⟨rfl,rfl⟩
  | dic _=>cases e
  | dit ks=>cases e
  | ins _ _=>cases e
  | dead=>cases e
noncomputable def ofO {α:Type}:Option α->M α
 | some a=>pure a
 | none=>M.bad
noncomputable def dIx:D->D->M D:=fun x y=>match x,y with
 | .tup ds,.int i=>ofO (atI ds i)
 | .lst ds,.int i=>ofO (atI ds i)
 | .scr ds,.int i=>ofO (atI ds i)
 | .cel n,.int i=>do let ds<-zah n;ofO (atI ds i)
 | _,_=>M.bad
theorem zgR {K:W.Frag} {ι:Io} {H:Hp} {ds:List D} {vs:List V} {i:Int} {d:D} (rl:zaq K ι H ds vs) (e:atI ds i=some d): ∃ v,atI vs i=some v/\Rel K ι H d v:=by
 unfold atI at e ⊢
 rw [<- rl.length]
 cases z:ixN ds.length i with
 | none=>rw [z] at e;cases e
 | some j=>
  rw [z] at e
  have e:ds[j]? = some d:=e
  exact rl.get e
section
variable {X:Cx} {E:XE}
theorem Fin.ofO {α:Type} {K:W.Frag} {ι:Io} {H:Hp} {h:Hh} {o:Option α} {P:α->Io->Hp->Prop} (hr:za4 K ι H h) (q:Fin K E ι H (L3.ofO o h) P): ∃ a,o=some a/\P a ι H:=by
 cases o with
 | none=>exact qa0 q
 | some a=>exact ⟨a,rfl,Fin.out hr q⟩
theorem zvw:IxR X (zd2 X.K E dIx):=by
 refine IxR.imp (zpe.or zsR) fun x y H Q ⟨ι,h,d1,d2,r1,r2,hr,q⟩=> ?_
 cases d2 with
 | int i=>
  simp only [Rel] at r2
  cases d1 with
  | tup ds=>
   obtain ⟨a,vs,e,h1,h2⟩:=zdg r1
   obtain ⟨d,e1,q⟩:=Fin.ofO hr q
   obtain ⟨v,e2,rv⟩:=zgR h2 e1
   exact .inr ⟨a,vs,i,v,e,r2,h1,e2,q v rv⟩
  | lst ds=>
   obtain ⟨a,vs,e,h1,h2⟩:=zd8 r1
   obtain ⟨d,e1,q⟩:=Fin.ofO hr q
   obtain ⟨v,e2,rv⟩:=zgR h2 e1
   exact .inl ⟨a,vs,i,v,e,r2,h1,e2,q v rv⟩
  | scr ds=>
   obtain ⟨a,vs,e,h1,h2⟩:=zlx r1
   obtain ⟨d,e1,q⟩:=Fin.ofO hr q
   obtain ⟨v,e2,rv⟩:=zgR h2 e1
   exact .inl ⟨a,vs,i,v,e,r2,h1,e2,q v rv⟩
  | cel n=>
   have q:Fin X.K E ι H ((zah n>>=fun ds=>L3.ofO (atI ds i)) h) _:=q
   have q':Fin X.K E ι H (M.bind (zah n) (fun ds=>L3.ofO (atI ds i)) h) _:=q
   unfold M.bind at q'
   cases z:zah n h with
   | bad=>rw [z] at q';exact qa0 q'
   | exc c h'=>unfold zah at z;split at z<;>cases z
   | ok ds h'=>
    rw [z] at q'
    obtain ⟨rfl,z2⟩:=zcH z
    obtain ⟨a,vs,e,hn,hH,rl⟩:=hr.read r1 z2
    obtain ⟨d,e1,q⟩:=Fin.ofO hr q'
    obtain ⟨v,e2,rv⟩:=zgR rl e1
    exact .inl ⟨a,vs,i,v,e,r2,SqL.of hH,e2,q v rv⟩
  | _=>exact qa0 q
 | _=>cases d1<;>exact qa0 q
noncomputable def zlX (o i d:D):M Unit:=match o,i with
 | .cel n,.int k=>do
  let ds<-zah n
  let j<-ofO (ixN ds.length k)
  zbe n (ds.set j d)
 | _,_=>M.bad
theorem zti {o i:Expr} {pos:Pos} {fo fi:Sd->M D} (hp: ∀ {t:ztb},zrl X t->PG X (.Subscript o i pos) (zuR (zf8 X.K E fo) (zf8 X.K E fi) t)):
  SG X E (.Subscript o i pos) (fun d sd=>do let x<-fo sd;let y<-fi sd;zlX x y d;pure sd):=by
 refine PG.imp (hp zm1) fun v σ H Q ⟨ι,h,sd,d,L,hr,rd,q⟩=>⟨ι,h,sd,L,hr,Fin.bind q fun x h1 ι1 H1 e1 s1 hr1 q1 xv rx=> ?_⟩
 refine ⟨ι1,h1,sd,L.step s1,hr1,Fin.bind q1 fun y h2 ι2 H2 e2 s2 hr2 q2 yv ry=> ?_⟩
 cases x with
 | cel n=>
  cases y with
  | int k=>
   have rx2:=rx.step s2
   have q3:Fin X.K E ι2 H2 ((zah n>>=fun ds=>(ofO (ixN ds.length k)>>=fun j=>zbe n (ds.set j d)>>=fun _=>pure sd)) h2) (fun sd' ι' H'=> ∀ σ',zcz X.K ι' H' sd' σ'->Q σ' H'):=by
    have e:(do zlX (.cel n) (.int k) d;pure sd:M Sd)=(zah n>>=fun ds=>(ofO (ixN ds.length k)>>=fun j=>zbe n (ds.set j d)>>=fun _=>pure sd)):=by
     show ((zah n>>=fun ds=>(ofO (ixN ds.length k)>>=fun j=>zbe n (ds.set j d)))>>=fun _=>pure sd)=_
     simp only [bind_assoc]
    rw [<- e]
    exact q2
   have q':Fin X.K E ι2 H2 (M.bind (zah n) (fun ds=>(ofO (ixN ds.length k)>>=fun j=>zbe n (ds.set j d)>>=fun _=>pure sd)) h2) _:=q3
   unfold M.bind at q'
   cases z:zah n h2 with
   | bad=>rw [z] at q';exact qa0 q'
   | exc c h'=>unfold zah at z;split at z<;>cases z
   | ok ds h'=>
    rw [z] at q'
    obtain ⟨rfl,z2⟩:=zcH z
    obtain ⟨a,vs,e,hn,hH,rl⟩:=hr2.read rx2 z2
    simp only [Rel] at ry
    have q4:Fin X.K E ι2 H2 (M.bind (ofO (ixN ds.length k)) (fun j=>zbe n (ds.set j d)>>=fun _=>pure sd) h') _:=q'
    unfold M.bind at q4
    cases z3:ixN ds.length k with
    | none=>rw [z3] at q4;exact qa0 q4
    | some j=>
     rw [z3] at q4
     have q5:Fin X.K E ι2 H2 (R.ok sd (h'.set n (.lst (ds.set j d)))) (fun sd' ι' H'=> ∀ σ',zcz X.K ι' H' sd' σ'->Q σ' H'):=q4
     refine ⟨a,vs,k,j,e,ry,hH,by rw [<- rl.length];exact z3,?_⟩
     have rd2:=(rd.step s1).step s2
     exact q5 ι2 _ (hr2.cellS hn) (hr2.cell hn (rl.set rd2 j)) σ (((L.step s1).step s2).step (hr2.cellS hn))
  | _=>exact qa0 q2
 | _=>cases y<;>exact qa0 q2
end
noncomputable abbrev E0x:XE:=fun _ _=>False
noncomputable def zbO (K:W.Frag) (n:Nat) (F:List D->M D):Sp:=fun vs H Q _=>vs.length=n/\ ∃ ι h ds,zaq K ι H ds vs/\za4 K ι H h/\Fin K E0x ι H (F ds h) fun d ι' H'=> ∀ v,Rel K ι' H' d v->Q v H'
noncomputable def zgb (n:Nat) (ds:List D):Sd:=ds.map some++List.replicate (n - ds.length) none
noncomputable def zcC:Out->M D
 | .nx _=>pure .non
 | .rt d=>pure d
 | _=>M.bad
noncomputable def zcD (n:Nat) (G:Sd->M Out) (ds:List D):M D:=do let o<-G (zgb n ds);zcC o
theorem zer {K:W.Frag} {ι:Io} {H:Hp} {ds:List D} {vs:List V} {N:List Str} (h:zaq K ι H ds vs):zcz K ι H (zgb N.length ds) (L2.zev N vs):=by
 have hl:=h.length
 unfold zgb L2.zev
 refine ⟨by simp [hl],fun i d e=> ?_⟩
 by_cases hi:i<ds.length
 ·rw [qad (by simpa using hi),List.getElem?_map] at e
  cases z:ds[i]? with
  | none=>rw [z] at e;cases e
  | some d'=>
   rw [z] at e
   cases e
   obtain ⟨v,h1,h2⟩:=h.get z
   exact ⟨v,by rw [qad (by rw [qaH, <-hl];exact hi),List.getElem?_map,h1];rfl,h2⟩
 ·rw [qaa (by simpa using hi),List.getElem?_replicate] at e
  split at e<;>cases e
section
variable {P:Program} {w:World} {K:W.Frag} {mg:Str->Option Value} {base:Heap}
theorem zbB {x qual:Str} {st:Stmt} {f:Addr} {fd:FuncData} {N ps:List Str} {k:Nat} {G:Sd->M Out} (F:Fun K x qual st f fd) (S:zap N ps (zae st))
  (hb: ∀ (cdv:Value) (A:Around) (outer:List Env) (s:Shared) (H:Hp) (E:XK),zcn k (A.deeper (envOfC qual (zae st) s.heap.objs.size f cdv))->SSs (zij CX0 P w K mg base N qual (zae st) f cdv A outer s H E).nox E0x (zcw st) G):
  zbh P w K mg base CX0 (k+1) f fd ps (zbO K ps.length (zcD N.length G)):=by
 refine F.ok S (fun vs H Q E h=>h.1) fun cdv A outer s H vs Q E hr ⟨hl,ι,h,ds,rl,hh,q⟩=>⟨_,hb cdv A outer s H E hr,ι,h,zgb N.length ds,zer rl,hh,?_⟩
 refine Fin.bind q fun o h1 ι1 H1 e1 s1 hr1 q1=> ?_
 cases o with
 | nx sd=>exact fun σ' _=>Fin.out hr1 q1 _ (by simp [Rel])
 | rt d=>exact fun v rv=>Fin.out hr1 q1 v rv
 | bk sd=>exact qa0 q1
 | ct sd=>exact qa0 q1
end
section
variable {X:Cx} {e:Expr} {es:List Expr} {pos p:Pos}
noncomputable def zak (n:Nat) (F:List D->M D) (ds:List D):M D:=if ds.length=n then F ds else M.bad
theorem zqg {k:Nat} {f:Addr} {fd:FuncData} {ps:List Str} {n:Nat} {F:List D->M D} {fs:Sd->M (List D)} {x:Str} (G:zbh X.prog X.w X.K X.mg X.base CX0 k f fd ps (zbO X.K n F)) (hr:zcn k X.A) (hg:Gl X x) (hm:X.mg x=some (.ref f)) (hk:W.keepIn X.K (.ref f)=true) (hb:zav X.K fd ps [])
  (ha:SA X E0x (e::es) fs) (hdb:(x==("__debug__":Str))=false:=by decide) (he:starEach (e::es) X.env=(false,eval e X.env)::starEach es X.env:=by rfl) (hpl:(backTo pos (starEach es X.env)).any (·.1)=false:=by rfl):
  SE X E0x (.Call (.Name x p) (e::es) [] pos) (fun sd=>do let ds<-fs sd;zak n F ds):=by
 refine PE.imp (ziw G hr hg hm hk hb (dvs:=[]) .nil (E:=fun _ _ _=>False) zka ha hdb he hpl) fun σ H Q ⟨ι,h,sd,L,hh,q⟩=>⟨ι,h,sd,L,hh,Fin.bind q fun ds h1 ι1 H1 e1 s1 hr1 q1 vs rv=> ?_⟩
 show zbO X.K n F (vs++[]) H1 Q _
 rw [List.append_nil]
 unfold zak at q1
 by_cases hl:ds.length=n
 ·rw [qa4 hl] at q1
  exact ⟨by rw [<- rv.length];exact hl,ι1,h1,ds,rv,hr1,q1⟩
 ·rw [qa5 hl] at q1
  exact qa0 q1
end
section
variable {X:Cx} {E:XE}
theorem Fin.guard {α:Type} {K:W.Frag} {ι:Io} {H:Hp} {h:Hh} {c:Prop} [Decidable c] {f:M α} {P:α->Io->Hp->Prop} (q:Fin K E ι H ((if c then f else M.bad) h) P):c/\Fin K E ι H (f h) P:=by
 by_cases hc:c
 ·rw [qa4 hc] at q;exact ⟨hc,q⟩
 ·rw [qa5 hc] at q;exact qa0 q
theorem zm2:OpR X (binaryOp .Add) (fun x y H Q=> ∃ a b ys,x= .ref a/\y= .ref b/\SqT X.K H a []/\SqT X.K H b ys/\Q (.ref b) H):=by
 intro pins s σ H x y v u Q I rx ry h
 obtain ⟨a,b,ys,rfl,rfl,ha,hb,q⟩:=h
 cases rx
 cases ry
 obtain ⟨its,r1,p1,_⟩:=I.tuple ha
 obtain ⟨its2,r2,p2,_⟩:=I.tuple hb
 cases r1
 obtain ⟨⟨cls,dd,data,sl⟩,ho,hc,n,hd⟩:=id p1
 obtain ⟨⟨cls2,dd2,data2,sl2⟩,ho2,hc2,n2,hd2⟩:=id p2
 simp only at hc hd hc2 hd2
 subst hc hd hc2 hd2
 exact concat_meets ⟨_,ho,rfl⟩ ⟨_,ho2,rfl⟩ noFill_tuple_add seq_tuple_add PySem.F.slot_tuple_add PySem.F.entry_tuple_add (PySem.F.args_tuple_add_2 _ _)
   (tuple_addW0 a b _ _ n n2 dd dd2 sl sl2 (by simp)) ⟨ho,ho2,⟨.ref b,H,I,rfl,q⟩⟩
noncomputable def zex (x y:D):M D:=match x,y with
 | .int i,.int j=>pure (.int (i+j))
 | .tup xs,.tup ys=>do fits (xs.length+ys.length);pure (.tup (xs++ys))
 | .lst xs,.lst ys=>do fits (xs.length+ys.length);pure (.lst (xs++ys))
 | .str x,.str y=>do fits (x.length+y.length);pure (.str (x++y))
 | _,_=>M.bad
theorem zaW:OpR X (binaryOp .Add) (zd2 X.K E zex):=by
 refine OpR.imp (zs2.or (zm2.or (zpR.or (zrL.or zkp)))) fun x y H Q ⟨ι,h,d1,d2,r1,r2,hr,q⟩=> ?_
 unfold zex at q
 split at q
 ·simp only [Rel] at r1 r2
  exact .inl ⟨_,_,r1,r2,Fin.out hr q _ (by simp [Rel])⟩
 ·rename_i xs ys
  right
  obtain ⟨a,vs,e,h1,h2⟩:=zdg r1
  obtain ⟨b,ws,e',h1',h2'⟩:=zdg r2
  obtain ⟨z,q⟩:=Fin.fits q
  cases xs with
  | nil=>
   simp only [zaq] at h2
   subst h2
   exact .inl ⟨a,b,ws,e,e',h1,h1',Fin.out hr q _ (by rw [<- e'];exact r2)⟩
  | cons x0 xr=>
   refine .inr (.inl ⟨a,b,vs,ws,e,e',h1,h1',fun z=> ?_,by rw [<- h2.length, <-h2'.length];exact z,fun z=> ?_,fun z p hp=>zrj hr (h2.append h2') q hp⟩)
   ·subst z
    have:=h2.length
    cases this
   ·subst z
    have:=h2'.length
    cases ys with
    | nil=>rw [List.append_nil] at q;exact Fin.out hr q _ (by rw [<- e];exact r1)
    | cons _ _=>cases this
 ·rename_i xs ys
  right;right;right;left
  simp only [Rel] at r1 r2
  obtain ⟨a,vs,e,h1,h2⟩:=r1
  obtain ⟨b,ws,e',h1',h2'⟩:=r2
  obtain ⟨z,q⟩:=Fin.fits q
  exact ⟨a,b,vs,ws,e,e',h1.1,h1'.1,by rw [<- h2.length, <-h2'.length];exact z,fun p hp=>zqh hr (h2.append h2') q hp⟩
 ·simp only [Rel] at r1 r2
  obtain ⟨z,q⟩:=Fin.fits q
  exact .inr (.inr (.inr (.inr ⟨_,_,r1,r2,z,Fin.out hr q _ (by simp [Rel])⟩)))
 ·exact qa0 q
noncomputable def dII (C:Int->Int->Bool) (g:Int->Int->D) (x y:D):M D:=match x,y with
 | .int i,.int j=>if C i j=true then pure (g i j) else M.bad
 | _,_=>M.bad
theorem zof {f:Value->Value->Sem Value} {C:Int->Int->Bool} {C':Int->Int->Prop} {g:Int->Int->V} {g':Int->Int->D} (ho:OpR X f (rI C' g)) (hc: ∀ i j,C i j=true->C' i j) (hg: ∀ i j ι H,Rel X.K ι H (g' i j) (g i j)):OpR X f (zd2 X.K E (dII C g')):=by
 refine OpR.imp ho fun x y H Q ⟨ι,h,d1,d2,r1,r2,hr,q⟩=> ?_
 unfold dII at q
 split at q
 ·simp only [Rel] at r1 r2
  obtain ⟨c,q⟩:=Fin.guard q
  exact ⟨_,_,r1,r2,hc _ _ c,Fin.out hr q _ (hg _ _ _ _)⟩
 ·exact qa0 q
theorem zh2 {f:Value->Value->Sem Value} {g:Int->Int->V} {g':Int->Int->D} (ho:OpR X f (rI0 g)) (hg: ∀ i j ι H,Rel X.K ι H (g' i j) (g i j)):OpR X f (zd2 X.K E (dII (fun _ _=>true) g')):=by
 refine OpR.imp ho fun x y H Q ⟨ι,h,d1,d2,r1,r2,hr,q⟩=> ?_
 unfold dII at q
 split at q
 ·simp only [Rel] at r1 r2
  obtain ⟨c,q⟩:=Fin.guard q
  exact ⟨_,_,r1,r2,Fin.out hr q _ (hg _ _ _ _)⟩
 ·exact qa0 q
noncomputable def ztp:=dII (fun _ _=>true) fun i j=> .int (i - j)
theorem zmE:OpR X (binaryOp .Sub) (zd2 X.K E ztp):=zh2 zsK fun _ _ _ _=>by simp [Rel]
noncomputable def zbd (i:Int):Bool:=decide (-(2^64)<i) && decide (i<2^64)
theorem zcW {i:Int} (h:zbd i=true): -(2^64)<i/\i<2^64:=by unfold zbd at h;simpa using h
theorem znp:OpR X (binaryOp .FloorDiv) (rI (fun _ j=>0<j/\j<2^64) fun i j=> .int (i / j)):=opI fun i j _ _ _ _ _ hc q=>by
 refine floordiv_int (by omega) (by rw [Int.fdiv_eq_ediv_of_nonneg _ (by omega)];exact q) (.inl (PyProof.noPylong_of_log2 ?_))
 have h1:j.natAbs<2^64:=by omega
 have h0:j.natAbs≠0:=by omega
 exact Nat.lt_trans ((Nat.log2_lt h0).mpr h1) (by decide)
noncomputable def zqy:=dII (fun _ j=>decide (0<j) && decide (j<2^64)) fun i j=> .int (i / j)
theorem zmS:OpR X (binaryOp .FloorDiv) (zd2 X.K E zqy):=zof znp (fun i j h=>by simpa using h) fun _ _ _ _=>by simp [Rel]
noncomputable def zrn:=dII (fun _ j=>decide (0<j)) fun i j=> .int (i % j)
theorem ziQ:OpR X (binaryOp .Mod) (zd2 X.K E zrn):=zof zrU (fun i j h=>by simpa using h) fun _ _ _ _=>by simp [Rel]
noncomputable def zt9 (i j:Int):Bool:=decide (0<=j) && decide (j<=1000000) && decide (i.natAbs<2^64)
noncomputable def zpS:=dII zt9 fun i j=> .int (i^j.toNat)
theorem zoh {i j:Int} (h:zt9 i j=true):ztL i j:=by unfold zt9 at h;simpa [ztL,and_assoc] using h
theorem zmn:OpR X (binaryOp .Pow) (zd2 X.K E zpS):=zof zrQ (fun _ _=>zoh) fun _ _ _ _=>by simp [Rel]
noncomputable def zvq:=dII (fun _ _=>true) fun i j=> .int (Builtin.bitAnd i j)
noncomputable def dLt:=dII (fun _ _=>true) fun i j=> .bl (decide (i<j))
theorem zh5:OpR X (compareOp .Lt) (zd2 X.K E dLt):=zh2 zuL fun _ _ _ _=>by simp [Rel]
noncomputable def dLe:=dII (fun _ _=>true) fun i j=> .bl (decide (i<=j))
theorem zpb:OpR X (compareOp .LtE) (zd2 X.K E dLe):=zh2 zuM fun _ _ _ _=>by simp [Rel]
noncomputable def dGt:=dII (fun _ _=>true) fun i j=> .bl (decide (j<i))
theorem zjv:OpR X (compareOp .Gt) (zd2 X.K E dGt):=zh2 zuo fun _ _ _ _=>by simp [Rel]
noncomputable def dGe:=dII (fun _ _=>true) fun i j=> .bl (decide (j<=i))
theorem zoU:OpR X (compareOp .GtE) (zd2 X.K E dGe):=zh2 zum fun _ _ _ _=>by simp [Rel]
noncomputable def zov:D->M D
 | .int i=>pure (.int (-i))
 | _=>M.bad
theorem zss {a:Expr} {pos:Pos} {fa:Sd->M D} (ha:SE X E a fa):SE X E (.UnaryOp .USub a pos) (fun sd=>do let x<-fa sd;zov x):=by
 refine PE.imp (zsw zoY ha) fun σ H Q ⟨ι,h,sd,L,hh,q⟩=>⟨ι,h,sd,L,hh,Fin.bind q fun d h1 ι1 H1 e1 s1 hr1 q1 v rv=> ?_⟩
 cases d with
 | int i=>simp only [Rel] at rv;exact ⟨i,rv,Fin.out hr1 q1 _ (by simp [Rel])⟩
 | _=>exact qa0 q1
mutual
noncomputable def pd:D->Option PyData
 | .non=>some .none
 | .bl b=>some (.bool b)
 | .int i=>some (.int i)
 | .str x=>some (.str x)
 | .tup xs=>(pdL xs).map .tuple
 | .lst xs=>(pdL xs).map .list
 | .scr xs=>(pdL xs).map .list
 | _=>none
noncomputable def pdL:List D->Option (List PyData)
 | []=>some []
 | x::xs=>match pd x,pdL xs with
  | some a,some r=>some (a::r)
  | _,_=>none
end
mutual
theorem zfF {pins:List (Addr×Obj)} {σ:L2.St} {H:Hp} {s:Shared} {ι:Io} (I:Inv X pins σ H s): ∀ {d:D} {v:V} {u:Value} {p:PyData},Rel X.K ι H d v->zbA v u->pd d=some p-> ∃ as,Reads s.heap u p as
 | .non,v,u,p,r,ru,e=>by simp only [Rel] at r;subst r;cases ru;cases e;exact ⟨_,.none⟩
 | .bl b,v,u,p,r,ru,e=>by simp only [Rel] at r;subst r;cases ru;cases e;exact ⟨_,.bool _⟩
 | .int i,v,u,p,r,ru,e=>by simp only [Rel] at r;subst r;obtain ⟨t,rfl⟩:=ru;cases e;exact ⟨_,.int _ _⟩
 | .str i,v,u,p,r,ru,e=>by simp only [Rel] at r;subst r;obtain ⟨t,rfl⟩:=ru;cases e;exact ⟨_,.str _ _⟩
 | .tup ds,v,u,p,r,ru,e=>by
  obtain ⟨a,vs,rfl,h1,h2⟩:=zdg r
  cases ru
  obtain ⟨its,rv,pl,_⟩:=I.tuple h1
  obtain ⟨o,ho,hc,n,hd⟩:=pl
  unfold pd at e
  cases z:pdL ds with
  | none=>rw [z] at e;cases e
  | some ps=>
   rw [z] at e;cases e
   obtain ⟨as,q⟩:=zh4 I h2 rv z
   exact ⟨_,.tuple ho hc hd (by simpa using q)⟩
 | .lst ds,v,u,p,r,ru,e=>by
  obtain ⟨a,vs,rfl,h1,h2⟩:=zd8 r
  cases ru
  obtain ⟨its,rv,pl,_⟩:=I.list h1
  obtain ⟨o,ho,hc,n,hd⟩:=pl.isList
  unfold pd at e
  cases z:pdL ds with
  | none=>rw [z] at e;cases e
  | some ps=>
   rw [z] at e;cases e
   obtain ⟨as,q⟩:=zh4 I h2 rv z
   exact ⟨_,.list ho hc hd (by simpa using q)⟩
 | .scr ds,v,u,p,r,ru,e=>by
  obtain ⟨a,vs,rfl,h1,h2⟩:=zlx r
  cases ru
  obtain ⟨its,rv,pl,_⟩:=I.list h1
  obtain ⟨o,ho,hc,n,hd⟩:=pl.isList
  unfold pd at e
  cases z:pdL ds with
  | none=>rw [z] at e;cases e
  | some ps=>
   rw [z] at e;cases e
   obtain ⟨as,q⟩:=zh4 I h2 rv z
   exact ⟨_,.list ho hc hd (by simpa using q)⟩
 | .cel n,_,_,_,_,_,e=>by cases e
 | .set xs,_,_,_,_,_,e=>by cases e
 | .dct,_,_,_,_,_,e=>by cases e
 | .fn _,_,_,_,_,_,e=>by cases e
 | .exn _,_,_,_,_,_,e=>by cases e
theorem zh4 {pins:List (Addr×Obj)} {σ:L2.St} {H:Hp} {s:Shared} {ι:Io} (I:Inv X pins σ H s): ∀ {ds:List D} {vs:List V} {us:List Value} {ps:List PyData},zaq X.K ι H ds vs->zaQ vs us->pdL ds=some ps-> ∃ as,ReadsAll s.heap us ps as
 | [],vs,us,ps,r,ru,e=>by simp only [zaq] at r;subst r;cases ru;cases e;exact ⟨_,.nil⟩
 | d::ds,vs,us,ps,r,ru,e=>by
  simp only [zaq] at r
  obtain ⟨v,vr,rfl,r1,r2⟩:=r
  cases ru with
  | cons ru1 ru2=>
   unfold pdL at e
   cases z:pd d with
   | none=>rw [z] at e;cases e
   | some a=>
    cases z2:pdL ds with
    | none=>rw [z,z2] at e;cases e
    | some b=>
     rw [z,z2] at e
     cases e
     obtain ⟨as,q1⟩:=zfF I r1 ru1 z
     obtain ⟨bs,q2⟩:=zh4 I r2 ru2 z2
     exact ⟨_,.cons q1 q2⟩
end
noncomputable def zkc (a b:PyData):Bool:=a.canLay0 && b.canLay0 && decide (min a.depth b.depth<=60)
noncomputable def zkw (neg:Bool) (x y:D):M D:=match pd x,pd y with
 | some a,some b=>if zkc a b=true then pure (.bl (if neg then !PyData.eqv a b else PyData.eqv a b)) else M.bad
 | _,_=>M.bad
noncomputable def dEq:=zkw false
noncomputable def dNe:=zkw true
theorem zjw {a b:PyData} (h:zkc a b=true):a.canLay0=true/\b.canLay0=true/\min a.depth b.depth<=60:=by unfold zkc at h;simpa [and_assoc] using h
theorem zjm {K:W.Frag} {ι:Io} {H:Hp} {h:Hh} {neg:Bool} {x y:D} {P:D->Io->Hp->Prop} (q:Fin K E ι H (zkw neg x y h) P): ∃ a b,pd x=some a/\pd y=some b/\zkc a b=true/\Fin K E ι H ((pure (.bl (if neg then !PyData.eqv a b else PyData.eqv a b)):M D) h) P:=by
 unfold zkw at q
 cases e1:pd x with
 | none=>rw [e1] at q;exact qa0 q
 | some a=>
  cases e2:pd y with
  | none=>rw [e1,e2] at q;exact qa0 q
  | some b=>
   rw [e1,e2] at q
   obtain ⟨c,q⟩:=Fin.guard q
   exact ⟨a,b,rfl,rfl,c,q⟩
theorem ze7 (hu:X.A.units+60<cLine):OpR X (compareOp .Eq) (zd2 X.K E dEq):=by
 intro pins s σ H x y v u Q I rx ry ⟨ι,h,d1,d2,r1,r2,hr,q⟩
 obtain ⟨a,b,e1,e2,c,q2⟩:=zjm q
 obtain ⟨c1,c2,c3⟩:=zjw c
 obtain ⟨as,ra⟩:=zfF I r1 rx e1
 obtain ⟨bs,rb⟩:=zfF I r2 ry e2
 exact SeqAt.compareEq_reads ra rb c1 c2 (by omega) ⟨.bl _,H,I,rfl,Fin.out hr q2 (.bl _) (by simp [Rel])⟩
theorem zfJ (hu:X.A.units+60<cLine):OpR X (compareOp .NotEq) (zd2 X.K E dNe):=by
 intro pins s σ H x y v u Q I rx ry ⟨ι,h,d1,d2,r1,r2,hr,q⟩
 obtain ⟨a,b,e1,e2,c,q2⟩:=zjm q
 obtain ⟨c1,c2,c3⟩:=zjw c
 obtain ⟨as,ra⟩:=zfF I r1 rx e1
 obtain ⟨bs,rb⟩:=zfF I r2 ry e2
 exact SeqAt.compareNe_reads ra rb c1 c2 (by omega) ⟨.bl _,H,I,rfl,Fin.out hr q2 (.bl _) (by simp [Rel])⟩
noncomputable def zn5 (a:PyData) (xs:List PyData):Bool:=a.canLay0 && PyData.canLayAll0 xs && decide (min (PyData.depthAll xs) a.depth<=50)
theorem zjn {a:PyData} {xs:List PyData} (h:zn5 a xs=true):a.canLay0=true/\PyData.canLayAll0 xs=true/\min (PyData.depthAll xs) a.depth<=50:=by unfold zn5 at h;simpa [and_assoc] using h
noncomputable def zo3 (neg:Bool) (x c:D):M D:=match pd x,c with
 | some a,.tup ds=>match pdL ds with
  | some xs=>if zn5 a xs=true then pure (.bl (if neg then !xs.any (fun y=>PyData.eqv y a) else xs.any fun y=>PyData.eqv y a)) else M.bad
  | none=>M.bad
 | some a,.lst ds=>match pdL ds with
  | some xs=>if zn5 a xs=true then pure (.bl (if neg then !xs.any (fun y=>PyData.eqv y a) else xs.any fun y=>PyData.eqv y a)) else M.bad
  | none=>M.bad
 | _,_=>M.bad
noncomputable def dIn:=zo3 false
noncomputable def zln:=zo3 true
theorem zjC {K:W.Frag} {ι:Io} {H:Hp} {h:Hh} {neg:Bool} {x c:D} {P:D->Io->Hp->Prop} (q:Fin K E ι H (zo3 neg x c h) P): ∃ a ds xs,pd x=some a/\pdL ds=some xs/\(c= .tup ds\/c= .lst ds)/\zn5 a xs=true/\
  Fin K E ι H ((pure (.bl (if neg then !xs.any (fun y=>PyData.eqv y a) else xs.any fun y=>PyData.eqv y a)):M D) h) P:=by
 unfold zo3 at q
 cases e1:pd x with
 | none=>rw [e1] at q;exact qa0 q
 | some a=>
  rw [e1] at q
  cases c with
  | tup ds=>
   dsimp only at q
   cases e2:pdL ds with
   | none=>rw [e2] at q;exact qa0 q
   | some xs=>
    rw [e2] at q
    obtain ⟨c,q⟩:=Fin.guard q
    exact ⟨a,ds,xs,rfl,e2,.inl rfl,c,q⟩
  | lst ds=>
   dsimp only at q
   cases e2:pdL ds with
   | none=>rw [e2] at q;exact qa0 q
   | some xs=>
    rw [e2] at q
    obtain ⟨c,q⟩:=Fin.guard q
    exact ⟨a,ds,xs,rfl,e2,.inr rfl,c,q⟩
  | _=>exact qa0 q
theorem zlt (hu:X.A.units+60<cLine):OpR X (compareOp .In) (zd2 X.K E dIn):=by
 intro pins s σ H x y v u Q I rx ry ⟨ι,h,d1,d2,r1,r2,hr,q⟩
 obtain ⟨a,ds,xs,e1,e2,ec,c,q2⟩:=zjC q
 obtain ⟨c1,c2,c3⟩:=zjn c
 obtain ⟨as,ra⟩:=zfF I r1 rx e1
 rcases ec with rfl | rfl
 ·obtain ⟨bs,rb⟩:=zfF I r2 ry (p:= .tuple xs) (by unfold pd;rw [e2];rfl)
  exact SeqAt.in_tuple_reads rb ra c2 c1 (by omega) ⟨.bl _,H,I,rfl,Fin.out hr q2 (.bl _) (by simp [Rel])⟩
 ·obtain ⟨bs,rb⟩:=zfF I r2 ry (p:= .list xs) (by unfold pd;rw [e2];rfl)
  exact SeqAt.in_list_reads rb ra c2 c1 (by omega) ⟨.bl _,H,I,rfl,Fin.out hr q2 (.bl _) (by simp [Rel])⟩
theorem zlp (hu:X.A.units+60<cLine):OpR X (compareOp .NotIn) (zd2 X.K E zln):=by
 intro pins s σ H x y v u Q I rx ry ⟨ι,h,d1,d2,r1,r2,hr,q⟩
 obtain ⟨a,ds,xs,e1,e2,ec,c,q2⟩:=zjC q
 obtain ⟨c1,c2,c3⟩:=zjn c
 obtain ⟨as,ra⟩:=zfF I r1 rx e1
 rcases ec with rfl | rfl
 ·obtain ⟨bs,rb⟩:=zfF I r2 ry (p:= .tuple xs) (by unfold pd;rw [e2];rfl)
  exact SeqAt.notIn_tuple_reads rb ra c2 c1 (by omega) ⟨.bl _,H,I,rfl,Fin.out hr q2 (.bl _) (by simp [Rel])⟩
 ·obtain ⟨bs,rb⟩:=zfF I r2 ry (p:= .list xs) (by unfold pd;rw [e2];rfl)
  exact SeqAt.notIn_list_reads rb ra c2 c1 (by omega) ⟨.bl _,H,I,rfl,Fin.out hr q2 (.bl _) (by simp [Rel])⟩
end
end L3
namespace HT
open PySem PySem.Spec PyProof.Rows L2
section
variable {prog:Program} {w:World} {A:Around} {E:Value->Shared->Prop} {s:Shared}
theorem zd1 {t sl:Addr} {items:Array Value} {vl vu:Value} {lo hi:Option Int} {Q:Value->Shared->Prop} (ht:IsTup s.heap t items) (hs:s.heap.IsSliceOf sl vl vu .none) (pl:IsPart vl lo) (pu:IsPart vu hi)
  (hw:sIx items.size 0 lo=0/\sIx items.size items.size hi=items.size) (h:Q (.ref t) s):wpAny (model prog w) A (getItem (.ref t) (.ref sl)) Q E s:=by
 obtain ⟨os,hos,hcs,hds⟩:=id hs
 have hTs:s.TypeIs (.ref sl) "slice":=⟨os,hos,hcs⟩
 unfold getItem
 try with_reducible refine qaO ?_
 first | refine qaW (qaX ?_) | skip
 refine qaW (wpAny_sequenceKey ht.typeIs (by decide) ?_)
 refine qaW (wpAny_callSpecial?_slot (name:=Str.ofString "__getitem__") ht.typeIs PyProof.Rows.slot_tuple_getitem
   (wpAny_call_entry PyProof.Rows.slot_tuple_getitem ht.typeIs entry_tuple_getitem ?_ (args_tuple_getitem _ _)))
 show wpAny _ _ (Builtin.Tuple.tupleItemsOf (.ref t)>>=_) _ _ s
 refine qaW (tupleItemsOf_ ht ?_)
 refine qaW (wpAny_typeOf hTs ?_)
 rw [qa4 (by decide)]
 refine qaW (zc2 hs pl pu ?_)
 show wpAny _ _ (if (((sIx items.size 0 lo:Nat):Int)==0 && (1:Int)==1 && (sIx items.size items.size hi - sIx items.size 0 lo)==items.size)=true then _ else _) _ _ s
 rw [hw.1,hw.2,qa4 (by simp)]
 refine qaW (m:=Builtin.Tuple.tupleIsExact _) (qaW (wpAny_typeOf ht.typeIs (qaX ?_)))
 rw [qa4 (by decide)]
 refine qaW (wpAny_rule ?_)
 exact qaX ⟨_,rfl,qaX h⟩
theorem zm3 (xs:Array Value):((List.range xs.size).filterMap fun (m:Nat)=>xs[((xs.size:Int) - 1+(m:Int)*(-1)).toNat]?).toArray=xs.toList.reverse.toArray:=by
 congr 1
 have e: ∀ n,n<=xs.size->(List.range n).filterMap (fun (m:Nat)=>xs[((xs.size:Int) - 1+(m:Int)*(-1)).toNat]?)=(xs.toList.reverse).take n:=by
  intro n
  induction n with
  | zero=>intro _;simp
  | succ n ih=>
   intro hn
   rw [List.range_succ,List.filterMap_append,ih (by omega),List.take_add_one]
   congr 1
   have e1:((xs.size:Int) - 1+(n:Int)*(-1)).toNat=xs.size - 1 - n:=by omega
   rw [qat,List.filterMap_nil,e1]
   have h1:xs.size - 1 - n<xs.size:=by omega
   rw [List.getElem?_reverse (by simp;omega)]
   simp [h1]
 rw [e _ (qaV _),List.take_of_length_le (by simp)]
end
end HT
namespace L2
open PySem PySem.Spec PyProof.Rows
section
variable {X:Cx} {e:Expr} {te:TE} {pos p2:Pos}
theorem zpQ:SlR X (fun x lo hi H Q=> ∃ a xs,x= .ref a/\SqT X.K H a xs/\(HT.sIx xs.length 0 lo=0/\HT.sIx xs.length xs.length hi=xs.length)/\Q (.ref a) H):=by
 intro pins s σ H x v vl vu lo hi sl Q I rx hs pl pu h
 obtain ⟨a,xs,rfl,hx,hw,q⟩:=h
 cases rx
 obtain ⟨its,r,ht,hz⟩:=I.tuple hx
 have hlen:its.toArray.size=xs.length:=by rw [qaA];exact r.length.symm
 refine ⟨"tuple",_,PyProof.Rows.slot_tuple_getitem.lookup,ht.typeIs,?_⟩
 exact HT.zd1 ht hs pl pu (by rw [hlen];exact hw) ⟨.ref a,H,I,rfl,q⟩
theorem zeR:fillsNumberSlot (.type "tuple") "mul"=pure false:=
 PySem.fillsNumberSlot_seq (id:="tuple.__mul__") (r:=some (.builtin "tuple.__rmul__")) F.slot_tuple_mul.lookup (by decide +kernel) F.slot_tuple_rmul.lookup (by decide +kernel)
theorem zho:seqRepeat? (.type "tuple")=pure (some (.builtin "tuple.__mul__")):=by
 unfold seqRepeat?
 rw [PySem.seqSlot_of (T:="tuple") (name:="__mul__") (id:="tuple.__mul__") F.slot_tuple_mul.lookup (by decide +kernel),PySem.seqSlot_of (T:="tuple") (name:="__rmul__") (id:="tuple.__rmul__") F.slot_tuple_rmul.lookup (by decide +kernel)]
 rfl
theorem zf6 (k:Int) (t:Tok) (l:Addr) (items:Array Value) (n:Nat) (dd:Option Addr) (sl:Array (Option Value)):
  Meets (Builtin.«int.__rmul__» ⟨[.int k t,.ref l],[]⟩) (fun _ R s=>s.heap.get? l=some {cls:= .type "tuple",dict:=dd,data:= .seq items n,slots:=sl}/\R (.ok (.ret Value.notImplemented)) s):=
 .of_wp fun prog w A R s h=>by obtain ⟨hp,g,d,tk,os⟩:=s;obtain ⟨hl,h⟩:=h;wp_walk;exact ⟨_,rfl,h⟩
theorem zl4 (k:Int) (t:Tok) (l:Addr) (items:Array Value) (n:Nat) (dd:Option Addr) (sl:Array (Option Value)) (hne:items.isEmpty=false) (hk:2<=k) (hk2:k<1000) (hz:items.size*k.toNat<=sizeLine):
  Meets (Builtin.«tuple.__mul__» ⟨[.ref l,.int k t],[]⟩) (fun _ R s=>s.heap.get? l=some {cls:= .type "tuple",dict:=dd,data:= .seq items n,slots:=sl}/\
    R (.ok (.ret (.ref s.heap.objs.size))) {s with heap:=s.heap.push {cls:= .type "tuple",data:= .seq ((List.replicate k.toNat items).foldl (· ++ ·) #[])}}):=
 .of_wp fun prog w A R s h=>by
  obtain ⟨hp,g,d,tk,os⟩:=s;obtain ⟨hl,h⟩:=h
  unfold Builtin.«tuple.__mul__» 
  wp_walk
  have hk63: ¬(decide (k< -2^63) || decide (k>=2^63))=true:=by
   rw [Bool.or_eq_true,qaD,qaD]
   omega
  rw [qa5 hk63]
  dsimp only
  have ht:IsTup hp l items:=⟨_,hl,rfl,_,rfl⟩
  refine qaW (tupleItemsOf_ ht ?_)
  have h1: ¬(items.isEmpty || k==1)=true:=by
   rw [hne,Bool.false_or,beq_iff_eq]
   omega
  rw [qa5 h1]
  have h2: ¬(decide (k<=0) || items.isEmpty)=true:=by
   rw [hne,Bool.or_false,qaD]
   omega
  rw [qa5 h2]
  have hk0:((k.toNat:Nat):Int)=k:=Int.toNat_of_nonneg (by omega)
  have hm:((items.size:Nat):Int)*k=((items.size*k.toNat:Nat):Int):=by rw [Int.natCast_mul,hk0]
  have hsl:(sizeLine:Nat)=16777216:=by decide
  have h3: ¬((items.size:Int)*k>(2^63 - 1) / 8):=by
   rw [hm]
   omega
  rw [qa5 h3]
  have h4: ¬Builtin.Tuple.tupleTooMany ((items.size:Int)*k)=true:=by
   unfold Builtin.Tuple.tupleTooMany
   rw [hm,qaD]
   omega
  rw [qa5 h4]
  have hsz:sizeOk (.seq (List.foldl (fun x1 x2=>x1++x2) #[] (List.replicate k.toNat items))):=by
   show (List.foldl (fun x1 x2=>x1++x2) #[] (List.replicate k.toNat items)).size<=sizeLine
   have e: ∀ (m:Nat) (acc:Array Value),(List.foldl (fun x1 x2=>x1++x2) acc (List.replicate m items)).size=acc.size+m*items.size:=by
    intro m
    induction m with
    | zero=>intro acc;simp
    | succ m ih=>intro acc;rw [List.replicate_succ,List.foldl_cons,ih,Array.size_append,Nat.succ_mul];omega
   rw [e,Nat.mul_comm]
   simpa using hz
  exact qaW (m:=Builtin.Tuple.tupleExact _) (qaC (qaX ⟨_,rfl,h⟩) hsz)
theorem zqE:OpR X (binaryOp .Mult) (fun x y H Q=> ∃ a k xs,x= .ref a/\y= .int k/\SqT X.K H a xs/\xs≠[]/\2<=k/\k<1000/\xs.length*k.toNat<=sizeLine/\ ∀ p,H p=none->Q (.ref p) (upd H p (.tup (List.replicate k.toNat xs).flatten))):=by
 intro pins s σ H x y v u Q I rx ry h
 obtain ⟨a,k,xs,rfl,rfl,hx,hne,h1,h2,hz,q⟩:=h
 cases rx
 obtain ⟨t,rfl⟩:=ry
 obtain ⟨its,r,ht,_⟩:=I.tuple hx
 have hl:=r.length
 obtain ⟨⟨cls,dd,data,sl⟩,ho,hc,n,hd⟩:=id ht
 simp only at hc hd
 subst hc hd
 have hemp:its.toArray.isEmpty=false:=by
  cases its with
  | nil=>cases r;exact absurd rfl hne
  | cons _ _=>simp
 refine wpAny_binaryOp_repeat_ref (T:="tuple") (U:="int") (by decide) ⟨_,ho,rfl⟩ (fun s'=>typeIs_int s' k t) zeR F.fills_int_mul F.slot_int_rmul zho F.slot_int_index.lookup
  (call_meets F.slot_int_rmul (typeIs_int s k t) F.entry_int_rmul (F.args_int_rmul_2 _ _) (zf6 k t a its.toArray n dd sl)
    ⟨ho,rfl,⟨_,ho,rfl⟩,call_meets F.slot_tuple_mul ⟨_,ho,rfl⟩ F.entry_tuple_mul (F.args_tuple_mul_2 _ _) (zl4 k t a its.toArray n dd sl hemp h1 h2 (by rw [qaA, <-hl];exact hz)) ⟨ho,?_⟩⟩)
 have hnew:List.foldl (fun x1 x2=>x1++x2) #[] (List.replicate k.toNat its.toArray)=(List.replicate k.toNat its).flatten.toArray:=by
  have:=zhM its k.toNat []
  rw [List.nil_append] at this
  exact this
 rw [hnew]
 refine ⟨.ref _,_,I.laid (t':=s.toks) (o:= .tup (List.replicate k.toNat xs).flatten) (fun b ob q=>qag _ q) (qaV _) ?_,rfl,q _ (I.hok.fresh (qaV _))⟩
 exact ⟨by rw [zp9,Nat.mul_comm];exact hz,_,r.rep k.toNat,IsTup.new _ _⟩
end
end L2
namespace LT
open PySem PySem.Spec PyProof.Rows
noncomputable abbrev Up (xs:Array Nat):Prop:=xs.toList.Pairwise (· < ·)
theorem Up.lt {xs:Array Nat} (h:Up xs) {i j:Nat} {a b:Nat} (hi:xs[i]? = some a) (hj:xs[j]? = some b) (hij:i<j):a<b:=by
 have hi':xs.toList[i]? = some a:=by simpa using hi
 have hj':xs.toList[j]? = some b:=by simpa using hj
 obtain ⟨h1,e1⟩:=qac.mp hi'
 obtain ⟨h2,e2⟩:=qac.mp hj'
 have:=List.pairwise_iff_getElem.mp h i j h1 h2 hij
 rw [e1,e2] at this
 exact this
theorem zgL {xs:Array Nat} (h:Up xs) (j:Nat): ∀ (fuel lo hi:Nat),hi - lo<=fuel->lo<=hi->hi<=xs.size->(∀ i a,i<lo->xs[i]? = some a->a<j)->(∀ i a,hi<=i->xs[i]? = some a->j<=a)->
  let r:=SetTable.below.go xs j fuel lo hi
  r<=xs.size/\(∀ i a,i<r->xs[i]? = some a->a<j)/\(∀ i a,r<=i->xs[i]? = some a->j<=a)
 | 0,lo,hi,hf,hl,hs,h1,h2=>by
  have e:lo=hi:=by omega
  subst e
  exact ⟨hs,h1,h2⟩
 | fuel+1,lo,hi,hf,hl,hs,h1,h2=>by
  unfold SetTable.below.go
  by_cases hlt:lo<hi
  ·rw [qa4 hlt]
   have hm:(lo+hi) / 2<xs.size:=by omega
   have em:xs[(lo+hi) / 2]? = some xs[(lo+hi) / 2]:=by simp [hm]
   have eg:xs.getD ((lo+hi) / 2) j=xs[(lo+hi) / 2]:=by simp [Array.getD,hm]
   dsimp only
   by_cases hc:xs.getD ((lo+hi) / 2) j<j
   ·rw [qa4 hc]
    refine zgL h j fuel _ hi (by omega) (by omega) hs (fun i a hi' e=> ?_) h2
    rw [eg] at hc
    by_cases z:i=(lo+hi) / 2
    ·subst z;rw [em] at e;cases e;exact hc
    ·exact Nat.lt_trans (h.lt e em (by omega)) hc
   ·rw [qa5 hc]
    refine zgL h j fuel lo _ (by omega) (by omega) (by omega) h1 fun i a hi' e=> ?_
    rw [eg] at hc
    by_cases z:i=(lo+hi) / 2
    ·subst z;rw [em] at e;cases e;omega
    ·have:=h.lt em e (by omega)
     omega
  ·rw [qa5 hlt]
   have e:lo=hi:=by omega
   subst e
   exact ⟨hs,h1,h2⟩
theorem zhb {xs:Array Nat} (h:Up xs) (j:Nat):SetTable.below xs j<=xs.size/\(∀ i a,i<SetTable.below xs j->xs[i]? = some a->a<j)/\(∀ i a,SetTable.below xs j<=i->xs[i]? = some a->j<=a):=
 zgL h j xs.size 0 xs.size (by omega) (Nat.zero_le _) (qaV _) (fun _ _ z=>absurd z (Nat.not_lt_zero _)) fun i a z e=>by
  have:=(qab.mp e).1
  omega
theorem zgj {xs:Array Nat} (h:Up xs) {k a:Nat} (e:xs[k]? = some a):SetTable.below xs (a+1)=k+1:=by
 obtain ⟨h1,h2,h3⟩:=zhb h (a+1)
 by_cases c:SetTable.below xs (a+1)<=k
 ·have:=h3 k a c e
  omega
 ·by_cases c2:k+1<SetTable.below xs (a+1)
  ·have hl:k+1<xs.size:=by omega
   have e2:xs[k+1]? = some xs[k+1]:=by simp [hl]
   have a1:=h2 (k+1) _ c2 e2
   have a2:=h.lt e e2 (by omega)
   omega
  ·omega
theorem zge {xs:Array Nat} (h:Up xs):SetTable.below xs 0=0:=by
 obtain ⟨h1,h2,h3⟩:=zhb h 0
 by_cases c:SetTable.below xs 0=0
 ·exact c
 ·have hl:0<xs.size:=by omega
  exact absurd (h2 0 _ (by omega) (show xs[0]? = some xs[0] by simp [hl])) (Nat.not_lt_zero _)
theorem zk2 {xs:Array Nat} (h:Up xs) {j:Nat} (hn:xs[SetTable.below xs j]? ≠ some j):Up (SetTable.insertAt xs (SetTable.below xs j) j):=by
 obtain ⟨h1,h2,h3⟩:=zhb h j
 show (SetTable.insertAt xs (SetTable.below xs j) j).toList.Pairwise (· < ·)
 rw [SetTable.toList_insertAt]
 rw [qaq]
 have hsplit:xs.toList.take (SetTable.below xs j)++xs.toList.drop (SetTable.below xs j)=xs.toList:=List.take_append_drop ..
 have hp:(xs.toList.take (SetTable.below xs j)++xs.toList.drop (SetTable.below xs j)).Pairwise (· < ·):=by rw [hsplit];exact h
 obtain ⟨p1,p2,p3⟩:=qaq.mp hp
 have tk: ∀ a∈xs.toList.take (SetTable.below xs j),a<j:=fun a ha=>by
  obtain ⟨i,hi⟩:=List.mem_iff_getElem?.mp ha
  rw [List.getElem?_take] at hi
  split at hi
  ·rename_i hlt
   exact h2 i a hlt (by simpa using hi)
  ·cases hi
 have dr: ∀ a∈xs.toList.drop (SetTable.below xs j),j<a:=fun a ha=>by
  obtain ⟨i,hi⟩:=List.mem_iff_getElem?.mp ha
  rw [List.getElem?_drop] at hi
  have hi':xs[SetTable.below xs j+i]? = some a:=by simpa using hi
  have a1:=h3 _ a (by omega) hi'
  rcases Nat.lt_or_eq_of_le a1 with z | z
  ·exact z
  ·subst z
   exfalso
   cases i with
   | zero=>exact hn hi'
   | succ i=>
    have hl:=(qab.mp hi').1
    have e0:xs[SetTable.below xs j]? = some xs[SetTable.below xs j]:=by
     have:SetTable.below xs j<xs.size:=by omega
     simp [this]
    have b1:=h3 _ _ (qaV _) e0
    have b2:=h.lt e0 hi' (by omega)
    omega
 refine ⟨p1,qay.mpr ⟨dr,p2⟩,fun a ha b hb=> ?_⟩
 rcases qaP.mp hb with z | z
 ·rw [z];exact tk a ha
 ·exact p3 a ha b z
structure ziW (t:SetTable) (led:Bool):Prop where
 up:Up t.place
 nod:t.dummies= #[]
 led:t.led=led
theorem zjh {j:Nat}:SetTable.has #[] j=false:=by
 unfold SetTable.has
 simp
theorem zlK {t:SetTable} {led:Bool} (g:ziW t led) {j:Nat} (h:t.slot j= .empty):t.place[SetTable.below t.place j]? ≠ some j:=fun e=>by
 unfold SetTable.slot at h
 dsimp only at h
 rw [e] at h
 simp at h
theorem zjx {t:SetTable} {led:Bool} (g:ziW t led) (f:Nat->Int) (h:Int): ∀ (fuel:Nat) (p:SetTable.Probe) (j:Nat) (d:Option Nat),p.dummy=none->SetTable.probe.go t f h fuel p=some (.empty j d)->t.slot j= .empty/\d=none
 | 0,_,_,_,_,e=>by cases e
 | fuel+1,p,j,d,hp,e=>by
  unfold SetTable.probe.go at e
  have adv: ∀ q:SetTable.Probe,q.dummy=none->(t.advance q).dummy=none:=fun q hq=>by
   unfold SetTable.advance
   split<;>exact hq
  split at e
  ·rename_i hs
   cases e
   exact ⟨hs,hp⟩
  ·rename_i hs
   exfalso
   unfold SetTable.slot at hs
   dsimp only at hs
   rw [g.nod,zjh] at hs
   split at hs<;>simp at hs
  ·split at e
   ·cases e
   ·exact zjx g f h fuel _ j d (adv p hp) e
theorem zgK {t:SetTable} {led:Bool} (g:ziW t led) {h:Int} {j:Nat} {b:Bool} (e:t.freeSlot h=some (j,b)):t.place[SetTable.below t.place j]? ≠ some j:=by
 unfold SetTable.freeSlot at e
 split at e
 ·rename_i j' d' hpr
  obtain ⟨h1,h2⟩:=zjx g _ _ _ _ _ _ rfl hpr
  subst h2
  cases e
  exact zlK g h1
 ·cases e
theorem zob (n:Nat):Up (Array.range n):=by
 show (Array.range n).toList.Pairwise (· < ·)
 rw [Array.toList_range]
 exact List.pairwise_lt_range
theorem zcu {t:SetTable} {led:Bool} (g:ziW t led) (n:Nat):ziW (t.standIn n) led:=⟨zob n,rfl,g.led⟩
theorem zi1 {t:SetTable} {led:Bool} (g:ziW t led) (es:Array (Int×Value)) (h:Int) (x:Value):ziW (layNew t es h x).2.1 led:=by
 unfold layNew
 split
 ·rename_i slot wasDummy e
  have g2:ziW (t.put slot).1 led:=by
   refine ⟨zk2 g.up (zgK g e),?_,g.led⟩
   show (if SetTable.has t.dummies slot then _ else t.dummies)= #[]
   rw [g.nod,zjh]
   rfl
  show ziW ((t.put slot).1.orStandIn _) led
  unfold SetTable.orStandIn
  split
  ·exact g2
  ·exact zcu g2 _
 ·exact zcu g _
theorem zkW {mask finger moves:Nat} {led plain:Bool} {hs:Array Int} {t:SetTable} {o:Array Nat} (e:SetTable.laid mask finger moves led plain hs=some (t,o)):ziW t led:=by
 unfold SetTable.laid at e
 cases z:SetTable.layClean mask hs with
 | none=>rw [z] at e;cases e
 | some owner=>
  rw [z] at e
  have e:some (({mask,place:=(((List.range (mask+1)).filterMap fun j=>(owner.getD j none).map (j, ·)).map (·.1)).toArray,dummies:= #[],finger,led,moves,plain}:SetTable),_)=some (t,o):=e
  cases e
  refine ⟨?_,rfl,rfl⟩
  show (((List.range (mask+1)).filterMap fun j=>(owner.getD j none).map (j, ·)).map (·.1)).toArray.toList.Pairwise (· < ·)
  rw [List.toList_toArray,List.map_filterMap]
  have sub:List.Sublist ((List.range (mask+1)).filterMap fun j=>((owner.getD j none).map (j, ·)).map (·.1)) (List.range (mask+1)):=by
   generalize List.range (mask+1)=l
   induction l with
   | nil=>exact .slnil
   | cons a r ih=>
    rw [qat]
    cases q:owner.getD a none with
    | none=>exact ih.cons a
    | some v=>exact ih.cons₂ a
  exact List.pairwise_lt_range.sublist sub
theorem zgV {t:SetTable} {led:Bool} (g:ziW t led) (es:Array (Int×Value)) (wanted:Nat):ziW (relayAll t es wanted).2.1 led:=by
 unfold relayAll
 split
 ·rename_i t' order e
  have g2:ziW t' t.led:=zkW e
  rw [g.led] at g2
  dsimp only
  split
  ·exact g2
  ·exact zcu g _
 ·exact zcu g _
noncomputable def zcT (w:World):Bool:= !w.params.followText "set-order"
def zhi (prog:Program) (w:World) (h:Heap) (a:Addr) (S:Int->Bool) (n:Nat):Prop:=
 ∃ ob es ep tb,(h.get? a=some ob/\ob.ExactSet/\ob.data= .set es ep tb)/\ElemsOf (intKind prog w) es.toList/\(∀ k,S k=true↔ ∃ e∈es.toList,(intKind prog w).is k e.2=true)/\
  (es.size<scanBound/\tb.fits es.size=true/\es.size=n)/\ziW tb (zcT w)
theorem zhi.move {prog:Program} {w:World} {h h':Heap} {a:Addr} {S S':Int->Bool} {n n':Nat} (g:zhi prog w h a S n) (k: ∀ ob,h.get? a=some ob->h'.get? a=some ob) (e: ∀ k,S k=S' k) (en:n=n'):zhi prog w h' a S' n':=by
 obtain ⟨ob,es,ep,tb,⟨h1,h2,h3⟩,h4,h5,⟨h6,h7,h8⟩,h9⟩:=g
 exact ⟨ob,es,ep,tb,⟨k ob h1,h2,h3⟩,h4,fun z=>by rw [<- e z];exact h5 z,⟨h6,h7,h8.trans en⟩,h9⟩
section
variable {prog:Program} {w:World} {A:Around} {E:Value->Shared->Prop} {s:Shared}
theorem stored {a:Addr} {ob:Obj} {es es':Array (Int×Value)} {ep:Nat} {tb tb':SetTable} {S:Int->Bool} {R:Unit->Shared->Prop} (ho:s.heap.get? a=some ob) (hx:ob.ExactSet) (hd:ob.data= .set es ep tb)
  (hE:ElemsOf (intKind prog w) es'.toList) (hS: ∀ k,S k=true↔ ∃ e∈es'.toList,(intKind prog w).is k e.2=true) (hb:es'.size<scanBound) (hf:tb'.fits es'.size=true) (hg:ziW tb' (zcT w))
  (q: ∀ h',Heap.SameBut a s.heap h'->h'.get? a=some {ob with data:= .set es' (ep+1) tb'}->zhi prog w h' a S es'.size->R () {s with heap:=h'}):wpAny (model prog w) A (storeSet a es' tb') R E s:=by
 have put:=putSet_of es' tb' hd
 have at1:(s.heap.update a (Obj.putSet es' tb')).get? a=some {ob with data:= .set es' (ep+1) tb'}:=by
  have z:=qal (Obj.putSet es' tb') ho (by rw [put];rfl)
  rwa [put] at z
 exact wpAny_storeSet_of ho hd (q _ (Heap.SameBut.update ..) at1 ⟨_,es',ep+1,tb',⟨at1,hx,rfl⟩,hE,hS,⟨hb,hf,rfl⟩,hg⟩) (fits_of_scanBound hb)
theorem zvo {a:Addr} {S:Int->Bool} {n:Nat} {k:Int} {t:Tok} {Q:Bool->Shared->Prop} (g:zhi prog w s.heap a S n) (room:n+1<scanBound)
  (q: ∀ h' b,Heap.SameBut a s.heap h'->zhi prog w h' a (fun z=>S z || decide (z=k)) (if S k then n else n+1)->Q b {s with heap:=h'}):
  wpAny (model prog w) A (setAddHashed a (.int k t) ((intKind prog w).hash k)) Q E s:=by
 have kis:(intKind prog w).is k (.int k t)=true:=intKind_is _ _ _ _
 obtain ⟨ob,es,ep,tb,⟨h1,h2,h3⟩,h4,h5,⟨h6,h7,h8⟩,h9⟩:=g
 have scn:(Value.int k t).scannable=true:=rfl
 unfold setAddHashed setAddHashedIn
 refine qaO (qaW (wpAny_setState_of h1 h3 h7 ?_))
 dsimp only
 rw [qa4 (byScan_of scn h6 h4)]
 refine qaW ?_
 unfold setAddByScan
 refine qaW (wpAny_rule (qaW (wpAny_setScan_of kis h1 h3 h7 h4 ?_)))
 cases fi:List.findIdx? (fun e=>(intKind prog w).is k e.2) es.toList with
 | some j=>
  obtain ⟨lj,pj,_⟩:=List.findIdx?_eq_some_iff_getElem.mp fi
  have inS:S k=true:=(h5 k).mpr ⟨_,List.getElem_mem lj,pj⟩
  refine qaX (qaX ?_)
  have z:=q s.heap false (Heap.SameBut.refl ..) ⟨ob,es,ep,tb,⟨h1,h2,h3⟩,h4,fun y=> ?_,⟨h6,h7,by rw [inS];exact h8⟩,h9⟩
  ·exact z
  ·rw [<- h5 y,Bool.or_eq_true,qaD]
   exact ⟨fun c=>c.elim id fun c=>by rw [c];exact inS,.inl⟩
 | none=>
  have noS:S k=false:=by
   rw [<- Bool.not_eq_true,h5 k]
   rintro ⟨e,he,pe⟩
   have:=List.findIdx?_eq_none_iff.mp fi e he
   rw [pe] at this
   cases this
  have L1:=layNew_perm tb es ((intKind prog w).hash k) (.int k t)
  have L2:=layNew_fits tb es ((intKind prog w).hash k) (.int k t)
  have L3:=zi1 h9 es ((intKind prog w).hash k) (.int k t)
  generalize hl:layNew tb es ((intKind prog w).hash k) (.int k t)=ln at L1 L2 L3 ⊢
  obtain ⟨es1,tb1,wd,gv⟩:=ln
  dsimp only at L1 L2 L3 ⊢
  rw [Array.toList_push] at L1
  have E1:ElemsOf (intKind prog w) es1.toList:=(h4.push kis scn).perm L1
  have M1: ∀ y,(S y || decide (y=k))=true↔ ∃ e∈es1.toList,(intKind prog w).is y e.2=true:=mem_push_iff kis h5 L1
  have Z1:es1.size=n+1:=by
   have z:=L1.length_eq
   rw [qav,qas,qas] at z
   rw [z,h8];rfl
  have B1:es1.size<scanBound:=by rw [Z1];exact room
  have quiet: ∀ (b:Bool) (s1:Shared) (R:Unit->Shared->Prop),R () s1->wpAny (model prog w) A (match b with | true=>rule "set.scan.the-table-gave-way" | false=>pure ()) R E s1:=fun b s1 R z=>by
   cases b
   ·exact qaX z
   ·exact wpAny_rule z
  have fin: ∀ (s1:Shared) (h':Heap),s1={s with heap:=h'}->Heap.SameBut a s.heap h'->zhi prog w h' a (fun y=>S y || decide (y=k)) es1.size->Q true s1:=fun s1 h' e1 sb gg=>by
   subst e1
   have z:=q h' true sb
   rw [noS] at z
   exact z (by rw [Z1] at gg;exact gg)
  refine qaW (quiet _ _ _ ?_)
  have tail: ∀ (gw:Bool->Sem Unit),(∀ (b:Bool) (s1:Shared) (R:Unit->Shared->Prop),R () s1->wpAny (model prog w) A (gw b) R E s1)->wpAny (model prog w) A (do
      storeSet a es1 tb1
      if (!wd && tb1.tooFull)=true then do
        gw (relayAll tb1 es1 (SetTable.grown es1.size)).2.2
        storeSet a (relayAll tb1 es1 (SetTable.grown es1.size)).1 (relayAll tb1 es1 (SetTable.grown es1.size)).2.1
        pure (some true)
      else pure (some true)) (fun r s'=>wpAny (model prog w) A (match r with | some b=>pure b | none=>setAddHashedIn a (.int k t) ((intKind prog w).hash k) 99999) Q E s') E s:=by
   intro gw hgw
   refine qaW (stored h1 h2 h3 E1 M1 B1 L2 L3 fun h' sb at1 gg=> ?_)
   by_cases full:(!wd && tb1.tooFull)=true
   ·rw [qa4 full]
    have P2:=relayAll_perm tb1 es1 (SetTable.grown es1.size)
    have F2:=relayAll_fits tb1 es1 (SetTable.grown es1.size)
    have G2:=zgV L3 es1 (SetTable.grown es1.size)
    generalize relayAll tb1 es1 (SetTable.grown es1.size)=rl at P2 F2 G2 ⊢
    obtain ⟨es2,tb2,gv2⟩:=rl
    dsimp only at P2 F2 G2 ⊢
    have Z2:es2.size=es1.size:=by
     have z:=P2.length_eq
     rwa [qas,qas] at z
    refine qaW (hgw _ _ _ (qaW (stored (s:={s with heap:=h'}) (S:=fun y=>S y || decide (y=k)) at1 h2 rfl (E1.perm P2) (fun y=>(M1 y).trans ?_) (by rw [Z2];exact B1) F2 G2 fun h'' sb2 _ gg2=> ?_)))
    ·exact ⟨fun ⟨e,he,pe⟩=>⟨e,P2.mem_iff.mpr he,pe⟩,fun ⟨e,he,pe⟩=>⟨e,P2.mem_iff.mp he,pe⟩⟩
    ·exact qaX (qaX (fin _ h'' rfl (sb.trans sb2) (by rw [Z2] at gg2;exact gg2)))
   ·rw [qa5 full]
    exact qaX (qaX (fin _ h' rfl sb gg))
  split
  ·rw [hashByValue_scannable 8 scn]
   refine qaW (qaX ?_)
   exact tail _ fun b s1 R z=>by cases b<;>first | exact qaX z | exact wpAny_rule z
  ·refine qaW (qaX ?_)
   exact tail _ fun b s1 R z=>by cases b<;>first | exact qaX z | exact wpAny_rule z
end
section
variable {prog:Program} {w:World} {A:Around} {R:Result->Shared->Prop} {it:Addr} {fp wr:List Addr} {G:Array GenState->Array GenState->Prop} {n:Nat} {P:Nat->Value->Prop} {St:Nat->Shared->Prop}
theorem zuT (W:WalksS prog w A.in1 it fp wr G n P St) (a:Addr) (ha:a∉fp) (val:Nat->Int) (hval: ∀ i v,P i v-> ∃ t,v= .int (val i) t) (room:n+1<scanBound):
  ∀ (left i:Nat) (s:Shared),n - i=left->i<=n->St i s->zhi prog w s.heap a (fun z=>(firstMet val i).any (· == z)) (firstMet val i).length->
   (∀ s',Moved (a::wr) G s s'->zhi prog w s'.heap a (fun z=>(firstMet val n).any (· == z)) (firstMet val n).length->R (.ok (.ret .none)) s')->
   codeAny (model prog w) A (.builtin "set.update.loop" ⟨[.ref a,.ref it],[]⟩) R s:=by
 have awr:a∉wr:=fun z=>ha (W.sub _ z)
 have more: ∀ b∈wr,b∈a::wr:=fun b z=> .tail _ z
 intro left
 induction left with
 | zero=>
  intro i s hleft hin st g q
  obtain rfl:i=n:=by omega
  refine codeAny_builtin F.entry_set_update_loop ?_
  rw [qap F.plain_set_update_loop _]
  show wpAny _ _ (pyNext (.ref it)>>=_) _ _ _
  refine qaW (W.done s _ _ st fun s' mv=> ?_)
  exact qaX (q s' (mv.mono more) (g.move (fun ob e=>mv.heap a ob awr e) (fun _=>rfl) rfl))
 | succ left ih=>
  intro i s hleft hin st g q
  have hi:i<n:=by omega
  refine codeAny_builtin F.entry_set_update_loop ?_
  rw [qap F.plain_set_update_loop _]
  show wpAny _ _ (pyNext (.ref it)>>=_) _ _ _
  refine qaW (W.item i s _ _ hi st fun v s1 pv st1 mv=> ?_)
  obtain ⟨t,rfl⟩:=hval i v pv
  have g1:zhi prog w s1.heap a (fun z=>(firstMet val i).any (· == z)) (firstMet val i).length:=g.move (fun ob e=>mv.heap a ob awr e) (fun _=>rfl) rfl
  show wpAny _ _ (holding [Value.int (val i) t] (setAdd a (.int (val i) t))>>=_) _ _ _
  refine qaW (qaO ?_)
  unfold setAdd
  refine qaO (qaW ((intKind prog w).pyHash (k:=val i) (intKind_is _ _ _ _) ?_))
  have few:=firstMet_length_le val i
  refine zvo (s:={s1 with toks:=s1.toks+1}) g1 (by omega) fun h2 b sb g2=> ?_
  have g3:zhi prog w h2 a (fun z=>(firstMet val (i+1)).any (· == z)) (firstMet val (i+1)).length:=
   g2.move (fun _ e=>e) (fun z=>by rw [firstMet_succ,step_any]) (by rw [firstMet_succ,step_length])
  have off: ∀ b,b≠a->h2.get? b=s1.heap.get? b:=fun b hb=>sb.2 b hb
  refine qaX ⟨plainId_quiet F.plain_set_update_loop _,ih (i+1) _ (by omega) hi (W.frame _ s1 _ _ st1 (Nat.le_succ _) fun b hb ob e=> ?_) g3 fun s3 mv3 g4=> ?_⟩
  ·rw [off b fun z=>ha (z▸hb)]
   exact e
  ·refine q s3 (.trans W.gtrans ((mv.mono more).then_heap (Nat.le_succ _) fun b ob hb e=> ?_) mv3) g4
   rw [off b fun z=>hb (z▸ .head _)]
   exact e
end
section
variable {prog:Program} {w:World} {A:Around} {E:Value->Shared->Prop} {s:Shared}
theorem zoX (h:Heap):zhi prog w (h.push {cls:= .type "set",dict:=none,data:= .set #[] 0 (.fresh 0 0 (zcT w))}) h.objs.size (fun _=>false) 0:=
 ⟨_, #[],0,_,⟨qar _ rfl,⟨rfl,rfl,rfl⟩,rfl⟩,fun e he=>by simp at he,fun k=>by simp,⟨by decide,rfl,rfl⟩,⟨List.Pairwise.nil,rfl,rfl⟩⟩
theorem zvD (x:Value) {Q:Value->Shared->Prop} (q:Q (.ref s.heap.objs.size) {s with heap:=s.heap.push {cls:= .type "set",dict:=none,data:= .set #[] 0 (.fresh 0 0 (zcT w))}}):
  codeAny (model prog w) A (.call (.builtin "set.__new__") ⟨[.type "set",x],[]⟩) (wants Q E) s:=by
 refine codeAny_of_tree ?_
 show wpAny _ _ (do checkBuiltinCall "set.__new__" ⟨[.type "set",x],[]⟩;again (.builtin "set.__new__" ⟨[.type "set",x],[]⟩)) _ _ _
 refine qaW (wpAny_of_eq (F.newCall_set_1 x) (qaX ⟨plainId_quiet F.plain_set_new _,codeAny_builtin F.entry_set_new ?_⟩))
 rw [qap F.plain_set_new _]
 unfold Builtin.«set.__new__» Builtin.Frozenset.newClass
 have self:=sub_set_self
 obtain ⟨hp,gs,dr,tk,os⟩:=s
 dsimp only
 wp_walk
 refine wpAny_askSetting (qaX ?_)
 dsimp only
 simp only [newObj]
 exact qaW (wpAny_alloc (qaX (qaX q)))
theorem zuV {l:Addr} {T:String} {items:Array Value} {ns:List Int} {Q:Value->Shared->Prop} (hh:A.handled=none) (hT:(T="list"/\s.heap.IsList l items)\/(T="tuple"/\s.heap.IsTuple l items)) (hi:IntsAre items.toList ns) (room:items.size+1<scanBound)
  (q: ∀ (h':Heap) (tk:Nat),zhi prog w h' s.heap.objs.size (fun z=>(firstMet (fun i=>ns.getD i 0) items.size).any (· == z)) (firstMet (fun i=>ns.getD i 0) items.size).length->(∀ b ob,s.heap.get? b=some ob->h'.get? b=some ob)->
    Q (.ref s.heap.objs.size) {s with heap:=h',toks:=tk}):wpAny (model prog w) A (call (.type "set") [.ref l]) Q E s:=by
 obtain ⟨c,tl,hmro⟩:=F.called_set.mro
 have hmade:=F.called_set.made
 have hsub:=F.called_set.sub
 refine wpAny_call (codeAny_of_tree ?_)
 show wpAny _ _ (callAny (.type "set") _) _ _ _
 refine qaX ⟨Code.quiet_builtin _ (by decide +kernel),codeAny_builtin F.entry_type_call ?_⟩
 rw [Around.under_plain (weight_type_call_type "set" [.ref l] []) rfl]
 have hnt:=F.called_set.notType
 have hcc:=F.called_set.canCreate
 have htc:=F.typeCall_set_1 (.ref l)
 repeat' (first | assumption | wp_step)
 refine codeAny_mono (zvD (.ref l) (E:=E) (Q:=fun v s1=>v= .ref s.heap.objs.size/\s1={s with heap:=s.heap.push {cls:= .type "set",dict:=none,data:= .set #[] 0 (.fresh 0 0 (zcT w))}}) ⟨rfl,rfl⟩) fun r s1 hr=> ?_
 cases r with
 | error e=>exact hr
 | ok fl=>
  cases fl with
  | ret v=>
   obtain ⟨rfl,rfl⟩:=hr
   have laid:(s.heap.push {cls:= .type "set",dict:=none,data:= .set #[] 0 (.fresh 0 0 (zcT w))}).get? s.heap.objs.size=some {cls:= .type "set",dict:=none,data:= .set #[] 0 (.fresh 0 0 (zcT w))}:=qar _ rfl
   have isSet:Shared.TypeIs {s with heap:=s.heap.push {cls:= .type "set",dict:=none,data:= .set #[] 0 (.fresh 0 0 (zcT w))}} (.ref s.heap.objs.size) "set":=⟨_,laid,rfl⟩
   have hli:=F.called_set.init.lookup
   have hbi:=F.called_set.init.bind (.ref s.heap.objs.size)
   repeat' (first | assumption | wp_step)
   refine codeAny_mono (codeAny_call_builtin (R:=wants (fun z s2=>z= .none/\ ∃ h' tk,s2={s with heap:=h',toks:=tk}/\
       zhi prog w h' s.heap.objs.size (fun z=>(firstMet (fun i=>ns.getD i 0) items.size).any (· == z)) (firstMet (fun i=>ns.getD i 0) items.size).length/\(∀ b ob,s.heap.get? b=some ob->h'.get? b=some ob)) E) F.called_set.init.plain F.entry_set_init (check_set_init_1 isSet ?_)) fun r2 s2 hr2=> ?_
   ·have keepL: ∀ ob,s.heap.get? l=some ob->(s.heap.push {cls:= .type "set",dict:=none,data:= .set #[] 0 (.fresh 0 0 (zcT w))}).get? l=some ob:=fun ob e=>qag _ e
    have hval: ∀ (i:Nat) (v:Value),items[i]? = some v-> ∃ t,v= .int ((fun i=>ns.getD i 0) i) t:=fun i v hv=>IntsAre.int_at hi i v (by rw [Array.getElem?_toList];exact hv)
    have hh3:A.in1.in1.in1.handled=none:=by simp [hh]
    have done1: ∀ (l0:Addr) (h0:Heap) (s':Shared),l0=s.heap.objs.size->Moved [l0,(s.heap.push {cls:= .type "set",dict:=none,data:= .set #[] 0 (.fresh 0 0 (zcT w))}).objs.size] (fun a b=>b=a) {s with heap:=h0} s'->(∀ b ob,s.heap.get? b=some ob->h0.get? b=some ob)->
      (∀ b ob,s.heap.get? b=some ob->s'.heap.get? b=some ob)/\s'={s with heap:=s'.heap,toks:=s'.toks}:=fun l0 h0 s' e0 mv k0=>by
     refine ⟨fun b ob e=>mv.heap b ob (fun z=> ?_) (k0 b ob e),?_⟩
     ·have lt:=qaQ e
      rw [qaL,e0] at z
      simp only [qaP,qaF,or_false] at z
      rcases z with z | z
      ·exact qaN _ (z▸lt)
      ·exact qaN _ (Nat.lt_of_succ_lt (z▸lt))
     ·obtain ⟨h',g',d',tk',os'⟩:=s'
      have eg:g'=s.gens:=mv.gens
      have ed:d'=s.drawn:=mv.drawn
      have eo:os'=s.os:=mv.os
      subst eg ed eo
      rfl
    unfold Builtin.«set.__init__» noKeywords Builtin.Frozenset.updateFrom
    generalize hPI:pyIter=PI
    rcases hT with ⟨rfl,hl⟩ | ⟨rfl,hl⟩
    ·obtain ⟨⟨ocl,odi,oda,osl⟩,hol,hcl,nl,hdl⟩:=hl
     simp only at hcl hdl
     subst hcl hdl
     have hol':=keepL _ hol
     have f1:=F.sub_list_set
     have f2:=F.sub_list_frozenset
     have f3:(Value.type "list"==Value.type "dict")=false:=by decide
     wp_walk
     subst hPI
     have hl1:(s.heap.push {cls:= .type "set",dict:=none,data:= .set #[] 0 (.fresh 0 0 (zcT w))}).IsList l items:=⟨_,hol',rfl,nl,rfl⟩
     refine wpAny_pyIter_list hl1 ?_
     refine qaW (wpAny_runValue ?_)
     have ltl:l<s.heap.objs.size:=qaQ hol
     have szp:(s.heap.push {cls:= .type "set",dict:=none,data:= .set #[] 0 (.fresh 0 0 (zcT w))}).objs.size=s.heap.objs.size+1:=qaL ..
     have ne1:l≠(s.heap.push {cls:= .type "set",dict:=none,data:= .set #[] 0 (.fresh 0 0 (zcT w))}).objs.size:=by rw [szp];exact qaR (Nat.lt_succ_of_lt ltl)
     have ne2:s.heap.objs.size∉[(s.heap.push {cls:= .type "set",dict:=none,data:= .set #[] 0 (.fresh 0 0 (zcT w))}).objs.size,l]:=by
      rw [szp]
      simp only [qaP,qaF,or_false]
      rintro (z | z)
      ·exact Nat.succ_ne_self _ z.symm
      ·exact qaN _ (z▸ltl)
     refine zuT ((Walks.list hh3 _ l ne1 items).toS) s.heap.objs.size ne2 (fun i=>ns.getD i 0) hval room _ 0 _ rfl (Nat.zero_le _) ⟨⟨_,qar _ rfl,rfl,rfl⟩,hl1.push _⟩ ?g0 fun s' mv gg=> ?_
     case g0=>exact (zoX s.heap).move (fun ob e=>qag _ e) (fun _=>rfl) rfl
     obtain ⟨k1,k2⟩:=done1 _ _ s' rfl mv fun b ob e=>qag _ (qag _ e)
     exact qaX (qaX ⟨rfl,s'.heap,s'.toks,k2,gg,k1⟩)
    ·obtain ⟨⟨ocl,odi,oda,osl⟩,hol,hcl,nl,hdl⟩:=hl
     simp only at hcl hdl
     subst hcl hdl
     have hol':=keepL _ hol
     have f1:=F.sub_tuple_set
     have f2:=F.sub_tuple_frozenset
     have f3:(Value.type "tuple"==Value.type "dict")=false:=by decide
     wp_walk
     subst hPI
     have hl1:(s.heap.push {cls:= .type "set",dict:=none,data:= .set #[] 0 (.fresh 0 0 (zcT w))}).IsTuple l items:=⟨_,hol',rfl,nl,rfl⟩
     refine wpAny_pyIter_tuple hl1 ?_
     refine qaW (wpAny_runValue ?_)
     have ltl:l<s.heap.objs.size:=qaQ hol
     have szp:(s.heap.push {cls:= .type "set",dict:=none,data:= .set #[] 0 (.fresh 0 0 (zcT w))}).objs.size=s.heap.objs.size+1:=qaL ..
     have ne1:l≠(s.heap.push {cls:= .type "set",dict:=none,data:= .set #[] 0 (.fresh 0 0 (zcT w))}).objs.size:=by rw [szp];exact qaR (Nat.lt_succ_of_lt ltl)
     have ne2:s.heap.objs.size∉[(s.heap.push {cls:= .type "set",dict:=none,data:= .set #[] 0 (.fresh 0 0 (zcT w))}).objs.size,l]:=by
      rw [szp]
      simp only [qaP,qaF,or_false]
      rintro (z | z)
      ·exact Nat.succ_ne_self _ z.symm
      ·exact qaN _ (z▸ltl)
     refine zuT ((Walks.tuple hh3 _ l ne1 items).toS) s.heap.objs.size ne2 (fun i=>ns.getD i 0) hval room _ 0 _ rfl (Nat.zero_le _) ⟨⟨_,qar _ rfl,rfl,rfl⟩,⟨_,qag _ hol',rfl,nl,rfl⟩⟩ ?g0 fun s' mv gg=> ?_
     case g0=>exact (zoX s.heap).move (fun ob e=>qag _ e) (fun _=>rfl) rfl
     obtain ⟨k1,k2⟩:=done1 _ _ s' rfl mv fun b ob e=>qag _ (qag _ e)
     exact qaX (qaX ⟨rfl,s'.heap,s'.toks,k2,gg,k1⟩)
   ·cases r2 with
    | error e=>exact hr2
    | ok fl2=>
     cases fl2 with
     | ret z=>
      obtain ⟨rfl,h',tk,rfl,gg,k1⟩:=hr2
      repeat' (first | assumption | wp_step)
      exact q _ _ gg k1
     | _=>exact hr2.elim
  | _=>exact hr.elim
end
theorem zaK:Slot "set_iterator" "__next__" "set_iterator.__next__":= .of (owner:="set_iterator") (n:="__next__") (by rw [typeLookup_type,builtinLookup_eq_fast];kernel_rfl) (by decide +kernel) (by decide +kernel) (by decide +kernel) (by first | exact .inl (by decide +kernel) | exact .inr (by decide +kernel)) (by rw [isSubtype_type];kernel_rfl)
theorem zec:Slot "set_iterator" "__iter__" "set_iterator.__iter__":= .of (owner:="set_iterator") (n:="__iter__") (by rw [typeLookup_type,builtinLookup_eq_fast];kernel_rfl) (by decide +kernel) (by decide +kernel) (by decide +kernel) (by first | exact .inl (by decide +kernel) | exact .inr (by decide +kernel)) (by rw [isSubtype_type];kernel_rfl)
theorem zcA:entryFor table "set_iterator.__next__"=some Builtin.«set_iterator.__next__» := entryFor_of_tree (by kernel_rfl)
theorem zfP:entryFor table "set_iterator.__iter__"=some Builtin.«dict_keyiterator.__iter__» := entryFor_alias (id':="dict_keyiterator.__iter__") (by kernel_rfl) rfl (by decide +kernel) (by kernel_rfl)
theorem zcY (a:Value):argsOk "set_iterator.__next__" ⟨[a],[]⟩:=by unfold argsOk;kernel_rfl
theorem zgT (a:Value):argsOk "set_iterator.__iter__" ⟨[a],[]⟩:=by unfold argsOk;kernel_rfl
theorem zf3:entryFor table "set.__iter__"=some Builtin.«frozenset.__iter__» := entryFor_alias (id':="frozenset.__iter__") (by kernel_rfl) rfl (by decide +kernel) (by kernel_rfl)
def SIt (h:Heap) (it a:Addr) (first:Value) (i n ep:Nat):Prop:=h.get? it=some {cls:= .type "set_iterator",dict:=none,data:= .fields #[first,.int i 0,.ref a,.int n 0,.int ep 0],slots:= #[]}
structure zi6 (h:Heap) (a:Addr) (es:Array (Int×Value)) (ep:Nat) (tb:SetTable):Prop where
 at_: ∃ ob,h.get? a=some ob/\ob.ExactSet/\ob.data= .set es ep tb
 fits:tb.fits es.size=true
section
variable {prog:Program} {w:World} {A:Around} {E:Value->Shared->Prop} {s:Shared}
theorem zld {it a:Addr} {first:Value} {i n ep:Nat} {es:Array (Int×Value)} {tb:SetTable} {Q:Option Value->Shared->Prop} (hI:SIt s.heap it a first i n ep) (hS:zi6 s.heap a es ep tb) (hn:es.size=n) (slot:Nat) (hf:first= .int slot 0)
  (q:wpAny (model prog w) A.in1 (do
    match<-setNext a slot i ep with
    | some (x,next)=>
      setField (.ref it) 0 (rawInt next)
      setField (.ref it) 1 (rawInt ((i:Int)+1))
      ret x
    | none=>setField (.ref it) 2 .none;raiseNew (<- newExc (.type "StopIteration") [])) (fun f s'=> ∃ v,f= .done (.ret v)/\Q (some v) s') (fun e s'=>wpAny (model prog w) A (do if<-isInstance e (.type "StopIteration") then pure none else throw e) Q E s') s):
  wpAny (model prog w) A (pyNext (.ref it)) Q E s:=by
 obtain ⟨ob,ho,hx,hd⟩:=hS.at_
 subst hf
 have tI:s.TypeIs (.ref it) "set_iterator":=⟨_,hI,rfl⟩
 unfold pyNext
 refine qaW (wpAny_attempt (wpAny_callSpecial?_slot (name:=Str.ofString "__next__") tI zaK (wpAny_call_entry zaK tI zcA ?_ (zcY _))))
 unfold Builtin.«set_iterator.__next__»
 refine qaW (m:=slotArgs "__next__" 0 _) (qaX ?_)
 refine qaW (m:=fieldsOf (.ref it)) ?_
 unfold fieldsOf
 refine qaW (wpAny_load hI (qaX ?_))
 refine qaW (wpAny_setEntries_of ho hd hS.fits ?_)
 have same: ¬(((es.size:Nat):Int) != (n:Int))=true:=by rw [hn];simp
 rw [qa5 same]
 exact qaZ q (fun f s' ⟨v,e,z⟩=>⟨v,e,qaX z⟩) fun e s' z=>z
theorem zll {it:Addr} {r:Shared->Prop} {Q:Option Value->Shared->Prop} (hh:A.handled=none) (q: ∀ h',(∀ b ob,s.heap.get? b=some ob->h'.get? b=some ob)->Q none {s with heap:=h'}):
  wpAny (model prog w) A.in1 (do raiseNew (<- newExc (.type "StopIteration") []):Sem PySem.Fin) (fun f s'=> ∃ v,f= .done (.ret v)/\Q (some v) s') (fun e s'=>wpAny (model prog w) A (do if<-isInstance e (.type "StopIteration") then pure none else throw e) Q E s') s:=by
 refine qaW ?_
 simp only [newExc,newTuple]
 refine qaW (qaC ?_ (by size_fits))
 refine qaW (m:=firstArgMember _ _) (wpAny_of_eq (a:=Value.none) (by first | rfl | (simp only [firstArgMember];rfl)) ?_)
 refine qaC ?_ (by size_fits)
 simp only [raiseNew]
 refine qaW (wpAny_handled ?_)
 rw [show A.in1.handled=none from hh]
 refine qaW (qaX (wpAny_throw ?_))
 refine qaW (wpAny_isInstance (T:="StopIteration") (b:=true) ⟨_,qar _ rfl,rfl⟩ isSubtype_stop ?_)
 exact qaX (q _ fun b ob e=>qag _ (qag _ e))
theorem SIt.set {h h':Heap} {it a:Addr} {first:Value} {i n ep:Nat} (x:SIt h it a first i n ep):it<h.objs.size:=qaQ x
theorem zf9 {es:Array (Int×Value)} {tb:SetTable} (hf:tb.fits es.size=true):tb.place.size=es.size:=by
 unfold SetTable.fits at hf
 simp only [qaG,beq_iff_eq] at hf
 exact hf.1
theorem zem {a:Addr} {ep i slot:Nat} {es:Array (Int×Value)} {tb:SetTable} {R:Option (Value×Nat)->Shared->Prop} (hS:zi6 s.heap a es ep tb) (led:tb.led=true) (bt:w.params.followText "set-order"=false) (pl:(!tb.plain && decide (es.size>1))=false)
  (q:R (match es[SetTable.below tb.place slot]?, tb.place[SetTable.below tb.place slot]? with | some (_,x),some j=>some (x,j+1) | _,_=>none) s):wpAny (model prog w) A (setNext a slot i ep) R E s:=by
 obtain ⟨ob,ho,hx,hd⟩:=hS.at_
 unfold setNext
 refine qaW (wpAny_setState_of ho hd hS.fits ?_)
 dsimp only
 unfold setsByText
 refine qaW (qaW (wpAny_askSetting (qaX ?_)))
 dsimp only
 rw [show (model prog w).w.params.followText "set-order"=false from bt]
 simp only [qax,if_false]
 show wpAny _ _ (if (!tb.plain && decide (es.size>1))=true then _ else _) _ _ _
 rw [qa5 (by rw [pl];exact Bool.false_ne_true)]
 refine qaW ?_
 show wpAny _ _ (if (!tb.led && !es.isEmpty)=true then _ else _) _ _ _
 rw [qa5 (by rw [led];exact Bool.false_ne_true)]
 exact qaX (qaX q)
theorem zeH {a:Addr} {ep i slot:Nat} {es:Array (Int×Value)} {tb:SetTable} {R:Option (Value×Nat)->Shared->Prop} (hS:zi6 s.heap a es ep tb) (bt:w.params.followText "set-order"=true)
  (q:R (((pickOrder (w.params.setOrder a ep) es)[i]?).map fun e=>(e.2,slot)) s):wpAny (model prog w) A (setNext a slot i ep) R E s:=by
 obtain ⟨ob,ho,hx,hd⟩:=hS.at_
 unfold setNext
 refine qaW (wpAny_setState_of ho hd hS.fits ?_)
 dsimp only
 unfold setsByText
 refine qaW (qaW (wpAny_askSetting (qaX ?_)))
 dsimp only
 rw [show (model prog w).w.params.followText "set-order"=true from bt]
 simp only [if_true]
 rw [qa5 (by simp)]
 refine qaW ?_
 unfold setWalk
 refine qaW (wpAny_setState_of ho hd hS.fits ?_)
 dsimp only
 unfold setsByText
 refine qaW (qaW (wpAny_askSetting (qaX ?_)))
 dsimp only
 rw [show (model prog w).w.params.followText "set-order"=true from bt]
 simp only [if_true]
 refine qaW (wpAny_askSetting (qaX (qaX q)))
theorem zkB {it a:Addr} {n ep i slot nx:Nat} {x:Value} {es:Array (Int×Value)} {tb:SetTable} {Q:Option Value->Shared->Prop} (hI:SIt s.heap it a (.int slot 0) i n ep) (hS:zi6 s.heap a es ep tb) (hn:es.size=n)
  (st: ∀ (R:Option (Value×Nat)->Shared->Prop) (E':Value->Shared->Prop),R (some (x,nx)) s->wpAny (model prog w) A.in1 (setNext a slot i ep) R E' s)
  (q: ∀ h',SIt h' it a (.int nx 0) (i+1) n ep->Heap.SameBut it s.heap h'->Q (some x) {s with heap:=h'}):wpAny (model prog w) A (pyNext (.ref it)) Q E s:=by
 refine zld hI hS hn slot rfl (qaW (st _ _ ?_))
 dsimp only
 refine qaW (wpAny_setField_rec hI (by simp) fun h1 a1 sb1=> ?_)
 refine qaW (wpAny_setField_rec (s:={s with heap:=h1}) a1 (by simp) fun h2 a2 sb2=> ?_)
 refine qaX ⟨x,rfl,q h2 ?_ (sb1.trans sb2)⟩
 unfold SIt
 rw [a2]
 simp [rawInt]
theorem zoH {it a:Addr} {n ep i slot:Nat} {es:Array (Int×Value)} {tb:SetTable} {Q:Option Value->Shared->Prop} (hh:A.handled=none) (hI:SIt s.heap it a (.int slot 0) i n ep) (hS:zi6 s.heap a es ep tb) (hn:es.size=n)
  (st: ∀ (R:Option (Value×Nat)->Shared->Prop) (E':Value->Shared->Prop),R none s->wpAny (model prog w) A.in1 (setNext a slot i ep) R E' s)
  (q: ∀ h',(∀ b ob,b≠it->s.heap.get? b=some ob->h'.get? b=some ob)->Q none {s with heap:=h'}):wpAny (model prog w) A (pyNext (.ref it)) Q E s:=by
 refine zld hI hS hn slot rfl (qaW (st _ _ ?_))
 dsimp only
 refine qaW (wpAny_setField_rec hI (by simp) fun h1 a1 sb1=> ?_)
 exact zll (r:=fun _=>True) (it:=it) (s:={s with heap:=h1}) hh fun h' k=>q h' fun b ob hb e=>k b ob ((sb1.2 b hb).trans e)
end
theorem zds {α:Type}: ∀ {l:List α} {i:Nat} {x:α},l[i]? = some x->List.Perm l (x::l.eraseIdx i)
 | [],_,_,e=>by simp at e
 | a::r,0,x,e=>by simp at e;subst e;exact .rfl
 | a::r,i+1,x,e=>by
  have e:r[i]? = some x:=by simpa using e
  exact ((zds e).cons a).trans (.swap x a _)
theorem zeI {α:Type} {l:List α} {i:Nat} {x:α} (e:l[i]? = some x):(l.eraseIdx i).length+1=l.length:=by
 have:=(zds e).length_eq
 rw [qaE] at this
 exact this.symm
theorem zie {α:Type} (nx:Nat->Nat): ∀ (fuel k:Nat) (left:List α) (out:Array α),left.length=fuel->List.Perm (pickOrder.go nx fuel k left out).toList (out.toList++left)
 | 0,k,left,out,h=>by
  have:left=[]:=List.length_eq_zero_iff.mp h
  subst this
  simp [pickOrder.go]
 | fuel+1,k,left,out,h=>by
  unfold pickOrder.go
  have hl:nx k % left.length<left.length:=Nat.mod_lt _ (by omega)
  have e:left[nx k % left.length]? = some left[nx k % left.length]:=by simp [hl]
  rw [e]
  dsimp only
  have hz:=zeI e
  refine (zie nx fuel (k+1) _ _ (by omega)).trans ?_
  rw [Array.toList_push,List.append_assoc]
  exact List.Perm.append_left _ (zds e).symm
theorem zcy {α:Type} (nx:Nat->Nat) (xs:Array α):List.Perm (pickOrder nx xs).toList xs.toList:=by
 have:=zie nx xs.size 0 xs.toList #[] (by simp)
 simpa [pickOrder] using this
section
variable {prog:Program} {w:World} {A:Around} {E:Value->Shared->Prop} {s:Shared}
theorem zj9 {src:Source} {n:Nat} {Q:Nat->Shared->Prop} (hn:n≠0) (q: ∀ k d,k<n->Q k {s with drawn:=d}):wpAny (model prog w) A (choose src n) Q E s:=fun Γ p hΓ=>⟨hn,q _ _ (Nat.mod_lt _ (Nat.pos_of_ne_zero hn))⟩
theorem zeE {α:Type}: ∀ (fuel:Nat) (xs:List α) (s:Shared) (Q:List α->Shared->Prop),xs.length<=fuel->(∀ ys d,List.Perm ys xs->Q ys {s with drawn:=d})->wpAny (model prog w) A (drawOrder fuel xs) Q E s
 | 0,xs,s,Q,h,q=>by
  have:xs=[]:=List.length_eq_zero_iff.mp (by omega)
  subst this
  unfold drawOrder
  exact qaX (q [] s.drawn .rfl)
 | fuel+1,[],s,Q,h,q=>by
  unfold drawOrder
  exact qaX (q [] s.drawn .rfl)
 | fuel+1,x::r,s,Q,h,q=>by
  unfold drawOrder
  refine qaW (zj9 (by simp) fun k d hk=> ?_)
  have e:(x::r)[k]? = some (x::r)[k]:=by simp [hk]
  rw [e]
  dsimp only
  have hz:=zeI e
  refine qaW (zeE fuel ((x::r).eraseIdx k) {s with drawn:=d} _ (by omega) fun ys d' p=>qaX ?_)
  exact q _ d' ((p.cons _).trans (zds e).symm)
theorem zkg {it a tp:Addr} {n ep i p:Nat} {x:Value} {es:Array (Int×Value)} {tb:SetTable} {ps:Array Value} {Q:Option Value->Shared->Prop} (hI:SIt s.heap it a (.ref tp) i n ep) (hS:zi6 s.heap a es ep tb) (hn:es.size=n)
  (hT:s.heap.get? tp=some {cls:= .type "tuple",data:= .seq ps}) (hp:ps[i]? = some (.int (p:Nat) 0)) (he:(es[p]?).map (·.2)=some x)
  (q: ∀ h',SIt h' it a (.ref tp) (i+1) n ep->Heap.SameBut it s.heap h'->Q (some x) {s with heap:=h'}):wpAny (model prog w) A (pyNext (.ref it)) Q E s:=by
 obtain ⟨ob,ho,hx,hd⟩:=hS.at_
 have tI:s.TypeIs (.ref it) "set_iterator":=⟨_,hI,rfl⟩
 unfold pyNext
 refine qaW (wpAny_attempt (wpAny_callSpecial?_slot (name:=Str.ofString "__next__") tI zaK (wpAny_call_entry zaK tI zcA ?_ (zcY _))))
 unfold Builtin.«set_iterator.__next__»
 refine qaW (m:=slotArgs "__next__" 0 _) (qaX ?_)
 refine qaW (m:=fieldsOf (.ref it)) ?_
 unfold fieldsOf
 refine qaW (wpAny_load hI (qaX ?_))
 refine qaW (wpAny_setEntries_of ho hd hS.fits ?_)
 have same: ¬(((es.size:Nat):Int) != (n:Int))=true:=by rw [hn];simp
 rw [qa5 same]
 refine qaW (m:=seqItems? (.ref tp)) ?_
 unfold seqItems?
 refine qaW (wpAny_load hT (qaX ?_))
 dsimp only
 rw [show ((i:Nat):Int).toNat=i from qaB i,hp]
 dsimp only
 refine qaW (m:=setNextDrawn a _ _) ?_
 unfold setNextDrawn
 refine qaW (wpAny_setState_of ho hd hS.fits ?_)
 dsimp only
 rw [show ((ep:Nat):Int).toNat=ep from qaB ep,show ((p:Nat):Int).toNat=p from qaB p,qa5 (by simp)]
 cases ee:es[p]? with
 | none=>rw [ee] at he;cases he
 | some e=>
  rw [ee] at he
  cases he
  dsimp only
  refine qaX ?_
  refine qaW (wpAny_setField_rec hI (by simp) fun h2 a2 sb2=> ?_)
  refine qaX ⟨_,rfl,qaX (q h2 ?_ sb2)⟩
  unfold SIt
  rw [a2]
  simp [rawInt]
theorem zle {it a tp:Addr} {n ep i:Nat} {es:Array (Int×Value)} {tb:SetTable} {ps:Array Value} {Q:Option Value->Shared->Prop} (hh:A.handled=none) (hI:SIt s.heap it a (.ref tp) i n ep) (hS:zi6 s.heap a es ep tb) (hn:es.size=n)
  (hT:s.heap.get? tp=some {cls:= .type "tuple",data:= .seq ps}) (hp:ps[i]? = none)
  (q: ∀ h',(∀ b ob,b≠it->s.heap.get? b=some ob->h'.get? b=some ob)->Q none {s with heap:=h'}):wpAny (model prog w) A (pyNext (.ref it)) Q E s:=by
 obtain ⟨ob,ho,hx,hd⟩:=hS.at_
 have tI:s.TypeIs (.ref it) "set_iterator":=⟨_,hI,rfl⟩
 unfold pyNext
 refine qaW (wpAny_attempt (wpAny_callSpecial?_slot (name:=Str.ofString "__next__") tI zaK (wpAny_call_entry zaK tI zcA ?_ (zcY _))))
 unfold Builtin.«set_iterator.__next__»
 refine qaW (m:=slotArgs "__next__" 0 _) (qaX ?_)
 refine qaW (m:=fieldsOf (.ref it)) ?_
 unfold fieldsOf
 refine qaW (wpAny_load hI (qaX ?_))
 refine qaW (wpAny_setEntries_of ho hd hS.fits ?_)
 have same: ¬(((es.size:Nat):Int) != (n:Int))=true:=by rw [hn];simp
 rw [qa5 same]
 refine qaW (m:=seqItems? (.ref tp)) ?_
 unfold seqItems?
 refine qaW (wpAny_load hT (qaX ?_))
 dsimp only
 rw [show ((i:Nat):Int).toNat=i from qaB i,hp]
 dsimp only
 refine qaW (wpAny_setField_rec hI (by simp) fun h1 a1 sb1=> ?_)
 refine qaW (wpAny_setField_rec (s:={s with heap:=h1}) a1 (by simp) fun h2 a2 sb2=> ?_)
 refine qaZ (zll (Q:=Q) (E:=E) (r:=fun _=>True) (it:=it) (s:={s with heap:=h2}) hh fun h' k=>q h' fun b ob hb e=>k b ob ((sb2.2 b hb).trans ((sb1.2 b hb).trans e))) (fun f s' ⟨v,e,z⟩=>⟨v,e,qaX z⟩) fun e s' z=>z
theorem zfG {it a:Addr} {first:Value} {i n ep:Nat} {Q:Value->Shared->Prop} (hI:SIt s.heap it a first i n ep) (q:Q (.ref it) s):wpAny (model prog w) A (pyIter (.ref it)) Q E s:=by
 have tI:s.TypeIs (.ref it) "set_iterator":=⟨_,hI,rfl⟩
 refine wpAny_pyIter_slot tI zec (wpAny_call_entry zec tI zfP ?_ (zgT _))
 show wpAny _ _ (ret (.ref it)) _ _ _
 exact qaX ⟨_,rfl,"set_iterator",_,tI,zaK.lookup,q⟩
theorem zi6.keep {h h':Heap} {a:Addr} {es:Array (Int×Value)} {ep:Nat} {tb:SetTable} (x:zi6 h a es ep tb) (k: ∀ ob,h.get? a=some ob->h'.get? a=some ob):zi6 h' a es ep tb:=
 ⟨let ⟨ob,h1,h2⟩:=x.at_;⟨ob,k ob h1,h2⟩,x.fits⟩
noncomputable def zh6 (tb:SetTable):Nat->Nat
 | 0=>0
 | i+1=>tb.place.getD i 0+1
theorem zjY (hh:A.handled=none) {it a:Addr} {ep:Nat} {es:Array (Int×Value)} {tb:SetTable} (hne:a≠it) (up:Up tb.place) (led:tb.led=true) (bt:w.params.followText "set-order"=false) (pl:(!tb.plain && decide (es.size>1))=false) (hf:tb.fits es.size=true):
  Walks prog w A it [it,a] [it] es.size (fun i v=> ∃ e,es.toList[i]? = some e/\v=e.2) (fun i h=>SIt h it a (.int (zh6 tb i:Nat) 0) i es.size ep/\zi6 h a es ep tb) where
 sub:=fun b hb=>by simp at hb;simp [hb]
 frame:=fun i h h' st k=>⟨k it (by simp) _ st.1,st.2.keep fun ob e=>k a (by simp) ob e⟩
 item:=fun i s Q E hi st q=>by
  have pz:=zf9 hf
  have hi2:i<tb.place.size:=by omega
  have bl:SetTable.below tb.place (zh6 tb i)=i:=by
   cases i with
   | zero=>exact zge up
   | succ i=>
    have hi3:i<tb.place.size:=by omega
    have e:tb.place[i]? = some (tb.place.getD i 0):=by simp [hi3,Array.getD]
    exact zgj up e
  have ep':tb.place.getD i 0=tb.place[i]:=by simp [hi2,Array.getD]
  refine zkB (nx:=zh6 tb (i+1)) (x:=es[i].2) st.1 st.2 rfl (fun R E' r=>zem st.2 led bt pl ?_) fun h' a1 sb=> ?_
  ·rw [bl]
   have e1:es[i]? = some es[i]:=by simp [hi]
   have e2:tb.place[i]? = some tb.place[i]:=by simp [hi2]
   rw [e1,e2]
   show R (some (es[i].2,tb.place[i]+1)) s
   have e3:zh6 tb (i+1)=tb.place[i]+1:=by show tb.place.getD i 0+1=_;rw [ep']
   rw [<- e3]
   exact r
  ·exact q _ h' s.toks ⟨es[i],by simp [hi],rfl⟩ ⟨a1,st.2.keep fun ob e=>(sb.2 a hne).trans e⟩ fun b ob hb e=>(sb.2 b fun z=>hb (by simp [z])).trans e
 done:=fun s Q E st q=>by
  have pz:=zf9 hf
  have bl:SetTable.below tb.place (zh6 tb es.size)=es.size:=by
   cases hz:es.size with
   | zero=>exact zge up
   | succ i=>
    have hi3:i<tb.place.size:=by omega
    have e:tb.place[i]? = some (tb.place.getD i 0):=by simp [hi3,Array.getD]
    exact zgj up e
  refine zoH hh st.1 st.2 rfl (fun R E' r=>zem st.2 led bt pl ?_) fun h' k=>q h' s.toks fun b ob hb e=>k b ob (fun z=>hb (by simp [z])) e
  rw [bl]
  have e1:es[es.size]? = none:=by simp
  rw [e1]
  exact r
 self:=fun i s Q E st q=>zfG st.1 q
theorem zlv (hh:A.handled=none) {it a:Addr} {ep:Nat} {es:Array (Int×Value)} {tb:SetTable} (hne:a≠it) (bt:w.params.followText "set-order"=true) (hf:tb.fits es.size=true):
  Walks prog w A it [it,a] [it] es.size (fun i v=> ∃ e,(pickOrder (w.params.setOrder a ep) es).toList[i]? = some e/\v=e.2) (fun i h=>SIt h it a (.int (0:Nat) 0) i es.size ep/\zi6 h a es ep tb) where
 sub:=fun b hb=>by simp at hb;simp [hb]
 frame:=fun i h h' st k=>⟨k it (by simp) _ st.1,st.2.keep fun ob e=>k a (by simp) ob e⟩
 item:=fun i s Q E hi st q=>by
  have pz:(pickOrder (w.params.setOrder a ep) es).size=es.size:=by
   have:=(zcy (w.params.setOrder a ep) es).length_eq
   simpa using this
  have hi2:i<(pickOrder (w.params.setOrder a ep) es).size:=by omega
  refine zkB (nx:=0) (x:=(pickOrder (w.params.setOrder a ep) es)[i].2) st.1 st.2 rfl (fun R E' r=>zeH st.2 bt ?_) fun h' a1 sb=> ?_
  ·have e1:(pickOrder (w.params.setOrder a ep) es)[i]? = some (pickOrder (w.params.setOrder a ep) es)[i]:=by simp [hi2]
   rw [e1]
   exact r
  ·exact q _ h' s.toks ⟨(pickOrder (w.params.setOrder a ep) es)[i],by simp [hi2],rfl⟩ ⟨a1,st.2.keep fun ob e=>(sb.2 a hne).trans e⟩ fun b ob hb e=>(sb.2 b fun z=>hb (by simp [z])).trans e
 done:=fun s Q E st q=>by
  have pz:(pickOrder (w.params.setOrder a ep) es).size=es.size:=by
   have:=(zcy (w.params.setOrder a ep) es).length_eq
   simpa using this
  refine zoH hh st.1 st.2 rfl (fun R E' r=>zeH st.2 bt ?_) fun h' k=>q h' s.toks fun b ob hb e=>k b ob (fun z=>hb (by simp [z])) e
  have e1:(pickOrder (w.params.setOrder a ep) es)[es.size]? = none:=by simp [pz]
  rw [e1]
  exact r
 self:=fun i s Q E st q=>zfG st.1 q
theorem zku (hh:A.handled=none) {it a tp:Addr} {ep:Nat} {es:Array (Int×Value)} {tb:SetTable} {ys:List Nat} (hne:a≠it) (hne2:tp≠it) (hp:List.Perm ys (List.range es.size)):
  Walks prog w A it [it,a,tp] [it] es.size (fun i v=> ∃ e,(ys.filterMap (es[·]?))[i]? = some e/\v=e.2) (fun i h=>SIt h it a (.ref tp) i es.size ep/\zi6 h a es ep tb/\h.get? tp=some {cls:= .type "tuple",data:= .seq (ys.map fun (i:Nat)=>rawInt i).toArray}) where
 sub:=fun b hb=>by simp at hb;simp [hb]
 frame:=fun i h h' st k=>⟨k it (by simp) _ st.1,st.2.1.keep fun ob e=>k a (by simp) ob e,k tp (by simp) _ st.2.2⟩
 item:=fun i s Q E hi st q=>by
  have hl:ys.length=es.size:=by simpa using hp.length_eq
  have hi2:i<ys.length:=by omega
  have lt: ∀ y∈ys,y<es.size:=fun y hy=>by simpa using hp.mem_iff.mp hy
  have lti:=lt _ (List.getElem_mem hi2)
  have fm: ∀ (zs:List Nat),(∀ y∈zs,y<es.size)-> ∀ (j:Nat) (y:Nat),zs[j]? = some y->(zs.filterMap (es[·]?))[j]? = es[y]? := by
   intro zs
   induction zs with
   | nil=>intro _ j y e;simp at e
   | cons z r ih=>
    intro hz j y e
    have lz:=hz z (.head _)
    rw [List.filterMap_cons_some (b:=es[z]) (by simp [lz])]
    cases j with
    | zero=>simp at e;subst e;simp [lz]
    | succ j=>simpa using ih (fun y hy=>hz y (.tail _ hy)) j y (by simpa using e)
  refine zkg (p:=ys[i]) (x:=es[ys[i]].2) st.1 st.2.1 rfl st.2.2 (by simp [hi2,rawInt]) (by simp [lti]) fun h' a1 sb=> ?_
  refine q _ h' s.toks ⟨es[ys[i]],?_,rfl⟩ ⟨a1,st.2.1.keep fun ob e=>(sb.2 a hne).trans e,(sb.2 tp hne2).trans st.2.2⟩ fun b ob hb e=>(sb.2 b fun z=>hb (by simp [z])).trans e
  rw [fm ys lt i ys[i] (by simp [hi2])]
  simp [lti]
 done:=fun s Q E st q=>by
  have hl:ys.length=es.size:=by simpa using hp.length_eq
  exact zle hh st.1 st.2.1 rfl st.2.2 (by simp [hl]) fun h' k=>q h' s.toks fun b ob hb e=>k b ob (fun z=>hb (by simp [z])) e
 self:=fun i s Q E st q=>zfG st.1 q
end
section
variable {prog:Program} {w:World} {A:Around} {E:Value->Shared->Prop} {s:Shared}
structure zq8 (prog:Program) (w:World) (a it:Addr) (es:Array (Int×Value)) (ord:List (Int×Value)) (fp:List Addr) (St:Nat->Heap->Prop):Prop where
 walks: ∀ A:Around,A.handled=none->Walks prog w A it fp [it] es.size (fun i v=> ∃ e,ord[i]? = some e/\v=e.2) St
 perm:List.Perm ord es.toList
 mem:it∈fp
theorem zuc {a:Addr} {S:Int->Bool} {n:Nat} {Q:Value->Shared->Prop} (g:zhi prog w s.heap a S n)
  (q: ∀ it es ep tb ord fp St h' d,(∃ ob,s.heap.get? a=some ob/\ob.ExactSet/\ob.data= .set es ep tb)->zq8 prog w a it es ord fp St->St 0 h'->s.heap.objs.size<=it->(∀ b ob,s.heap.get? b=some ob->h'.get? b=some ob)->(∀ b∈fp,b=a\/s.heap.objs.size<=b)->es.size<scanBound->
    Q (.ref it) {s with heap:=h',drawn:=d}):wpAny (model prog w) A (pyIter (.ref a)) Q E s:=by
 obtain ⟨ob,es,ep,tb,⟨h1,h2,h3⟩,h4,h5,⟨h6,h7,h8⟩,h9⟩:=g
 have tS:s.TypeIs (.ref a) "set":=⟨ob,h1,h2.1⟩
 have lta:a<s.heap.objs.size:=qaQ h1
 refine wpAny_pyIter_slot tS F.slot_set_iter (wpAny_call_entry F.slot_set_iter tS zf3 ?_ (F.args_set_iter_1 _))
 unfold Builtin.«frozenset.__iter__»
 refine qaW (m:=Builtin.Frozenset.slot0 "__iter__" _) (qaX ?_)
 refine qaW (m:=Builtin.Frozenset.sizeOf a) ?_
 unfold Builtin.Frozenset.sizeOf
 refine qaW (wpAny_setEntries_of h1 h3 h7 (qaX ?_))
 refine qaW (m:=setDrawn a) ?_
 unfold setDrawn
 refine qaW (wpAny_setState_of h1 h3 h7 ?_)
 dsimp only
 unfold setsByText
 refine qaW (qaW (wpAny_askSetting (qaX (qaX ?_))))
 dsimp only
 have sobj: ∀ {h':Heap},(∀ b ob,s.heap.get? b=some ob->h'.get? b=some ob)->zi6 h' a es ep tb:=fun k=>⟨⟨ob,k _ _ h1,h2,h3⟩,h7⟩
 by_cases dr:(!(model prog w).w.params.followText "set-order" && (!tb.plain && decide (es.size>1)))=true
 ·show wpAny _ _ (if (!(model prog w).w.params.followText "set-order" && (!tb.plain && decide (es.size>1)))=true then _ else _) _ _ _
  rw [qa4 dr]
  refine qaW (zeE es.size (List.range es.size) s _ (by simp) fun ys d hp=> ?_)
  have hl:ys.length=es.size:=by simpa using hp.length_eq
  have small:es.size<=sizeLine:=fits_of_scanBound h6
  refine qaW ?_
  unfold newTuple
  refine qaC ?_ (by show (ys.map fun (i:Nat)=>rawInt i).toArray.size<=sizeLine;simp [hl];exact small)
  unfold setEpoch
  refine qaW (qaW (wpAny_setState_of (s:={s with heap:=_,drawn:=d}) (qag _ h1) h3 h7 (qaX ?_)))
  dsimp only
  refine qaW (qaC (qaX ⟨_,rfl,"set_iterator",_,⟨_,qar _ rfl,rfl⟩,zaK.lookup,?_⟩))
  have z1:(s.heap.push {cls:= .type "tuple",dict:=none,data:= .seq (ys.map fun (i:Nat)=>rawInt i).toArray}).objs.size=s.heap.objs.size+1:=qaL ..
  have kp: ∀ (o2:Obj) b ob,s.heap.get? b=some ob->((s.heap.push {cls:= .type "tuple",dict:=none,data:= .seq (ys.map fun (i:Nat)=>rawInt i).toArray}).push o2).get? b=some ob:=fun o2 b ob e=>qag _ (qag _ e)
  refine q _ es ep tb (ys.filterMap (es[·]?)) [(s.heap.push {cls:= .type "tuple",dict:=none,data:= .seq (ys.map fun (i:Nat)=>rawInt i).toArray}).objs.size,a,s.heap.objs.size] _ _ d ⟨ob,h1,h2,h3⟩ ⟨fun A' hA=>zku (tb:=tb) (ep:=ep) hA ?_ ?_ hp,?_,.head _⟩ ⟨?_,sobj (kp _),?_⟩ ?_ (kp _) (fun b hb=> ?_) h6
  ·rw [z1];exact qaR (Nat.lt_succ_of_lt lta)
  ·rw [z1];exact qaR (Nat.lt_succ_self _)
  ·refine (hp.filterMap _).trans ?_
   rw [filterMap_getElem?_range]
  ·exact qar _ rfl
  ·exact qag _ (qar _ rfl)
  ·rw [z1];exact Nat.le_succ _
  ·simp only [qaP,qaF,or_false] at hb
   rcases hb with z | z | z
   ·right;rw [z,z1];exact Nat.le_succ _
   ·exact .inl z
   ·right;rw [z];exact qaV _
 ·show wpAny _ _ (if (!(model prog w).w.params.followText "set-order" && (!tb.plain && decide (es.size>1)))=true then _ else _) _ _ _
  rw [qa5 dr]
  refine qaW (qaX ?_)
  unfold setEpoch
  refine qaW (qaW (wpAny_setState_of h1 h3 h7 (qaX ?_)))
  dsimp only
  refine qaW (qaC (qaX ⟨_,rfl,"set_iterator",_,⟨_,qar _ rfl,rfl⟩,zaK.lookup,?_⟩))
  have kp: ∀ (o2:Obj) b ob,s.heap.get? b=some ob->(s.heap.push o2).get? b=some ob:=fun o2 b ob e=>qag _ e
  have fpl: ∀ b∈[s.heap.objs.size,a],b=a\/s.heap.objs.size<=b:=fun b hb=>by
   simp only [qaP,qaF,or_false] at hb
   rcases hb with z | z
   ·right;rw [z];exact qaV _
   ·exact .inl z
  cases bt:w.params.followText "set-order" with
  | true=>
   exact q _ es ep tb _ [s.heap.objs.size,a] _ _ s.drawn ⟨ob,h1,h2,h3⟩ ⟨fun A' hA=>zlv (tb:=tb) (ep:=ep) hA (qaR lta) bt h7,zcy _ _,.head _⟩ ⟨qar _ rfl,sobj (kp _)⟩ (qaV _) (kp _) fpl h6
  | false=>
   have pl:(!tb.plain && decide (es.size>1))=false:=by
    rw [show (model prog w).w.params.followText "set-order"=false from bt] at dr
    simpa using dr
   have led:tb.led=true:=by
    rw [h9.led]
    unfold zcT
    rw [bt]
    rfl
   exact q _ es ep tb _ [s.heap.objs.size,a] _ _ s.drawn ⟨ob,h1,h2,h3⟩ ⟨fun A' hA=>zjY (tb:=tb) (ep:=ep) hA (qaR lta) h9.up led bt pl h7,.rfl,.head _⟩ ⟨qar _ rfl,sobj (kp _)⟩ (qaV _) (kp _) fpl h6
theorem zna {a:Addr} {S:Int->Bool} {n:Nat} {Q:List Value->Shared->Prop} (hh:A.handled=none) (g:zhi prog w s.heap a S n)
  (q: ∀ vs s' es ep tb,(∃ ob,s.heap.get? a=some ob/\ob.ExactSet/\ob.data= .set es ep tb)->List.Perm vs (es.toList.map (·.2))->(∀ b ob,s.heap.get? b=some ob->s'.heap.get? b=some ob)->s'.gens=s.gens->s'.os=s.os->Q vs s'):wpAny (model prog w) A (collect (.ref a)) Q E s:=by
 have tS: ∀ {h':Heap} {s':Shared},s'.heap=h'->(∀ b ob,s.heap.get? b=some ob->h'.get? b=some ob)->s'.TypeIs (.ref a) "set":=fun {h' s'} e k=>by
  obtain ⟨ob,es,ep,tb,⟨h1,h2,h3⟩,_⟩:=g
  exact ⟨ob,by rw [e];exact k _ _ h1,h2.1⟩
 have lta:a<s.heap.objs.size:=by
  obtain ⟨ob,es,ep,tb,⟨h1,h2,h3⟩,_⟩:=g
  exact qaQ h1
 unfold collect
 refine qaW (wpAny_runValue (codeAny_builtin F.entry_proto_collect ?_))
 rw [qap F.plain_proto_collect _]
 show wpAny _ _ (newList []>>=fun l=>again (.builtin "list.__iadd__" ⟨[l,.ref a],[]⟩)) _ _ _
 refine qaW (qaC (qaX ⟨plainId_quiet F.plain_list_iadd _,codeAny_builtin F.entry_list_iadd ?_⟩))
 rw [qap F.plain_list_iadd _]
 show wpAny _ _ (Builtin.List.listExtendWith (.ref s.heap.objs.size) (.ref a) (.ref s.heap.objs.size)) _ _ _
 unfold Builtin.List.listExtendWith
 have k1: ∀ b ob,s.heap.get? b=some ob->(s.heap.push {cls:= .type "list",data:= .seq ([]:List Value).toArray}).get? b=some ob:=fun b ob e=>qag _ e
 refine qaW (wpAny_typeOf (tS rfl k1) ?_)
 have nsame:Builtin.List.listSameRef (.ref s.heap.objs.size) (.ref a)=false:=by
  simp only [Builtin.List.listSameRef,beq_eq_false_iff_ne]
  exact fun z=>qaN _ (z▸lta)
 have nl:(Value.type "set"==Value.type "list")=false:=by decide
 have nt:(Value.type "set"==Value.type "tuple")=false:=by decide
 simp only [nsame,nl,nt,Bool.or_false,qax,if_false]
 refine qaW (zuc (g.move (fun ob e=>k1 _ _ e) (fun _=>rfl) rfl) fun it es ep tb ord fp St h2 d hob W st0 lit k2 fpl few=> ?_)
 refine qaW (qaO ?_)
 unfold Builtin.List.listLengthHint
 have k12: ∀ b ob,s.heap.get? b=some ob->h2.get? b=some ob:=fun b ob e=>k2 b ob (k1 b ob e)
 refine qaW (wpAny_specialOf (tS rfl k12) F.slot_set_len.lookup ?_)
 have sp:splitId "set.__len__"=some ("set","__len__"):=by decide +kernel
 dsimp only
 rw [sp]
 dsimp only
 refine qaW (wpAny_isInstance (tS rfl k12) sub_set_self ?_)
 rw [qa5 (by decide)]
 rw [qa4 (by decide +kernel)]
 refine qaW (wpAny_typeOf (tS rfl k12) (qaX ?_))
 rw [qa4 (by decide +kernel)]
 refine qaW (wpAny_rule ?_)
 have l2:h2.get? s.heap.objs.size=some {cls:= .type "list",data:= .seq ([]:List Value).toArray}:=k2 _ _ (qar _ rfl)
 refine qaW ?_
 unfold Builtin.List.listTouch
 show wpAny _ _ (updateSeq s.heap.objs.size (·.push .none)>>=fun _=>updateSeq s.heap.objs.size (·.pop)) _ _ _
 refine qaW (wpAny_updateSeq l2 rfl ?_)
 have l3:=qal (Obj.mapSeq (·.push Value.none)) l2 rfl
 refine wpAny_updateSeq l3 rfl ?_
 have l4:=qal (Obj.mapSeq (·.pop)) l3 rfl
 have oth: ∀ b ob,b≠s.heap.objs.size->h2.get? b=some ob->((h2.update s.heap.objs.size (Obj.mapSeq (·.push Value.none))).update s.heap.objs.size (Obj.mapSeq (·.pop))).get? b=some ob:=fun b ob hb e=>
  (qah _ _ (Ne.symm hb)).trans ((qah _ _ (Ne.symm hb)).trans e)
 have nfp:s.heap.objs.size∉fp:=fun z=>by
  rcases fpl _ z with z | z
  ·exact qaN _ (z▸lta)
  ·rw [show ({s with heap:=s.heap.push {cls:= .type "list",data:= .seq ([]:List Value).toArray}}:Shared).heap.objs.size=s.heap.objs.size+1 from qaL ..] at z
   exact qaN _ z
 have fin: ∀ (s':Shared) (vs:Array Value) (c:Nat),(∀ b ob,s.heap.get? b=some ob->s'.heap.get? b=some ob)->s'.gens=s.gens->s'.os=s.os->s'.heap.get? s.heap.objs.size=some {cls:= .type "list",dict:=none,data:= .seq vs c,slots:= #[]}->ItemsOf (fun i v=> ∃ e,ord[i]? = some e/\v=e.2) vs es.size->
   wpAny (model prog w) A (load s.heap.objs.size>>=fun o=>match o.data with | .seq xs _=>pure xs.toList | _=>unsupported "internal:collect") Q E s':=fun s' vs c k g1 g2 e it1=>by
  refine qaW (wpAny_load e (qaX (q vs.toList s' es ep tb ?_ ?_ k g1 g2)))
  ·obtain ⟨ob,o1,o2⟩:=hob
   obtain ⟨ob',es',ep',tb',⟨p1,p2,p3⟩,_⟩:=g
   have:=k1 _ _ p1
   rw [o1] at this
   cases this
   exact ⟨ob,p1,o2⟩
  ·have hl:ord.length=es.size:=by simpa using W.perm.length_eq
   have e2:vs.toList=ord.map (·.2):=by
    apply List.ext_getElem?
    intro i
    by_cases hi:i<es.size
    ·have hv0:i<vs.size:=by rw [it1.1];exact hi
     have hv:vs[i]? = some vs[i]:=by simp [hv0]
     obtain ⟨e,e1,e2⟩:=it1.2 i _ hv
     rw [List.getElem?_map,e1,Array.getElem?_toList,hv,e2]
     rfl
    ·rw [List.getElem?_eq_none (by simp [it1.1];omega),List.getElem?_eq_none (by simp [hl];omega)]
   rw [e2]
   exact W.perm.map _
 have Wk:=(W.walks A.in1 hh).toS
 refine qaX ⟨plainId_quiet F.plain_extend_loop _,codeAny_extend_loopS Wk ?_ _ nfp _ es.size 0 _ _ _ rfl (Nat.zero_le _) ?_ l4 (ItemsOf.nil _) fun s' vs c mv e it1=> ?_⟩
 ·exact fits_of_scanBound few
 ·exact (W.walks A.in1 hh).frame 0 h2 _ st0 fun b hb ob e=>oth b ob (fun z=>nfp (z▸hb)) e
 ·refine fin s' vs c (fun b ob e'=>mv.heap b ob ?_ (oth b ob ?_ (k12 b ob e'))) mv.gens mv.os e it1
  ·intro z
   rcases qaP.mp z with z | z
   ·exact qaN _ (z▸qaQ e')
   ·simp only [qaP,qaF,or_false] at z
    have:=qaQ e'
    rw [z] at this
    exact qaN _ (qaw this (qaS (by rw [qaL];exact Nat.le_succ _) lit))
  ·exact fun z=>qaN _ (z▸qaQ e')
end
noncomputable def zoM (x:Int):List Int->List Int
 | []=>[x]
 | y::r=>if x<=y then x::y::r else y::zoM x r
noncomputable def zc7:List Int->List Int
 | []=>[]
 | x::r=>zoM x (zc7 r)
theorem zfu (x:Int): ∀ l:List Int,List.Perm (zoM x l) (x::l)
 | []=> .rfl
 | y::r=>by
  unfold zoM
  split
  ·exact .rfl
  ·exact ((zfu x r).cons y).trans (.swap x y r)
theorem zn8 {x z:Int} {l:List Int}:z∈zoM x l↔z=x\/z∈l:=by rw [(zfu x l).mem_iff,qaP]
theorem zlZ (x:Int): ∀ l:List Int,l.Pairwise (· <= ·)->(zoM x l).Pairwise (· <= ·)
 | [],_=>by unfold zoM;simp
 | y::r,h=>by
  obtain ⟨h1,h2⟩:=qay.mp h
  unfold zoM
  split
  ·rename_i hxy
   refine qay.mpr ⟨fun z hz=> ?_,h⟩
   rcases qaP.mp hz with e | hz
   ·rw [e];exact hxy
   ·exact Int.le_trans hxy (h1 z hz)
  ·rename_i hxy
   refine qay.mpr ⟨fun z hz=> ?_,zlZ x r h2⟩
   rcases zn8.mp hz with e | hz
   ·rw [e];omega
   ·exact h1 z hz
theorem za2: ∀ l:List Int,List.Perm (zc7 l) l
 | []=> .rfl
 | x::r=>(zfu x _).trans ((za2 r).cons x)
theorem zd7: ∀ l:List Int,(zc7 l).Pairwise (· <= ·)
 | []=> .nil
 | x::r=>zlZ x _ (zd7 r)
theorem zeX {a b:List Int} (hp:a.Perm b) (h:a.Pairwise (· <= ·)):a=zc7 b:=W.ksm_same (hp.trans (za2 b).symm) h (zd7 b)
noncomputable def zda (ns:List Int):List Int:=zc7 (ns.foldl step_dedup [])
theorem zml (ns:List Int): ∀ (acc:List Int) (k:Int),(ns.foldl step_dedup acc).any (· == k)=(acc.any (· == k) || ns.any (· == k)):=by
 induction ns with
 | nil=>intro acc k;simp
 | cons x r ih=>
  intro acc k
  rw [List.foldl_cons,ih,step_any]
  simp only [List.any_cons]
  have:(x==k)=decide (k=x):=by
   by_cases h:k=x
   ·subst h;simp
   ·have h': ¬x=k:=fun e=>h e.symm
    simp [h,h']
  rw [this,Bool.or_assoc]
theorem zlN {ns:List Int} {k:Int}:k∈ns.foldl step_dedup []↔k∈ns:=by
 have:=zml ns [] k
 simp only [List.any_nil,Bool.false_or] at this
 have e: ∀ l:List Int,k∈l↔(l.any fun x=>x==k)=true:=fun l=>by
  rw [List.any_eq_true]
  constructor
  ·exact fun h=>⟨k,h,by simp⟩
  ·rintro ⟨x,h,c⟩
   have c:x=k:=by simpa using c
   rw [<- c]
   exact h
 rw [e,e,this]
theorem zfr (ns:List Int): ∀ acc:List Int,acc.Nodup->(ns.foldl step_dedup acc).Nodup:=by
 induction ns with
 | nil=>intro acc h;exact h
 | cons x r ih=>
  intro acc h
  refine ih _ ?_
  unfold step_dedup
  split
  ·exact h
  ·rename_i hx
   rw [List.nodup_append]
   refine ⟨h,by simp,fun a ha b hb=> ?_⟩
   simp only [List.mem_singleton] at hb
   subst hb
   intro e
   subst e
   exact hx (List.any_eq_true.mpr ⟨a,ha,by simp⟩)
theorem zcS {ns:List Int} {k:Int}:k∈zda ns↔k∈ns:=by unfold zda;rw [(za2 _).mem_iff,zlN]
theorem zir (ns:List Int):(zda ns).Pairwise (· < ·):=by
 have h1:=zd7 (ns.foldl step_dedup [])
 have h2:(zda ns).Nodup:=(za2 _).nodup_iff.mpr (zfr ns [] List.nodup_nil)
 exact (List.Pairwise.and h1 h2).imp fun ⟨a,b⟩=>by omega
theorem zi3 (ns:List Int):firstMet (fun i=>ns.getD i 0) ns.length=ns.foldl step_dedup []:=by
 unfold firstMet
 congr 1
 apply List.ext_getElem?
 intro i
 by_cases hi:i<ns.length
 ·simp [hi,List.getD]
 ·rw [List.getElem?_eq_none (by simp;omega),List.getElem?_eq_none (by omega)]
theorem ze5: ∀ {fm ms:List Int},fm.Nodup->(∀ k,k∈fm->k∈ms)->ms.length<=fm.length->List.Perm ms fm
 | [],ms,_,_,h=>by
  have:ms=[]:=List.length_eq_zero_iff.mp (by simpa using h)
  subst this
  exact .rfl
 | x::r,ms,nd,hm,h=>by
  obtain ⟨n1,n2⟩:=List.nodup_cons.mp nd
  have hx:=hm x (.head _)
  have p:=List.perm_cons_erase hx
  have hl:=p.length_eq
  rw [qaE] at hl h
  refine p.trans ((ze5 n2 (fun k hk=> ?_) (by omega)).cons x)
  have hne:k≠x:=fun e=>n1 (e▸hk)
  rcases qaP.mp (p.mem_iff.mp (hm k (.tail _ hk))) with e | e
  ·exact absurd e hne
  ·exact e
section
variable {prog:Program} {w:World} {A:Around} {E:Value->Shared->Prop} {s:Shared}
theorem zhI {l l':List Value} {ns:List Int} (p:List.Perm l l') (h:IntsAre l' ns): ∃ ms,IntsAre l ms/\List.Perm ms ns:=by
 induction p generalizing ns with
 | nil=>exact ⟨ns,h,.rfl⟩
 | cons x _ ih=>
  cases h with
  | cons n t h=>
   obtain ⟨ms,h1,h2⟩:=ih h
   exact ⟨n::ms,.cons n t h1,h2.cons n⟩
 | swap x y l=>
  cases h with
  | cons n t h=>
   cases h with
   | cons n' t' h=>exact ⟨n'::n::_,.cons n' t' (.cons n t h),.swap _ _ _⟩
 | trans _ _ ih1 ih2=>
  obtain ⟨ms,h1,h2⟩:=ih2 h
  obtain ⟨ms',h3,h4⟩:=ih1 h1
  exact ⟨ms',h3,h4.trans h2⟩
theorem zgt: ∀ {es:List (Int×Value)},ElemsOf (intKind prog w) es-> ∃ ms,IntsAre (es.map (·.2)) ms/\ ∀ k,k∈ms↔ ∃ e∈es,(intKind prog w).is k e.2=true
 | [],_=>⟨[],.nil,fun k=>by simp⟩
 | e::r,h=>by
  obtain ⟨ms,h1,h2⟩:=zgt (ElemsOf.tail h)
  obtain ⟨⟨k,hk,_⟩,_⟩:=ElemsOf.head h
  obtain ⟨t,ht⟩:=Value.isInt_shape (k:=k) (v:=e.2) hk
  refine ⟨k::ms,by rw [qaM,ht];exact .cons k t h1,fun z=> ?_⟩
  rw [qaP,h2 z]
  constructor
  ·rintro (c | ⟨e',c1,c2⟩)
   ·exact ⟨e,.head _,by rw [c];exact hk⟩
   ·exact ⟨e',.tail _ c1,c2⟩
  ·rintro ⟨e',c1,c2⟩
   rcases qaP.mp c1 with c | c
   ·subst c;exact .inl ((intKind prog w).inj _ _ _ c2 hk)
   ·exact .inr ⟨e',c,c2⟩
theorem zfk {x:Value} {Q:Value->Shared->Prop} (hc: ∀ E':Value->Shared->Prop,wpAny (model prog w) A.in1 (collect x) (fun vs s1=> ∃ ns,IntsAre vs ns/\vs.length<64/\ ∀ out e h',IntsAre out (zc7 ns)->(∀ b ob,s1.heap.get? b=some ob->h'.get? b=some ob)->
      h'.get? s1.heap.objs.size=some (seqObj "list" out.toArray e)->Q (.ref s1.heap.objs.size) {s1 with heap:=h'}) E' s):wpAny (model prog w) A (call (.builtin "sorted") [x]) Q E s:=by
 refine Calls.call_function_entry kind_sorted plain_sorted entry_sorted (args_sorted1 _) ?_
 unfold Builtin.«sorted»
 refine qaW (m:=checkCount "sorted" 1 1 _) (qaX ?_)
 refine qaW (m:=collect x) (qaZ (hc _) (fun vs s1 ⟨ns,hI,h64,q⟩=> ?_) fun _ _ z=>z)
 have small:vs.length<=sizeLine:=qaS (Nat.le_of_lt h64) (by decide)
 refine qaW (wpAny_newList ?_ small)
 have at0:(s1.heap.push {cls:= .type "list",data:= .seq vs.toArray}).get? s1.heap.objs.size=some (seqObj "list" vs.toArray 0):=qar _ rfl
 refine qaW (qaO (wpAny_call_entry slot_list_sort ⟨_,at0,rfl⟩ entry_list_sort (list_sort_tree (s:={s1 with heap:=s1.heap.push {cls:= .type "list",data:= .seq vs.toArray}}) at0 hI h64 fun out ns' a1 a2 a3=>⟨_,rfl,?_⟩) (args_list_sort _)))
 obtain ⟨e,he⟩:=sortedHeap_at (out:=out) at0
 refine qaX ⟨_,rfl,q out.toList e _ ?_ (fun b ob eb=> ?_) (by simpa using he)⟩
 ·rw [<- zeX a2 a3];exact a1
 ·have lt:=qaQ eb
  rw [sortedHeap_old (qaR lt) (by rw [qaL];exact Nat.lt_succ_of_lt lt)]
  exact qag _ eb
theorem ziA {l:Addr} {vs:List Value} {Q:List Value->Shared->Prop} (hl:s.heap.IsTuple l vs.toArray) (small:vs.length<=sizeLine)
  (q: ∀ h',(∀ b ob,s.heap.get? b=some ob->h'.get? b=some ob)->Q vs {s with heap:=h'}):wpAny (model prog w) A (collect (.ref l)) Q E s:=by
 obtain ⟨ob,ho,hc,n,hd⟩:=id hl
 unfold collect
 refine qaW (wpAny_runValue (codeAny_builtin F.entry_proto_collect ?_))
 rw [qap F.plain_proto_collect _]
 show wpAny _ _ (newList []>>=fun d=>again (.builtin "list.__iadd__" ⟨[d,.ref l],[]⟩)) _ _ _
 refine qaW (qaC (qaX ⟨plainId_quiet F.plain_list_iadd _,codeAny_builtin F.entry_list_iadd ?_⟩))
 rw [qap F.plain_list_iadd _]
 show wpAny _ _ (Builtin.List.listExtendWith (.ref s.heap.objs.size) (.ref l) (.ref s.heap.objs.size)) _ _ _
 unfold Builtin.List.listExtendWith
 have ho':(s.heap.push {cls:= .type "list",data:= .seq ([]:List Value).toArray}).get? l=some ob:=qag _ ho
 have d0:(s.heap.push {cls:= .type "list",data:= .seq ([]:List Value).toArray}).get? s.heap.objs.size=some (seqObj "list" #[] 0):=qar _ rfl
 refine qaW (wpAny_typeOf (T:="tuple") ⟨ob,ho',hc⟩ ?_)
 rw [qa4 (by simp)]
 refine qaW (listItems_at ho' hd ?_)
 refine qaW (listItems_at d0 rfl ?_)
 rw [qa5 (by simp)]
 refine qaW (listUpdate_at (xs:= #[]) (n:=0) d0 rfl ?_ (Nat.zero_le _) (by show (#[]++vs.toArray).size<=sizeLine+1;simp;omega))
 refine qaX ?_
 show wpAny _ _ (load s.heap.objs.size>>=fun o=>match o.data with | .seq xs _=>pure xs.toList | _=>unsupported "internal:collect") _ _ _
 refine qaW (wpAny_load (get?_update_seq d0 _) ?_)
 have z:=q ((s.heap.push {cls:= .type "list",data:= .seq ([]:List Value).toArray}).update s.heap.objs.size (Obj.mapSeq fun x=>x++vs.toArray)) fun b ob e=>(qah _ _ (fun z=>qaN _ (z▸qaQ e))).trans (qag _ e)
 show wpAny _ _ (pure ((#[]:Array Value)++vs.toArray).toList) _ _ _
 rw [show ((#[]:Array Value)++vs.toArray).toList=vs by simp]
 exact qaX z
end
end LT
namespace L2
open PySem PySem.Spec PyProof.Rows LT
section
variable {X:Cx}
noncomputable def zlo (P:Program) (w:World) (p:Addr) (ns:List Int):HO:= .ext fun h=>zhi P w h p (fun z=>(ns.foldl step_dedup []).any (· == z)) (ns.foldl step_dedup []).length
theorem zmk (hc:X.calm=true):zaN X (.type "set") (fun xs H Q=> ∃ (a:Addr) (ns:List Int),xs=[.ref a]/\(SqL X.K H a (ns.map V.int)\/SqT X.K H a (ns.map V.int))/\ns.length<4000/\ ∀ p,H p=none->Q (.ref p) (upd H p (zlo X.prog X.w p ns))):=by
 intro pins s σ H xs us Q I r h
 obtain ⟨a,ns,rfl,hq,hl,q⟩:=h
 obtain ⟨u,rfl,rx⟩:=zfv r
 cases rx
 have fin: ∀ (items:Array Value),items.size=ns.length-> ∀ (h':Heap) (tk:Nat),zhi X.prog X.w h' s.heap.objs.size (fun z=>(firstMet (fun i=>ns.getD i 0) items.size).any (· == z)) (firstMet (fun i=>ns.getD i 0) items.size).length->(∀ b ob,s.heap.get? b=some ob->h'.get? b=some ob)->
   EP X pins σ Q (.ref s.heap.objs.size) {s with heap:=h',toks:=tk}:=fun items hz h' tk g k=>by
  rw [hz,zi3] at g
  refine ⟨.ref s.heap.objs.size,_,I.laid (t':=tk) (o:=zlo X.prog X.w s.heap.objs.size ns) k (qaV _) ⟨g,?_,fun h1 h2 z e=>z.move e (fun _=>rfl) rfl⟩,rfl,q _ (I.hok.fresh (qaV _))⟩
  obtain ⟨ob,es,ep,tb,⟨h1,_⟩,_⟩:=g
  exact ⟨ob,h1⟩
 have room:ns.length+1<scanBound:=by
  have:scanBound=4096:=rfl
  omega
 rcases hq with hq | hq
 ·obtain ⟨its,r',pl,_⟩:=I.list hq
  have hz:its.toArray.size=ns.length:=by rw [qaA, <-r'.length,qaH]
  exact zuV (I.ok.hd hc) (.inl ⟨rfl,pl.isList⟩) (by simpa using zcd r') (by rw [hz];exact room) fun h' tk g k=>fin _ hz h' tk g k
 ·obtain ⟨its,r',pl,_⟩:=I.tuple hq
  have hz:its.toArray.size=ns.length:=by rw [qaA, <-r'.length,qaH]
  exact zuV (I.ok.hd hc) (.inr ⟨rfl,pl⟩) (by simpa using zcd r') (by rw [hz];exact room) fun h' tk g k=>fin _ hz h' tk g k
theorem Inv.grown {pins:List (Addr×Obj)} {σ:St} {H:Hp} {s s':Shared} (I:Inv X pins σ H s) (ho:s'.os=s.os) (hg:s'.gens=s.gens) (k: ∀ b ob,s.heap.get? b=some ob->s'.heap.get? b=some ob):Inv X pins σ H s':=
 I.call' (ch:=[]) ho (Un.kept k) (I.hok.kept k) (by rw [hg];exact I.bare) fun b z=>nomatch z
theorem zne {out:List Value} {ms:List Int} (h:IntsAre out ms):zaQ (ms.map V.int) out:=zfB h
theorem zeJ (hc:X.calm=true):zaN X (.builtin "sorted") (fun xs H Q=> ∃ (p:Addr) (ns:List Int),xs=[.ref p]/\((((ns.foldl step_dedup []).length<64/\H p=some (zlo X.prog X.w p ns))/\ ∀ l,H l=none->Q (.ref l) (upd H l (.lst ((zda ns).map V.int))))\/
    ((ns.length<64/\(SqL X.K H p (ns.map V.int)\/SqT X.K H p (ns.map V.int)))/\ ∀ l,H l=none->Q (.ref l) (upd H l (.lst ((zc7 ns).map V.int)))))):=by
 intro pins s σ H xs us Q I r h
 obtain ⟨p,ns,rfl,h⟩:=h
 obtain ⟨u,rfl,rx⟩:=zfv r
 cases rx
 have fin: ∀ (s1:Shared) (ms:List Int),ms.length<=64->(∀ b ob,s.heap.get? b=some ob->s1.heap.get? b=some ob)->s1.gens=s.gens->s1.os=s.os->(∀ l,H l=none->Q (.ref l) (upd H l (.lst ((zc7 ms).map V.int))))-> ∀ out e h',IntsAre out (zc7 ms)->(∀ b ob,s1.heap.get? b=some ob->h'.get? b=some ob)->
   h'.get? s1.heap.objs.size=some (seqObj "list" out.toArray e)->EP X pins σ Q (.ref s1.heap.objs.size) {s1 with heap:=h'}:=fun s1 ms hm k g1 o1 q out e h' hi k2 e2=>by
  have I1:=I.grown o1 g1 k
  refine ⟨.ref s1.heap.objs.size,_,I1.laid (t':=s1.toks) (o:= .lst ((zc7 ms).map V.int)) k2 (qaV _) ⟨?_,out,e,zne hi,e2⟩,rfl,q _ (I1.hok.fresh (qaV _))⟩
  rw [qaH,(za2 ms).length_eq]
  exact qaS hm (by decide)
 rcases h with ⟨⟨hl,hs⟩,q⟩ | ⟨⟨hl,hq⟩,q⟩
 ·obtain ⟨g,_⟩:=(show zbY X.prog X.w H s.heap p (zlo X.prog X.w p ns) from I.hok p _ hs)
  refine zfk fun E'=>zna (show X.A.in1.handled=none from I.ok.hd hc) g fun vs s1 es ep tb hob pv k g1 o1=> ?_
  obtain ⟨ob',es',ep',tb',⟨a1,a2,a3⟩,h4,h5,⟨h6,h7,h8⟩,h9⟩:=g
  obtain ⟨ob,b1,b2,b3⟩:=hob
  rw [a1] at b1
  cases b1
  rw [a3] at b3
  cases b3
  obtain ⟨ms,m1,m2⟩:=zgt h4
  obtain ⟨ms',m3,m4⟩:=zhI pv m1
  have len:ms.length=(ns.foldl step_dedup []).length:=by
   rw [<- m1.length,qaH,qas]
   exact h8
  have pm:List.Perm ms (ns.foldl step_dedup []):=ze5 (zfr ns [] List.nodup_nil) (fun z hz=>by
    rw [m2 z, <-h5 z]
    exact List.any_eq_true.mpr ⟨z,hz,by simp⟩) (Nat.le_of_eq len)
  have es1:zc7 ms'=zda ns:=by
   unfold zda
   exact zeX ((za2 ms').trans (m4.trans pm)) (zd7 ms')
  have lm:ms'.length<64:=by
   rw [m4.length_eq,len]
   exact hl
  refine ⟨ms',m3,by rw [m3.length];omega,fun out e h' hi k2 e2=> ?_⟩
  exact fin s1 ms' (by omega) k g1 o1 (by rw [es1];exact q) out e h' hi k2 e2
 ·rcases hq with hq | hq
  ·obtain ⟨its,r',pl,hz⟩:=I.list hq
   have hi:=zcd r'
   have lz:its.length=ns.length:=by rw [<- r'.length,qaH]
   refine zfk fun E'=>collect_list pl.isList ?_ (by rw [lz, <-qaH (f:=V.int)];exact hz)
   refine ⟨ns,hi,by omega,fun out e h' hi2 k2 e2=> ?_⟩
   refine fin {s with heap:=(s.heap.push (seqObj "list" #[] 0)).update s.heap.objs.size (Obj.mapSeq fun x=>x++its.toArray)} ns (by omega) (fun b ob eb=> ?_) rfl rfl q out e h' hi2 k2 e2
   exact (qah _ _ (fun z=>qaN _ (z▸qaQ eb))).trans (qag _ eb)
  ·obtain ⟨its,r',pl,hz⟩:=I.tuple hq
   have hi:=zcd r'
   have lz:its.length=ns.length:=by rw [<- r'.length,qaH]
   refine zfk fun E'=>ziA pl (by rw [lz, <-qaH (f:=V.int)];exact hz) fun h1 k1=> ?_
   refine ⟨ns,hi,by omega,fun out e h' hi2 k2 e2=> ?_⟩
   exact fin {s with heap:=h1} ns (by omega) k1 rfl rfl q out e h' hi2 k2 e2
theorem zlh (hc:X.calm=true):zaN X (.builtin "all") (fun xs H Q=> ∃ (a:Addr) (bs:List Bool),xs=[.ref a]/\SqL X.K H a (bs.map V.bl)/\Q (.bl (bs.all id)) H):=by
 intro pins s σ H xs us Q I r h
 obtain ⟨a,bs,rfl,hq,q⟩:=h
 obtain ⟨u,rfl,rx⟩:=zfv r
 cases rx
 obtain ⟨its,r',pl,hz⟩:=I.list hq
 have hlt:a<s.heap.objs.size:=by obtain ⟨_,e,_⟩:=pl.isList;exact qaQ e
 refine call_all_walk (wpAny_pyIter_list pl.isList ?_)
 refine ⟨s.heap.objs.size,[s.heap.objs.size,a],[s.heap.objs.size],its.toArray.size,_,_,fun i=>(bs[i]?).getD true,rfl,Walks.list (A:=X.A.in1) (I.ok.hd hc) _ a (qaR hlt) its.toArray,⟨⟨_,qar _ rfl,rfl,rfl⟩,pl.isList.push _⟩,fun i v s' Q' E' hP hQ=> ?_,fun h' tk hk=> ?_⟩
 ·have hv:its[i]? = some v:=by simpa using hP
  obtain ⟨hi,_⟩:=qac.mp hv
  have hlen:bs.length=its.length:=by rw [<- r'.length,qaH]
  have hb:(bs.map V.bl)[i]? = some (V.bl bs[i]):=by simp [hlen,hi]
  obtain ⟨u',hu,ru⟩:=r'.get hb
  rw [hv] at hu
  cases hu
  cases ru
  have e:(bs[i]?).getD true=bs[i]:=by simp [hlen,hi]
  have hQ:Q' ((bs[i]?).getD true) s':=hQ
  rw [e] at hQ
  exact wpAny_truthy_bool hQ
 ·have e:((List.range its.toArray.size).all fun i=>(bs[i]?).getD true)=bs.all id:=by
   have hlen:bs.length=its.length:=by rw [<- r'.length,qaH]
   rw [qaA, <-hlen]
   rw [Bool.eq_iff_iff,List.all_eq_true,List.all_eq_true]
   constructor
   ·intro h x hx
    obtain ⟨i,hi⟩:=List.mem_iff_getElem?.mp hx
    have hl:=(qac.mp hi).1
    have:=h i (by simpa using hl)
    rw [hi] at this
    exact this
   ·intro h i hi
    have hl:i<bs.length:=by simpa using hi
    have e1:bs[i]? = some bs[i]:=by simp [hl]
    rw [e1]
    exact h _ (List.getElem_mem hl)
  rw [e]
  refine ⟨.bl _,H,I.grown (s':={s with heap:=h',toks:=tk}) rfl rfl fun b ob eb=>hk b ob (fun z=> ?_) (qag _ eb),rfl,q⟩
  simp only [qaP,qaF,or_false] at z
  exact qaN _ (z▸qaQ eb)
theorem zlL (hc:X.calm=true):zaN X (.builtin "sum") (fun xs H Q=> ∃ (a:Addr) (ns:List Int),xs=[.ref a]/\SqL X.K H a (ns.map V.int)/\Q (.int ns.sum) H):=by
 intro pins s σ H xs us Q I r h
 obtain ⟨a,ns,rfl,hq,q⟩:=h
 obtain ⟨u,rfl,rx⟩:=zfv r
 cases rx
 obtain ⟨its,r',pl,hz⟩:=I.list hq
 have hi:=zcd r'
 obtain ⟨ys,hy⟩:=hi.allInts.items
 have hl:s.heap.IsList a (intItems ys):=hy▸pl.isList
 refine sum_intListG (I.ok.hd hc) hl fun h' tk t' hk=> ?_
 have e1:ns=ys.toList.map (·.1):=by
  rw [<- nums_intItems, <-hy]
  exact (show numsOf its.toArray.toList=ns from hi.numsOf).symm
 have e2:preSum (numAt ys) ys.size=ns.sum:=by rw [preSum_eq,List.take_of_length_le (by simp),e1]
 rw [e2]
 exact ⟨.int ns.sum,H,I.grown (s':={s with heap:=h',toks:=tk}) rfl rfl hk,⟨t',rfl⟩,q⟩
end
end L2
namespace L3
open PySem PySem.Spec PyProof.Rows L2 LT
section
variable {X:Cx} {E:XE} {e:Expr} {es:List Expr} {pos p:Pos} {fs:Sd->M (List D)} {x:Str}
theorem znE {id:String} {F:List D->M D} (hc:zaN X (.builtin id) (ziV X.K E F)) (hg:Gl X x) (hm:X.mg x=none) (hv:bootBuiltins x=some (.builtin id)) (ha:SA X E (e::es) fs) (hn:x≠"__name__":=by decide) (hdb:(x==("__debug__":Str))=false:=by decide)
  (he:starEach (e::es) X.env=(false,eval e X.env)::starEach es X.env:=by rfl) (hpl:(backTo pos (starEach es X.env)).any (·.1)=false:=by rfl):SE X E (.Call (.Name x p) (e::es) [] pos) (fun sd=>do let ds<-fs sd;F ds):=
 PE.imp (ze2 hc hg hm hv ha hn hdb he hpl) fun σ H Q ⟨ι,h,sd,L,hh,q⟩=>⟨ι,h,sd,L,hh,Fin.bind q fun ds h1 ι1 H1 e1 s1 hr1 q1 vs rv=>⟨ι1,h1,ds,rv,hr1,q1⟩⟩
theorem zme {T:String} {F:List D->M D} (hc:zaN X (.type T) (ziV X.K E F)) (hg:Gl X x) (hm:X.mg x=none) (hv:bootBuiltins x=some (.type T)) (ha:SA X E (e::es) fs) (hn:x≠"__name__":=by decide) (hdb:(x==("__debug__":Str))=false:=by decide)
  (he:starEach (e::es) X.env=(false,eval e X.env)::starEach es X.env:=by rfl) (hpl:(backTo pos (starEach es X.env)).any (·.1)=false:=by rfl):SE X E (.Call (.Name x p) (e::es) [] pos) (fun sd=>do let ds<-fs sd;F ds):=
 PE.imp (zhL hc hg hm hv ha hn hdb he hpl) fun σ H Q ⟨ι,h,sd,L,hh,q⟩=>⟨ι,h,sd,L,hh,Fin.bind q fun ds h1 ι1 H1 e1 s1 hr1 q1 vs rv=>⟨ι1,h1,ds,rv,hr1,q1⟩⟩
noncomputable def zo4:D->M (List D)
 | .tup ds=>pure ds
 | .lst ds=>pure ds
 | .scr ds=>pure ds
 | .cel n=>zah n
 | _=>M.bad
theorem zc0 {K:W.Frag} {ι:Io} {H:Hp} {h:Hh} {d:D} {v:V} {α:Type} {f:List D->M α} {P:α->Io->Hp->Prop} (hr:za4 K ι H h) (r:Rel K ι H d v) (q:Fin K E ι H ((do let ds<-zo4 d;f ds) h) P):
  ∃ a vs ds,v= .ref a/\((SqL K H a vs/\ ∀ ts,d≠ .tup ts)\/(SqT K H a vs/\d= .tup ds))/\zaq K ι H ds vs/\Fin K E ι H (f ds h) P:=by
 cases d with
 | tup ds=>
  obtain ⟨a,vs,e,h1,h2⟩:=zdg r
  exact ⟨a,vs,ds,e,.inr ⟨h1,rfl⟩,h2,q⟩
 | lst ds=>
  obtain ⟨a,vs,e,h1,h2⟩:=zd8 r
  exact ⟨a,vs,ds,e,.inl ⟨h1,fun _ z=>by cases z⟩,h2,q⟩
 | scr ds=>
  obtain ⟨a,vs,e,h1,h2⟩:=zlx r
  exact ⟨a,vs,ds,e,.inl ⟨h1,fun _ z=>by cases z⟩,h2,q⟩
 | cel n=>
  have q':Fin K E ι H (M.bind (zah n) f h) P:=q
  unfold M.bind at q'
  cases z:zah n h with
  | bad=>rw [z] at q';exact qa0 q'
  | exc c h'=>unfold zah at z;split at z<;>cases z
  | ok ds h'=>
   rw [z] at q'
   obtain ⟨rfl,z2⟩:=zcH z
   obtain ⟨a,vs,e,hn,hH,rl⟩:=hr.read r z2
   exact ⟨a,vs,ds,e,.inl ⟨SqL.of hH,fun _ z=>by cases z⟩,rl,q'⟩
 | _=>exact qa0 q
theorem zky {K:W.Frag} {H:Hp} {a:Addr} {vs:List V} {d:D} {ds:List D} (h:(SqL K H a vs/\ ∀ ts,d≠ .tup ts)\/(SqT K H a vs/\d= .tup ds)):SqL K H a vs\/SqT K H a vs:=h.imp And.left And.left
theorem zty {K:W.Frag} {ι:Io} {H:Hp} {d:D} {xs:List V} (h:zaq K ι H [d] xs): ∃ v,xs=[v]/\Rel K ι H d v:=by
 simp only [zaq] at h
 obtain ⟨v,r,rfl,h1,rfl⟩:=h
 exact ⟨v,rfl,h1⟩
noncomputable def zor {α:Type} (f:D->M α):List D->M α
 | [d]=>f d
 | _=>M.bad
theorem zcr {α:Type} {K:W.Frag} {ι:Io} {H:Hp} {h:Hh} {f:D->M α} {ds:List D} {xs:List V} {P:α->Io->Hp->Prop} (rl:zaq K ι H ds xs) (q:Fin K E ι H (zor f ds h) P): ∃ d v,xs=[v]/\Rel K ι H d v/\Fin K E ι H (f d h) P:=by
 match ds,rl,q with
 | [d],rl,q=>
  obtain ⟨v,e,r⟩:=zty rl
  exact ⟨d,v,e,r,q⟩
 | [],_,q=>exact qa0 q
 | _::_::_,_,q=>exact qa0 q
noncomputable def zin:List D->M D:=zor fun d=>do let ds<-zo4 d;pure (.int ds.length)
theorem zbm:zaN X (.builtin "len") (ziV X.K E zin):=by
 refine zaN.imp zhD fun xs H Q ⟨ι,h,ds,rl,hr,q⟩=> ?_
 obtain ⟨d,v,e,r,q⟩:=zcr rl q
 obtain ⟨a,vs,ds',e',hs,rl',q⟩:=zc0 hr r q
 exact ⟨a,vs,by rw [e,e'],zky hs,Fin.out hr q _ (by rw [rl'.length];simp [Rel])⟩
noncomputable def zcM:List D->M D:=zor fun d=>do let ds<-zo4 d;pure (.tup ds)
theorem zbn:zaN X (.type "tuple") (ziV X.K E zcM):=by
 refine zaN.imp zgC fun xs H Q ⟨ι,h,ds,rl,hr,q⟩=> ?_
 obtain ⟨d,v,e,r,q⟩:=zcr rl q
 obtain ⟨a,vs,ds',e',hs,rl',q⟩:=zc0 hr r q
 refine ⟨a,vs,by rw [e,e'],?_⟩
 rcases hs with ⟨hs,_⟩ | ⟨hs,hd⟩
 ·exact .inl ⟨hs,fun l hl=>zrj hr rl' q hl⟩
 ·exact .inr ⟨hs,Fin.out hr q _ (by rw [<- e', <-hd];exact r)⟩
noncomputable def zlH:List D->M D:=zor fun d=>do let ds<-zo4 d;pure (.lst ds)
theorem zgq:zaN X (.type "list") (ziV X.K E zlH):=by
 refine zaN.imp zh1 fun xs H Q ⟨ι,h,ds,rl,hr,q⟩=> ?_
 obtain ⟨d,v,e,r,q⟩:=zcr rl q
 obtain ⟨a,vs,ds',e',hs,rl',q⟩:=zc0 hr r q
 exact ⟨a,vs,by rw [e,e'],zky hs,fun l hl=>zqh hr rl' q hl⟩
noncomputable def two2 (g:Int->Int->Int):List D->M D
 | [.int i,.int j]=>pure (.int (g i j))
 | _=>M.bad
theorem two2_inv {K:W.Frag} {ι:Io} {H:Hp} {h:Hh} {g:Int->Int->Int} {ds:List D} {xs:List V} {P:D->Io->Hp->Prop} (hr:za4 K ι H h) (rl:zaq K ι H ds xs) (q:Fin K E ι H (two2 g ds h) P): ∃ i j,xs=[.int i,.int j]/\P (.int (g i j)) ι H:=by
 unfold two2 at q
 split at q
 ·simp only [zaq,Rel] at rl
  obtain ⟨v,r,rfl,rfl,v',r',rfl,rfl,rfl⟩:=rl
  exact ⟨_,_,rfl,Fin.out hr q⟩
 ·exact qa0 q
noncomputable def zpi:=two2 fun i j=>if j>i then j else i
noncomputable def zpV:=two2 fun i j=>if j<i then j else i
theorem zj8 (hc:X.calm=true):zaN X (.builtin "max") (ziV X.K E zpi):=by
 refine zaN.imp (zkR hc) fun xs H Q ⟨ι,h,ds,rl,hr,q⟩=> ?_
 obtain ⟨i,j,e,q⟩:=two2_inv hr rl q
 exact ⟨i,j,e,q _ (by simp [Rel])⟩
theorem zjP (hc:X.calm=true):zaN X (.builtin "min") (ziV X.K E zpV):=by
 refine zaN.imp (zlr hc) fun xs H Q ⟨ι,h,ds,rl,hr,q⟩=> ?_
 obtain ⟨i,j,e,q⟩:=two2_inv hr rl q
 exact ⟨i,j,e,q _ (by simp [Rel])⟩
noncomputable def znj:List D->Option (List Bool)
 | []=>some []
 | .bl b::r=>(znj r).map (b:: ·)
 | _=>none
noncomputable def zdQ:List D->Option (List Int)
 | []=>some []
 | .int i::r=>(zdQ r).map (i:: ·)
 | _=>none
theorem zg8 {K:W.Frag} {ι:Io} {H:Hp}: ∀ {ds:List D} {vs:List V} {bs:List Bool},zaq K ι H ds vs->znj ds=some bs->vs=bs.map V.bl
 | [],_,_,h,e=>by simp only [zaq] at h;subst h;cases e;rfl
 | d::ds,_,bs,h,e=>by
  simp only [zaq] at h
  obtain ⟨v,r,rfl,h1,h2⟩:=h
  cases d with
  | bl b=>
   unfold znj at e
   cases z:znj ds with
   | none=>rw [z] at e;cases e
   | some cs=>
    rw [z] at e
    cases e
    simp only [Rel] at h1
    rw [h1,zg8 h2 z]
    rfl
  | _=>cases e
theorem zdj {K:W.Frag} {ι:Io} {H:Hp}: ∀ {ds:List D} {vs:List V} {bs:List Int},zaq K ι H ds vs->zdQ ds=some bs->vs=bs.map V.int
 | [],_,_,h,e=>by simp only [zaq] at h;subst h;cases e;rfl
 | d::ds,_,bs,h,e=>by
  simp only [zaq] at h
  obtain ⟨v,r,rfl,h1,h2⟩:=h
  cases d with
  | int b=>
   unfold zdQ at e
   cases z:zdQ ds with
   | none=>rw [z] at e;cases e
   | some cs=>
    rw [z] at e
    cases e
    simp only [Rel] at h1
    rw [h1,zdj h2 z]
    rfl
  | _=>cases e
theorem Fin.ofOb {α β:Type} {K:W.Frag} {ι:Io} {H:Hp} {h:Hh} {o:Option α} {f:α->M β} {P:β->Io->Hp->Prop} (q:Fin K E ι H ((do let a<-L3.ofO o;f a) h) P): ∃ a,o=some a/\Fin K E ι H (f a h) P:=by
 cases o with
 | none=>exact qa0 q
 | some a=>exact ⟨a,rfl,q⟩
noncomputable def ztu:List D->M D:=zor fun d=>match d with
 | .lst ds=>do let bs<-ofO (znj ds);pure (.bl (bs.all id))
 | _=>M.bad
theorem zhE (hc:X.calm=true):zaN X (.builtin "all") (ziV X.K E ztu):=by
 refine zaN.imp (zlh hc) fun xs H Q ⟨ι,h,ds,rl,hr,q⟩=> ?_
 obtain ⟨d,v,e,r,q⟩:=zcr rl q
 cases d with
 | lst ds=>
  obtain ⟨a,vs,e',h1,h2⟩:=zd8 r
  obtain ⟨bs,eb,q⟩:=Fin.ofOb q
  have:=zg8 h2 eb
  subst this
  exact ⟨a,bs,by rw [e,e'],h1,Fin.out hr q _ (by simp [Rel])⟩
 | _=>exact qa0 q
noncomputable def ztq:List D->M D:=zor fun d=>match d with
 | .lst ds=>do let bs<-ofO (zdQ ds);pure (.int bs.sum)
 | _=>M.bad
theorem zhA (hc:X.calm=true):zaN X (.builtin "sum") (ziV X.K E ztq):=by
 refine zaN.imp (zlL hc) fun xs H Q ⟨ι,h,ds,rl,hr,q⟩=> ?_
 obtain ⟨d,v,e,r,q⟩:=zcr rl q
 cases d with
 | lst ds=>
  obtain ⟨a,vs,e',h1,h2⟩:=zd8 r
  obtain ⟨bs,eb,q⟩:=Fin.ofOb q
  have:=zdj h2 eb
  subst this
  exact ⟨a,bs,by rw [e,e'],h1,Fin.out hr q _ (by simp [Rel])⟩
 | _=>exact qa0 q
noncomputable def ziM:List D->M D:=zor fun d=>do
 let ds<-zo4 d
 let ns<-ofO (zdQ ds)
 if ns.length<64 then pure (.lst ((zc7 ns).map D.int)) else M.bad
theorem zh7 (hc:X.calm=true):zaN X (.builtin "sorted") (ziV X.K E ziM):=by
 refine zaN.imp (zeJ hc) fun xs H Q ⟨ι,h,ds,rl,hr,q⟩=> ?_
 obtain ⟨d,v,e,r,q⟩:=zcr rl q
 obtain ⟨a,vs,ds',e',hs,rl',q⟩:=zc0 hr r q
 obtain ⟨ns,en,q⟩:=Fin.ofOb q
 have:=zdj rl' en
 subst this
 obtain ⟨hl,q⟩:=Fin.guard q
 exact ⟨a,ns,by rw [e,e'],.inr ⟨⟨hl,zky hs⟩,fun l hl=>zqh hr (zdh.mpr rfl) q hl⟩⟩
noncomputable def zdt (d:D):M D:=do
 let ds<-zo4 d
 let ns<-ofO (zdQ ds)
 if (ns.foldl step_dedup []).length<64/\ns.length<4000 then pure (.lst ((zda ns).map D.int)) else M.bad
theorem zjO {p1 p2 pos2:Pos} {f:Sd->M D} (hc:X.calm=true) (hg1:Gl X "sorted") (hm1:X.mg "sorted"=none) (hg2:Gl X "set") (hm2:X.mg "set"=none) (he:SE X E e f)
  (h1:starEach [.Call (.Name "set" p2) [e] [] pos2] X.env=[(false,eval (.Call (.Name "set" p2) [e] [] pos2) X.env)]:=by rfl) (h2:starEach [e] X.env=[(false,eval e X.env)]:=by rfl):
  SE X E (.Call (.Name "sorted" p1) [.Call (.Name "set" p2) [e] [] pos2] [] pos) (fun sd=>do let d<-f sd;zdt d):=by
 refine PE.imp (ze2 (zeJ hc) hg1 hm1 boot_sorted (zcg (zhL (zmk hc) hg2 hm2 PyProof.Rows.boot_set (zcg he zed h2) (he:=h2)) zed h1) (he:=h1)) fun σ H Q ⟨ι,h,sd,L,hh,q⟩=>⟨ι,h,sd,L,hh,Fin.bind q fun d h1 ι1 H1 e1 s1 hr1 q1 v rv=> ?_⟩
 obtain ⟨a,vs,ds',e',hs,rl',q2⟩:=zc0 hr1 rv q1
 obtain ⟨ns,en,q3⟩:=Fin.ofOb q2
 have:=zdj rl' en
 subst this
 obtain ⟨hl,q4⟩:=Fin.guard q3
 refine ⟨a,ns,by rw [e'],zky hs,hl.2,fun p hp=> ?_⟩
 have hr2:za4 X.K ι1 (upd H1 p (zlo X.prog X.w p ns)) h1:=hr1.laid hp
 exact ⟨p,ns,rfl,.inl ⟨⟨hl.1,zaM⟩,fun l hl'=>zqh hr2 (zdh.mpr rfl) (Fin.step (hr1.laidS hp) q4) hl'⟩⟩
end
noncomputable def tyD:D->M String
 | .non=>pure "NoneType"
 | .bl _=>pure "bool"
 | .int _=>pure "int"
 | .str _=>pure "str"
 | .tup _=>pure "tuple"
 | .lst _=>pure "list"
 | .dct=>pure "dict"
 | .cel n=>do let _<-zah n;pure "list"
 | _=>M.bad
noncomputable def zlc:List String:=["NoneType","bool","int","str","tuple","list","dict"]
noncomputable def isB (T t:String):Bool:=t==T || (t=="bool" && T=="int")
noncomputable def ziB (T:String) (d:D):M D:=do let t<-tyD d;pure (.bl (isB T t))
def zkf (T:String):Prop:= ∀ (K:W.Frag), ∀ t∈zlc,W.kitOne K (.type t) (.type T)=some (isB T t)
noncomputable def zuO (t T:String):Option Bool:=if ((Value.type t)==(Value.type T))=true then some true else if W.kitMeta T=true then (fastBuiltinMro t).map (·.contains (Value.type T)) else none
theorem zgQ {T:String} (h:(zlc.all fun t=>zuO t T==some (isB T t))=true):zkf T:=fun K t ht=>by
 have:=List.all_eq_true.mp h t ht
 have e:W.kitOne K (.type t) (.type T)=zuO t T:=rfl
 rw [e]
 exact beq_iff_eq.mp this
theorem zmA:zkf "int":=zgQ (by decide +kernel)
theorem zjy:zkf "bool":=zgQ (by decide +kernel)
theorem zfz:zkf "tuple":=zgQ (by decide +kernel)
section
variable {X:Cx} {E:XE} {α:Type}
theorem zpY {K:W.Frag} {ι:Io} {H:Hp} {h:Hh} {d:D} {v:V} {f:String->M α} {P:α->Io->Hp->Prop} (hr:za4 K ι H h) (r:Rel K ι H d v) (q:Fin K E ι H ((do let t<-tyD d;f t) h) P):
  ∃ t,t∈zlc/\zi7 K H v (.type t)/\Fin K E ι H (f t h) P:=by
 cases d with
 | non=>simp only [Rel] at r;subst r;exact ⟨_,by decide,.non,q⟩
 | bl b=>simp only [Rel] at r;subst r;exact ⟨_,by decide,.bl b,q⟩
 | int b=>simp only [Rel] at r;subst r;exact ⟨_,by decide,.int b,q⟩
 | str b=>simp only [Rel] at r;subst r;exact ⟨_,by decide,.str b,q⟩
 | tup ds=>
  simp only [Rel] at r
  obtain ⟨a,vs,e,h1,h2⟩:=r
  subst e
  exact ⟨_,by decide,.tup h1.1,q⟩
 | lst ds=>
  simp only [Rel] at r
  obtain ⟨a,vs,e,h1,h2⟩:=r
  subst e
  exact ⟨_,by decide,.lst h1.1,q⟩
 | dct=>
  simp only [Rel] at r
  obtain ⟨a,e,h1,h2⟩:=r
  subst e
  exact ⟨_,by decide,.dK h1,q⟩
 | cel n=>
  have q':Fin K E ι H (M.bind (zah n) (fun _=>f "list") h) P:=by
   have e:(do let t<-tyD (.cel n);f t:M α)=(zah n>>=fun _=>f "list"):=by
    show ((zah n>>=fun _=>pure "list")>>=f)=_
    simp only [bind_assoc,pure_bind]
   rw [e] at q
   exact q
  unfold M.bind at q'
  cases z:zah n h with
  | bad=>rw [z] at q';exact qa0 q'
  | exc c h'=>unfold zah at z;split at z<;>cases z
  | ok ds h'=>
   rw [z] at q'
   obtain ⟨rfl,z2⟩:=zcH z
   obtain ⟨a,vs,e,hn,hH,rl⟩:=hr.read r z2
   subst e
   exact ⟨_,by decide,.lst hH,q'⟩
 | _=>exact qa0 q
theorem zny:zaN X (.builtin "isinstance") (fun xs H Q=> ∃ x t T b,xs=[x,.ty T]/\zi7 X.K H x t/\W.kitOne X.K t (.type T)=some b/\Q (.bl b) H):=by
 intro pins s σ H xs us Q I r h
 obtain ⟨x,t,T,b,rfl,ty,e,q⟩:=h
 cases r with
 | cons r1 r2=>
  cases r2 with
  | cons r3 r4=>
   cases r4
   cases r3
   exact zkH I r1 ty e fun tk=>⟨.bl b,H,I.tok tk,rfl,q⟩
theorem zrN {a:Expr} {x:Str} {T:String} {p1 p2 pos:Pos} {fa:Sd->M D} (hk:zkf T) (hg:Gl X "isinstance") (hm:X.mg "isinstance"=none) (hgT:Gl X x) (hmT:X.mg x=none) (hvT:bootBuiltins x=some (.type T)) (ha:SE X E a fa)
  (hn:x≠"__name__":=by decide) (hd:(x==("__debug__":Str))=false:=by decide)
  (h1:starEach [a,.Name x p2] X.env=(false,eval a X.env)::starEach [.Name x p2] X.env:=by rfl) (h2:starEach [.Name x p2] X.env=[(false,eval (.Name x p2) X.env)]:=by rfl)
  (hpl:(backTo pos (starEach [.Name x p2] X.env)).any (·.1)=false:=by rfl):
  SE X E (.Call (.Name "isinstance" p1) [a,.Name x p2] [] pos) (fun sd=>do let d<-fa sd;ziB T d):=by
 refine PE.imp (ze2 zny hg hm PyProof.Rows.boot_isinstance (zcg ha (zcg (zqW (v:= .ty T) hgT hmT hvT rfl hn hd) zed h2) h1) (he:=h1) (hpl:=hpl)) fun σ H Q ⟨ι,h,sd,L,hh,q⟩=>⟨ι,h,sd,L,hh,Fin.bind q fun d h1 ι1 H1 e1 s1 hr1 q1 v rv=> ?_⟩
 obtain ⟨t,ht,ty,q2⟩:=zpY hr1 rv q1
 exact ⟨v,.type t,T,isB T t,rfl,ty,hk X.K t ht,Fin.out hr1 q2 _ (by simp [Rel])⟩
noncomputable def zsf:D->D->M D
 | .bl a,.bl b=>pure (.bl (a != b))
 | _,_=>M.bad
noncomputable def zgc (xs:List D) (lo hi:Option Int):List D:=(xs.drop (HT.sIx xs.length 0 lo)).take (HT.sIx xs.length xs.length hi - HT.sIx xs.length 0 lo)
noncomputable def dSl (d:D) (lo hi:Option Int):M D:=match d with
 | .tup ds=>pure (.tup (zgc ds lo hi))
 | .lst ds=>pure (.lst (zgc ds lo hi))
 | _=>M.bad
noncomputable def zvJ (K:W.Frag) (E:XE) (f:Sd->M (Option Int)):TO:=fun σ H Q=> ∃ ι h sd,zcz K ι H sd σ/\za4 K ι H h/\Fin K E ι H (f sd h) fun o ι' H'=>Q o H'
noncomputable abbrev SO (X:Cx) (E:XE) (e:Option Expr) (f:Sd->M (Option Int)):Prop:=PO X e (zvJ X.K E f)
theorem PO.imp {e:Option Expr} {t t':TO} (h:PO X e t) (m: ∀ σ H Q,t' σ H Q->t σ H Q):PO X e t':=fun pins s σ H Q I q=>h pins s σ H Q I (m _ _ _ q)
noncomputable def zj2:Sd->M (Option Int):=fun _=>pure none
noncomputable def zqJ:D->M (Option Int)
 | .int i=>pure (some i)
 | _=>M.bad
noncomputable def zkk (f:Sd->M D):Sd->M (Option Int):=fun sd=>do let d<-f sd;zqJ d
theorem zg7:SO X E none zj2:=PO.imp zqx fun σ H Q ⟨ι,h,sd,L,hh,q⟩=>Fin.out hh q
theorem zhc {e:Expr} {f:Sd->M D} (h:SE X E e f):SO X E (some e) (zkk f):=by
 refine PO.imp (zph h) fun σ H Q ⟨ι,h,sd,L,hh,q⟩=>⟨ι,h,sd,L,hh,Fin.bind q fun d h1 ι1 H1 e1 s1 hr1 q1 v rv=> ?_⟩
 cases d with
 | int i=>simp only [Rel] at rv;exact ⟨i,rv,Fin.out hr1 q1⟩
 | _=>exact qa0 q1
noncomputable def cSl (f:Sd->M D) (lo hi:Sd->M (Option Int)):Sd->M D:=fun sd=>do let d<-f sd;let l<-lo sd;let u<-hi sd;dSl d l u
theorem zeW {e:Expr} {lo hi:Option Expr} {p2 pos:Pos} {f:Sd->M D} {fl fh:Sd->M (Option Int)} (he:SE X E e f) (hl:SO X E lo fl) (hu:SO X E hi fh):SE X E (.Subscript e (.Slice lo hi none p2) pos) (cSl f fl fh):=by
 refine PE.imp (znD (zpQ.or (zse.or zqa)) he hl hu) fun σ H Q ⟨ι,h,sd,L,hh,q⟩=>⟨ι,h,sd,L,hh,Fin.bind q fun d h1 ι1 H1 e1 s1 hr1 q1 v rv=> ?_⟩
 refine ⟨ι1,h1,sd,L.step s1,hr1,Fin.bind q1 fun l h2 ι2 H2 e2 s2 hr2 q2=> ?_⟩
 refine ⟨ι2,h2,sd,(L.step s1).step s2,hr2,Fin.bind q2 fun u h3 ι3 H3 e3 s3 hr3 q3=> ?_⟩
 have rv3:=(rv.step s2).step s3
 cases d with
 | tup ds=>
  obtain ⟨a,vs,e,k1,k2⟩:=zdg rv3
  by_cases hw:HT.sIx vs.length 0 l=0/\HT.sIx vs.length vs.length u=vs.length
  ·refine .inl ⟨a,vs,e,k1,hw,?_⟩
   have ec:zgc ds l u=ds:=by
    unfold zgc
    rw [k2.length,hw.1,hw.2, <-k2.length]
    simp
   refine Fin.out hr3 q3 _ ?_
   rw [ec, <-e]
   exact rv3
  ·refine .inr (.inl ⟨a,vs,e,k1,hw,fun p hp=>zrj hr3 ?_ q3 hp⟩)
   unfold zgc zow
   rw [k2.length]
   exact zaq.take _ (zaq.drop _ k2)
 | lst ds=>
  obtain ⟨a,vs,e,k1,k2⟩:=zd8 rv3
  refine .inr (.inr ⟨a,vs,e,k1,fun p hp=>zqh hr3 ?_ q3 hp⟩)
  unfold zgc zow
  rw [k2.length]
  exact zaq.take _ (zaq.drop _ k2)
 | _=>exact qa0 q3
noncomputable def zvu:D->M D
 | .tup ds=>pure (.tup ds.reverse)
 | _=>M.bad
noncomputable def zpr (x y:D):M D:=match x,y with
 | .int i,.int j=>if (zbd i || zbd j)=true then pure (.int (i*j)) else M.bad
 | .tup xs,.int k=>if xs≠[]/\2<=k/\k<1000/\xs.length*k.toNat<=sizeLine then pure (.tup (List.replicate k.toNat xs).flatten) else M.bad
 | _,_=>M.bad
theorem zaq.rep {K:W.Frag} {ι:Io} {H:Hp} {ds:List D} {vs:List V} (h:zaq K ι H ds vs): ∀ n,zaq K ι H (List.replicate n ds).flatten (List.replicate n vs).flatten
 | 0=>zaq.nil
 | n+1=>by
  rw [List.replicate_succ,List.replicate_succ,List.flatten_cons,List.flatten_cons]
  exact zaq.append h (zaq.rep h n)
theorem zlG:OpR X (binaryOp .Mult) (zd2 X.K E zpr):=by
 refine OpR.imp (zr0.or zqE) fun x y H Q ⟨ι,h,d1,d2,r1,r2,hr,q⟩=> ?_
 unfold zpr at q
 split at q
 ·simp only [Rel] at r1 r2
  obtain ⟨c,q⟩:=Fin.guard q
  refine .inl ⟨_,_,r1,r2,?_,Fin.out hr q _ (by simp [Rel])⟩
  rcases (Bool.or_eq_true _ _).mp c with z | z
  ·exact .inl (zcW z)
  ·exact .inr (zcW z)
 ·simp only [Rel] at r2
  obtain ⟨a,vs,e,k1,k2⟩:=zdg r1
  obtain ⟨⟨c1,c2,c3,c4⟩,q⟩:=Fin.guard q
  refine .inr ⟨a,_,vs,e,r2,k1,fun z=>c1 ?_,c2,c3,by rw [<- k2.length];exact c4,fun p hp=>zrj hr (k2.rep _) q hp⟩
  subst z
  exact List.eq_nil_of_length_eq_zero k2.length
 ·exact qa0 q
theorem zkj {pins:List (Addr×Obj)} {σ:L2.St} {H:Hp} {s:Shared} (I:Inv X pins σ H s):sysModules<s.heap.objs.size:=
 Nat.lt_trans (by decide) (show mainGlobals<s.heap.objs.size from (I.mod.glob.keeps I.bk).lt)
theorem zm7 {pos:Pos}:PE X (.Dict [] [] pos) (fun _ H Q=> ∀ p,H p=none->Q (.ref p) (upd H p (.dK []))):=fun pins s σ H Q I h=>
 wpAny_Dict_empty ⟨.ref s.heap.objs.size,_,I.laid (a:=s.heap.objs.size) (o:= .dK []) (t':=s.toks) (fun _ _ q=>qag _ q) (qaV _)
   ⟨Nat.zero_le _,beq_eq_false_iff_ne.mpr (Ne.symm (qaR (zkj I))),[],.nil,Heap.DictOf.new s.heap⟩,rfl,h _ (I.hok.fresh (qaV _))⟩
theorem zon {pos:Pos}:SE X E (.Dict [] [] pos) (fun _=>pure .dct):=by
 refine PE.imp zm7 fun σ H Q ⟨ι,h,sd,L,hh,q⟩ p hp=> ?_
 exact q ι _ (hh.laidS hp) (hh.laid hp) _ (by
   simp only [Rel]
   exact ⟨p,rfl,zaM,hh.nin hp⟩)
mutual
noncomputable def pdH (h:Hh):D->Option PyData
 | .non=>some .none
 | .bl b=>some (.bool b)
 | .int i=>some (.int i)
 | .str x=>some (.str x)
 | .tup xs=>(znM h xs).map .tuple
 | .lst xs=>(znM h xs).map .list
 | .cel n=>match h[n]? with
  | some (.lst ds)=>(pdL ds).map .list
  | _=>none
 | _=>none
noncomputable def znM (h:Hh):List D->Option (List PyData)
 | []=>some []
 | x::xs=>match pdH h x,znM h xs with
  | some a,some r=>some (a::r)
  | _,_=>none
end
mutual
theorem zsX {pins:List (Addr×Obj)} {σ:L2.St} {H:Hp} {s:Shared} {ι:Io} {h:Hh} (I:Inv X pins σ H s) (hr:za4 X.K ι H h): ∀ {d:D} {v:V} {u:Value} {p:PyData},Rel X.K ι H d v->zbA v u->pdH h d=some p-> ∃ as,Reads s.heap u p as
 | .non,v,u,p,r,ru,e=>by simp only [Rel] at r;subst r;cases ru;simp only [pdH] at e;cases e;exact ⟨_,.none⟩
 | .bl b,v,u,p,r,ru,e=>by simp only [Rel] at r;subst r;cases ru;simp only [pdH] at e;cases e;exact ⟨_,.bool _⟩
 | .int i,v,u,p,r,ru,e=>by simp only [Rel] at r;subst r;obtain ⟨t,rfl⟩:=ru;simp only [pdH] at e;cases e;exact ⟨_,.int _ _⟩
 | .str i,v,u,p,r,ru,e=>by simp only [Rel] at r;subst r;obtain ⟨t,rfl⟩:=ru;simp only [pdH] at e;cases e;exact ⟨_,.str _ _⟩
 | .tup ds,v,u,p,r,ru,e=>by
  obtain ⟨a,vs,rfl,h1,h2⟩:=zdg r
  cases ru
  obtain ⟨its,rv,pl,_⟩:=I.tuple h1
  obtain ⟨o,ho,hc,n,hd⟩:=pl
  simp only [pdH] at e
  cases z:znM h ds with
  | none=>rw [z] at e;cases e
  | some ps=>
   rw [z] at e;cases e
   obtain ⟨as,q⟩:=ziX I hr h2 rv z
   exact ⟨_,.tuple ho hc hd (by simpa using q)⟩
 | .lst ds,v,u,p,r,ru,e=>by
  obtain ⟨a,vs,rfl,h1,h2⟩:=zd8 r
  cases ru
  obtain ⟨its,rv,pl,_⟩:=I.list h1
  obtain ⟨o,ho,hc,n,hd⟩:=pl.isList
  simp only [pdH] at e
  cases z:znM h ds with
  | none=>rw [z] at e;cases e
  | some ps=>
   rw [z] at e;cases e
   obtain ⟨as,q⟩:=ziX I hr h2 rv z
   exact ⟨_,.list ho hc hd (by simpa using q)⟩
 | .cel m,v,u,p,r,ru,e=>by
  simp only [pdH] at e
  cases z0:h[m]? with
  | none=>rw [z0] at e;cases e
  | some c=>
   rw [z0] at e
   cases c with
   | dit ks=>cases e
   | ins _ _=>cases e
   | dead=>cases e
   | dic _=>cases e
   | lst ds=>
    obtain ⟨a,vs,rfl,hn,hH,rl⟩:=hr.read r z0
    cases ru
    obtain ⟨its,rv,pl,_⟩:=I.list (SqL.of hH)
    obtain ⟨o,ho,hc,n,hd⟩:=pl.isList
    cases z:pdL ds with
    | none=>simp only [z] at e;cases e
    | some ps=>
     simp only [z] at e;cases e
     obtain ⟨as,q⟩:=zh4 I rl rv z
     exact ⟨_,.list ho hc hd (by simpa using q)⟩
 | .scr ds,_,_,_,_,_,e=>by simp only [pdH] at e;cases e
 | .set xs,_,_,_,_,_,e=>by simp only [pdH] at e;cases e
 | .dct,_,_,_,_,_,e=>by simp only [pdH] at e;cases e
 | .fn _,_,_,_,_,_,e=>by simp only [pdH] at e;cases e
 | .exn _,_,_,_,_,_,e=>by simp only [pdH] at e;cases e
theorem ziX {pins:List (Addr×Obj)} {σ:L2.St} {H:Hp} {s:Shared} {ι:Io} {h:Hh} (I:Inv X pins σ H s) (hr:za4 X.K ι H h): ∀ {ds:List D} {vs:List V} {us:List Value} {ps:List PyData},zaq X.K ι H ds vs->zaQ vs us->znM h ds=some ps-> ∃ as,ReadsAll s.heap us ps as
 | [],vs,us,ps,r,ru,e=>by simp only [zaq] at r;subst r;cases ru;simp only [znM] at e;cases e;exact ⟨_,.nil⟩
 | d::ds,vs,us,ps,r,ru,e=>by
  simp only [zaq] at r
  obtain ⟨v,vr,rfl,r1,r2⟩:=r
  cases ru with
  | cons ru1 ru2=>
   simp only [znM] at e
   cases z:pdH h d with
   | none=>rw [z] at e;cases e
   | some a=>
    cases z2:znM h ds with
    | none=>rw [z,z2] at e;cases e
    | some b=>
     rw [z,z2] at e
     cases e
     obtain ⟨as,q1⟩:=zsX I hr r1 ru1 z
     obtain ⟨bs,q2⟩:=ziX I hr r2 ru2 z2
     exact ⟨_,.cons q1 q2⟩
end
end
noncomputable abbrev FE:=Sd->M D
noncomputable abbrev FT:=Sd->M Bool
noncomputable abbrev FA:=Sd->M (List D)
noncomputable abbrev FS:=Sd->M Out
noncomputable def cOp (F:D->D->M D) (a b:FE):FE:=fun sd=>do let x<-a sd;let y<-b sd;F x y
noncomputable def cUn (F:D->M D) (a:FE):FE:=fun sd=>do let x<-a sd;F x
noncomputable def zaI (F:List D->M D) (a:FA):FE:=fun sd=>do let ds<-a sd;F ds
noncomputable def zd0 (F:D->D->M D) (a b:FE):FT:=fun sd=>do let z<-(do let x<-a sd;let y<-b sd;F x y);zdp z
noncomputable def zih (a:FE):FT:=fun sd=>do let x<-a sd;zdp x
noncomputable def zgO (t:FT):FT:=fun sd=>do let c<-t sd;pure (!c)
noncomputable def zsb (t u:FT):FT:=fun sd=>do let c<-t sd;if c=true then u sd else pure false
noncomputable def tOr (t u:FT):FT:=fun sd=>do let c<-t sd;if c=true then pure true else u sd
noncomputable def zo8 (a b:FE):FE:=fun sd=>do let c<-(do let x<-a sd;zdp x);if c=true then b sd else pure (.bl false)
noncomputable def cOr (a b:FE):FE:=fun sd=>do let c<-(do let x<-a sd;zdp x);if c=true then pure (.bl true) else b sd
noncomputable def zto (a:FE):FE:=fun sd=>do let c<-(do let x<-a sd;zdp x);pure (.bl (!c))
noncomputable def cIf (t:FT) (a b:FE):FE:=fun sd=>do let c<-t sd;if c=true then a sd else b sd
noncomputable def cK (d:D):FE:=fun _=>pure d
noncomputable def zal:FA:=fun _=>pure []
noncomputable def zab (a:FE) (r:FA):FA:=fun sd=>do let x<-a sd;let r<-r sd;pure (x::r)
noncomputable def zbg (fs:FA):FE:=fun sd=>do let ds<-fs sd;fits ds.length;pure (.tup ds)
noncomputable def zfH (fs:FA):FE:=fun sd=>do let ds<-fs sd;fits ds.length;pure (.lst ds)
noncomputable def zhr (fs:FA):FE:=fun sd=>do let ds<-fs sd;fits ds.length;zfn ds
noncomputable def zeu:FS:=fun sd=>pure (.nx sd)
noncomputable def zar (g g':FS):FS:=fun sd=>do let o<-g sd;andThen o g'
noncomputable def zb3 (i:Nat) (f:FE):FS:=fun sd=>do let d<-f sd;pure (.nx (sd.set i (some d)))
noncomputable def zb1 (f:FE):FS:=fun sd=>do let d<-f sd;pure (.rt d)
noncomputable def sIf (t:FT) (g g':FS):FS:=fun sd=>do let c<-t sd;if c=true then g sd else g' sd
noncomputable def zkQ (fi:FA) (g:D->Sd->M Sd) (gb:FS):FS:=fun sd=>do let ds<-fi sd;zbv (fun x sd=>do let sd1<-g x sd;gb sd1) ds sd
noncomputable def zrm (f:FE) (g:D->Sd->M Sd):FS:=fun sd=>do let d<-f sd;let sd'<-g d sd;pure (.nx sd')
noncomputable def zdD (f:FE):FS:=fun sd=>do let _<-f sd;pure (.nx sd)
noncomputable def iSq (f:FE):FA:=fun sd=>do let d<-f sd;zgr d
noncomputable def zmN (fs:FA):FA:=fun sd=>do let ds<-fs sd;zmy ds
noncomputable def zq9 (fo fi:FE):D->Sd->M Sd:=fun d sd=>do let x<-fo sd;let y<-fi sd;zlX x y d;pure sd
section
variable {X:Cx} {E:XE} {a b e c:Expr} {es:List Expr} {pos p p1 p2:Pos} {fa fb f:FE} {fs:FA} {x:Str}
theorem zad (i:Nat) (hN:X.N[i]? = some x:=by rfl) (hv:Vis X.env.scope x:=by first | exact Or.inl rfl | exact Or.inr (Or.inl rfl) | exact Or.inr (Or.inr rfl)) (hd:(x==("__debug__":Str))=false:=by decide) (hcd:(x==("__classdict__":Str))=false:=by decide):SE X E (.Name x pos) (zag i):=zte i hN hv hd hcd
theorem zaj {i:Int} {j:Nat}:SE X E (.Constant (.int i) j pos) (cK (.int i)):=zsq
theorem zgz {i:Bool} {j:Nat}:SE X E (.Constant (.bool i) j pos) (cK (.bl i)):=ztN
theorem ziq {j:Nat}:SE X E (.Constant .none j pos) (cK .non):=zrR
theorem zbX {i:Str} {j:Nat}:SE X E (.Constant (.str i) j pos) (cK (.str i)):=zsu
theorem zkT {i:Int} (hm: ∃ t,X.mg x=some (.int i t)) (hg:Gl X x:=by rfl) (hd:(x==("__debug__":Str))=false:=by decide):SE X E (.Name x pos) (cK (.int i)):=by
 obtain ⟨t,hm⟩:=hm
 exact znB hg hm hd
theorem zdc {op:Operator} {F:D->D->M D} (ho:OpR X (binaryOp op) (zd2 X.K E F)) (ha:SE X E a fa) (hb:SE X E b fb):SE X E (.BinOp a op b pos) (cOp F fa fb):=ztE ho ha hb
theorem zmr {op:CmpOp} {F:D->D->M D} (ho:OpR X (compareOp op) (zd2 X.K E F)) (ha:SE X E a fa) (hb:SE X E b fb) (hm:behindInMarks op b=false:=by rfl):SE X E (.Compare a [op] [b] pos) (cOp F fa fb):=zsj ho ha hb hm
theorem zbf {op:CmpOp} {F:D->D->M D} (ho:OpR X (compareOp op) (zd2 X.K E F)) (ha:SE X E a fa) (hb:SE X E b fb) (hm:behindInMarks op b=false:=by rfl):ST X E (.Compare a [op] [b] pos) (zd0 F fa fb):=zsl ho ha hb hm
theorem zdb (ha:SE X E a fa) (hb:SE X E b fb) (hs:ziG b:=by intro _ _;rfl):SE X E (.Subscript a b pos) (cOp dIx fa fb):=zug zvw ha hb hs
theorem znt (ha:SE X E a fa):SE X E (.UnaryOp .USub a pos) (cUn zov fa):=zss ha
theorem zrJ (ha:SE X E a fa):SE X E (.UnaryOp .Not a pos) (zto fa):=ztm ha
theorem znh {op:BoolOp} (h:SE X E a fa):SE X E (.BoolOp op [a] pos) fa:=zrx h
theorem zkn {rest:List Expr} (ha:SE X E a fa) (hb:SE X E (.BoolOp .And (b::rest) pos) fb):SE X E (.BoolOp .And (a::b::rest) pos) (zo8 fa fb):=zs9 ha hb
theorem zdr (h:SE X E e f) (he: ∀ whole,isTrue e X.env whole=(do let v<-whole;standAt e.pos;holding [v] (truthy v)):=by intro _;rfl):ST X E e (zih f):=zsa h he
theorem zcP {t:FT} (ha:ST X E a t):ST X E (.UnaryOp .Not a pos) (zgO t):=zsk ha
theorem zpu {t:FT} (ha:ST X E a t):PW X (.BoolOp .And [a] pos) (zf5 X.K E t):=zqY ha
theorem zgf {t:FT} (ha:ST X E a t):PW X (.BoolOp .Or [a] pos) (zf5 X.K E t):=ztl ha
theorem zrs {rest:List Expr} {t u:FT} (ha:ST X E a t) (hb:PW X (.BoolOp .And (b::rest) pos) (zf5 X.K E u)):PW X (.BoolOp .And (a::b::rest) pos) (zf5 X.K E (zsb t u)):=ztg ha hb
theorem zgM {rest:List Expr} {t u:FT} (ha:ST X E a t) (hb:PW X (.BoolOp .Or (b::rest) pos) (zf5 X.K E u)):PW X (.BoolOp .Or (a::b::rest) pos) (zf5 X.K E (tOr t u)):=zt0 ha hb
theorem zdS {op:BoolOp} {vs:List Expr} {t:FT} (h:PW X (.BoolOp op vs pos) (zf5 X.K E t)):ST X E (.BoolOp op vs pos) t:=zpZ h
theorem zk9 {env:Env} (h: ∀ v p,e≠ .Starred v p):starEach (e::es) env=(false,eval e env)::starEach es env:=by
 cases e<;>first | rfl | exact absurd rfl (h _ _)
theorem zac:SA X E [] zal:=zsI
theorem zaa (ha:SE X E e fa) (hr:SA X E es fs) (hs:starEach (e::es) X.env=(false,eval e X.env)::starEach es X.env:=by exact zk9 (fun _ _ z=>nomatch z)):SA X E (e::es) (zab fa fs):=zqt ha hr hs
theorem zaw {k} (h:SA X E es fs):SE X E (.Tuple es k pos) (zbg fs):=zsY h
theorem zcK (h:SA X E es fs):SE X E (.List es pos) (zfH fs):=zsv h
theorem zgl (h:SA X E es fs):SE X E (.List es pos) (zhr fs):=zqj h
theorem zpL:SE X E (.Dict [] [] pos) (cK .dct):=zon
theorem za3 {id:String} {F:List D->M D} (hc:zaN X (.builtin id) (ziV X.K E F)) (hv:bootBuiltins x=some (.builtin id)) (hm:X.mg x=none) (ha:SA X E (e::es) fs) (hg:Gl X x:=by rfl) (hn:x≠"__name__":=by decide) (hdb:(x==("__debug__":Str))=false:=by decide)
  (he:starEach (e::es) X.env=(false,eval e X.env)::starEach es X.env:=by rfl) (hpl:(backTo pos (starEach es X.env)).any (·.1)=false:=by rfl):SE X E (.Call (.Name x p) (e::es) [] pos) (zaI F fs):=znE hc hg hm hv ha hn hdb he hpl
theorem zbI {T:String} {F:List D->M D} (hc:zaN X (.type T) (ziV X.K E F)) (hv:bootBuiltins x=some (.type T)) (hm:X.mg x=none) (ha:SA X E (e::es) fs) (hg:Gl X x:=by rfl) (hn:x≠"__name__":=by decide) (hdb:(x==("__debug__":Str))=false:=by decide)
  (he:starEach (e::es) X.env=(false,eval e X.env)::starEach es X.env:=by rfl) (hpl:(backTo pos (starEach es X.env)).any (·.1)=false:=by rfl):SE X E (.Call (.Name x p) (e::es) [] pos) (zaI F fs):=zme hc hg hm hv ha hn hdb he hpl
theorem zis {T:String} (hk:zkf T) (hvT:bootBuiltins x=some (.type T)) (hm:X.mg "isinstance"=none) (hmT:X.mg x=none) (ha:SE X E a fa) (hg:Gl X "isinstance":=by rfl) (hgT:Gl X x:=by rfl)
  (hn:x≠"__name__":=by decide) (hd:(x==("__debug__":Str))=false:=by decide)
  (h1:starEach [a,.Name x p2] X.env=(false,eval a X.env)::starEach [.Name x p2] X.env:=by rfl) (h2:starEach [.Name x p2] X.env=[(false,eval (.Name x p2) X.env)]:=by rfl)
  (hpl:(backTo pos (starEach [.Name x p2] X.env)).any (·.1)=false:=by rfl):SE X E (.Call (.Name "isinstance" p1) [a,.Name x p2] [] pos) (cUn (ziB T) fa):=zrN hk hg hm hgT hmT hvT ha hn hd h1 h2 hpl
theorem zhP {pos2:Pos} (hc:X.calm=true) (hm1:X.mg "sorted"=none) (hm2:X.mg "set"=none) (he:SE X E e f) (hg1:Gl X "sorted":=by rfl) (hg2:Gl X "set":=by rfl)
  (h1:starEach [.Call (.Name "set" p2) [e] [] pos2] X.env=[(false,eval (.Call (.Name "set" p2) [e] [] pos2) X.env)]:=by rfl) (h2:starEach [e] X.env=[(false,eval e X.env)]:=by rfl):
  SE X E (.Call (.Name "sorted" p1) [.Call (.Name "set" p2) [e] [] pos2] [] pos) (cUn zdt f):=zjO hc hg1 hm1 hg2 hm2 he h1 h2
theorem zaD {k:Nat} {g:Addr} {fd:FuncData} {ps:List Str} {n:Nat} {F:List D->M D} (G:zbh X.prog X.w X.K X.mg X.base CX0 k g fd ps (zbO X.K n F)) (hr:zcn k X.A) (hm:X.mg x=some (.ref g)) (hk:W.keepIn X.K (.ref g)=true) (hb:zav X.K fd ps [])
  (ha:SA X E0x (e::es) fs) (hg:Gl X x:=by rfl) (hdb:(x==("__debug__":Str))=false:=by decide) (he:starEach (e::es) X.env=(false,eval e X.env)::starEach es X.env:=by rfl) (hpl:(backTo pos (starEach es X.env)).any (·.1)=false:=by rfl):
  SE X E0x (.Call (.Name x p) (e::es) [] pos) (zaI (zak n F) fs):=zqg G hr hg hm hk hb ha hdb he hpl
theorem zbp:SSs X E [] zeu:=zs0
theorem zam {st:Stmt} {g:FS} (h1:SS X E st g):SSs X E [st] g:=zsD h1
theorem zaf {st:Stmt} {rest:List Stmt} {g g':FS} (h1:SS X E st g) (h2:SSs X E rest g'):SSs X E (st::rest) (zar g g'):=zqA h1 h2
theorem zaS (he:SE X E e f):SS X E (.Return (some e) pos) (zb1 f):=zuD he
theorem ze1 {ys ns:List Stmt} {t:FT} {g g':FS} (hc:ST X E c t) (ha:SSs X E ys g) (hb:SSs X E ns g'):SS X E (.If c ys ns pos) (sIf t g g'):=zvC hc ha hb
theorem zcI (he:SE X E e f) (hs:swapsWith e none pos.line X.env=pure false:=by rfl):SS X E (.Expr e pos) (zdD f):=zrG he hs
theorem zaR (i:Nat) (hN:X.N.Nodup) (he:SE X E e f) (hi:X.N[i]? = some x:=by rfl) (hx:Loc X.env.scope x:=by first | exact Or.inl rfl | exact Or.inr rfl) (hf:X.fn x=true\/X.env.scope.names.lookup x=some .local:=by first | exact Or.inl rfl | exact Or.inr rfl)
  (hs:swapsWith e (some (.Name x p)) pos.line X.env=pure false:=by rfl):SS X E (.Assign [.Name x p] e pos) (zb3 i f):=ztF i hN hi hx hf he hs
theorem znA {tg:Expr} {g:D->Sd->M Sd} (he:SE X E e f) (hg:SG X E tg g) (hs:swapsWithSole [tg] e pos.line X.env=pure false:=by rfl) (hw:swappedStores [tg] e X.env=pure none:=by rfl)
  (h1:(assignEach [tg] X.env).map (·.2)=[assign tg X.env]:=by rfl):SS X E (.Assign [tg] e pos) (zrm f g):=zux he hg hs hw h1
theorem zaB (i:Nat) (hN:X.N.Nodup) (hi:X.N[i]? = some x:=by rfl) (hx:Loc X.env.scope x:=by first | exact Or.inl rfl | exact Or.inr rfl) (hf:X.fn x=true\/X.env.scope.names.lookup x=some .local:=by first | exact Or.inl rfl | exact Or.inr rfl):SG X E (.Name x pos) (zbC i):=zpD i hN hi hx hf
theorem zhe:SGs X E [] zf0:=zqZ
theorem zcs {g:D->Sd->M Sd} {gs:List D->Sd->M Sd} (h1:SG X E e g) (h2:SGs X E es gs) (hs:(assignEach (e::es) X.env).map (·.2)=assign e X.env::(assignEach es X.env).map (·.2):=by rfl):SGs X E (e::es) (zb6 g gs):=znG h1 h2 hs
theorem zjD {k n:Nat} {gs:List D->Sd->M Sd} (hc:X.calm=true) (h:SGs X E es gs) (hn:(assignEach es X.env).length=n:=by rfl) (hst:(assignEach es X.env).findIdx? (·.1)=none:=by rfl):SG X E (.Tuple es k pos) (zfS n gs):=zsV hc h hn hst
theorem zrM (ho:SE X E a fa) (hi:SE X E b fb) (ha: ∀ v,assign (.Subscript a b pos) X.env v=(do
      let ov<-holding [v] (eval a X.env)
      let iv<-holding [v,ov] (eval b X.env)
      standAt pos
      holding [v,ov,iv] (setItem ov iv v)
      release [v,ov,iv] []):=by intro _;rfl):SG X E (.Subscript a b pos) (zq9 fa fb):=zti fun hs=>zsp ho hi hs ha
theorem zeo {tg:Expr} (he:SE X E e f):SI X E tg e (iSq f):=zs8 he
theorem zkd {tg:Expr} (hm:X.mg "range"=none) (ha:SA X E [a] fs) (hg:Gl X "range":=by rfl) (hs:starEach [a] X.env=[(false,eval a X.env)]:=by rfl):SI X E tg (.Call (.Name "range" p) [a] [] pos) (zmN fs):=zpm hg hm ha hs
theorem ziZ {tg iter:Expr} {body:List Stmt} {fi:FA} {g:D->Sd->M Sd} {gb:FS} (hc:X.calm=true) (hp:PassesOwn (model X.prog X.w) X.A X.env X.xe) (hi:SI X E tg iter fi) (hg:SG X E tg g) (hb:SSs X E body gb)
  (hs: ∀ x,foldedSetIterable iter X.env x=pure x:=by intro _;rfl):SS X E (.For tg iter body [] pos) (zkQ fi g gb):=ztH hc hp hi hg hb hs
theorem zdG:SCs X E [] (fun _=>pure true):=zsJ
theorem zia {t:FT} (h:ST X E c t):SCs X E [c] t:=zsP h
theorem zc5 {scope:Scope} {N:List Str} {src:List (Option Nat)} {tg iter elt:Expr} {ifs:List Expr} {fi:FA} {g:D->Sd->M Sd} {tc:FT} {te:FE} (hc:X.calm=true) (B:BOk X scope N src) (hk:zaY g src) (hi:SI X E tg iter fi)
  (hg: ∀ s H fp,SG (cxB X scope N s H fp) E tg g) (ht: ∀ s H fp,SCs (cxB X scope N s H fp) E ifs tc) (he: ∀ s H fp,SE (cxB X scope N s H fp) E elt te)
  (hs: ∀ x,foldedSetIterable iter X.env x=pure x:=by intro _;rfl):SE X E (.ListComp elt [⟨tg,iter,ifs,0⟩] scope pos) (zba fi g tc te src):=zpn B hk hi hg ht he hs
theorem zl3 {scope:Scope} {N:List Str} {src:List (Option Nat)} {tg iter elt:Expr} {ifs:List Expr} {fi:FA} {g:D->Sd->M Sd} {tc:FT} {te:FE} (i:Nat) {y:Str} {py spos:Pos} (hc:X.calm=true) (hN:X.N.Nodup) (B:BOk X scope N src) (hk:zaY g src) (hi:SI X E tg iter fi)
  (hg: ∀ s H fp,SG (cxB X scope N s H fp) E tg g) (ht: ∀ s H fp,SCs (cxB X scope N s H fp) E ifs tc) (he: ∀ s H fp,SE (cxB X scope N s H fp) E elt te)
  (hy:X.N[i]? = some y:=by rfl) (hx:Loc X.env.scope y:=by first | exact Or.inl rfl | exact Or.inr rfl) (hf:X.fn y=true\/X.env.scope.names.lookup y=some .local:=by first | exact Or.inl rfl | exact Or.inr rfl) (hsw:swapsWith (.ListComp elt [⟨tg,iter,ifs,0⟩] scope pos) (some (.Name y py)) spos.line X.env=pure true:=by rfl)
  (hs: ∀ x,foldedSetIterable iter X.env x=pure x:=by intro _;rfl):SS X E (.Assign [.Name y py] (.ListComp elt [⟨tg,iter,ifs,0⟩] scope pos) spos) (zb3 i (zba fi g tc te src)):=zmB i B hk hi hg ht he hN hy hx hf hsw hs
end
theorem za4.empty {K:W.Frag} {H:Hp}:za4 K ⟨[],[]⟩ H []:=⟨rfl,fun m n a h=>by simp at h,fun n a c h=>by simp at h,fun n h=>by simp at h,fun a h=>by cases h⟩
theorem zuB {K:W.Frag} {F:List D->M D} {H:Hp} {a:Addr} {ns:List Int} (hS:SqL K H a (ns.map V.int)) (hm: ∃ h',F [.scr (ns.map D.int)] []= .ok (.bl true) h'):zbO K 1 F [.ref a] H (fun v _=>v= .bl true) fun _ _ _=>False:=by
 obtain ⟨h',e⟩:=hm
 refine ⟨rfl,⟨[],[]⟩,[],[.scr (ns.map D.int)],zaq.cons ?_ zaq.nil,za4.empty,?_⟩
 ·simp only [Rel]
  refine ⟨a,ns.map V.int,rfl,?_,zdh.mpr rfl⟩
  rcases hS with h | h
  ·exact .inl ⟨h,fun z=>by rcases z with z | z<;>cases z⟩
  ·exact .inr (.inr h)
 ·rw [e]
  intro ι1 H1 s hr v rv
  simpa [Rel] using rv
section
variable {sd:Sd} {a b:FE} {fs:FA} {t u:FT} {g g':FS} {F:D->D->M D}
@[simp] theorem zdE:cOp F a b sd=(do let x<-a sd;let y<-b sd;F x y):=rfl
@[simp] theorem zhK {F:D->M D}:cUn F a sd=(do let x<-a sd;F x):=rfl
@[simp] theorem za5 {F:List D->M D}:zaI F fs sd=(do let ds<-fs sd;F ds):=rfl
@[simp] theorem zei:zd0 F a b sd=(do let z<-(do let x<-a sd;let y<-b sd;F x y);zdp z):=rfl
@[simp] theorem zeF:zih a sd=(do let x<-a sd;zdp x):=rfl
@[simp] theorem zeL:zgO t sd=(do let c<-t sd;pure (!c)):=rfl
@[simp] theorem zsS:zsb t u sd=(do let c<-t sd;if c=true then u sd else pure false):=rfl
@[simp] theorem zkK:tOr t u sd=(do let c<-t sd;if c=true then pure true else u sd):=rfl
@[simp] theorem zhX:zo8 a b sd=(do let c<-(do let x<-a sd;zdp x);if c=true then b sd else pure (.bl false)):=rfl
@[simp] theorem ztO:cOr a b sd=(do let c<-(do let x<-a sd;zdp x);if c=true then pure (.bl true) else b sd):=rfl
@[simp] theorem zkA:zto a sd=(do let c<-(do let x<-a sd;zdp x);pure (.bl (!c))):=rfl
@[simp] theorem zuk:cIf t a b sd=(do let c<-t sd;if c=true then a sd else b sd):=rfl
@[simp] theorem zfL {d:D}:cK d sd=pure d:=rfl
@[simp] theorem zaT:zal sd=pure []:=rfl
@[simp] theorem zaC:zab a fs sd=(do let x<-a sd;let r<-fs sd;pure (x::r)):=rfl
@[simp] theorem zhV:zbg fs sd=(do let ds<-fs sd;fits ds.length;pure (.tup ds)):=rfl
@[simp] theorem zhZ:zfH fs sd=(do let ds<-fs sd;fits ds.length;pure (.lst ds)):=rfl
@[simp] theorem zhd:zhr fs sd=(do let ds<-fs sd;fits ds.length;zfn ds):=rfl
@[simp] theorem zcR:zeu sd=pure (.nx sd):=rfl
@[simp] theorem zaz:zar g g' sd=(do let o<-g sd;andThen o g'):=rfl
@[simp] theorem zb5 {i:Nat}:zb3 i a sd=(do let d<-a sd;pure (.nx (sd.set i (some d)))):=rfl
@[simp] theorem zbQ:zb1 a sd=(do let d<-a sd;pure (.rt d)):=rfl
@[simp] theorem zeg:sIf t g g' sd=(do let c<-t sd;if c=true then g sd else g' sd):=rfl
@[simp] theorem zgk {fi:FA} {gt:D->Sd->M Sd}:zkQ fi gt g sd=(do let ds<-fi sd;zbv (fun x sd=>do let sd1<-gt x sd;g sd1) ds sd):=rfl
@[simp] theorem zo5 {gt:D->Sd->M Sd}:zrm a gt sd=(do let d<-a sd;let sd'<-gt d sd;pure (.nx sd')):=rfl
@[simp] theorem zfI:zdD a sd=(do let _<-a sd;pure (.nx sd)):=rfl
@[simp] theorem zsC:iSq a sd=(do let d<-a sd;zgr d):=rfl
@[simp] theorem zjE:zmN fs sd=(do let ds<-fs sd;zmy ds):=rfl
@[simp] theorem zpv {d:D}:zq9 a b d sd=(do let x<-a sd;let y<-b sd;zlX x y d;pure sd):=rfl
@[simp] theorem zdL {i:Nat} {d:D}:zbC i d sd=pure (sd.set i (some d)):=rfl
@[simp] theorem zgW:andThen (.nx sd) g=g sd:=rfl
@[simp] theorem zuJ {d:D}:andThen (.rt d) g=pure (.rt d):=rfl
@[simp] theorem zvN:andThen (.bk sd) g=pure (.bk sd):=rfl
@[simp] theorem zvM:andThen (.ct sd) g=pure (.ct sd):=rfl
@[simp] theorem ztB:zcC (.nx sd)=pure .non:=rfl
@[simp] theorem zgG {d:D}:zcC (.rt d)=pure d:=rfl
@[simp] theorem zbH {c:Bool}:zdp (.bl c)=pure c:=rfl
@[simp] theorem zuI {lo hi:Sd->M (Option Int)}:cSl a lo hi sd=(do let d<-a sd;let l<-lo sd;let u<-hi sd;dSl d l u):=rfl
@[simp] theorem zqf:zj2 sd=pure none:=rfl
@[simp] theorem zp0:zkk a sd=(do let d<-a sd;zqJ d):=rfl
@[simp] theorem zrv {i:Int}:zqJ (.int i)=pure (some i):=rfl
@[simp] theorem zt3 {ds:List D} {lo hi:Option Int}:dSl (.tup ds) lo hi=pure (.tup (zgc ds lo hi)):=rfl
@[simp] theorem ztR {ds:List D}:zvu (.tup ds)=pure (.tup ds.reverse):=rfl
@[simp] theorem zsF {i:Int}:zov (.int i)=pure (.int (-i)):=rfl
@[simp] theorem zfh {i j:Int}:zex (.int i) (.int j)=pure (.int (i+j)):=rfl
@[simp] theorem zta {xs ys:List D}:zex (.tup xs) (.tup ys)=(do fits (xs.length+ys.length);pure (.tup (xs++ys))):=rfl
@[simp] theorem zoG {xs ys:List D}:zex (.lst xs) (.lst ys)=(do fits (xs.length+ys.length);pure (.lst (xs++ys))):=rfl
@[simp] theorem zuA {i j:Int}:ztp (.int i) (.int j)=pure (.int (i - j)):=rfl
@[simp] theorem zvG {i j:Int}:zvq (.int i) (.int j)=pure (.int (Builtin.bitAnd i j)):=rfl
@[simp] theorem zry {i j:Int}:dLt (.int i) (.int j)=pure (.bl (decide (i<j))):=rfl
@[simp] theorem zu1 {i j:Int}:dLe (.int i) (.int j)=pure (.bl (decide (i<=j))):=rfl
@[simp] theorem ztt {i j:Int}:dGt (.int i) (.int j)=pure (.bl (decide (j<i))):=rfl
@[simp] theorem ztA {i j:Int}:dGe (.int i) (.int j)=pure (.bl (decide (j<=i))):=rfl
@[simp] theorem ztM {i j:Bool}:zsf (.bl i) (.bl j)=pure (.bl (i != j)):=rfl
@[simp] theorem zkx {ds:List D}:zin [.tup ds]=pure (.int ds.length):=rfl
@[simp] theorem zoN {ds:List D}:zin [.lst ds]=pure (.int ds.length):=rfl
@[simp] theorem zoy {ds:List D}:zin [.scr ds]=pure (.int ds.length):=rfl
@[simp] theorem ztf {ds:List D}:zcM [.tup ds]=pure (.tup ds):=rfl
@[simp] theorem zoA {ds:List D}:zcM [.lst ds]=pure (.tup ds):=rfl
@[simp] theorem zrP {ds:List D}:zlH [.tup ds]=pure (.lst ds):=rfl
@[simp] theorem zr2 {ds:List D}:zgr (.tup ds)=pure ds:=rfl
@[simp] theorem zrB {ds:List D}:zgr (.lst ds)=pure ds:=rfl
@[simp] theorem zdZ {F:List D->M D} {x:D}:zak 1 F [x]=F [x]:=rfl
@[simp] theorem zbJ {F:List D->M D} {x y:D}:zak 2 F [x,y]=F [x,y]:=rfl
@[simp] theorem zk1 {F:List D->M D} {x y z:D}:zak 3 F [x,y,z]=F [x,y,z]:=rfl
@[simp] theorem zea {body:D->Sd->M Out}:zbv body [] sd=pure (.nx sd):=rfl
theorem zde {body:D->Sd->M Out} {x:D} {r:List D}:zbv body (x::r) sd=(do let o<-body x sd;match o with | .nx sd'=>zbv body r sd' | .ct sd'=>zbv body r sd' | .bk sd'=>pure (.nx sd') | .rt d=>pure (.rt d)):=rfl
@[simp] theorem zkN {gs:List D->Sd->M Sd} {x y:D}:zfS 2 gs (.tup [x,y]) sd=gs [x,y] sd:=rfl
@[simp] theorem zlj:zf0 [] sd=pure sd:=rfl
@[simp] theorem zjM {gt:D->Sd->M Sd} {gs:List D->Sd->M Sd} {x:D} {r:List D}:zb6 gt gs (x::r) sd=(do let sd1<-gt x sd;gs r sd1):=rfl
@[simp] theorem zsH {n:Nat} {k:Int} {d:D}:zlX (.cel n) (.int k) d=(do let ds<-zah n;let j<-ofO (ixN ds.length k);zbe n (ds.set j d)):=rfl
@[simp] theorem zqv {ds:List D} {i:Int}:dIx (.tup ds) (.int i)=ofO (atI ds i):=rfl
@[simp] theorem zpp {ds:List D} {i:Int}:dIx (.lst ds) (.int i)=ofO (atI ds i):=rfl
@[simp] theorem zui {ds:List D} {i:Int}:dIx (.scr ds) (.int i)=ofO (atI ds i):=rfl
@[simp] theorem ztG {n:Nat} {i:Int}:dIx (.cel n) (.int i)=(do let ds<-zah n;ofO (atI ds i)):=rfl
@[simp] theorem ziT {α:Type} {x:α}:ofO (some x)=pure x:=rfl
@[simp] theorem zn7 {x:D} {r:List D}:atI (x::r) 0=some x:=by unfold atI ixN;simp
@[simp] theorem zpB {x y:D} {r:List D}:atI (x::y::r) 1=some y:=by
 have:=zdN (xs:=x::y::r) (j:=1) (v:=y) rfl
 simpa using this
end
theorem zax {n:Nat} (h:n<=1000):fits n=pure ():=by
 unfold fits
 rw [qa4 (qaS h (by decide))]
theorem znm {i j:Int} (h:(zbd i || zbd j)=true):zpr (.int i) (.int j)=pure (.int (i*j)):=by
 show (if (zbd i || zbd j)=true then _ else _)=_
 rw [qa4 h]
theorem zgF {i:Int} (h: -1000000000000000<i) (h':i<1000000000000000):zbd i=true:=by unfold zbd;simp;omega
theorem zs6 {i j:Int} (h: -1000000000000000<i) (h':i<1000000000000000):zpr (.int i) (.int j)=pure (.int (i*j)):=znm (by rw [zgF h h'];rfl)
theorem ziP {i j:Int} (h:0<j):zrn (.int i) (.int j)=pure (.int (i % j)):=by
 show (if (decide (0<j))=true then _ else _)=_
 rw [qa4 (by simpa using h)]
theorem zog {i j:Int} (h:0<j) (h':j<2^64):zqy (.int i) (.int j)=pure (.int (i / j)):=by
 show (if (decide (0<j) && decide (j<2^64))=true then _ else _)=_
 rw [qa4 (by rw [qaG];exact ⟨by simpa using h,by simpa using h'⟩)]
theorem ztW {i j:Int}:dEq (.int i) (.int j)=pure (.bl (i==j)):=by
 unfold dEq zkw
 simp only [pd]
 rw [qa4 (show zkc (.int i) (.int j)=true from rfl)]
 rfl
theorem zvk {i j:Int}:dNe (.int i) (.int j)=pure (.bl (!(i==j))):=by
 unfold dNe zkw
 simp only [pd]
 rw [qa4 (show zkc (.int i) (.int j)=true from rfl)]
 rfl
def wp {α:Type} (m:M α) (h:Hh) (P:α->Hh->Prop):Prop:= ∃ a h',m h= .ok a h'/\P a h'
section
variable {α β:Type} {h:Hh} {P P':α->Hh->Prop}
theorem zan {a:α}:wp (pure a:M α) h P↔P a h:=⟨fun ⟨b,h',e,q⟩=>by cases (show R.ok a h=R.ok b h' from e);exact q,fun q=>⟨a,h,rfl,q⟩⟩
theorem zai {m:M β} {f:β->M α}:wp (m>>=f) h P↔wp m h fun b h'=>wp (f b) h' P:=by
 constructor
 ·rintro ⟨a,h',e,q⟩
  have e:M.bind m f h= .ok a h':=e
  unfold M.bind at e
  cases z:m h with
  | ok b h1=>rw [z] at e;exact ⟨b,h1,z,a,h',e,q⟩
  | exc c h1=>rw [z] at e;cases e
  | bad=>rw [z] at e;cases e
 ·rintro ⟨b,h1,e,a,h',e2,q⟩
  refine ⟨a,h',?_,q⟩
  show M.bind m f h=_
  unfold M.bind
  rw [e]
  exact e2
theorem zey {m:M α} (q:wp m h P) (k: ∀ a h',P a h'->P' a h'):wp m h P':=by
 obtain ⟨a,h',e,q⟩:=q
 exact ⟨a,h',e,k _ _ q⟩
theorem zce {n:Nat} {ds:List D} {P:List D->Hh->Prop} (e:h[n]? = some (.lst ds)):wp (zah n) h P↔P ds h:=by
 unfold wp zah
 rw [e]
 exact ⟨fun ⟨b,h',e,q⟩=>by cases e;exact q,fun q=>⟨_,_,rfl,q⟩⟩
theorem zic {n:Nat} {ds:List D} {P:Unit->Hh->Prop}:wp (zbe n ds) h P↔P () (h.set n (.lst ds)):=⟨fun ⟨b,h',e,q⟩=>by cases (show R.ok () (h.set n (.lst ds))=R.ok b h' from e);exact q,fun q=>⟨_,_,rfl,q⟩⟩
theorem zjK {ds:List D} {P:D->Hh->Prop}:wp (zfn ds) h P↔P (.cel h.length) (h++[.lst ds]):=⟨fun ⟨b,h',e,q⟩=>by cases (show R.ok (D.cel h.length) (h++[C.lst ds])=R.ok b h' from e);exact q,fun q=>⟨_,_,rfl,q⟩⟩
end
theorem zgp {f:D->M (Option D)} {k:D->Option D}: ∀ {ds:List D},(∀ x∈ds,f x=pure (k x))->zco f ds=pure (ds.filterMap k)
 | [],_=>rfl
 | x::r,hf=>by
  rw [zco,hf x qau,zgp fun y hy=>hf y (qan _ hy)]
  simp only [pure_bind]
  cases e:k x<;>simp [qat,e]
theorem zks {fi:FA} {g:D->Sd->M Sd} {tc:FT} {te:FE} {src:List (Option Nat)} {sd:Sd} {ds:List D} {k:D->Option D} (hi:fi sd=pure ds) (hl:ds.length<=1000) (hf: ∀ x∈ds,zbw g tc te (zao src sd) x=pure (k x)):zba fi g tc te src sd=pure (.lst (ds.filterMap k)):=by
 unfold zba
 rw [hi]
 simp only [pure_bind]
 rw [zax hl]
 simp only [pure_bind]
 rw [zgp hf]
 simp only [pure_bind]
theorem zhO {fi:FA} {g:D->Sd->M Sd} {tc:FT} {te:FE} {src:List (Option Nat)} {sd:Sd} {ds:List D} {k:D->D} (hi:fi sd=pure ds) (hl:ds.length<=1000) (hf: ∀ x∈ds,zbw g tc te (zao src sd) x=pure (some (k x))):zba fi g tc te src sd=pure (.lst (ds.map k)):=by
 rw [zks (k:=fun x=>some (k x)) hi hl hf]
 simp
theorem zjI: ∀ bs:List Bool,znj (bs.map D.bl)=some bs
 | []=>rfl
 | b::r=>by rw [qaM,znj,zjI r];rfl
theorem zdo: ∀ bs:List Int,zdQ (bs.map D.int)=some bs
 | []=>rfl
 | b::r=>by rw [qaM,zdQ,zdo r];rfl
theorem zlF (bs:List Bool):ztu [.lst (bs.map D.bl)]=pure (.bl (bs.all id)):=by
 show (do let bs<-ofO (znj (bs.map D.bl));pure (.bl (bs.all id)):M D)=_
 rw [zjI]
 rfl
noncomputable def kn:D->Bool
 | .non | .bl _ | .int _ | .str _ | .tup _ | .lst _ | .dct=>true
 | _=>false
noncomputable def isT:D->Bool
 | .tup _=>true
 | _=>false
noncomputable def isI:D->Bool
 | .int _=>true
 | _=>false
theorem zhQ {d:D} (k:kn d=true):ziB "tuple" d=pure (.bl (isT d)):=by
 cases d<;>simp [kn] at k<;>simp [ziB,tyD,isB,isT]
theorem zmv {d:D} (k:kn d=true):ziB "int" d=pure (.bl (isI d || (match d with | .bl _=>true | _=>false))):=by
 cases d<;>simp [kn] at k<;>simp [ziB,tyD,isB,isI]
theorem zpc {d:D} (k:kn d=true):ziB "bool" d=pure (.bl (match d with | .bl _=>true | _=>false)):=by
 cases d<;>simp [kn] at k<;>simp [ziB,tyD,isB,isI]
mutual
noncomputable def zg5:D->Bool
 | .non | .bl _ | .int _=>true
 | .str x=>PyData.strOk x
 | .tup ds=>decide (ds.length<64) && zfO ds
 | .lst ds=>decide (ds.length<64) && zfO ds
 | _=>false
noncomputable def zfO:List D->Bool
 | []=>true
 | d::r=>zg5 d && zfO r
end
theorem zhR: ∀ {ds:List D},zfO ds=true↔ ∀ d∈ds,zg5 d=true
 | []=>by simp [zfO]
 | d::r=>by simp [zfO,zhR (ds:=r)]
theorem ze4 {d:D} (g:zg5 d=true):kn d=true:=by cases d<;>simp [zg5,kn] at g ⊢
theorem zmh {ds:List D}:zg5 (.tup ds)=true↔ds.length<64/\ ∀ d∈ds,zg5 d=true:=by simp [zg5,zhR]
mutual
theorem zpl: ∀ {d:D},zg5 d=true-> ∃ p,pd d=some p/\p.canLay0=true
 | .non,_=>⟨.none,rfl,rfl⟩
 | .bl b,_=>⟨.bool b,rfl,rfl⟩
 | .int i,_=>⟨.int i,rfl,rfl⟩
 | .str x,g=>⟨.str x,rfl,by simpa [zg5,PyData.canLay0] using g⟩
 | .tup ds,g=>by
  have g2:zfO ds=true:=by simp [zg5] at g;exact g.2
  obtain ⟨ps,e,c⟩:=zg6 g2
  exact ⟨.tuple ps,by unfold pd;rw [e];rfl,c⟩
 | .lst ds,g=>by
  have g2:zfO ds=true:=by simp [zg5] at g;exact g.2
  obtain ⟨ps,e,c⟩:=zg6 g2
  exact ⟨.list ps,by unfold pd;rw [e];rfl,c⟩
 | .cel _,g=>by simp [zg5] at g
 | .set _,g=>by simp [zg5] at g
 | .dct,g=>by simp [zg5] at g
 | .fn _,g=>by simp [zg5] at g
 | .scr _,g=>by simp [zg5] at g
 | .exn _,g=>by simp [zg5] at g
theorem zg6: ∀ {ds:List D},zfO ds=true-> ∃ ps,pdL ds=some ps/\PyData.canLayAll0 ps=true
 | [],_=>⟨[],rfl,rfl⟩
 | d::r,g=>by
  simp [zfO] at g
  obtain ⟨p,e,c⟩:=zpl g.1
  obtain ⟨ps,e2,c2⟩:=zg6 g.2
  exact ⟨p::ps,by unfold pdL;rw [e,e2],by simp [PyData.canLayAll0,c,c2]⟩
end
theorem zcc: ∀ xs:List Int,pdL (xs.map D.int)=some (xs.map PyData.int)
 | []=>rfl
 | x::r=>by rw [qaM,pdL,zcc r];rfl
theorem zbl: ∀ xs:List Int,PyData.canLayAll0 (xs.map PyData.int)=true
 | []=>rfl
 | x::r=>by simp [PyData.canLayAll0,PyData.canLay0,zbl r]
theorem zbR: ∀ xs:List Int,PyData.depthAll (xs.map PyData.int)=0
 | []=>rfl
 | x::r=>by simp [PyData.depthAll,PyData.depth,zbR r]
theorem zeZ: ∀ xs ys:List Int,PyData.eqvAll (xs.map PyData.int) (ys.map PyData.int)=(xs==ys)
 | [],[]=>rfl
 | [],_::_=>rfl
 | _::_,[]=>rfl
 | x::xs,y::ys=>by
  simp only [qaM,PyData.eqvAll,PyData.eqv,zeZ xs ys]
  rfl
theorem zgw (k:Int): ∀ xs:List Int,((xs.map PyData.int).any fun y=>PyData.eqv y (.int k))=xs.any (· == k)
 | []=>rfl
 | x::r=>by simp only [qaM,List.any_cons,zgw k r];rfl
theorem zg4 (k:Int) (xs:List Int):dIn (.int k) (.tup (xs.map D.int))=pure (.bl (xs.any (· == k))):=by
 show zo3 false (.int k) (.tup (xs.map D.int))=_
 unfold zo3
 simp only [pd]
 rw [zcc]
 have c:zn5 (.int k) (xs.map PyData.int)=true:=by
  unfold zn5
  simp [PyData.canLay0,zbl,PyData.depth,zbR]
 simp only [c,if_true,zgw]
 rfl
end L3
namespace L2
open PySem PySem.Spec PyProof.Rows LT
section
variable {X:Cx}
theorem zhs:zaN X (.builtin "divmod") (fun xs H Q=> ∃ i j:Int,xs=[.int i,.int j]/\0<j/\j<2^100/\ ∀ p,H p=none->Q (.ref p) (upd H p (.tup [.int (i / j),.int (i % j)]))):=by
 intro pins s σ H xs us Q I r h
 obtain ⟨i,j,rfl,h0,h1,q⟩:=h
 cases r with
 | cons r1 r2=>
  cases r2 with
  | cons r3 r4=>
   cases r4
   obtain ⟨t,rfl⟩:=r1
   obtain ⟨u,rfl⟩:=r3
   refine divmod_int (by omega) ?_ (.inl (PyProof.noPylong_of_log2 ?_))
   ·refine ⟨.ref s.heap.objs.size,_,I.laid (t':=s.toks+1+1) (o:= .tup [.int (i / j),.int (i % j)]) (fun b ob q=>qag _ q) (qaV _) ?_,rfl,q _ (I.hok.fresh (qaV _))⟩
    refine ⟨by show 2<=sizeLine;decide,[.int (i.fdiv j) s.toks,.int (i.fmod j) (s.toks+1)],.cons ⟨s.toks,by rw [Int.fdiv_eq_ediv_of_nonneg _ (by omega)]⟩ (.cons ⟨s.toks+1,by rw [Int.fmod_eq_emod_of_nonneg _ (by omega)]⟩ .nil),IsTup.new _ _⟩
   ·have h1:j.natAbs<2^100:=by omega
    have h0:j.natAbs≠0:=by omega
    exact Nat.lt_trans ((Nat.log2_lt h0).mpr h1) (by decide)
end
end L2
namespace L3
open PySem PySem.Spec PyProof.Rows L2 LT
section
variable {X:Cx} {E:XE} {a b c o e:Expr} {pos apos cpos:Pos} {fa fb fc fo fe:FE}
noncomputable def zfm:List D->M D
 | [.int i,.int j]=>if 0<j/\j<2^100 then pure (.tup [.int (i / j),.int (i % j)]) else M.bad
 | _=>M.bad
theorem zhC:zaN X (.builtin "divmod") (ziV X.K E zfm):=by
 refine zaN.imp zhs fun xs H Q ⟨ι,h,ds,rl,hr,q⟩=> ?_
 unfold zfm at q
 split at q
 ·simp only [zaq,Rel] at rl
  obtain ⟨v,r,rfl,rfl,v',r',rfl,rfl,rfl⟩:=rl
  obtain ⟨⟨c1,c2⟩,q⟩:=Fin.guard q
  refine ⟨_,_,rfl,c1,c2,fun p hp=>zrj hr ?_ q hp⟩
  exact zaq.cons (by simp [Rel]) (zaq.cons (by simp [Rel]) zaq.nil)
 ·exact qa0 q
noncomputable def zfE (F F':D->D->M D) (a b c:FE):FE:=fun sd=>do
 let x<-a sd
 let y<-b sd
 let z<-F x y
 let k<-zdp z
 if k=true then do let w<-c sd;F' y w else pure (.bl false)
theorem zoq {K:W.Frag} {F F':D->D->M D} (σ:St) (H:Hp) (Q:VK) (q:zf8 K E (zfE F F' fa fb fc) σ H Q):zoR (zd2 K E F) (zd2 K E F') (zf8 K E fa) (zf8 K E fb) (zf8 K E fc) σ H Q:=by
 obtain ⟨ι,h,sd,L,hh,q⟩:=q
 refine ⟨ι,h,sd,L,hh,Fin.bind q fun d1 h1 ι1 H1 e1 s1 hr1 q1 v r1=> ?_⟩
 refine ⟨ι1,h1,sd,L.step s1,hr1,Fin.bind q1 fun d2 h2 ι2 H2 e2 s2 hr2 q2 w r2=> ?_⟩
 refine ⟨ι2,h2,d1,d2,r1.step s2,r2,hr2,Fin.bind q2 fun z h3 ι3 H3 e3 s3 hr3 q3 u r3=> ?_⟩
 cases z with
 | bl k=>
  simp only [Rel] at r3
  refine ⟨k,r3,?_⟩
  have L3':=((L.step s1).step s2).step s3
  cases k with
  | false=>exact zpM (Fin.out hr3 q3 _ (by simp [Rel]))
  | true=>
   refine zpW ⟨ι3,h3,sd,L3',hr3,Fin.bind q3 fun d4 h4 ι4 H4 e4 s4 hr4 q4 w4 r4=> ?_⟩
   exact ⟨ι4,h4,d2,d4,(r2.step s3).step s4,r4,hr4,q4⟩
 | _=>exact qa0 q3
theorem zoa {op op':CmpOp} {F F':D->D->M D} (ho:OpR X (compareOp op) (zd2 X.K E F)) (ho':OpR X (compareOp op') (zd2 X.K E F')) (ha:SE X E a fa) (hb:SE X E b fb) (hc:SE X E c fc)
  (hm:lastMarks [op,op'] [b,c]=false:=by with_unfolding_all rfl):ST X E (.Compare a [op,op'] [b,c] pos) (zih (zfE F F' fa fb fc)):=by
 refine PT.imp (znq ho ho' ha hb hc hm) fun σ H Q q=> ?_
 exact zoq σ H _ (zfx (f:=zfE F F' fa fb fc) σ H Q q)
noncomputable def zdH:D->M Unit
 | .cel n=>do let _<-zah n;pure ()
 | _=>M.bad
noncomputable def zcX (x y:D):M D:=match x with
 | .cel n=>do
  let ds<-zah n
  fits (ds.length+1)
  zbe n (ds++[y])
  pure .non
 | _=>M.bad
noncomputable def zdT (fo fe:FE):FE:=fun sd=>do
 let x<-fo sd
 zdH x
 let y<-fe sd
 zcX x y
theorem zff {α:Type} {K:W.Frag} {ι:Io} {H:Hp} {h:Hh} {n:Nat} {f:List D->M α} {P:α->Io->Hp->Prop} (q:Fin K E ι H ((zah n>>=f) h) P): ∃ ds,h[n]? = some (.lst ds)/\Fin K E ι H (f ds h) P:=by
 have q':Fin K E ι H (M.bind (zah n) f h) P:=q
 unfold M.bind at q'
 cases z:zah n h with
 | bad=>rw [z] at q';exact qa0 q'
 | exc c h'=>unfold zah at z;split at z<;>cases z
 | ok ds h'=>
  rw [z] at q'
  obtain ⟨rfl,z2⟩:=zcH z
  exact ⟨ds,z2,q'⟩
theorem zgy (ho:SE X E o fo) (he:SE X E e fe)
  (hbase:attributeBase o "append" X.env (eval o X.env)=eval o X.env:=by rfl)
  (hfew:((backTo cpos (starEach [e] X.env)).all (fun x=> !x.1) && (backToKw cpos (keywordEach [] X.env)).all (fun x=>x.1.isSome)
    && decide (([e]:List Expr).length+([]:List Keyword).length+(if ([]:List Keyword).isEmpty then 0 else 1)<30))=true:=by rfl)
  (hline:(apos.endLine==cpos.line)=true:=by rfl) (hs:starEach [e] X.env=(false,eval e X.env)::starEach [] X.env:=by rfl) (hplain:(backTo cpos (starEach [] X.env)).any (·.1)=false:=by rfl):
  SE X E (.Call (.Attribute o "append" apos) [e] [] cpos) (zdT fo fe):=by
 refine PE.imp (zoi PySem.F.plainAttrs_list PySem.F.slot_list_append PySem.F.type_list_append zh8 ho (zcg he zed hs) hbase hfew hline hs hplain) fun σ H Q ⟨ι,h,sd,L,hh,q⟩=>⟨ι,h,sd,L,hh,Fin.bind q fun d h1 ι1 H1 e1 s1 hr1 q1 v rv=> ?_⟩
 cases d with
 | cel n=>
  have q2:Fin X.K E ι1 H1 ((zah n>>=fun _=>fe sd>>=fun y=>zcX (.cel n) y) h1) (fun d ι' H'=> ∀ v,Rel X.K ι' H' d v->Q v H'):=by
   have ee:(zdH (.cel n)>>=fun _=>fe sd>>=fun y=>zcX (.cel n) y:M D)=(zah n>>=fun _=>fe sd>>=fun y=>zcX (.cel n) y):=by
    show ((zah n>>=fun _=>pure ())>>=fun _=>fe sd>>=fun y=>zcX (.cel n) y)=_
    simp only [bind_assoc,pure_bind]
   rw [<- ee]
   exact q1
  obtain ⟨ds,e2,q3⟩:=zff q2
  obtain ⟨a,vs,rfl,hn,hH,rl⟩:=hr1.read rv e2
  refine ⟨.inl ⟨rfl,vs,SqL.of hH⟩,ι1,h1,sd,L.step s1,hr1,Fin.bind q3 fun y h3 ι3 H3 e3 s3 hr3 q4 w rw'=> ?_⟩
  have rv3:=rv.step s3
  have q5:Fin X.K E ι3 H3 ((zah n>>=fun ds=>fits (ds.length+1)>>=fun _=>zbe n (ds++[y])>>=fun _=>pure D.non) h3) (fun d ι' H'=> ∀ v,Rel X.K ι' H' d v->Q v H'):=q4
  obtain ⟨ds3,e4,q6⟩:=zff q5
  obtain ⟨a3,vs3,ea,hn3,hH3,rl3⟩:=hr3.read rv3 e4
  cases ea
  obtain ⟨z,q7⟩:=Fin.fits q6
  refine ⟨a,vs3,w,rfl,rfl,hH3,by rw [<- rl3.length];omega,?_⟩
  have q8:Fin X.K E ι3 H3 (R.ok D.non (h3.set n (.lst (ds3++[y])))) (fun d ι' H'=> ∀ v,Rel X.K ι' H' d v->Q v H'):=q7
  exact q8 ι3 _ (hr3.cellS hn3) (hr3.cell hn3 (rl3.append (zaq.cons rw' zaq.nil))) _ (by simp [Rel])
 | _=>exact qa0 q1
end
end L3
namespace Att
open PySem PySem.W PySem.Calls PyProof.Rows
theorem zf7: ∀ {ns:List Int} {i:Int},i∈ns->Builtin.Int.intBits i<=WData.weightAll (ns.map WData.int)
 | n::r,i,h=>by
  rw [qaM,WData.weightAll]
  rcases qaP.mp h with e | e
  ·subst e
   have:WData.weight (.int i)=Builtin.Int.intBits i:=by simp only [WData.weight,Builtin.Int.intBits]
   omega
  ·have:=zf7 e
   omega
theorem zq2 {ns:List Int} (h:WData.layableAll [WData.list (ns.map WData.int)]=true): ∀ i∈ns,Builtin.Int.intBits i<=2^20:=by
 intro i hi
 have h2:WData.weight (WData.list (ns.map WData.int))<=2^20:=by
  simp only [WData.layableAll,List.all_cons,List.all_nil,Bool.and_true,WData.layable,qaG,qaD] at h
  exact h.2
 have h3:WData.weight (WData.list (ns.map WData.int))=WData.weightAll (ns.map WData.int):=by simp only [WData.weight]
 have:=zf7 hi
 omega
theorem zhz {l:OpenLaw} {n:Nat} {q:Program} {loose:List Str} {XP:(Str->Option Value)->Heap->Prop} {YP:World->Heap->Prop} {d:DefRec}
  (hn:l.most=some n) (hdf:d.params.defaults=[])
  (call: ∀ (w:World) (s₀ s₁:Shared) (mg mb:Str->Option Value) (fa:Addr) (o:Obj) (pm cd doc:Value) (a:Addr) (vs:List Value) (ns:List Int),
    Ground q loose [] XP w s₀ mg mb s₁.heap->YP w s₁.heap->
    s₁.heap.get? fa=some o->o.data= .func (docDef d.name d.params d.body d.scope pm cd doc)->s₁.heap.CodeRec cd d.name->mg d.name=some (.ref fa)->
    s₁.heap.get? a=some {cls:= .type "list",data:= .seq vs.toArray}->IntsAre vs ns->ns.length<=n->(∀ i∈ns,Builtin.Int.intBits i<=2^20)->s₁.gens= #[]->
    codeAny (model l.prog w) callerA (.call (.ref fa) ⟨[.ref a],[]⟩) (fun r s'=>r= .ok (.ret (.bool true))/\OldK s₁.heap s'.heap/\s'.os=s₁.os/\AllBare s'.gens) s₁):
  WalkO q loose XP YP l.row.toRowW d [] (fun f vs=>PySem.call f vs):=by
 intro w s₀ s₁ mg mb G Y fa o pm cd doc dV kV ho hd hcd hD hmg hg args vals as hpre hlay hrd hwl hlo
 obtain rfl:dV= .none:=Dflts.none hD hdf
 obtain rfl:kV= .none:=Dflts.noKw hD
 obtain ⟨a,vs,ns,rfl,rfl,hobj,hints,hlen⟩:=zl1 hn hpre hwl
 refine enter_call (codeAny_mono (call w s₀ s₁ mg mb fa o pm cd doc a vs ns G Y ho (fd_plain hd) hcd hmg hobj hints hlen (zq2 hlay) hg) fun r s' hq=> ?_)
 obtain ⟨rfl,h2,h3,h4⟩:=hq
 exact ⟨.inl ⟨.bool true,.bool true,[],rfl,fun _=>rfl,.bool true,zmq l _,fun _=>⟨List.Pairwise.nil,fun _ hm=>(nomatch hm)⟩⟩,h2,h3,h4⟩
end Att
namespace L2
open PySem PySem.Spec PyProof.Rows
theorem zm4 {l:W.OpenLaw} {n k:Nat} {q:Program} {loose:List Str} {XP:(Str->Option Value)->Heap->Prop} {YP:World->Heap->Prop} {d:DefRec} {K:Params->W.Frag} {CX:World->CXT} {sp:World->Sp} {x:Str}
  (hn:l.most=some n) (hn2:n<=sizeLine) (hdf:d.params.defaults=[]) (hr:zcn k callerA)
  (hY: ∀ (w:World) (h:Heap),YP w h->(K w.params).In h)
  (F: ∀ (w:World) (mg:Str->Option Value) (fa:Addr) (h:Heap),(K w.params).In h->h.Ns mainGlobals mg->mg d.name=some (.ref fa)->
    ∃ fd:FuncData,(∀ (s:Shared) (u:Value),BindsTo s fd ⟨[u],[]⟩ [(x,u)])/\
      ∀ base:Heap,(K w.params).In base->base.Ns mainGlobals mg->zbh l.prog w (K w.params) mg base (CX w) k fa fd [x] (sp w))
  (hsp: ∀ (w:World) (H:Hp) (a:Addr) (ns:List Int),ns.length<=n->(∀ i∈ns,Builtin.Int.intBits i<=2^20)->SqL (K w.params) H a (ns.map V.int)->sp w [.ref a] H (fun v _=>v= .bl true) fun _ _ _=>False)
  (hCX: ∀ (w:World) (H:Hp) (s:Shared) (e:Value) (s':Shared),CX w [] H s (fun _ _ _=>False) e s'->False):
  W.WalkO q loose XP YP l.row.toRowW d [] (fun f vs=>PySem.call f vs):=by
 refine Att.zhz hn hdf fun w s₀ s₁ mg mb fa o pm cd doc a vs ns G Y ho hd hcd hmg hobj hints hlen hbits hg=> ?_
 have KX:=hY w _ Y
 obtain ⟨fd,hb,hF⟩:=F w mg fa _ KX G.T.g hmg
 exact znR KX G.T.g G.T.b G.T.builtins G.T.nolimit hg hobj hints (qaS hlen hn2) hr hF hb (fun H hO hS=>hsp w H a ns hlen hbits hS) fun H e s'=>hCX w H s₁ e s'
end L2
namespace L3
open PySem PySem.Spec PyProof.Rows L2 LT
section
variable {X:Cx} {E:XE}
noncomputable def zhk (i j:Int):Bool:=decide (Builtin.Int.intBits i+Builtin.Int.intBits j<=2^26)
theorem zk5 {i j:Int} (h:zhk i j=true):IntMulOk i j:=by
 unfold zhk at h
 rw [qaD] at h
 unfold IntMulOk
 intro z
 rw [qaG] at z
 have z2:=z.2
 unfold Builtin.Int.intTooBig at z2
 have hb:bitsLine=2^27:=rfl
 rw [qaD,hb] at z2
 omega
theorem zqI:OpR X (binaryOp .Mult) (rI (fun i j=>IntMulOk i j) fun i j=> .int (i*j)):=opI fun _ _ _ _ _ _ _ hc q=>mul_int q hc
noncomputable def zgE:=dII (fun i j=>zbd i || zbd j || zhk i j) fun i j=> .int (i*j)
theorem zfg:OpR X (binaryOp .Mult) (zd2 X.K E zgE):=zof (zqI) (fun i j h=>by
  rw [Bool.or_eq_true] at h
  rcases h with h | h
  · rcases (Bool.or_eq_true _ _).mp h with z | z
    · have:=zcW z
      exact IntMulOk.of_left (intBits_le_64 this.1 this.2)
    · have:=zcW z
      exact IntMulOk.of_right (intBits_le_64 this.1 this.2)
  · exact zk5 h) fun _ _ _ _=>by simp [Rel]
end
end L3
namespace PySem
open Sem (wp)
open AutoSeq1 (wpAny_loadPart')
section
variable {prog:Program} {w:World} {A:Around} {E:Value->Shared->Prop} {s:Shared}
end
end PySem
namespace L2
open PySem PySem.Spec PyProof.Rows LT
section
variable {X:Cx}
end
end L2
namespace L3
open PySem PySem.Spec PyProof.Rows L2 LT
section
variable {X:Cx} {E:XE} {e:Expr} {f:FE}
end
@[simp] theorem zaF {d:D} {r:Sd}:zag 0 (some d::r)=pure d:=rfl
@[simp] theorem zaX {n:Nat} {x:Option D} {r:Sd}:zag (n+1) (x::r)=zag n r:=rfl
noncomputable def zch (m:Int):Int->List D->Bool
 | _,[]=>true
 | l,.int i::r=>decide (l<=i) && decide (i<m) && zch m (i+1) r
 | _,_::_=>false
theorem zcQ {m:Int}: ∀ {xs:List Int} {l:Int},zch m l (xs.map D.int)=true↔xs.Pairwise (· < ·)/\ ∀ x∈xs,l<=x/\x<m
 | [],l=>by simp [zch]
 | x::r,l=>by
  rw [qaM,zch,qaG,qaG,zcQ (xs:=r) (l:=x+1),qay]
  simp only [qaD,qaP,forall_eq_or_imp]
  constructor
  ·rintro ⟨⟨h1,h2⟩,h3,h4⟩
   refine ⟨⟨fun y hy=> ?_,h3⟩,⟨h1,h2⟩,fun y hy=> ?_⟩
   ·have:=(h4 y hy).1;omega
   ·have:=h4 y hy;omega
  ·rintro ⟨⟨h1,h2⟩,⟨h3,h4⟩,h5⟩
   refine ⟨⟨h3,h4⟩,h2,fun y hy=> ?_⟩
   have a1:=h1 y hy
   have a2:=h5 y hy
   omega
theorem zgu {m:Int}: ∀ {ts:List D} {l:Int},zch m l ts=true->l<=m->(ts.length:Int)<=m - l
 | [],l,_,h=>by simp;omega
 | d::r,l,h,hl=>by
  cases d<;>first
   | (simp [zch] at h;done)
   | (rename_i i
      rw [zch,qaG,qaG,qaD,qaD] at h
      have:=zgu h.2 (by omega)
      simp
      omega)
def Bx (b:Nat) (h:Hh):Prop:= ∃ z:Int,h[b]? = some (.lst [.int z])
def Ext (b:Nat) (h h':Hh):Prop:=Bx b h'/\ ∀ (n:Nat) (c:C),n≠b->h[n]? = some c->h'[n]? = some c
theorem Ext.refl {b:Nat} {h:Hh} (q:Bx b h):Ext b h h:=⟨q,fun _ _ _ e=>e⟩
theorem Ext.trans {b:Nat} {h h1 h2:Hh} (p:Ext b h h1) (q:Ext b h1 h2):Ext b h h2:=⟨q.1,fun n c hn e=>q.2 n c hn (p.2 n c hn e)⟩
theorem Bx.set {b:Nat} {h:Hh} {z:Int} (q:Bx b h):Ext b h (h.set b (.lst [.int z])):=by
 obtain ⟨y,e⟩:=q
 have hl:=(qac.mp e).1
 exact ⟨⟨z,qai hl⟩,fun n c hn e=>by rw [qao (Ne.symm hn)];exact e⟩
theorem Bx.push {b:Nat} {h:Hh} {c:C} (q:Bx b h):Ext b h (h++[c]):=by
 obtain ⟨y,e⟩:=q
 have hl:=(qac.mp e).1
 refine ⟨⟨y,by rw [qad hl];exact e⟩,fun n c' hn e=> ?_⟩
 rw [qad (qac.mp e).1]
 exact e
theorem zen {j:Int} (h0:0<=j) (h:j<1000):zmy [.int j]=pure (zf4 0 j.toNat):=by
 show (if zdY j=true then _ else _)=_
 rw [qa4 (by unfold zdY;simp;omega)]
theorem zkI {n:Nat} {d:D} (h:d∈zf4 0 n): ∃ i:Int,d= .int i/\0<=i/\i<n:=by
 unfold zf4 at h
 obtain ⟨k,hk,e⟩:=qaU.mp h
 have:=List.mem_range.mp hk
 exact ⟨0+(k:Int),e.symm,by omega,by omega⟩
theorem zi4 {n:Nat}:(zf4 0 n).length=n:=by unfold zf4;simp
theorem zjB (n:Nat):zf4 0 n=((List.range n).map fun (k:Nat)=>(k:Int)).map D.int:=by unfold zf4;simp
theorem zmo {α:Type} {c:Prop} [Decidable c] {a b:M α} {h:Hh} {P:α->Hh->Prop}:wp (if c then a else b) h P↔if c then wp a h P else wp b h P:=by split<;>exact Iff.rfl
end L3
namespace L2
open PySem PySem.Spec PyProof.Rows L3
theorem zbY.there {P:Program} {w:World} {H:Hp} {h:Heap} {a:Addr} {o:HO} (x:zbY P w H h a o): ∃ ob,h.get? a=some ob:=by
 cases o with
 | lst xs=>obtain ⟨_,_,_,_,e⟩:=x;exact ⟨_,e⟩
 | tup xs=>obtain ⟨_,_,_,ob,e,_⟩:=x;exact ⟨ob,e⟩
 | dK kvs=>obtain ⟨_,_,_,_,ob,_,_,e,_⟩:=x;exact ⟨ob,e⟩
 | dT kvs=>obtain ⟨_,_,_,_,ob,_,_,e,_⟩:=x;exact ⟨ob,e⟩
 | set S n=>obtain ⟨ob,_,_,_,e,_⟩:=x;exact ⟨ob,e⟩
 | ins C dx fs=>obtain ⟨_,_,_,e,_⟩:=x;exact ⟨_,e⟩
 | own y=>exact x
 | xd fs=>obtain ⟨_,⟨ob,_,_,e,_⟩,_⟩:=x;exact ⟨ob,e⟩
 | rng lo hi=>obtain ⟨_,_,_,e⟩:=x;exact ⟨_,e⟩
 | frz ob u=>exact ⟨ob,x.1⟩
 | tbl ps=>exact ⟨_,x⟩
 | met f y=>exact ⟨_,x⟩
 | ext φ=>exact x.2.1
structure HS (H H':Hp) (h:Heap):Prop where
 free: ∀ b o,h.get? b=some o->H b=none->H' b=none
 tups: ∀ b xs,H b=some (.tup xs)->H' b=some (.tup xs)
 frzs: ∀ b o u,H b=some (.frz o u)->H' b=some (.frz o u)
 tbls: ∀ b ps,H b=some (.tbl ps)-> ∃ more,H' b=some (.tbl (ps++more))
structure FlB (P:Program) (w:World) (l:List Env) (H:Hp) (h:Heap) (H':Hp) (B:Heap):Prop where
 old: ∀ b o,h.get? b=some o->b∉frs l-> ∃ o',B.get? b=some o'/\(H b=none->o'=o)
 trk: ∀ b u,H' b=some u-> ∃ o,B.get? b=some o
 ok:HOk P w H' B
structure Fl (P:Program) (w:World) (l:List Env) (H:Hp) (s:Shared) (a C:Addr) (fl:Value) (H':Hp) (s':Shared):Prop where
 os:s'.os=s.os
 bare:AllBare s'.gens
 base: ∃ B:Heap,Fly B l a (.ref C) fl s'.heap/\FlB P w l H s.heap H' B
 slot: ∀ b o,s.heap.get? b=some o->H b=none->b∈frs l-> ∃ sl,s'.heap.get? b=some {o with slots:=sl}
 hs:HS H H' s.heap
section
variable {P:Program} {w:World} {l:List Env} {H H':Hp} {s s':Shared} {a C:Addr} {fl:Value}
theorem Fl.un (y:Fl P w l H s a C fl H' s'):Un (frs l) [] H H' s.heap s'.heap:=by
 obtain ⟨B,y1,y2⟩:=y.base
 refine ⟨fun b o e n hb _=> ?_,fun b o e n hb _=>y.slot b o e n hb,fun b o e n _=>y.hs.free b o e n,fun b o e _=> ?_,y.hs.tups,y.hs.frzs,y.hs.tbls⟩
 ·obtain ⟨o',e',q⟩:=y2.old b o e hb
  rw [<- q n]
  exact y1.stays b o' e'
 ·by_cases hb:b∈frs l
  ·obtain ⟨_,o',e',_⟩:=y1.frames.mem hb
   exact ⟨o',e'⟩
  ·obtain ⟨o',e',_⟩:=y2.old b o e hb
   exact ⟨o',y1.stays b o' e'⟩
theorem Fl.hok (y:Fl P w l H s a C fl H' s'):HOk P w H' s'.heap:=by
 obtain ⟨B,y1,y2⟩:=y.base
 exact y2.ok.kept y1.stays
theorem Fl.exc (y:Fl P w l H s a C fl H' s'): ∃ head,zik s'.heap a (.ref C) head:=by
 obtain ⟨B,y1,y2⟩:=y.base
 obtain ⟨hd,z,_⟩:=y1.exc
 exact ⟨hd,z⟩
theorem Fl.fresh (y:Fl P w l H s a C fl H' s'):s.heap.get? a=none/\H' a=none/\a∉frs l:=by
 obtain ⟨B,y1,y2⟩:=y.base
 have nf:a∉frs l:=fun z=>by
  obtain ⟨_,o,e,n⟩:=y1.frames.mem z
  obtain ⟨_,⟨ob,vs,e2,_,_,d,_⟩,_⟩:=y1.exc
  rw [e] at e2
  cases e2
  exact n vs d
 refine ⟨?_,?_,nf⟩
 ·cases q:s.heap.get? a with
  | none=>rfl
  | some o=>
   obtain ⟨o',e,_⟩:=y2.old a o q nf
   rw [y1.new] at e
   cases e
 ·cases q:H' a with
  | none=>rfl
  | some u=>
   obtain ⟨o',e⟩:=y2.trk a u q
   rw [y1.new] at e
   cases e
theorem Fl.mv {B h':Heap} {fl':Value} (os:s'.os=s.os) (bare:AllBare s'.gens) (slot: ∀ b o,s.heap.get? b=some o->H b=none->b∈frs l-> ∃ sl,s'.heap.get? b=some {o with slots:=sl}) (hs:HS H H' s.heap)
  (fr:s'.heap.FunFrames B l) (z:Fly B l a (.ref C) fl' h') (y:FlB P w l H s.heap H' B) (u:s'.heap.UpToSlots h'):Fl P w l H s a C fl' H' {s' with heap:=h'}:=by
 refine ⟨os,bare,⟨B,z,y⟩,fun b o e n hb=> ?_,hs⟩
 obtain ⟨sl,e2⟩:=slot b o e n hb
 obtain ⟨_,o2,e3,n3⟩:=fr.mem hb
 rw [e2] at e3
 cases e3
 obtain ⟨sl',e4⟩:=u b _ e2 n3
 exact ⟨sl',e4⟩
section
variable {M:Model} {A:Around} {E:Value->Shared->Prop} {env:Env} {outer:List Env} {L:Addr} {Q:Unit->Shared->Prop}
theorem Fl.note (y:Fl P w (env::outer) H s a C .none H' s') (hfr:A.frames=some (env::outer)) (hf:env.frame=some L) (k: ∀ h',Fl P w (env::outer) H s a C (rawInt L) H' {s' with heap:=h'}->Q () {s' with heap:=h'}):
  wpAny M A (noteFrame (.ref a) env) Q E s':=by
 obtain ⟨B,y1,y2⟩:=y.base
 exact zlP hfr hf y1 fun h' z u=>k h' (Fl.mv y.os y.bare y.slot y.hs y1.frames z y2 u)
theorem Fl.off (y:Fl P w l H s a C fl H' s') (k: ∀ h',Fl P w l H s a C .none H' {s' with heap:=h'}->Q () {s' with heap:=h'}):wpAny M A (setFlight (.ref a) none) Q E s':=by
 obtain ⟨B,y1,y2⟩:=y.base
 exact zep y1 fun h' z u=>k h' (Fl.mv y.os y.bare y.slot y.hs y1.frames z y2 fun b o e n=>⟨o.slots,u b o e n⟩)
end
end
structure ze8 (X:Cx):Prop where
 stk:X.stack=X.env::X.outer
 frm:X.env.frame=some X.env.locals
 ex:X.ex=[]
theorem ze8.frs {X:Cx} (z:ze8 X):frs X.stack=X.env.locals::frs X.outer:=by
 rw [z.stk]
 unfold L2.frs
 rw [qat,z.frm]
section
variable {X:Cx} {pins:List (Addr×Obj)} {σ:St} {H H':Hp} {s s':Shared} {a C:Addr} {M:Model} {E:Value->Shared->Prop} {Q:Unit->Shared->Prop}
theorem Inv.below (I:Inv X pins σ H s) {b:Addr} {o:Obj} (e:X.s₀.heap.get? b=some o):b≠X.env.locals:=qaR (qaw (qaQ e) I.ok.above)
theorem Fl.leave (z:ze8 X) (I:Inv X pins σ H s) (y:Fl X.prog X.w X.stack H s a C .none H' s') (k: ∀ s2,Fl X.prog X.w X.outer X.H₀ X.s₀ a C .none H' s2->Q () s2):wpAny M X.A (leaving X.env (.ref a)) Q E s':=by
 have nex: ∀ b,b∉X.ex:=fun b h=>by rw [z.ex] at h;cases h
 obtain ⟨B,y1,y2⟩:=y.base
 have hfr:=I.ok.frames
 rw [z.stk] at hfr y1
 refine znd hfr z.frm y1 fun h' q u=>k _ ?_
 have nin: ∀ b o,X.s₀.heap.get? b=some o->b∉frs X.outer->b∉frs X.stack:=fun b o e hb hm=>by
  rw [z.frs] at hm
  rcases qaP.mp hm with r | r
  ·exact I.below e r
  ·exact hb r
 refine ⟨y.os.trans I.os,y.bare,⟨B,q,fun b o e hb=> ?_,y2.trk,y2.ok⟩,fun b o e n hb=> ?_,fun b o e n=> ?_,fun b xs e=>y.hs.tups b xs (I.base.tups b xs e),fun b o v e=>y.hs.frzs b o v (I.base.frzs b o v e),fun b ps e=> ?_⟩
 ·obtain ⟨o1,e1⟩:=I.base.there b o e (nex b)
  obtain ⟨o2,e2,q2⟩:=y2.old b o1 e1 (nin b o e hb)
  refine ⟨o2,e2,fun n=> ?_⟩
  have e3:=I.base.keep b o e n hb (nex b)
  rw [e1] at e3
  cases e3
  exact q2 (I.base.free b o e n (nex b))
 ·obtain ⟨sl,e1⟩:=I.base.slot b o e n hb (nex b)
  have hb2:b∈frs X.stack:=by rw [z.frs];exact qan _ hb
  obtain ⟨sl2,e2⟩:=y.slot b _ e1 (I.base.free b o e n (nex b)) hb2
  obtain ⟨_,o3,e3,n3⟩:=y1.frames.mem (by rw [<- z.stk];exact hb2)
  rw [e2] at e3
  cases e3
  obtain ⟨sl4,e4⟩:=u b _ e2 n3
  exact ⟨sl4,e4⟩
 ·obtain ⟨o1,e1⟩:=I.base.there b o e (nex b)
  exact y.hs.free b o1 e1 (I.base.free b o e n (nex b))
 ·obtain ⟨m1,e1⟩:=I.base.tbls b ps e
  obtain ⟨m2,e2⟩:=y.hs.tbls b _ e1
  exact ⟨m1++m2,by rw [e2,Array.append_assoc]⟩
theorem Fl.made {h':Heap} {vs:List Value} (z:ze8 X) (I:Inv X pins σ H s) (m:Heap.MadeExcOf s.heap h' a (.ref C) vs) (k: ∀ s2,Fl X.prog X.w X.outer X.H₀ X.s₀ a C .none H s2->Q () s2):wpAny M X.A (leaving X.env (.ref a)) Q E {s with heap:=h'}:=by
 have nex: ∀ b,b∉X.ex:=fun b h=>by rw [z.ex] at h;cases h
 have hfr:=I.ok.frames
 have hl:=I.stack
 have hin: ∀ env∈X.stack, ∀ b,env.frame=some b->b∈frs X.stack:=fun env he b hb=>List.mem_filterMap.mpr ⟨env,he,hb⟩
 have hl2:=W.funFrames_hide hl hin
 have hl3:h'.FunFrames (W.hideAll s.heap (frs X.stack)) X.stack:=hl2.of_keeps fun b o e _=>⟨o,m.keeps b o e,rfl⟩
 have inB: ∀ {b:Addr} {o:Obj},s.heap.get? b=some o->b∉frs X.stack->(W.hideAll s.heap (frs X.stack)).get? b=some o:=fun e n=>W.hideAll_get _ e n
 have ofB: ∀ {b:Addr} {o:Obj},(W.hideAll s.heap (frs X.stack)).get? b=some o->s.heap.get? b=some o:=fun e=>W.of_hideAll _ e
 have trk: ∀ b u,H b=some u->b∉frs X.stack:=fun b u e hm=>by rw [I.stkFree b hm] at e;cases e
 have newB:(W.hideAll s.heap (frs X.stack)).get? a=none:=by
  cases q:(W.hideAll s.heap (frs X.stack)).get? a with
  | none=>rfl
  | some o=>have:=ofB q;rw [m.new] at this;cases this
 have hst:=z.stk
 refine zi0 (B:=W.hideAll s.heap (frs X.stack)) (by rw [<- hst];exact hfr) (by rw [<- hst];exact hl3) z.frm (znz m) (fun b o e=>m.keeps b o (ofB e)) newB fun h2 q u=>k _ ?_
 have nin: ∀ b o,X.s₀.heap.get? b=some o->b∉frs X.outer->b∉frs X.stack:=fun b o e hb hm=>by
  rw [z.frs] at hm
  rcases qaP.mp hm with r | r
  ·exact I.below e r
  ·exact hb r
 refine ⟨I.os,I.bare,⟨_,q,fun b o e hb=> ?_,fun b v e=> ?_,fun b v e=> ?_⟩,fun b o e n hb=> ?_,fun b o e n=>I.base.free b o e n (nex b),I.base.tups,I.base.frzs,I.base.tbls⟩
 ·obtain ⟨o1,e1⟩:=I.base.there b o e (nex b)
  refine ⟨o1,inB e1 (nin b o e hb),fun n=> ?_⟩
  have e3:=I.base.keep b o e n hb (nex b)
  rw [e1] at e3
  cases e3
  rfl
 ·obtain ⟨o,e1⟩:=(I.hok b v e).there
  exact ⟨o,inB e1 (trk b v e)⟩
 ·refine (I.hok b v e).stay (fun c o hc e1=>inB e1 ?_) (fun _ r=>r) fun _ _ r=>r
  rcases hc with rfl | hc
  ·exact trk _ v e
  ·exact trk _ _ hc
 ·obtain ⟨sl,e1⟩:=I.base.slot b o e n hb (nex b)
  have hb2:b∈frs X.stack:=by rw [z.frs];exact qan _ hb
  obtain ⟨_,o3,e3,n3⟩:=hl.mem hb2
  rw [e1] at e3
  cases e3
  obtain ⟨sl4,e4⟩:=u b _ (m.keeps b _ e1) n3
  exact ⟨sl4,e4⟩
end
noncomputable def CXE (P:Program) (w:World):CXT:=fun outer H s E e s'=> ∃ a C H',e= .ref a/\Fl P w outer H s a C .none H' s'/\E e (some C) H'
end L2
namespace L3
open PySem PySem.Spec PyProof.Rows L2
def zcv (K:W.Frag) (c:String) (C:Addr):Prop:=W.nsIn K mainGlobals (c:Str)=some (some (.ref C))
noncomputable def zlC (K:W.Frag) (E:XE):XK:=fun _ oc H'=> ∃ c C,oc=some C/\zcv K c C/\E c H'
noncomputable def ztn (K:W.Frag) (E:XK):XE:=fun c H'=> ∀ C v,zcv K c C->E v (some C) H'
def zqz (X:Cx) (E:XE):Prop:= ∀ (pins:List (Addr×Obj)) (σ:St) (H:Hp) (s:Shared) (h':Heap) (a C:Addr) (c:String) (vs:List Value),Inv X pins σ H s->zcv X.K c C->Heap.MadeExcOf s.heap h' a (.ref C) vs->E c H->X.xe (.ref a) {s with heap:=h'}
section
variable {P:Program} {w:World} {K:W.Frag} {mg:Str->Option Value} {base:Heap} {N:List Str} {qual:Str} {scope:Scope} {f:Addr} {cd:Value} {A:Around} {outer:List Env} {s:Shared} {H:Hp} {E:XK}
theorem zoI:ze8 (zij (CXE P w) P w K mg base N qual scope f cd A outer s H E):=⟨rfl,rfl,rfl⟩
theorem zgJ:zbW (CXE P w) (zij (CXE P w) P w K mg base N qual scope f cd A outer s H E) (zlC K (ztn K E)):=by
 intro pins σ H1 s1 e s2 I h
 obtain ⟨a,C,H2,rfl,y,c,C',e1,hc,he⟩:=h
 cases e1
 exact Fl.leave zoI I y fun s3 y3=>⟨a,C,H2,rfl,y3,he _ _ hc⟩
theorem zeh:zqz (zij (CXE P w) P w K mg base N qual scope f cd A outer s H E) (ztn K E):=by
 intro pins σ H1 s1 h' a C c vs I hc m he
 exact Fl.made zoI I m fun s3 y3=>⟨a,C,H1,rfl,y3,he _ _ hc⟩
end
noncomputable def noX {α:Type} (m:M α):M α:=fun h=>match m h with
 | .exc _ _=> .bad
 | r=>r
theorem Fin.noX {α:Type} {K:W.Frag} {E E':XE} {ι:Io} {H:Hp} {m:M α} {h:Hh} {P:α->Io->Hp->Prop} (q:Fin K E ι H (L3.noX m h) P):Fin K E' ι H (m h) P:=by
 unfold L3.noX at q
 cases e:m h with
 | ok a h'=>rw [e] at q;exact q
 | exc c h'=>rw [e] at q;exact qa0 q
 | bad=>rw [e] at q;exact q
noncomputable def spE (K:W.Frag) (n:Nat) (F:List D->M D):Sp:=fun vs H Q E=>vs.length=n/\ ∃ ι h ds,zaq K ι H ds vs/\za4 K ι H h/\Fin K (ztn K E) ι H (F ds h) fun d ι' H'=> ∀ v,Rel K ι' H' d v->Q v H'
section
variable {P:Program} {w:World} {K:W.Frag} {mg:Str->Option Value} {base:Heap}
theorem ze3 {x qual:Str} {st:Stmt} {f:Addr} {fd:FuncData} {N ps:List Str} {k:Nat} {G:Sd->M Out} (F:Fun K x qual st f fd) (S:zap N ps (zae st))
  (hb: ∀ (cdv:Value) (A:Around) (outer:List Env) (s:Shared) (H:Hp) (E:XK),zcn k (A.deeper (envOfC qual (zae st) s.heap.objs.size f cdv))->SSs (zij (CXE P w) P w K mg base N qual (zae st) f cdv A outer s H E) (ztn K E) (zcw st) G):
  zbh P w K mg base (CXE P w) (k+1) f fd ps (spE K ps.length (zcD N.length G)):=by
 obtain ⟨oc,od,kV,doc,pm,an,cdv,ct,osl,rfl,lk,hcd⟩:=F.ex
 refine zrX lk hcd S (fun vs H Q E h=>h.1) fun A outer s H vs Q E hr ⟨hl,ι,h,ds,rl,hh,q⟩=>⟨_,hb cdv A outer s H E hr,ι,h,zgb N.length ds,zer rl,hh,?_⟩
 refine Fin.bind q fun o h1 ι1 H1 e1 s1 hr1 q1=> ?_
 cases o with
 | nx sd=>exact fun σ' _=>Fin.out hr1 q1 _ (by simp [Rel])
 | rt d=>exact fun v rv=>Fin.out hr1 q1 v rv
 | bk sd=>exact qa0 q1
 | ct sd=>exact qa0 q1
end
section
variable {X:Cx} {E:XE} {e:Expr} {es:List Expr} {pos p:Pos}
theorem Fin.exmono {α:Type} {K:W.Frag} {E E':XE} {ι:Io} {H:Hp} {r:R α} {P:α->Io->Hp->Prop} (m: ∀ c H',E c H'->E' c H') (q:Fin K E ι H r P):Fin K E' ι H r P:=by
 cases r with
 | ok a h'=>exact q
 | exc c h'=>exact fun ι2 H2 t hr=>m _ _ (q ι2 H2 t hr)
 | bad=>exact q
theorem znP {k:Nat} {f:Addr} {fd:FuncData} {ps:List Str} {n:Nat} {F:List D->M D} {fs:Sd->M (List D)} {x:Str} (G:zbh X.prog X.w X.K X.mg X.base (CXE X.prog X.w) k f fd ps (spE X.K n F)) (hx:zbW (CXE X.prog X.w) X (zlC X.K E)) (hr:zcn k X.A) (hg:Gl X x) (hm:X.mg x=some (.ref f)) (hk:W.keepIn X.K (.ref f)=true) (hb:zav X.K fd ps [])
  (ha:SA X E (e::es) fs) (hdb:(x==("__debug__":Str))=false:=by decide) (he:starEach (e::es) X.env=(false,eval e X.env)::starEach es X.env:=by rfl) (hpl:(backTo pos (starEach es X.env)).any (·.1)=false:=by rfl):
  SE X E (.Call (.Name x p) (e::es) [] pos) (zaI (zak n F) fs):=by
 refine PE.imp (ziw G hr hg hm hk hb (dvs:=[]) .nil hx ha hdb he hpl) fun σ H Q ⟨ι,h,sd,L,hh,q⟩=>⟨ι,h,sd,L,hh,Fin.bind q fun ds h1 ι1 H1 e1 s1 hr1 q1 vs rv=> ?_⟩
 show spE X.K n F (vs++[]) H1 Q _
 rw [List.append_nil]
 unfold zak at q1
 by_cases hl:ds.length=n
 ·rw [qa4 hl] at q1
  exact ⟨by rw [<- rv.length];exact hl,ι1,h1,ds,rv,hr1,Fin.exmono (fun c H' z C v hc=>⟨c,C,rfl,hc,z⟩) q1⟩
 ·rw [qa5 hl] at q1
  exact qa0 q1
theorem zmO {k:Nat} {f:Addr} {fd:FuncData} {ps:List Str} {n:Nat} {F:List D->M D} {fs:Sd->M (List D)} {x:Str} (G:zbh X.prog X.w X.K X.mg X.base CX0 k f fd ps (zbO X.K n F)) (hr:zcn k X.A) (hg:Gl X x) (hm:X.mg x=some (.ref f)) (hk:W.keepIn X.K (.ref f)=true) (hb:zav X.K fd ps [])
  (ha:SA X E (e::es) fs) (hdb:(x==("__debug__":Str))=false:=by decide) (he:starEach (e::es) X.env=(false,eval e X.env)::starEach es X.env:=by rfl) (hpl:(backTo pos (starEach es X.env)).any (·.1)=false:=by rfl):
  SE X E (.Call (.Name x p) (e::es) [] pos) (zaI (zak n fun ds=>noX (F ds)) fs):=by
 refine PE.imp (ziw G hr hg hm hk hb (dvs:=[]) .nil (E:=fun _ _ _=>False) zka ha hdb he hpl) fun σ H Q ⟨ι,h,sd,L,hh,q⟩=>⟨ι,h,sd,L,hh,Fin.bind q fun ds h1 ι1 H1 e1 s1 hr1 q1 vs rv=> ?_⟩
 show zbO X.K n F (vs++[]) H1 Q _
 rw [List.append_nil]
 unfold zak at q1
 by_cases hl:ds.length=n
 ·rw [qa4 hl] at q1
  exact ⟨by rw [<- rv.length];exact hl,ι1,h1,ds,rv,hr1,Fin.noX q1⟩
 ·rw [qa5 hl] at q1
  exact qa0 q1
end
end L3
namespace L2
open PySem PySem.Spec PyProof.Rows L3
structure zdk (k:Nat) (A:Around):Prop where
 dp:A.depth+3*k+5<recursionLimit
 un:A.units+16*k+200<cLine
theorem zdk.of {k:Nat} {A:Around} (r:zcn k A):zdk k A:=⟨r.dp,r.un⟩
theorem zdk.deeper {k:Nat} {A:Around} (r:zdk (k+1) A) (env:Env):zdk k (A.deeper env):=
 ⟨by have:=r.dp;show A.depth+1+3*k+5<_;omega,by have:=r.un;show A.units+3+16*k+200<_;omega⟩
theorem zdk.mono {j k:Nat} {A:Around} (r:zdk k A) (h:j<=k):zdk j A:=⟨by have:=r.dp;omega,by have:=r.un;omega⟩
structure FnH (P:Program) (w:World) (K:W.Frag) (mg:Str->Option Value) (base:Heap) (k:Nat) (f:Addr) (fd:FuncData) (ps:List Str) (sp:Sp):Prop where
 len: ∀ vs H Q E,sp vs H Q E->vs.length=ps.length
 run: ∀ (A:Around) (outer:List Env) (s:Shared) (H:Hp) (args:Args) (us:List Value) (vs:List V) (Q:VK),zdk k A->zkv P w K mg base A outer s H->BindsTo s fd args (ps.zip us)->zaQ vs us->sp vs H Q E0->
  codeAny (model P w) A (.call (.ref f) args) (CR CX0 outer P w H s Q E0) s
theorem zr7 {P:Program} {w:World} {K:W.Frag} {mg:Str->Option Value} {base:Heap} {k:Nat} {f:Addr} {name qual:Str} {params:Arguments} {body:List Stmt} {scope:Scope} {dV kV doc pm cdv ct oc:Value} {an od:Option Addr}
  {osl:Array (Option Value)} {N ps:List Str} {sp:Sp} (lk:K.lookup f=some ⟨oc,od,.func (W.fnOf name qual params body scope dV kV doc pm an cdv ct),osl⟩) (hcd:W.codeIn K cdv qual=true) (S:zap N ps scope)
  (len: ∀ vs H Q E,sp vs H Q E->vs.length=ps.length)
  (hbody: ∀ (A:Around) (outer:List Env) (s:Shared) (H:Hp) (vs:List V) (Q:VK),zdk k (A.deeper (envOfC qual scope s.heap.objs.size f cdv))->sp vs H Q E0->
    ∃ t,PSs ({zij CX0 P w K mg base N qual scope f cdv A outer s H E0 with calm:=false}:Cx).nox body t/\t {nx:=fun _ H'=>Q .non H',rt:=Q} (zev N vs) H):
  FnH P w K mg base (k+1) f (W.fnOf name qual params body scope dV kV doc pm an cdv ct) ps sp:=by
 refine ⟨len,fun A outer s H args us vs Q hr e0 hb r hsp=> ?_⟩
 have hl:=len _ _ _ _ hsp
 have KX:K.In s.heap:=e0.mod.kin.keeps fun b o e=>(e0.bs b o e).1
 have lim:s.heap.NoLimit:=e0.mod.nolimit.keeps fun b o e=>(e0.bs b o e).1
 have hkind: ∀ y∈ps.zip us,scope.names.lookup y.1=some .local\/(scope.names.lookup y.1=some .cell/\((cellsFrom (s.heap.objs.size+1) scope.names []).lookup y.1).isSome=true):=fun ⟨n,v⟩ hy=>by
  rcases S.par n (List.of_mem_zip hy).1 with q | q
  ·exact .inl q
  ·exact .inr ⟨q,W.cellsFrom_some _ _ _ (.inl q)⟩
 refine codeAny_call_function (by have:=hr.dp;omega) (KX _ _ lk) rfl S.co S.gen rfl (W.codeRec_of KX hcd) (hb _ _ _ _ ?_)
 refine wpAny_newFunctionEnv_cells S.kind hkind fun env he s1 x=> ?_
 subst he
 refine ⟨lim.keeps x.toInCall.keep,codeAny_func ?_⟩
 obtain ⟨t,ht,hq⟩:=hbody A outer s H vs Q (hr.deeper _) hsp
 have I:Inv {zij CX0 P w K mg base N qual scope f cdv A outer s H E0 with calm:=false} [] (zev N vs) H s1:=zhW (cm:=false) S (fun z=>by cases z) e0 hl r x
 refine qaZ (ht.nox [] s1 (zev N vs) H _ I hq) (fun fl s' hs=> ?_) fun e s' hs=>hs
 have fin: ∀ {σ':St} {H':Hp} {v:V} {u:Value},Inv {zij CX0 P w K mg base N qual scope f cdv A outer s H E0 with calm:=false} [] σ' H' s'->zbA v u->Q v H'->CE outer P w H s Q u s':=
  fun {σ' H' v u} J rv q=>⟨v,H',J.os,J.bare,J.base,J.hok,rv,q⟩
 cases fl with
 | ret u=>
  obtain ⟨v,σ',H',J,rv,q⟩:=hs
  exact fin J rv q
 | next=>
  obtain ⟨σ',H',J,q⟩:=hs
  exact fin (v:=V.non) (u:=Value.none) J rfl q
 | brk=>
  obtain ⟨_,_,_,q⟩:=hs
  exact qa0 q
 | cont=>
  obtain ⟨_,_,_,q⟩:=hs
  exact qa0 q
section
variable {X:Cx} {pins:List (Addr×Obj)} {σ:St} {H H':Hp} {s s':Shared} {a:Addr} {o:Obj}
theorem Inv.track (I:Inv X pins σ H s) (hH:H a=none) (ho:s.heap.get? a=some o) (h0:X.s₀.heap.get? a=none) (hL:a≠X.env.locals) (hc: ∀ x c,X.env.cells.lookup x=some c->c≠a) (hp: ∀ p∈X.pn++pins,p.1≠a):
  Inv X pins σ (upd H a (.frz o (.own 0))) s:=by
 have un: ∀ {b:Addr} {u:HO},H b=some u->upd H a (.frz o (.own 0)) b=some u:=fun e=>by rw [zau (zaO e hH)];exact e
 refine ⟨I.ok,I.os,I.bare,⟨I.base.keep,I.base.slot,fun b ob e n hx=> ?_,I.base.there,fun b xs e=>un (I.base.tups b xs e),fun b ob u e=>un (I.base.frzs b ob u e),fun b ps e=> ?_⟩,I.loc,I.cell,?_,fun x c e=> ?_,fun p q=> ?_,fun b u e=> ?_,I.len⟩
 ·rw [zau (fun z=>by subst z;rw [h0] at e;cases e)]
  exact I.base.free b ob e n hx
 ·obtain ⟨m,e1⟩:=I.base.tbls b ps e
  exact ⟨m,un e1⟩
 ·rw [zau (Ne.symm hL)]
  exact I.free
 ·rw [zau (hc x c e)]
  exact I.freeC x c e
 ·obtain ⟨e1,e2,e3⟩:=I.pin p q
  exact ⟨e1,by rw [zau (hp p q)];exact e2,e3⟩
 ·by_cases hb:b=a
  ·subst hb
   rw [zaM] at e
   cases e
   exact ⟨ho,o,ho⟩
  ·rw [zau hb] at e
   exact (I.hok b u e).stay (fun _ _ _ z=>z) (fun c z=>un z) fun c xs z=>un z
theorem zrc {M:Model} {A:Around} {E:Value->Shared->Prop} {i:Nat} {x:Str} {pos:Pos} {Q:Unit->Shared->Prop} (I:Inv X pins σ H s) (hN:X.N.Nodup) (hi:X.N[i]? = some x) (hk:X.env.scope.names.lookup x=some .local)
  (h: ∀ s',Inv X pins (σ.set i none) H s'->Q () s'):wpAny M A (do bindName X.env x .none;unbindBehindTheSuite X.env x pos) Q E s:=by
 obtain ⟨m,hn,hl⟩:=id I.loc
 have hcls:(X.env.scope.kind== .class || (X.env.scope.kind== .module && X.env.locals != X.env.globals))=false:=by rw [I.ok.kind];rfl
 have hiσ:i<σ.length:=by rw [I.len];exact (qac.mp hi).1
 have cne:=I.cne
 refine wpAny_nameGoes_keeps hk hn hcls fun h' v hn' hs=> ?_
 obtain ⟨oL,_,_,hoL,_⟩:=id hn
 refine h _ ⟨I.ok,I.os,I.bare,⟨fun b ob e n hb hx=> ?_,fun b ob e n hb hx=> ?_,I.base.free,fun b ob e hx=> ?_,I.base.tups,I.base.frzs,I.base.tbls⟩,⟨_,hn',fun j y v' e1 e2 e3=> ?_⟩,fun y c e=> ?_,I.free,I.freeC,fun p hp=> ?_,fun b ob e=> ?_,by simpa using I.len⟩
 ·exact (hs.2 b (I.below e)).trans (I.base.keep b ob e n hb hx)
 ·obtain ⟨sl,e1⟩:=I.base.slot b ob e n hb hx
  exact ⟨sl,(hs.2 b (I.below e)).trans e1⟩
 ·obtain ⟨o',e1⟩:=I.base.there b ob e hx
  exact ⟨o',(hs.2 b (I.below e)).trans e1⟩
 ·by_cases hj:j=i
  ·subst hj
   rw [qai hiσ] at e2
   cases e2
  ·rw [qao (Ne.symm hj)] at e2
   obtain ⟨u',r',q⟩:=hl j y v' e1 e2 e3
   refine ⟨u',r',?_⟩
   rcases q with ⟨k,e⟩ | ⟨k,c,e,z⟩
   ·refine .inl ⟨k,?_⟩
    have:y≠x:=fun e=>hj (zg3 hN e1 (e▸hi))
    simp [this,e]
   ·exact .inr ⟨k,c,e,z.sameBut hs (cne y c e)⟩
 ·obtain ⟨w',z⟩:=I.cell y c e
  exact ⟨w',z.sameBut hs (cne y c e)⟩
 ·obtain ⟨e,n,ne,nf,d⟩:=I.pin p hp
  exact ⟨(hs.2 p.1 ne).trans e,n,ne,nf,d⟩
 ·refine (I.hok b ob e).stay (fun c w' hc q=>(hs.2 c ?_).trans q) (fun _ q=>q) fun _ _ q=>q
  rintro rfl
  rcases hc with rfl | hc
  ·rw [I.free] at e;cases e
  ·rw [I.free] at hc;cases hc
end
section
variable {X:Cx} {pins:List (Addr×Obj)} {σ:St} {H H':Hp} {s s':Shared} {a C CE:Addr} {ce en:Str} {pce pos:Pos} {b₀:Stmt} {suite:List Stmt} {j:Nat} {Q:Flow->Shared->Prop} {E:Value->Shared->Prop}
theorem Fl.caught (z:ze8 X) (I:Inv X pins σ H s) (y:Fl X.prog X.w X.stack H s a C .none H' s') (hN:X.N.Nodup) (hj:X.N[j]? = some en) (hen:X.env.scope.names.lookup en=some .local) (hg:Gl X ce) (hm:X.mg ce=some (.ref CE)) (hx:W.exmOne X.K (.ref C) (.ref CE)=some true)
  (k: ∀ s6,Inv X pins (σ.set j (some (.ref a))) H' s6->(∃ head,zik s6.heap a (.ref C) head)->wpAny (model X.prog X.w) (X.A.mark (some (.ref a))) (execs (b₀::suite) X.env)
    (fun f s4=>wpAny (model X.prog X.w) X.A (do bindName X.env en .none;unbindBehindTheSuite X.env en pos) (fun _ s5=>Q f s5) E s4) (fun _ _=>False) s6) (hd:(ce==("__debug__":Str))=false:=by decide):
  wpAny (model X.prog X.w) X.A (noteFrame (.ref a) X.env) (fun _ s2=>wpAny (model X.prog X.w) X.A (setFlight (.ref a) none) (fun _ s3=>
    wpAny (model X.prog X.w) X.A (handleBy (.ref a) X.env [.ExceptHandler (some (.Name ce pce)) (some en) (b₀::suite) pos]) Q E s3) E s2) E s':=by
 have hfr:=I.ok.frames
 rw [z.stk] at hfr y
 refine y.note hfr z.frm fun h3 y3=> ?_
 refine y3.off fun h4 y4=> ?_
 have ev: ∀ {hp fl},Fl X.prog X.w (X.env::X.outer) H s a C fl H' {s' with heap:=hp}->Inv X pins σ H' {s' with heap:=hp}:=fun {hp fl} y=>by
  have u:=y.un
  rw [<- z.stk] at u
  exact I.call' y.os u y.hok y.bare fun b q=>absurd q (by simp)
 have I4:=ev y4
 obtain ⟨hd4,x4⟩:=y4.exc
 have LT:W.Looks (model X.prog X.w) h4 (typeOf (.ref a)) (.ref C):=by
  obtain ⟨ob,vs,e1,e2,_⟩:=x4
  exact e2▸(W.Looks.ld e1).andThen .now
 refine wpAny_handleBy_cons (codeAny_handlers_test ?_) (by intro q;cases q)
 refine Calls.Name_function_global I4.ok.kind hg (Calls.loadGlobal_global (by rw [I4.ok.glob];exact I4.mod.glob.keeps I4.bk) hm ?_) hd
 refine (W.exm_one I4.kIn LT hx).here ?_
 refine codeAny_handlers_suite_as ?_
 refine y4.off fun h5 y5=> ?_
 have I5:=ev y5
 obtain ⟨hd5,x5⟩:=y5.exc
 have na:a≠X.env.locals/\ ∀ x c,X.env.cells.lookup x=some c->c≠a:=by
  obtain ⟨f1,f2,f3⟩:=y.fresh
  refine ⟨fun q=> ?_,fun x c e q=> ?_⟩
  ·obtain ⟨m,⟨oL,_,_,hoL,_⟩,_⟩:=I.loc
   rw [<- q,f1] at hoL
   cases hoL
  ·obtain ⟨v,oc,hoc,_⟩:=I.cell x c e
   rw [q,f1] at hoc
   cases hoc
 refine zhU I5 hN hj (.inl hen) (v:= .ref a) rfl (fun s6 I6 ⟨b,sb,hb⟩=> ?_) (.inr hen)
 refine qaZ (k s6 I6 ⟨hd5,x5.keep fun ob e=>(sb.2 a fun q=> ?_).trans e⟩) (fun _ _ q=>q) fun _ _ q=>q.elim
 rcases hb with hb | hb
 ·exact na.1 (q.trans hb)
 ·exact na.2 en b hb q.symm
end
noncomputable abbrev zkG:List Value:=[.type "ValueError",.type "Exception",.type "BaseException",.type "object"]
theorem zqc {K:W.Frag} {h:Heap} {mg:Str->Option Value} {x:Str} {C:Addr} {bm:List Value} {nid:String} (X:K.In h) (hm:mg x=some (.ref C)) (q:W.excIn K C bm nid=true):OwnCls x C bm nid mg h:=by
 refine ⟨hm,?_⟩
 unfold W.excIn at q
 split at q
 ·rename_i dd cdt sl lk
  split at q
  ·rename_i C2 tl y0 y1 y2 y3 nn y5 hmro hsl
   simp only [qaG,beq_iff_eq,Bool.not_eq_true'] at q
   obtain ⟨⟨⟨⟨⟨rfl,rfl⟩,q3⟩,q4⟩,q5⟩,q6⟩:=q
   obtain ⟨z1,z2,z3,z4,z5,z6,z7,z8,z9,z10,z11⟩:=cdt
   dsimp only at hmro q3 q5 q6
   subst hmro q3
   obtain rfl:sl= #[y0,y1,y2,y3,some (.builtin nn),y5]:=by
    obtain ⟨ll⟩:=sl
    dsimp only at hsl
    rw [hsl]
   exact ⟨tl,z4,z1,z5,z2,z6,z7,z8,z9,z10,dd,y0,y1,y2,y3,y5,_,X _ _ lk,.of_isNs (W.isNs_of_in X q5),W.nsMap_none_of_in X q5 q6,W.tail_of_in X q4⟩
  ·cases q
 ·cases q
noncomputable def Cx.re (X:Cx) (pn:List (Addr×Obj)) (xe:Value->Shared->Prop):Cx:={X with pn:=pn,xe:=xe}
section
variable {X:Cx} {pins pins':List (Addr×Obj)} {σ:St} {H H':Hp} {s s':Shared} {xe:Value->Shared->Prop}
theorem Inv.re (I:Inv X pins σ H s) (xe:Value->Shared->Prop):Inv (X.re (X.pn++pins) xe) [] σ H s:=
 ⟨⟨I.ok.mod,I.ok.kind,I.ok.glob,I.ok.blt,I.ok.above,I.ok.inj,I.ok.has,I.ok.cab,I.ok.hd,I.ok.hx,I.ok.frames,I.ok.stk,I.ok.exf,I.ok.bs,I.ok.bsz,I.ok.noex,I.ok.exfs,I.ok.funs,I.ok.frf⟩,I.os,I.bare,I.base,I.loc,I.cell,I.free,I.freeC,fun p hp=>I.pin p (by simpa [Cx.re] using hp),I.hok,I.len⟩
theorem Inv.unre (I:Inv (X.re (X.pn++pins) xe) pins' σ H s):Inv X pins σ H s:=
 ⟨⟨I.ok.mod,I.ok.kind,I.ok.glob,I.ok.blt,I.ok.above,I.ok.inj,I.ok.has,I.ok.cab,I.ok.hd,I.ok.hx,I.ok.frames,I.ok.stk,I.ok.exf,I.ok.bs,I.ok.bsz,I.ok.noex,I.ok.exfs,I.ok.funs,I.ok.frf⟩,I.os,I.bare,I.base,I.loc,I.cell,I.free,I.freeC,fun p hp=>I.pin p (List.mem_append_left _ hp),I.hok,I.len⟩
theorem SP.unre {D:zoD} {f:Flow} (h:SP (X.re (X.pn++pins) xe) pins' D f s'):SP X pins D f s':=by
 cases f with
 | next=>obtain ⟨σ',H',I,q⟩:=h;exact ⟨σ',H',I.unre,q⟩
 | brk=>obtain ⟨σ',H',I,q⟩:=h;exact ⟨σ',H',I.unre,q⟩
 | cont=>obtain ⟨σ',H',I,q⟩:=h;exact ⟨σ',H',I.unre,q⟩
 | ret u=>obtain ⟨v,σ',H',I,r,q⟩:=h;exact ⟨v,σ',H',I.unre,r,q⟩
end
end L2
namespace L3
open PySem PySem.Spec PyProof.Rows L2
section
variable {X:Cx} {pins:List (Addr×Obj)} {σ:L2.St} {H:Hp} {s:Shared} {a C:Addr} {o:Obj} {vs:Array Value} {head:Value} {c:String} {gk en pe:Str} {p1 p2 p3:Pos} {j k:Nat} {fk:Addr} {fdk:FuncData} {Fk:List D->M D} {Qv:VK} {ι:Io} {h:Hh}
theorem zmg (I:Inv X pins σ H s) (hH:H a=none) (ho:s.heap.get? a=some o) (ob:o.cls= .ref C/\o.dict=none/\o.data= .fields vs/\vs[2]? = some .none/\vs[1]? = some head)
  (h0:X.s₀.heap.get? a=none) (hL:a≠X.env.locals) (hcl: ∀ x c,X.env.cells.lookup x=some c->c≠a) (hp: ∀ p∈X.pn++pins,p.1≠a) (hj:X.N[j]? = some en) (hσ:σ[j]? = some (some (.ref a))) (hen:X.env.scope.names.lookup en=some .local)
  (FH:FnH X.prog X.w X.K X.mg X.base k fk fdk [pe] (zbO X.K 1 Fk)) (hb:zav X.K fdk [pe] []) (hg:Gl X gk) (hm:X.mg gk=some (.ref fk)) (kp:W.keepIn X.K (.ref fk)=true) (hr:zdk k X.A) (hc:zcv X.K c C) (hh:za4 X.K ι H h)
  (q:Fin X.K E0x ι (upd H a (.frz o (.own 0))) (Fk [.exn c] h) fun d ι' H'=> ∀ v,Rel X.K ι' H' d v->Qv v H') (hd:(gk==("__debug__":Str))=false:=by decide) (hd2:(en==("__debug__":Str))=false:=by decide):
  wpAny (model X.prog X.w) (X.A.mark (some (.ref a))) (eval (.Call (.Name gk p1) [.Name en p2] [] p3) X.env) (fun u s8=> ∃ v H8,Inv X pins σ H8 s8/\zbA v u/\Qv v H8) (fun _ _=>False) s:=by
 have It:=I.track hH ho h0 hL hcl hp
 have E0':=It.env0
 refine wpAny_Call_Name_kw (Calls.Name_function_global I.ok.kind hg (Calls.loadGlobal_global (by rw [I.ok.glob];exact I.mod.glob.keeps I.bk) hm ?_) hd)
 refine W.callWith_K (h₀:=X.base) I.ok.mod.kin kp ?_
 refine Calls.spliced_cons ?_
 obtain ⟨m,hn,hl⟩:=It.loc
 obtain ⟨u,r,l⟩:=hl j en (.ref a) hj hσ (.inl hen)
 obtain rfl:u=Value.ref a:=r
 have hme:m en=some (.ref a):=by
  rcases l with ⟨_,e⟩ | ⟨e,_⟩
  ·exact e
  ·exfalso
   have e':X.env.scope.names.lookup en=some .cell\/X.env.scope.names.lookup en=some .free:=e
   rw [hen] at e'
   rcases e' with e' | e'<;>cases e'
 refine wpAny_Name (wpAny_loadName_local I.ok.kind hen hn hme ?_) hd2
 refine Calls.spliced_nil ⟨It.kIn,?_⟩
 have e0:zkv X.prog X.w X.K X.mg X.base (X.A.mark (some (.ref a))) X.stack s (upd H a (.frz o (.own 0))):=
  ⟨It.ok.frames,E0'.mod,E0'.bs,E0'.bsz,E0'.funs,E0'.frf,E0'.hok,E0'.bare,.inr ⟨a,o,.ref C,head,vs,rfl,zaM,ob⟩⟩
 have sp:zbO X.K 1 Fk [.ref a] (upd H a (.frz o (.own 0))) Qv E0:=
  ⟨rfl,ι,h,[.exn c],zaq.cons (by simp only [Rel];exact ⟨a,o,C,head,vs,rfl,⟨zaM,hh.nin hH⟩,hc,ob⟩) zaq.nil,hh.laid hH,q⟩
 refine wpAny_call (codeAny_mono (FH.run (X.A.mark (some (.ref a))) X.stack s _ ⟨[.ref a],[]⟩ [.ref a] [.ref a] Qv ⟨hr.dp,hr.un⟩ e0 (hb s [.ref a] It.kIn rfl) (.cons rfl .nil) sp) fun r s' hq=> ?_)
 cases r with
 | error e=>exact qa0 hq
 | ok fl=>
  cases fl with
  | ret u=>exact It.after hq
  | next=>exact qa0 hq
  | brk=>exact qa0 hq
  | cont=>exact qa0 hq
end
noncomputable def zjZ (known:List String) (gb:FS) (i:Nat) (Fk:List D->M D):FS:=fun sd h=>match gb sd h with
 | .exc c h1=>if known.contains c=true then (do let d<-noX (Fk [.exn c]);pure (.nx ((List.replicate sd.length none).set i (some d))):M Out) h1 else .bad
 | r=>r
section
variable {X:Cx} {E:XE} {body:List Stmt} {ce en gk pe x:Str} {pce p1 p2 p3 p4 p5 hp pos:Pos} {CE fk:Addr} {fdk:FuncData} {Fk:List D->M D} {gb:FS} {j k i:Nat} {known:List String}
theorem znX {st:Stmt} {fin:Sd->D->M Out} {gt:FS} (hgt: ∀ sd h,gt sd h=match gb sd h with
      | .exc c h1=>if known.contains c=true then (do let d<-noX (Fk [.exn c]);fin sd d:M Out) h1 else .bad
      | r=>r)
  (z:ze8 X) (hN:X.N.Nodup) (hj:X.N[j]? = some en) (hen:X.env.scope.names.lookup en=some .local) (hg:Gl X ce) (hm:X.mg ce=some (.ref CE))
  (hkn: ∀ c∈known, ∀ C,zcv X.K c C->W.exmOne X.K (.ref C) (.ref CE)=some true) (hd:(ce==("__debug__":Str))=false)
  (hb: ∀ pn xe E',zbW (CXE X.prog X.w) (X.re pn xe) (zlC X.K E')->SSs (X.re pn xe) E' body gb)
  (hst: ∀ (X':Cx) (pins:List (Addr×Obj)) (σ:L2.St) (H:Hp) (s:Shared) (a:Addr) (D0:zoD) (sd:Sd) (Q:Flow->Shared->Prop) (Ef:Value->Shared->Prop) (pn:List (Addr×Obj)) (xe:Value->Shared->Prop),X'=X.re pn xe->Inv X' pins (σ.set j (some (.ref a))) H s->sd.length=X.N.length->
    (∀ Qv:VK,(∀ d ι' H' h',za4 X.K ι' H' h'->Fin X.K E ι' H' (fin sd d h') (ziO X.K D0)-> ∀ v,Rel X.K ι' H' d v->Qv v H')->
      wpAny (model X.prog X.w) (X.A.mark (some (.ref a))) (eval (.Call (.Name gk p1) [.Name en p2] [] p3) X.env) (fun u s8=> ∃ v H8,Inv X' pins (σ.set j (some (.ref a))) H8 s8/\zbA v u/\Qv v H8) (fun _ _=>False) s)->
    (∀ f s9,SP X' pins D0 f s9->Q f s9)->
    wpAny (model X.prog X.w) (X.A.mark (some (.ref a))) (execs [st] X.env) (fun f s4=>wpAny (model X.prog X.w) X.A (do bindName X.env en .none;unbindBehindTheSuite X.env en hp) (fun _ s5=>Q f s5) Ef s4) (fun _ _=>False) s)
  (FH:FnH X.prog X.w X.K X.mg X.base k fk fdk [pe] (zbO X.K 1 Fk)) (hbk:zav X.K fdk [pe] []) (hgk:Gl X gk) (hmk:X.mg gk=some (.ref fk)) (kp:W.keepIn X.K (.ref fk)=true) (hr:zdk k X.A) (hd2:(gk==("__debug__":Str))=false) (hd3:(en==("__debug__":Str))=false):
  SS X E (.Try body [.ExceptHandler (some (.Name ce pce)) (some en) [st] hp] [] [] pos) gt:=by
 intro pins s σ H D0 I ⟨ι,h,sd,L,hh,q⟩
 refine wpAny_Try_except ?_
 rw [hgt] at q
 let xe':Value->Shared->Prop:=fun e s₁=>wpAny (model X.prog X.w) X.A (noteFrame e X.env) (fun _ s₂=>wpAny (model X.prog X.w) X.A (setFlight e none) (fun _ s₃=>wpAny (model X.prog X.w) X.A (handleBy e X.env [.ExceptHandler (some (.Name ce pce)) (some en) [st] hp]) (SP X pins D0) X.xe s₃) X.xe s₂) X.xe s₁
 cases hres:gb sd h with
 | bad=>rw [hres] at q;exact qa0 q
 | ok o1 h1=>
  rw [hres] at q
  have run:=hb (X.pn++pins) xe'
   E0x (fun pins' σ' H1 s1 e s2 I1 hx=>by obtain ⟨a,C,H2,_,_,c,C',_,_,w⟩:=hx;exact w.elim) [] s σ H D0 (I.re _) ⟨ι,h,sd,L,hh,by rw [hres];exact q⟩
  refine qaZ run (fun f s1 hs=> ?_) fun _ _ w=>w
  have hs':=hs.unre
  cases f with
  | next=>exact wpAny_execs_nil hs'
  | ret u=>exact hs'
  | brk=>exact hs'
  | cont=>exact hs'
 | exc c h1=>
  rw [hres] at q
  by_cases hk:known.contains c=true
  ·simp only [hk,if_true] at q
   have run:=hb (X.pn++pins) xe'
    (fun c' H'=>c'=c/\ ∃ ι',zbE ι H ι' H'/\za4 X.K ι' H' h1) (fun pins' σ' H1 s1 e s2 I1 hx=>by
      obtain ⟨a,C,H2,rfl,y,c',C',e1,hc,rfl,ι',st1,hr1⟩:=hx
      cases e1
      have z':ze8 (X.re (X.pn++pins) xe'):=⟨z.stk,z.frm,z.ex⟩
      obtain ⟨f1,f2,f3⟩:=y.fresh
      refine Fl.caught (X:=X.re (X.pn++pins) xe') (b₀:=st) (suite:=[]) (pce:=pce) (pos:=hp) (Q:=SP X pins D0) (E:=X.xe) z' I1 y hN hj hen hg hm (hkn c' (by simpa using hk) C hc) (fun s6 I6 ⟨head,x6⟩=> ?_) hd
      obtain ⟨o,vs,ho,ob⟩:=x6
      have hnil: ∀ b,b∉X.ex:=fun b h=>by rw [z.ex] at h;cases h
      refine hst _ pins' σ' H2 s6 a D0 sd (SP X pins D0) X.xe _ _ rfl I6 (L.1.trans I.len) (fun Qv hQ=> ?_) fun f s9 w=>w.unre
      have hσ:(σ'.set j (some (V.ref a)))[j]? = some (some (.ref a)):=qai (by rw [I1.len];exact (qac.mp hj).1)
      refine zmg (X:=X.re _ _) I6 f2 ho ob ?_ (fun w=> ?_) (fun x c e w=> ?_) (fun p hp w=> ?_) hj hσ hen FH hbk hgk hmk kp hr hc hr1 ?_ hd2 hd3
      · cases w:X.s₀.heap.get? a with
        | none=>exact w
        | some ob=>
          obtain ⟨o',e'⟩:=I1.base.there a ob w (hnil a)
          rw [f1] at e'
          cases e'
      · obtain ⟨m,⟨oL,_,_,hoL,_⟩,_⟩:=I1.loc
        have hoL:s1.heap.get? X.env.locals=some oL:=hoL
        rw [<- show a=X.env.locals from w,f1] at hoL
        cases hoL
      · obtain ⟨v,oc,hoc,_⟩:=I1.cell x c e
        rw [w,f1] at hoc
        cases hoc
      · have e:=(I1.pin p hp).1
        rw [w,f1] at e
        cases e
      · have q1:=Fin.step (st1.trans (hr1.laidS (o:= .frz o (.own 0)) f2)) q
        exact Fin.noX (Fin.bind q1 fun d h' ι8 H8 e8 s8 hr8 q8 v rv=>hQ d ι8 H8 h' hr8 q8 v rv))
    [] s σ H {nx:=fun _ _=>False,rt:=fun _ _=>False} (I.re _) ⟨ι,h,sd,L,hh,by rw [hres];exact fun ι' H' st1 hr1=>⟨rfl,ι',st1,hr1⟩⟩
   refine qaZ run (fun f s1 hs=> ?_) fun _ _ w=>w
   cases f with
   | next=>obtain ⟨_,_,_,w⟩:=hs;exact w.elim
   | brk=>obtain ⟨_,_,_,w⟩:=hs;exact w.elim
   | cont=>obtain ⟨_,_,_,w⟩:=hs;exact w.elim
   | ret u=>obtain ⟨_,_,_,_,_,w⟩:=hs;exact w.elim
  ·simp only [hk] at q
   exact qa0 q
theorem zs4 (z:ze8 X) (hN:X.N.Nodup) (hj:X.N[j]? = some en) (hen:X.env.scope.names.lookup en=some .local) (hi:X.N[i]? = some x) (hx:X.env.scope.names.lookup x=some .local) (hij:j≠i) (hg:Gl X ce) (hm:X.mg ce=some (.ref CE))
  (hkn: ∀ c∈known, ∀ C,zcv X.K c C->W.exmOne X.K (.ref C) (.ref CE)=some true)
  (hb: ∀ pn xe E',zbW (CXE X.prog X.w) (X.re pn xe) (zlC X.K E')->SSs (X.re pn xe) E' body gb)
  (FH:FnH X.prog X.w X.K X.mg X.base k fk fdk [pe] (zbO X.K 1 Fk)) (hbk:zav X.K fdk [pe] []) (hgk:Gl X gk) (hmk:X.mg gk=some (.ref fk)) (kp:W.keepIn X.K (.ref fk)=true) (hr:zdk k X.A)
  (hd:(ce==("__debug__":Str))=false:=by decide) (hd2:(gk==("__debug__":Str))=false:=by decide) (hd3:(en==("__debug__":Str))=false:=by decide)
  (hs:swapsWith (.Call (.Name gk p1) [.Name en p2] [] p3) (some (.Name x p5)) p4.line X.env=pure false:=by rfl):
  SS X E (.Try body [.ExceptHandler (some (.Name ce pce)) (some en) [.Assign [.Name x p5] (.Call (.Name gk p1) [.Name en p2] [] p3) p4] hp] [] [] pos) (zjZ known gb i Fk):=by
 refine znX (fin:=fun sd d=>pure (.nx ((List.replicate sd.length none).set i (some d)))) (p1:=p1) (p2:=p2) (p3:=p3) (fun sd h=>rfl) z hN hj hen hg hm hkn hd hb (fun X' pins σ H s a D0 sd Q Ef pn xe hX I6 hl ev hQ=> ?_) FH hbk hgk hmk kp hr hd2 hd3
 subst hX
 refine wpAny_execs_cons ?_
 refine wpAny_Assign_Name (qaZ (ev (fun v H'=> ∀ σ9:L2.St,σ9.length=X.N.length->σ9[i]? = some (some v)->D0.nx σ9 H') fun d ι' H' h' hr1 q v rv σ9 l9 e9=> ?_) (fun u s8 hv=> ?_) fun _ _ w=>w) hs
 ·have q1:=Fin.out hr1 q
  refine q1 σ9 ⟨by rw [qaI,List.length_replicate,hl,l9],fun n d' e=> ?_⟩
  by_cases hn:i=n
  ·subst hn
   by_cases hlt:i<sd.length
   ·rw [qai (by rw [List.length_replicate];exact hlt)] at e
    cases e
    exact ⟨v,e9,rv⟩
   ·rw [List.getElem?_eq_none (by rw [qaI,List.length_replicate];omega)] at e
    cases e
  ·rw [qao hn,List.getElem?_replicate] at e
   split at e<;>cases e
 ·obtain ⟨v,H8,I8,rv,qv⟩:=hv
  refine zeU (X:=X.re pn xe) I8 hN hi (.inl hx) rv (fun s9 I9=> ?_) (.inr hx)
  refine wpAny_execs_nil ?_
  refine zrc (X:=X.re pn xe) I9 hN hj hen fun s10 I10=>hQ _ s10 ⟨_,H8,I10,qv _ ?_ ?_⟩
  ·exact I10.len
  ·rw [qao hij]
   exact qai (by rw [qaI];have:=I9.len;rw [qaI,qaI] at this;rw [this];exact (qac.mp hi).1)
noncomputable def zeG (c:String):FS:=fun _ h=> .exc c h
theorem zqM {c:String} {C:Addr} {nid:String} {msg:Str} {jj:Nat} {np cpos:Pos} (hc:X.calm=true) (hp:zqz X E) (hX:W.excIn X.K C zkG "ValueError.__new__"=true) (hcl:zcv X.K c C) (hg:Gl X (c:Str)) (hd:((c:Str)==("__debug__":Str))=false:=by decide):
  SS X E (.Raise (some (.Call (.Name (c:Str) np) [.Constant (.str msg) jj p2] [] cpos)) none pos) (zeG c):=by
 intro pins s σ H D0 I ⟨ι,h,sd,L,hh,q⟩
 have hE:E c H:=q ι H (zbE.refl _ _) hh
 have hm:X.mg (c:Str)=some (.ref C):=W.mg_of I.ok.mod.kin I.ok.mod.glob hcl
 obtain ⟨tl,N,nm,qq,bs,hdct,sn,sub,ab,col,dd,k0,k1,k2,k3,k5,mN,hC,hNs,hni,T⟩:=(zqc (x:=(c:Str)) I.ok.mod.kin hm hX).obj
 refine wpAny_Raise_call_subT (C:=C) (nm:=nm) (q:=qq) (N:=N) (bs:=bs) (bm:=tl) (hdct:=hdct) (sn:=sn) (sub:=sub) (ab:=ab) (col:=col) (dd:=dd) (k0:=k0) (k1:=k1) (k2:=k2) (k3:=k3) (k5:=k5)
  PySem.F.excBase_ValueError (mN:=mN) (T.hasType PySem.F.excBase_ValueError.hasBase) (I.ok.hd hc) rfl hni (zgU I hg hm ⟨rfl,?_⟩ hd)
 refine Calls.evalArgs_plain (x:=eval (.Constant (.str msg) jj p2) X.env) (rest:=[]) ?_
 refine Calls.spliced_cons (thn (zoV pins s σ H (fun v H1=>H1=H) I rfl) fun u s1 hu=> ?_)
 obtain ⟨v,H1,I1,rv,rfl⟩:=hu
 refine Calls.spliced_nil ⟨rfl,by show 1<=sizeLine;decide,I1.bk _ _ hC,hNs.keeps I1.bk,T.keeps I1.bk,fun h' e m=> ?_⟩
 exact hp pins σ H1 s1 h' e C c _ I1 hcl m hE
end
end L3
namespace L3
open PySem PySem.W
theorem zhT {K:Frag} {C:Addr} {name:Str} {a g:Value} (hc:(clsIn K C).isSome=true) (ha:findIn K (.ref C) name=some (some a)) (hg:specialIn K a "__get__"=some (some g)) (ht:takesIn K a=some true):findObj K C none name=some (.bind g a):=by
 obtain ⟨cd,hc⟩:=Option.isSome_iff_exists.mp hc
 unfold findObj
 rw [hc,Option.bind_some,ha,Option.bind_some]
 simp [hg,ht]
section
variable {prog:Program} {w:World} {A:Around} {E:Value->Shared->Prop} {s:Shared} {K:Frag} {x D:Addr} {ox:Obj}
theorem zlq {Q:Option Value->Shared->Prop} (X:K.In s.heap) (I:InstAt s.heap x ox D none) (hc:(clsIn K D).isSome=true) (hga:findIn K (.ref D) "__getattribute__"=some (some (.builtin "BaseException.__getattribute__"))) (hk:findIn K (.ref D) "__getattr__"=some none)
  (ha:findIn K (.ref D) "__class__"=some (some (.builtin "object.__class__"))) (hn:specialIn K (.builtin "object.__class__") "__get__"=some (some (.builtin "getset_descriptor.__get__"))) (htk:takesIn K (.builtin "object.__class__")=some true)
  (hm:mroIn K D (.type "object")=some true) (hmB:mroIn K D (.type "BaseException")=some true) (h:Q (some (.ref D)) {s with toks:=s.toks+1}):wpAny (model prog w) A (getAttr? (.ref x) "__class__") Q E s:=by
 obtain ⟨hh,g,d,t,os⟩:=s
 have L0:=I.type (M:=model prog w)
 have L1:=looks_findIn (M:=model prog w) X hga
 have L2:=looks_findIn (M:=model prog w) X hk
 have L3:=looks_find (M:=model prog w) X I (zhT hc ha hn htk)
 have LB:Looks (model prog w) hh (isInstance (.ref x) (.type "BaseException")) true:=L0.andThen (looks_mroIn X hmB)
 have f3:=PySem.F.attr_ValueError.ga.bind (.ref x)
 have hx2:(Value.builtin "BaseException.__getattribute__"==Value.builtin "object.__getattribute__")=false:=by decide +kernel
 unfold getAttr? getAttrBy? getAttrBy
 refine qaW (wpAny_mkText (qaW (wpAny_attempt (qaO (qaW (L0.at (qaW (L1.at ?_))))))))
 dsimp only
 rw [hx2,Bool.and_false,qa5 Bool.false_ne_true]
 unfold getAttrByItsOwn hookBefore
 rw [qa4 (show onTheHeap (Value.ref D)=true from rfl)]
 refine qaW (L2.at ?_)
 refine qaW (wpAny_attempt (qaO ?_))
 unfold callGetattribute
 rw [qa5 (by simp)]
 unfold boundAndCalled
 rw [f3]
 refine qaW (qaX ?_)
 refine wpAny_call (codeAny_call_builtin PySem.F.attr_ValueError.ga.plain PySem.F.entry_bexc_ga ?_)
 have kd:builtinKind "BaseException.__getattribute__"=some .slot:=by decide +kernel
 have sp:splitId "BaseException.__getattribute__"=some ("BaseException","__getattribute__"):=by decide +kernel
 have ag:=PySem.F.args_bexc_ga (.ref x) (.str "__class__" t)
 simp only [checkBuiltinCall,kd,sp]
 refine qaW (LB.at ?_)
 rw [qa5 (by decide)]
 refine wpAny_of_eq (a:=()) ag ?_
 unfold Builtin.«object.__getattribute__»
 refine qaW (qaX ?_)
 refine qaW (qaX ?_)
 refine qaW (L0.at ?_)
 refine qaW (L3.at ?_)
 dsimp only
 unfold Builtin.ObjectAttr.bindTo
 dsimp only
 refine qaW (qaO (wpAny_call (class_get (s:=⟨hh,g,d,t+1,os⟩) X I hm ?_)))
 refine qaX ?_
 dsimp only
 refine wpAny_of_eq (a:=Value.ref D) rfl ?_
 exact qaX h
end
end L3
namespace L3
open PySem PySem.Spec PyProof.Rows L2
noncomputable def kxb (K:W.Frag) (C:Addr):Bool:=(W.clsIn K C).isSome && W.findIn K (.ref C) "__getattribute__"==some (some (.builtin "BaseException.__getattribute__")) && W.findIn K (.ref C) "__getattr__"==some none && W.findIn K (.ref C) "__class__"==some (some (.builtin "object.__class__"))
 && W.specialIn K (.builtin "object.__class__") "__get__"==some (some (.builtin "getset_descriptor.__get__")) && W.takesIn K (.builtin "object.__class__")==some true && W.mroIn K C (.type "object")==some true && W.mroIn K C (.type "BaseException")==some true
theorem zmX {K:W.Frag} {x C:Addr} {ox:Obj} (h:kxb K C=true):W.KitX K (.ref x) (.ref C) (fun h=>W.InstAt h x ox C none):=by
 unfold kxb at h
 simp only [qaG,beq_iff_eq] at h
 obtain ⟨⟨⟨⟨⟨⟨⟨h1,h2⟩,h3⟩,h4⟩,h5⟩,h6⟩,h7⟩,h8⟩:=h
 refine ⟨fun _ _ _ I=>I.type,fun M hp X _=> ?_,fun hp tp dd its n sl X htp=> ?_,fun X I k=>zlq X I h1 h2 h3 h4 h5 h6 h7 h8 k⟩
 ·obtain ⟨cd,hc⟩:=Option.isSome_iff_exists.mp h1
  unfold W.clsIn at hc
  split at hc
  ·rename_i lk
   intro A' Q' E' s' k q
   unfold isType loadHead
   exact qaW (wpAny_loadPart (k _ _ (X _ _ lk)) (qaX q))
  ·cases hc
 ·refine Bool.eq_false_iff.mpr fun q=> ?_
  have e:C=tp:=Value.ref.inj (beq_iff_eq.mp q)
  subst e
  obtain ⟨cd,hc⟩:=Option.isSome_iff_exists.mp h1
  unfold W.clsIn at hc
  split at hc
  ·rename_i lk
   have z:=(X _ _ lk).symm.trans htp
   cases z
  ·cases hc
structure zt4 (K:W.Frag) (CE:Addr) (names:List String) (c:String) (C:Addr):Prop where
 exc:W.excIn K C zkG "ValueError.__new__"=true
 cov:W.exmOne K (.ref C) (.ref CE)=some true
 kx:kxb K C=true
 ve:W.kitOne K (.ref C) (.type "ValueError")=some true
 one: ∀ c'∈names, ∀ C',zcv K c' C'->W.kitOne K (.ref C) (.ref C')=some (c==c')
def zn0 (K:W.Frag) (CE:Addr) (names:List String):Prop:= ∀ c∈names, ∀ C,zcv K c C->zt4 K CE names c C
noncomputable def zlu (K:W.Frag) (CE:Addr) (tab:List (String×Addr)):Bool:=tab.all fun p=>W.nsIn K mainGlobals (p.1:Str)==some (some (.ref p.2)) && W.excIn K p.2 zkG "ValueError.__new__" && W.exmOne K (.ref p.2) (.ref CE)==some true && kxb K p.2 && W.kitOne K (.ref p.2) (.type "ValueError")==some true
 && tab.all fun r=>W.kitOne K (.ref p.2) (.ref r.2)==some (p.1==r.1)
theorem zn0.of {K:W.Frag} {CE:Addr} {tab:List (String×Addr)} (h:zlu K CE tab=true):zn0 K CE (tab.map (·.1)):=by
 unfold zlu at h
 rw [List.all_eq_true] at h
 have key: ∀ c∈tab.map (·.1), ∀ C,zcv K c C->(c,C)∈tab:=fun c hc C hC=>by
  obtain ⟨p,hp,rfl⟩:=qaU.mp hc
  have h1:=h p hp
  simp only [qaG,beq_iff_eq] at h1
  have e:=h1.1.1.1.1.1
  unfold zcv at hC
  rw [hC] at e
  cases e
  exact hp
 intro c hc C hC
 have h1:=h _ (key c hc C hC)
 simp only [qaG,beq_iff_eq,List.all_eq_true] at h1
 obtain ⟨⟨⟨⟨⟨a1,a2⟩,a3⟩,a4⟩,a5⟩,a6⟩:=h1
 exact ⟨a2,a3,a4,a5,fun c' hc' C' hC'=>a6 _ (key c' hc' C' hC')⟩
theorem zn0.known {K:W.Frag} {CE:Addr} {names:List String} (h:zn0 K CE names): ∀ c∈names, ∀ C,zcv K c C->W.exmOne K (.ref C) (.ref CE)=some true:=fun c hc C hC=>(h c hc C hC).cov
noncomputable def zoP (names:List String) (T:String):D->M D
 | .exn c=>if names.contains c && names.contains T then pure (.bl (c==T)) else M.bad
 | _=>M.bad
section
variable {X:Cx} {E:XE}
theorem zmY:zaN X (.builtin "isinstance") (fun xs H Q=> ∃ a o C vs x u b,xs=[.ref a,x]/\H a=some (.frz o (.own 0))/\(o.cls= .ref C/\o.dict=none/\o.data= .fields vs)/\kxb X.K C=true/\zbA x u/\(∀ u',zbA x u'->u'=u)/\W.kitOne X.K (.ref C) u=some b/\Q (.bl b) H):=by
 intro pins s σ H xs us Q I r h
 obtain ⟨a,o,C,vs,x,u,b,rfl,hH,⟨o1,o2,o3⟩,hk,hu,hu2,e,q⟩:=h
 cases r with
 | cons r1 r2=>
  cases r2 with
  | cons r3 r4=>
   cases r4
   cases r1
   have:=hu2 _ r3
   subst this
   have ho:=(I.hok a _ hH).1
   refine W.kia_one (zmX (x:=a) (ox:=o) hk) I.kIn ⟨ho,o1,by unfold W.notCls;rw [o3],by rw [o2];trivial⟩ e (fun z=>nomatch z) fun tk=>⟨.bl b,H,I.tok tk,rfl,q⟩
variable {a:Expr} {p1 p2 pos:Pos} {fa:FE} {CE CC:Addr} {names:List String}
theorem zix {c':String} (hx:zn0 X.K CE names) (hc':names.contains c'=true) (hcl:zcv X.K c' CC) (hm:X.mg "isinstance"=none) (hmC:X.mg (c':Str)=some (.ref CC)) (ha:SE X E a fa) (hg:Gl X "isinstance":=by rfl) (hgC:Gl X (c':Str):=by rfl)
  (hd:((c':Str)==("__debug__":Str))=false:=by decide)
  (h1:starEach [a,.Name (c':Str) p2] X.env=(false,eval a X.env)::starEach [.Name (c':Str) p2] X.env:=by rfl) (h2:starEach [.Name (c':Str) p2] X.env=[(false,eval (.Name (c':Str) p2) X.env)]:=by rfl)
  (hpl:(backTo pos (starEach [.Name (c':Str) p2] X.env)).any (·.1)=false:=by rfl):
  SE X E (.Call (.Name "isinstance" p1) [a,.Name (c':Str) p2] [] pos) (cUn (zoP names c') fa):=by
 refine PE.imp (ze2 zmY hg hm PyProof.Rows.boot_isinstance (zcg ha (zcg (zmi (v:= .ref CC) hgC hmC rfl hd) zed h2) h1) (he:=h1) (hpl:=hpl)) fun σ H Q ⟨ι,h,sd,L,hh,q⟩=>⟨ι,h,sd,L,hh,Fin.bind q fun d h1 ι1 H1 e1 s1 hr1 q1 v rv=> ?_⟩
 cases d with
 | exn c=>
  obtain ⟨hg1,q2⟩:=Fin.guard (show Fin X.K E ι1 H1 ((if (names.contains c && names.contains c')=true then (pure (.bl (c==c')):M D) else M.bad) h1) _ from q1)
  rw [qaG] at hg1
  simp only [Rel] at rv
  obtain ⟨b,o,C,head,vs,rfl,⟨r1,_⟩,r2,r3,r4,r5,_⟩:=rv
  have ok:=hx c (by simpa using hg1.1) C r2
  exact ⟨b,o,C,vs,.ref CC,.ref CC,c==c',rfl,r1,⟨r3,r4,r5⟩,ok.kx,rfl,fun u' z=>z,ok.one c' (by simpa using hc') CC hcl,Fin.out hr1 q2 _ (by simp [Rel])⟩
 | _=>exact qa0 q1
end
end L3
namespace L3
open PySem
section
variable {prog:Program} {w:World} {A:Around} {E:Value->Shared->Prop} {s:Shared}
end
end L3
namespace L2
open PySem PySem.Spec PyProof.Rows L3
section
variable {X:Cx}
theorem zj3:MtM X "list.extend" (fun x vs H Q=> ∃ l b xs zs,x= .ref l/\vs=[.ref b]/\H l=some (.lst xs)/\SqT X.K H b zs/\xs.length+zs.length<=sizeLine/\Q .non (upd H l (.lst (xs++zs)))):=by
 intro pins s σ H x vs v us Q I rx rv h
 obtain ⟨l,b,xs,zs,rfl,rfl,hH,hB,hz,q⟩:=h
 cases rx
 obtain ⟨u,rfl,ru⟩:=zfv rv
 cases ru
 obtain ⟨z,its,n,r,hl,e⟩:=I.lstM hH
 obtain ⟨its2,r2,⟨ob,e2,c2,n2,d2⟩,z2⟩:=I.tuple hB
 have l2:=r2.length
 have hsz:its.toArray.size+its2.toArray.size<=sizeLine:=by rw [qaA,qaA];omega
 refine wpAny_call (codeAny_call_builtin F.slot_list_extend.plain F.entry_list_extend (F.slot_list_extend.check _ _ _ _ _ _ _ _ ⟨_,e,rfl⟩ (F.args_list_extend_2 _ _) ?_))
 unfold Builtin.«list.extend»
 refine qaW (qaX ?_)
 unfold Builtin.List.listExtendWith
 refine qaW (wpAny_typeOf ⟨ob,e2,c2⟩ ?_)
 have h1:(Builtin.List.listSameRef (.ref l) (.ref b) || Value.type "tuple"==Value.type "list" || Value.type "tuple"==Value.type "tuple")=true:=by simp
 simp only [h1,if_true]
 unfold Builtin.List.listItems
 refine qaW (qaW (wpAny_seqItems e2 d2 (qaX ?_)))
 refine qaW (qaW (wpAny_seqItems e rfl (qaX ?_)))
 rw [qa5 (by rw [zn1 hsz,Bool.and_false];exact Bool.false_ne_true)]
 refine qaW (wpAny_updateSeq e rfl ?_ (by rw [qaA];omega))
 refine qaX ?_
 refine ⟨.non,_,I.lset (its':=its++its2) hH e (by simp) (r.append r2) ?_,rfl,q⟩
 rw [qav]
 omega
theorem zgn: ∀ {bs:List Bool} {its:List Value},zaQ (bs.map V.bl) its->its=bs.map Value.bool
 | [],_,h=>by cases h;rfl
 | b::bs,_,h=>by
  cases h with
  | cons r t=>cases r;rw [zgn t];rfl
theorem zly:MtR X "list.index" (fun x vs H Q=> ∃ (l:Addr) (bs:List Bool) (j:Nat),x= .ref l/\vs=[.bl true]/\SqL X.K H l (bs.map V.bl)/\bs[j]? = some true/\(∀ m,m<j->bs[m]? = some false)/\Q (.int (j:Int)) H):=by
 intro pins s σ H x vs v us Q I rx rv h
 obtain ⟨l,bs,j,rfl,rfl,hq,hj,hno,q⟩:=h
 cases rx
 obtain ⟨u,rfl,ru⟩:=zfv rv
 cases ru
 obtain ⟨its,r,pl,hz⟩:=I.list hq
 have eit:=zgn r
 subst eit
 obtain ⟨ob,e1,c1,n1,d1⟩:=pl.isList
 obtain ⟨cc,dd,dt,sl⟩:=ob
 dsimp only at c1 d1
 subst c1 d1
 have hlt:j<bs.length:=(qac.mp hj).1
 rw [qaH] at hz
 have sz:(j:Int)<2^63 - 1:=by
  have:sizeLine<2^40:=by decide
  omega
 refine call_meets F.slot_list_index ⟨_,e1,rfl⟩ F.entry_list_index (F.args_list_index_2 _ _)
  (PySem.SeqAt.list_indexAt l _ n1 dd sl (.bool true) (fun v=>match v with | .bool b=>b | _=>false) j (by simpa using hlt) sz ?_ ?_) ⟨e1,fun y hy=> ?_,⟨.int j,H,I.tok _,⟨_,rfl⟩,q⟩⟩
 ·have:=(qac.mp hj).2
  simp [this]
 ·intro m hm hmj
  have:=(qac.mp (hno m hmj)).2
  simp [this]
 ·obtain ⟨b,_,rfl⟩:=qaU.mp (List.mem_toArray.mp hy)
  have:=PySem.SeqAt.EqAt.bool_bool (A:=X.A.in1) (s:=s) b true
  simpa using this
end
end L2
namespace L3
open PySem PySem.Spec PyProof.Rows L2
noncomputable def zu9 (f:FE):FE:=fun sd=>noX (f sd)
noncomputable def zu7 (f:FS):FS:=fun sd=>noX (f sd)
theorem zeA {X:Cx}:zbW (CXE X.prog X.w) X (zlC X.K E0x):=fun _ _ _ _ _ _ _ h=>by
 obtain ⟨_,_,_,_,_,_,_,_,_,z⟩:=h
 exact z.elim
section
variable {X:Cx} {E:XE} {a e o:Expr} {es:List Expr} {pos p cpos apos:Pos} {f fo fe fa:FE} {fs:FA} {x:Str}
theorem zet {k:Nat} {g:Addr} {fd:FuncData} {ps:List Str} {n:Nat} {F:List D->M D} (G:zbh X.prog X.w X.K X.mg X.base (CXE X.prog X.w) k g fd ps (spE X.K n F)) (hx:zbW (CXE X.prog X.w) X (zlC X.K E)) (hr:zcn k X.A) (hm:X.mg x=some (.ref g)) (hk:W.keepIn X.K (.ref g)=true) (hb:zav X.K fd ps [])
  (ha:SA X E (e::es) fs) (hg:Gl X x:=by rfl) (hdb:(x==("__debug__":Str))=false:=by decide) (he:starEach (e::es) X.env=(false,eval e X.env)::starEach es X.env:=by rfl) (hpl:(backTo pos (starEach es X.env)).any (·.1)=false:=by rfl):
  SE X E (.Call (.Name x p) (e::es) [] pos) (zaI (zak n F) fs):=znP G hx hr hg hm hk hb ha hdb he hpl
theorem zfj {k:Nat} {g:Addr} {fd:FuncData} {ps:List Str} {n:Nat} {F:List D->M D} (G:zbh X.prog X.w X.K X.mg X.base CX0 k g fd ps (zbO X.K n F)) (hr:zcn k X.A) (hm:X.mg x=some (.ref g)) (hk:W.keepIn X.K (.ref g)=true) (hb:zav X.K fd ps [])
  (ha:SA X E (e::es) fs) (hg:Gl X x:=by rfl) (hdb:(x==("__debug__":Str))=false:=by decide) (he:starEach (e::es) X.env=(false,eval e X.env)::starEach es X.env:=by rfl) (hpl:(backTo pos (starEach es X.env)).any (·.1)=false:=by rfl):
  SE X E (.Call (.Name x p) (e::es) [] pos) (zaI (zak n fun ds=>noX (F ds)) fs):=zmO G hr hg hm hk hb ha hdb he hpl
theorem zft {c:String} {C CE:Addr} {names:List String} {msg:Str} {jj:Nat} {np p2:Pos} (hc:X.calm=true) (hp:zqz X E) (hX:zn0 X.K CE names) (hn:names.contains c=true) (hcl:zcv X.K c C) (hg:Gl X (c:Str):=by rfl) (hd:((c:Str)==("__debug__":Str))=false:=by decide):
  SS X E (.Raise (some (.Call (.Name (c:Str) np) [.Constant (.str msg) jj p2] [] cpos)) none pos) (zeG c):=zqM (nid:="") hc hp (hX c (by simpa using hn) C hcl).exc hcl hg hd
noncomputable def zsg:D->M D
 | .lst ds=>do
  let bs<-ofO (znj ds)
  let j<-ofO (bs.findIdx? id)
  pure (.int j)
 | _=>M.bad
theorem zp7 {jj:Nat} {p2:Pos} (ho:SE X E o fo)
  (hbase:attributeBase o "index" X.env (eval o X.env)=eval o X.env:=by rfl)
  (hfew:((backTo cpos (starEach [.Constant (.bool true) jj p2] X.env)).all (fun x=> !x.1) && (backToKw cpos (keywordEach [] X.env)).all (fun x=>x.1.isSome)
    && decide (([.Constant (.bool true) jj p2]:List Expr).length+([]:List Keyword).length+(if ([]:List Keyword).isEmpty then 0 else 1)<30))=true:=by rfl)
  (hline:(apos.endLine==cpos.line)=true:=by rfl) (hs:starEach [.Constant (.bool true) jj p2] X.env=(false,eval (.Constant (.bool true) jj p2) X.env)::starEach [] X.env:=by rfl) (hplain:(backTo cpos (starEach [] X.env)).any (·.1)=false:=by rfl):
  SE X E (.Call (.Attribute o "index" apos) [.Constant (.bool true) jj p2] [] cpos) (cUn zsg fo):=by
 refine PE.imp (zoi PySem.F.plainAttrs_list PySem.F.slot_list_index PySem.F.type_list_index zly ho (zcg zst zed hs) hbase hfew hline hs hplain) fun σ H Q ⟨ι,h,sd,L,hh,q⟩=>⟨ι,h,sd,L,hh,Fin.bind q fun d h1 ι1 H1 e1 s1 hr1 q1 v rv=> ?_⟩
 cases d with
 | lst ds=>
  obtain ⟨a,vs,e',h1',h2⟩:=zd8 rv
  obtain ⟨bs,en,q2⟩:=Fin.ofOb q1
  obtain ⟨j,ej,q3⟩:=Fin.ofOb q2
  have:=zg8 h2 en
  subst this
  subst e'
  refine ⟨.inl ⟨rfl,_,h1'⟩,a,bs,j,rfl,rfl,h1',?_,fun m hm=> ?_,Fin.out hr1 q3 _ (by simp [Rel])⟩
  ·obtain ⟨h3,h4,_⟩:=List.findIdx?_eq_some_iff_getElem.mp ej
   rw [qaf h3]
   simpa using h4
  ·obtain ⟨h3,h4,h5⟩:=List.findIdx?_eq_some_iff_getElem.mp ej
   rw [qaf (by omega)]
   simpa using h5 m hm
 | _=>exact qa0 q1
noncomputable def zdV (x y:D):M D:=match x,y with
 | .cel n,.tup zs=>do
  let ds<-zah n
  fits (ds.length+zs.length)
  zbe n (ds++zs)
  pure .non
 | _,_=>M.bad
noncomputable def ziu (fo fe:FE):FE:=fun sd=>do
 let x<-fo sd
 zdH x
 let y<-fe sd
 zdV x y
theorem zmL (ho:SE X E o fo) (he:SE X E e fe)
  (hbase:attributeBase o "extend" X.env (eval o X.env)=eval o X.env:=by rfl)
  (hfew:((backTo cpos (starEach [e] X.env)).all (fun x=> !x.1) && (backToKw cpos (keywordEach [] X.env)).all (fun x=>x.1.isSome)
    && decide (([e]:List Expr).length+([]:List Keyword).length+(if ([]:List Keyword).isEmpty then 0 else 1)<30))=true:=by rfl)
  (hline:(apos.endLine==cpos.line)=true:=by rfl) (hs:starEach [e] X.env=(false,eval e X.env)::starEach [] X.env:=by rfl) (hplain:(backTo cpos (starEach [] X.env)).any (·.1)=false:=by rfl):
  SE X E (.Call (.Attribute o "extend" apos) [e] [] cpos) (ziu fo fe):=by
 refine PE.imp (zoi PySem.F.plainAttrs_list PySem.F.slot_list_extend PySem.F.type_list_extend zj3 ho (zcg he zed hs) hbase hfew hline hs hplain) fun σ H Q ⟨ι,h,sd,L,hh,q⟩=>⟨ι,h,sd,L,hh,Fin.bind q fun d h1 ι1 H1 e1 s1 hr1 q1 v rv=> ?_⟩
 cases d with
 | cel n=>
  have q2:Fin X.K E ι1 H1 ((zah n>>=fun _=>fe sd>>=fun y=>zdV (.cel n) y) h1) (fun d ι' H'=> ∀ v,Rel X.K ι' H' d v->Q v H'):=by
   have ee:(zdH (.cel n)>>=fun _=>fe sd>>=fun y=>zdV (.cel n) y:M D)=(zah n>>=fun _=>fe sd>>=fun y=>zdV (.cel n) y):=by
    show ((zah n>>=fun _=>pure ())>>=fun _=>fe sd>>=fun y=>zdV (.cel n) y)=_
    simp only [bind_assoc,pure_bind]
   rw [<- ee]
   exact q1
  obtain ⟨ds,e2,q3⟩:=zff q2
  obtain ⟨a,vs,rfl,hn,hH,rl⟩:=hr1.read rv e2
  refine ⟨.inl ⟨rfl,vs,SqL.of hH⟩,ι1,h1,sd,L.step s1,hr1,Fin.bind q3 fun y h3 ι3 H3 e3 s3 hr3 q4 w rw'=> ?_⟩
  have rv3:=rv.step s3
  cases y with
  | tup zs=>
   have q5:Fin X.K E ι3 H3 ((zah n>>=fun ds=>fits (ds.length+zs.length)>>=fun _=>zbe n (ds++zs)>>=fun _=>pure D.non) h3) (fun d ι' H'=> ∀ v,Rel X.K ι' H' d v->Q v H'):=q4
   obtain ⟨ds3,e4,q6⟩:=zff q5
   obtain ⟨a3,vs3,ea,hn3,hH3,rl3⟩:=hr3.read rv3 e4
   cases ea
   obtain ⟨b,ws,eb,hb,rlb⟩:=zdg rw'
   obtain ⟨z,q7⟩:=Fin.fits q6
   refine ⟨a,b,vs3,ws,rfl,by rw [eb],hH3,hb,by rw [<- rl3.length, <-rlb.length];exact z,?_⟩
   have q8:Fin X.K E ι3 H3 (R.ok D.non (h3.set n (.lst (ds3++zs)))) (fun d ι' H'=> ∀ v,Rel X.K ι' H' d v->Q v H'):=q7
   exact q8 ι3 _ (hr3.cellS hn3) (hr3.cell hn3 (rl3.append rlb)) _ (by simp [Rel])
  | _=>exact qa0 q4
 | _=>exact qa0 q1
end
section
variable {P:Program} {w:World} {K:W.Frag} {mg:Str->Option Value} {base:Heap}
theorem zr5 {x qual:Str} {st:Stmt} {f:Addr} {fd:FuncData} {N ps:List Str} {k:Nat} {G:Sd->M Out} (F:Fun K x qual st f fd) (S:zap N ps (zae st))
  (hb: ∀ (cdv:Value) (A:Around) (outer:List Env) (s:Shared) (H:Hp),zdk k (A.deeper (envOfC qual (zae st) s.heap.objs.size f cdv))->SSs ({zij CX0 P w K mg base N qual (zae st) f cdv A outer s H E0 with calm:=false}:Cx).nox E0x (zcw st) G):
  FnH P w K mg base (k+1) f fd ps (zbO K ps.length (zcD N.length G)):=by
 obtain ⟨oc,od,kV,doc,pm,an,cdv,ct,osl,rfl,lk,hcd⟩:=F.ex
 refine zr7 lk hcd S (fun vs H Q E h=>h.1) fun A outer s H vs Q hr ⟨hl,ι,h,ds,rl,hh,q⟩=>⟨_,hb cdv A outer s H hr,ι,h,zgb N.length ds,zer rl,hh,?_⟩
 refine Fin.bind q fun o h1 ι1 H1 e1 s1 hr1 q1=> ?_
 cases o with
 | nx sd=>exact fun σ' _=>Fin.out hr1 q1 _ (by simp [Rel])
 | rt d=>exact fun v rv=>Fin.out hr1 q1 v rv
 | bk sd=>exact qa0 q1
 | ct sd=>exact qa0 q1
end
section
variable {X:Cx} {E:XE} {body:List Stmt} {ce en gk pe x:Str} {pce p1 p2 p3 p4 p5 hp pos:Pos} {CE fk:Addr} {fdk:FuncData} {Fk:List D->M D} {gb:FS} {k:Nat} {known:List String}
theorem zo2 (j i:Nat) (z:ze8 X) (hN:X.N.Nodup) (hm:X.mg ce=some (.ref CE)) (hkn:zn0 X.K CE known)
  (FH:FnH X.prog X.w X.K X.mg X.base k fk fdk [pe] (zbO X.K 1 Fk)) (hbk:zav X.K fdk [pe] []) (hmk:X.mg gk=some (.ref fk)) (kp:W.keepIn X.K (.ref fk)=true) (hr:zdk k X.A)
  (hb: ∀ pn xe E',zbW (CXE X.prog X.w) (X.re pn xe) (zlC X.K E')->SSs (X.re pn xe) E' body gb) (hij:j≠i:=by decide)
  (hj:X.N[j]? = some en:=by rfl) (hen:X.env.scope.names.lookup en=some .local:=by rfl) (hi:X.N[i]? = some x:=by rfl) (hx:X.env.scope.names.lookup x=some .local:=by rfl) (hg:Gl X ce:=by rfl) (hgk:Gl X gk:=by rfl)
  (hd:(ce==("__debug__":Str))=false:=by decide) (hd2:(gk==("__debug__":Str))=false:=by decide) (hd3:(en==("__debug__":Str))=false:=by decide)
  (hs:swapsWith (.Call (.Name gk p1) [.Name en p2] [] p3) (some (.Name x p5)) p4.line X.env=pure false:=by rfl):
  SS X E (.Try body [.ExceptHandler (some (.Name ce pce)) (some en) [.Assign [.Name x p5] (.Call (.Name gk p1) [.Name en p2] [] p3) p4] hp] [] [] pos) (zjZ known gb i Fk):=zs4 z hN hj hen hi hx hij hg hm hkn.known hb FH hbk hgk hmk kp hr hd hd2 hd3 hs
end
noncomputable def zrE (Fs:List (List D->M D)) (i:D):M (List D->M D):=match i with
 | .int j=>(match ixN Fs.length j with
   | some m=>ofO Fs[m]?
   | none=>M.bad)
 | _=>M.bad
noncomputable def zt1 (n:Nat) (Fs:List (List D->M D)) (fi:FE) (fs:FA):FE:=fun sd=>do
 let i<-fi sd
 let F<-zrE Fs i
 let ds<-fs sd
 zak n F ds
structure Fns (X:Cx) (n:Nat) (addrs:List Addr) (Fs:List (List D->M D)):Prop where
 len:Fs.length=addrs.length
 ok: ∀ (m:Nat) (F:List D->M D) (a:Addr),Fs[m]? = some F->addrs[m]? = some a-> ∃ k fd ps,zbh X.prog X.w X.K X.mg X.base (CXE X.prog X.w) k a fd ps (spE X.K n F)/\zcn k X.A/\W.keepIn X.K (.ref a)=true/\zav X.K fd ps []
theorem Fns.nil {X:Cx} {n:Nat}:Fns X n [] []:=⟨rfl,fun m F a h=>by simp at h⟩
theorem Fns.cons {X:Cx} {n k:Nat} {a:Addr} {F:List D->M D} {addrs:List Addr} {Fs:List (List D->M D)} {fd:FuncData} {ps:List Str} (G:zbh X.prog X.w X.K X.mg X.base (CXE X.prog X.w) k a fd ps (spE X.K n F)) (hr:zcn k X.A) (hk:W.keepIn X.K (.ref a)=true) (hb:zav X.K fd ps []) (h:Fns X n addrs Fs):Fns X n (a::addrs) (F::Fs):=by
 refine ⟨by simp [h.len],fun m F' a' h1 h2=> ?_⟩
 cases m with
 | zero=>simp at h1 h2;subst h1 h2;exact ⟨k,fd,ps,G,hr,hk,hb⟩
 | succ m=>simp at h1 h2;exact h.ok m F' a' h1 h2
section
variable {X:Cx} {E:XE} {e ix:Expr} {es fes:List Expr} {pos p q3 q4:Pos} {fi:FE} {fs:FA} {x:Str}
end
end L3
namespace L2
open PySem PySem.Spec PyProof.Rows
section
variable {X:Cx} {tg:Expr}
end
end L2
namespace L3
open PySem PySem.Spec PyProof.Rows L2
section
variable {X:Cx} {E:XE} {e o:Expr} {f fo fe:FE} {pos apos cpos:Pos}
theorem zaq.eraseIdx {K:W.Frag} {ι:Io} {H:Hp}: ∀ {ds:List D} {vs:List V} (i:Nat),zaq K ι H ds vs->zaq K ι H (ds.eraseIdx i) (vs.eraseIdx i)
 | [],vs,i,h=>by
  simp only [zaq] at h
  subst h
  simpa using zaq.nil
 | x::r,vs,i,h=>by
  simp only [zaq] at h
  obtain ⟨v,vs',rfl,rv,rl⟩:=h
  cases i with
  | zero=>simpa using rl
  | succ i=>exact zaq.cons rv (zaq.eraseIdx i rl)
end
end L3
namespace L3
open PySem
open Sem (wp)
open AutoSeq1 (wpAny_loadPart')
section
variable {prog:Program} {w:World} {A:Around} {E:Value->Shared->Prop} {s:Shared}
theorem zeB {it l:Addr} {i:Nat} {items:Array Value} {x:Value} {Q:Value->Shared->Prop} (hit:s.heap.IsTupleIter it l i) (hl:s.heap.IsTuple l items) (hx:items[i]? = some x)
  (hQ: ∀ h',h'.IsTupleIter it l (i+1)->Heap.SameBut it s.heap h'->Q x {s with heap:=h'}):wpAny (model prog w) A (Builtin.SmallTypes.nextOf (.ref it)) Q E s:=by
 obtain ⟨o,ho,hc,hd⟩:=id hit
 obtain ⟨ol,hol,_,nl,hdl⟩:=hl
 unfold Builtin.SmallTypes.nextOf
 refine qaW (wpAny_callSpecial?_slot (name:=Str.ofString "__next__") hit.typeIs F.slot_tuple_iterator_next
   (wpAny_call_entry F.slot_tuple_iterator_next hit.typeIs F.entry_tuple_iterator_next ?_ (F.args_tuple_iterator_next_1 _)))
 show wpAny _ _ (field (.ref it) 0>>=_) _ _ s
 refine qaW (wpAny_field ho hd (x:= .ref l) rfl ?_)
 show wpAny _ _ (if (Value.ref l==Value.none)=true then _ else _) _ _ s
 rw [qa5 (show ¬((Value.ref l==Value.none)=true) from Bool.false_ne_true)]
 show wpAny _ _ (field (.ref it) 1>>=_) _ _ s
 refine qaW (wpAny_field ho hd (x:= .int i 0) rfl ?_)
 show wpAny _ _ (seqItems? (.ref l)>>=_) _ _ s
 refine qaW (wpAny_seqItems hol hdl ?_)
 simp only [qaB,hx]
 refine qaW (wpAny_setField ho hd (by simp) (qaX ⟨x,rfl,qaX (hQ _ ?_ (Heap.SameBut.update ..))⟩))
 exact ⟨_,qal _ ho (Obj.isFreed_of_fields (Obj.data_mapFields hd _)),(Obj.cls_mapFields ..).trans hc,by
   rw [Obj.data_mapFields hd];simp [rawInt]⟩
theorem zeN {it l:Addr} {i:Nat} {items:Array Value} {Q:Value->Shared->Prop} (hh:zms A s.heap) (hit:s.heap.IsTupleIter it l i) (hl:s.heap.IsTuple l items) (hx:items[i]? = none)
  (hE: ∀ h' e,Heap.ExtBut it s.heap h'->(∃ o,h'.get? e=some o/\o.cls= .type "StopIteration")->E (.ref e) {s with heap:=h'}):wpAny (model prog w) A (Builtin.SmallTypes.nextOf (.ref it)) Q E s:=by
 obtain ⟨o,h1,h2,h3⟩:=id hit
 obtain ⟨ol,l1,_,nl,l2⟩:=hl
 unfold Builtin.SmallTypes.nextOf
 refine qaW (wpAny_callSpecial?_slot (name:=Str.ofString "__next__") hit.typeIs F.slot_tuple_iterator_next
   (wpAny_call_entry F.slot_tuple_iterator_next hit.typeIs F.entry_tuple_iterator_next ?_ (F.args_tuple_iterator_next_1 _)))
 show wpAny _ _ (field (.ref it) 0>>=_) _ _ s
 refine qaW (wpAny_field h1 h3 (x:= .ref l) rfl ?_)
 show wpAny _ _ (if (Value.ref l==Value.none)=true then _ else _) _ _ s
 rw [qa5 (show ¬(Value.ref l==Value.none)=true from nofun)]
 show wpAny _ _ (field (.ref it) 1>>=_) _ _ s
 refine qaW (wpAny_field h1 h3 (x:= .int i 0) rfl ?_)
 show wpAny _ _ (seqItems? (.ref l)>>=_) _ _ s
 refine qaW (wpAny_seqItems l1 l2 ?_)
 simp only [qaB,hx]
 refine qaW (wpAny_rule (qaW (wpAny_setField h1 h3 (by simp) ?_)))
 show wpAny _ _ (newExc (.type "StopIteration") []>>=_) _ _ _
 refine qaW ?_
 simp only [newExc,newTuple]
 refine qaW (qaC ?_ (by size_fits))
 refine qaW (m:=firstArgMember _ _) (wpAny_of_eq (a:=Value.none) (by first | rfl | (simp only [firstArgMember];rfl)) ?_)
 refine qaC ?_ (by size_fits)
 rcases hh with hh | ⟨ha,cls,head,hh,hX⟩
 ·simp only [raiseNew]
  refine qaW (wpAny_handled ?_)
  first | rw [show A.in1.handled=none from hh] | rw [hh]
  refine qaW (qaX (wpAny_throw ?_))
  exact hE _ _ (((Heap.SameBut.update ..).extBut.push _).push _) ⟨_,qar _ rfl,rfl⟩
 have nit:ha≠it:=fun z=>by
  subst z
  obtain ⟨ob,vs,x1,_,_,x4,x5,x6⟩:=hX
  rw [h1] at x1
  cases x1
  rw [h3] at x4
  cases x4
  simp at x5
 have hX1:zik (s.heap.update it (Obj.mapFields (·.setIfInBounds 0 Value.none))) ha cls head:=by
  obtain ⟨ob,vs,x1,x2⟩:=hX
  exact ⟨ob,vs,(qah _ _ (Ne.symm nit)).trans x1,x2⟩
 obtain ⟨ob,vs,x1,x2⟩:=hX1
 have y1:=qag {cls:= .type "tuple",dict:=none,data:= .seq [].toArray} x1
 refine zdx (h:=ha) (cls:=cls) (head:=head) hh ⟨ob,vs,qag _ y1,x2⟩ (qar _ rfl) rfl (by simp;omega) (qaR (qaQ y1)) ?_
 refine hE _ _ (fun b o hb z=> ?_) ⟨_,qal _ (qar _ rfl) rfl,rfl⟩
 have z1:(s.heap.update it (Obj.mapFields (·.setIfInBounds 0 Value.none))).get? b=some o:=(qah _ _ (Ne.symm hb)).trans z
 have z2:=qag {cls:= .type "tuple",dict:=none,data:= .seq [].toArray} z1
 rw [qah _ _ (Nat.ne_of_gt (qaQ z2))]
 exact qag _ z2
end
noncomputable def zcF (A:Around):List Addr:=match A.handled with
 | some (.ref a)=>[a]
 | _=>[]
theorem zms.keep {A:Around} {h h':Heap} (x:zms A h) (k: ∀ b∈zcF A, ∀ o,h.get? b=some o->h'.get? b=some o):zms A h':=by
 rcases x with x | ⟨a,cls,head,x1,ob,vs,x2,x3⟩
 ·exact .inl x
 ·exact .inr ⟨a,cls,head,x1,ob,vs,k a (by unfold zcF;rw [x1];simp) _ x2,x3⟩
theorem zfc {prog:Program} {w:World} {A:Around} (it l:Addr) (hne:l≠it) (items:Array Value):
  Draws prog w A.in1 it (it::l::zcF A) items.size (fun i v=>items[i]? = some v) (fun i h=>h.IsTupleIter it l i/\h.IsTuple l items/\zms A h/\it∉zcF A) where
 live:=fun _ _ st=>let ⟨o,ho,_⟩:=st.1;⟨o,ho⟩
 frame:=fun _ _ _ st hk=>⟨st.1.at fun o e=>hk it (by simp) o e,st.2.1.at fun o e=>hk l (by simp) o e,st.2.2.1.keep fun b hb o e=>hk b (by simp [hb]) o e,st.2.2.2⟩
 item:=fun i s Q E hi st hQ=>by
  refine zeB st.1 st.2.1 (x:=items[i]) (by simp [hi]) fun h' hit' hs'=> ?_
  exact hQ _ h' s.toks (by simp [hi]) ⟨hit',st.2.1.extBut hs'.extBut hne,st.2.2.1.keep fun b hb o e=>(hs'.2 b fun z=>st.2.2.2 (z▸hb)).trans e,st.2.2.2⟩ hs'
 done:=fun s Q E st hE=>zeN (A:=A.in1) st.2.2.1 st.1 st.2.1 (by simp) hE
theorem zdz (l:Addr) (items:Array Value) (n:Nat) (dct:Option Addr) (sl:Array (Option Value)):
  Meets (Builtin.«enumerate.__new__» ⟨[.type "enumerate",.ref l],[]⟩) (fun _ R s=>s.heap.get? l=some {cls:= .type "tuple",dict:=dct,data:= .seq items n,slots:=sl}/\
    R (.ok (.ret (.ref (s.heap.push {cls:= .type "tuple_iterator",data:= .fields #[.ref l,.int 0 0]}).objs.size)))
      {s with heap:=(s.heap.push {cls:= .type "tuple_iterator",data:= .fields #[.ref l,.int 0 0]}).push {cls:= .type "enumerate",data:= .fields #[.none,.bool false,.ref s.heap.objs.size,rawInt 0,.none,.none]}}):=
 .of_wp fun prog w A R s h=>by
  obtain ⟨hp,g,d,tk,os⟩:=s;obtain ⟨hl,h⟩:=h
  have hsub:=sub_enumerate
  have hL:Heap.IsTuple (Shared.heap ⟨hp,g,d,tk,os⟩) l items:=⟨_,hl,rfl,n,rfl⟩
  wp_walk using wpAny_loadPart' hl
  refine wpAny_stack_any fun st=>qaX ?_
  split
  ·rename_i c _ _ _ _ _
   cases (c==Value.type "enumerate")
   ·wp_walk using wpAny_loadPart' hl,wpAny_pyIter_tuple hL
    exact ⟨_,rfl,h⟩
   ·wp_walk using wpAny_loadPart' hl,wpAny_pyIter_tuple hL
    exact ⟨_,rfl,h⟩
  ·wp_walk using wpAny_loadPart' hl,wpAny_pyIter_tuple hL
   exact ⟨_,rfl,h⟩
end L3
namespace L3
open PySem
section
variable {prog:Program} {w:World} {A:Around} {E:Value->Shared->Prop} {s:Shared}
theorem zdB {l:Addr} {items:Array Value} {Q:Value->Shared->Prop} (hL:s.heap.IsTuple l items)
  (h: ∀ h',IsEnum h' (s.heap.objs.size+1) s.heap.objs.size 0 .none->h'.IsTupleIter s.heap.objs.size l 0->h'.objs.size=s.heap.objs.size+2->
    (∀ b o,s.heap.get? b=some o->h'.get? b=some o)->Q (.ref (s.heap.objs.size+1)) {s with heap:=h'}):
  wpAny (model prog w) A (call (.type "enumerate") [.ref l]) Q E s:=by
 obtain ⟨⟨c,dct,dt,sl⟩,hl,hc,n,hd⟩:=hL
 replace hc:c= .type "tuple":=hc
 replace hd:dt= .seq items n:=hd
 subst hc hd
 refine callType_new F.called_enumerate (by decide) (F.typeCall_enumerate_1 _) (F.newCall_enumerate_1 _) (fun obj=>F.args_object_init_2 obj _) F.entry_enumerate_new
  (zdz l items n dct sl) ⟨hl,?_⟩
 have hz:(s.heap.push {cls:= .type "tuple_iterator",data:= .fields #[.ref l,.int 0 0]}).objs.size=s.heap.objs.size+1:=qaL ..
 show _/\_
 rw [hz]
 have he:IsEnum ((s.heap.push {cls:= .type "tuple_iterator",data:= .fields #[.ref l,.int 0 0]}).push
     {cls:= .type "enumerate",data:= .fields #[.none,.bool false,.ref s.heap.objs.size,rawInt 0,.none,.none]}) (s.heap.objs.size+1) s.heap.objs.size 0 .none:=by
  have:=qar (s.heap.push {cls:= .type "tuple_iterator",data:= .fields #[.ref l,.int 0 0]})
   (o:={cls:= .type "enumerate",data:= .fields #[.none,.bool false,.ref s.heap.objs.size,rawInt 0,.none,.none]}) rfl
  rw [hz] at this;exact this
 exact ⟨⟨_,he,rfl⟩,h _ he ⟨_,qag _ (qar _ rfl),rfl,rfl⟩ (by rw [qaL,hz]) fun b o x=>qag _ (qag _ x)⟩
end
end L3
namespace L2
open PySem PySem.Spec PyProof.Rows
section
variable {X:Cx} {pins:List (Addr×Obj)} {σ:St} {H:Hp} {s:Shared} {h':Heap}
theorem Inv.turned2 {t':Nat} {e it:Addr} (I:Inv X pins σ H s) (k: ∀ b o,b≠e->b≠it->s.heap.get? b=some o->h'.get? b=some o) (f:zjH X pins H e) (g:zjH X pins H it):Inv X pins σ H {s with heap:=h',toks:=t'}:=by
 obtain ⟨f0,f1,f2,f3,f4,f5⟩:=f
 obtain ⟨g0,g1,g2,g3,g4,g5⟩:=g
 have ne: ∀ b u,H b=some u->b≠e:=fun b u q z=>by rw [z,f0] at q;cases q
 have nit: ∀ b u,H b=some u->b≠it:=fun b u q z=>by rw [z,g0] at q;cases q
 have kk: ∀ b o,b∉[e,it]->s.heap.get? b=some o->h'.get? b=some o:=fun b o hb q=>k b o (fun z=>hb (by simp [z])) (fun z=>hb (by simp [z])) q
 refine I.step (g':=s.gens) (d':=s.drawn) (ch:=[e,it]) (fun b hb=> ?_) (fun b o _ _ hc q _=>kk b o hc q) (fun b o _ _ hc q _=>⟨o.slots,kk b o hc q⟩) (fun _ _ _ _ n=>n)
  (fun b o hc q=>⟨o,kk b o hc q⟩) (fun _ _ q=>q) (fun _ _ _ q=>q) (fun b ps q=>⟨#[],by rw [q];simp⟩) (fun m hm=> ?_) (fun b u q=> ?_) I.bare
 ·have z:b=e\/b=it:=by simpa using hb
  rcases z with rfl | rfl
  ·exact ⟨f3,f1,f4,f5⟩
  ·exact ⟨g3,g1,g4,g5⟩
 ·obtain ⟨o,es,ep,ho,r⟩:=hm
  exact ⟨o,es,ep,k _ o (Ne.symm f1) (Ne.symm g1) ho,r⟩
 ·refine (I.hok b u q).stay (fun c v hc q'=> ?_) (fun _ q=>q) fun _ _ q=>q
  rcases hc with z | z
  ·rw [z];exact k b v (ne b u q) (nit b u q) (by rw [<- z];exact q')
  ·exact k c v (ne c _ z) (nit c _ z) q'
end
noncomputable def Ite (K:W.Frag) (a:Addr):It:=
 ⟨fun i H=> ∃ xs x,SqT K H a xs/\xs[i]? = some x,fun i H x H'=> ∃ T y,H T=none/\H'=upd H T (.tup [.int i,y])/\x= .ref T/\ ∀ xs,SqT K H a xs->xs[i]? = some y,fun i H=> ∃ xs,SqT K H a xs/\xs.length=i⟩
theorem zkF {P:Program} {w:World} {K:W.Frag} {elts:List Expr} {k:Nat} {pos:Pos} (a e it:Addr) (hei:e≠it):zri P w K (.Tuple elts k pos) (Ite K a) [e,it] e (fun i h=>(∃ old,IsEnum h e it i old)/\h.IsTupleIter it a i) where
 mem:=by simp
 obj:=fun i h st b hb=>by
  obtain ⟨⟨old,he⟩,o,ho,hc,hd⟩:=st
  have z:b=e\/b=it:=by simpa using hb
  rcases z with rfl | rfl
  ·exact ⟨_,he,fun v z=>by cases z⟩
  ·exact ⟨o,ho,fun v z=>by rw [hd] at z;cases z⟩
 keep:=fun i h h' st k=>⟨let ⟨old,he⟩:=st.1;⟨old,k e (by simp) _ he⟩,st.2.at fun o q=>k it (by simp) o q⟩
 item:=by
  intro X hP hw hK i pins s σ H E I hf st hg
  subst hP hw hK
  obtain ⟨xs,y,hq,hx⟩:=hg
  obtain ⟨its,rv,p,hz⟩:=I.tuple hq
  obtain ⟨u,hu,ru⟩:=rv.get hx
  obtain ⟨⟨old,he⟩,hit⟩:=st
  have hfe:=hf e (by simp)
  have hfi:=hf it (by simp)
  obtain ⟨ot,ht,hct,nt,hdt⟩:=(show s.heap.IsTuple a its.toArray from p)
  obtain ⟨oi,hi,hci,hdi⟩:=id hit
  have hai:a≠it:=fun z=>by
   subst z
   rw [ht] at hi
   cases hi
   rw [hdt] at hdi
   cases hdi
  have hea:e≠a:=fun z=>by
   subst z
   have he':s.heap.get? e=_:=he
   rw [ht] at he'
   cases he'
   cases hdt
  have hin:it∉L3.zcF X.A:=fun z=>by
   rcases I.hand with q | ⟨ha,cls,head,q,ob,vs,x1,_,_,x4,x5,_⟩
   ·unfold L3.zcF at z;rw [q] at z;simp at z
   ·unfold L3.zcF at z
    rw [q] at z
    have:it=ha:=by simpa using z
    subst this
    rw [hi] at x1
    cases x1
    rw [hdi] at x4
    cases x4
    simp at x5
  have hen:e∉L3.zcF X.A:=fun z=>by
   rcases I.hand with q | ⟨ha,cls,head,q,ob,vs,x1,_,_,x4,x5,_⟩
   ·unfold L3.zcF at z;rw [q] at z;simp at z
   ·unfold L3.zcF at z
    rw [q] at z
    have:e=ha:=by simpa using z
    subst this
    have he':s.heap.get? e=_:=he
    rw [x1] at he'
    cases he'
    cases x4
    simp at x5
  have hlt:i<its.toArray.size:=by
   have:=(qac.mp hu).1
   simpa using this
  refine wpAny_pyNext_enum_itemD (L3.zfc (A:=X.A) it a hai its.toArray) he ⟨hit,p,I.hand,hin⟩ hlt hei (by simp [hei,hea,hen]) fun x h1 tk hP ho hs' hT hsz hk=> ?_
  have hxu:x=u:=by
   have:its[i]? = some x:=by simpa using hP
   rw [hu] at this
   exact (Option.some.inj this).symm
  subst hxu
  refine ⟨_,rfl,wpAny_letOwnedTupleGo_enum ho fun h2 he2 hs2=> ?_⟩
  have het:e≠s.heap.objs.size:=qaR (qaQ he)
  have hit':it≠s.heap.objs.size:=qaR (qaQ hi)
  have fresh:=I.hok.fresh (qaV s.heap.objs.size)
  have I1:Inv X pins σ (upd H s.heap.objs.size (.tup [.int i,y])) {s with heap:=s.heap.push {cls:= .type "tuple",data:= .seq #[.int i tk,x]},toks:=tk+1}:=
   I.laid (t':=tk+1) (fun b o q=>qag _ q) (qaV _) (show zbY X.prog X.w _ _ _ (.tup [.int i,y]) from ⟨by show 2<=sizeLine;decide,[.int i tk,x],.cons ⟨tk,rfl⟩ (.cons ru .nil),IsTup.new _ _⟩)
  have fe:zjH X pins (upd H s.heap.objs.size (.tup [.int i,y])) e:=⟨by rw [zau het];exact hfe.1,hfe.2⟩
  have fi:zjH X pins (upd H s.heap.objs.size (.tup [.int i,y])) it:=⟨by rw [zau hit'];exact hfi.1,hfi.2⟩
  have I2:Inv X pins σ (upd H s.heap.objs.size (.tup [.int i,y])) {s with heap:=h1,toks:=tk+1}:=I1.turned2 (t':=tk+1) (h':=h1) (fun b o hb1 hb2 q=>by
    rcases Heap.get?_push_cases q with ⟨z1,z2⟩ | z
    · rw [z1,z2];exact hT
    · exact hk b o hb1 hb2 z) fe fi
  obtain ⟨f0,f1,f2,f3,f4,f5⟩:=fe
  have I3:Inv X pins σ (upd H s.heap.objs.size (.tup [.int i,y])) {s with heap:=h2,toks:=tk+1}:=I2.turned (t':=tk+1) (fun b o hb q=>(hs2.2 b hb).trans q) f0 f1 f3 f4 f5
  refine ⟨.ref s.heap.objs.size,_,I3,rfl,⟨s.heap.objs.size,y,fresh,rfl,rfl,fun ys hy=>by rw [I.tuple_inj hy hq];exact hx⟩,⟨⟨x,by simpa using he2⟩,hs'.1.at fun o q=>(hs2.2 it (Ne.symm hei)).trans q⟩,fun b hb=> ?_⟩
  have z:b=e\/b=it:=by simpa using hb
  rcases z with rfl | rfl
  ·exact f0
  ·exact fi.1
 done:=by
  intro X hP hw hK i pins s σ H E I hf st hg
  subst hP hw hK
  obtain ⟨xs,hq,hx⟩:=hg
  obtain ⟨its,rv,p,hz⟩:=I.tuple hq
  obtain ⟨⟨old,he⟩,hit⟩:=st
  have hfi:=hf it (by simp)
  obtain ⟨ot,ht,hct,nt,hdt⟩:=(show s.heap.IsTuple a its.toArray from p)
  obtain ⟨oi,hi,hci,hdi⟩:=id hit
  have hai:a≠it:=fun z=>by
   subst z
   rw [ht] at hi
   cases hi
   rw [hdt] at hdi
   cases hdi
  have hin:it∉L3.zcF X.A:=fun z=>by
   rcases I.hand with q | ⟨ha,cls,head,q,ob,vs,x1,_,_,x4,x5,_⟩
   ·unfold L3.zcF at z;rw [q] at z;simp at z
   ·unfold L3.zcF at z
    rw [q] at z
    have:it=ha:=by simpa using z
    subst this
    rw [hi] at x1
    cases x1
    rw [hdi] at x4
    cases x4
    simp at x5
  have hn:its.toArray.size=i:=by
   have:=rv.length
   simp
   omega
  subst hn
  obtain ⟨f0,f1,f2,f3,f4,f5⟩:=hfi
  exact wpAny_pyNext_enum_endD (L3.zfc (A:=X.A) it a hai its.toArray) he ⟨hit,p,I.hand,hin⟩ fun h' hx'=>⟨rfl,I.turned (t':=s.toks) (fun b o hb q=>hx' b o hb q) f0 f1 f3 f4 f5⟩
 self:=fun _ _ _ _ _ st h=>let ⟨⟨_,he⟩,_⟩:=st;wpAny_pyIter_enum he h
section
variable {X:Cx} {elts:List Expr} {k:Nat} {tpos:Pos}
noncomputable def zue (K:W.Frag) (ta:TA):TI:=fun σ H R=>ta σ H fun vs H1=> ∃ a,vs=[.ref a]/\(∃ xs,SqT K H1 a xs)/\R (Ite K a) H1
theorem zpC {l:Expr} {ta:TA} {p pos:Pos} (hg:Gl X "enumerate") (hm:X.mg "enumerate"=none) (ha:PA X [l] ta) (hs:starEach [l] X.env=[(false,eval l X.env)]:=by rfl):
  PI X (.Tuple elts k tpos) (.Call (.Name "enumerate" p) [l] [] pos) (zue X.K ta):=by
 intro pins s σ H R I h
 refine Call_ (zhn I hg hm PyProof.Rows.boot_enumerate (PyProof.Rows.callWith_type1 (thn (ha pos pins s σ H _ I h) fun us s1 ⟨vs,H1,I1,r1,q1⟩=> ?_) hs rfl))
 obtain ⟨a,e,⟨xs,hq⟩,q⟩:=q1
 subst e
 cases r1 with
 | cons r rr=>
  cases rr
  cases r
  obtain ⟨its,rv,p,hz⟩:=I1.tuple hq
  refine L3.zdB (show s1.heap.IsTuple a its.toArray from p) fun h' he hit hsz kp=> ?_
  refine wpAny_pyIter_enum he ?_
  refine ⟨s1.heap.objs.size+1,[s1.heap.objs.size+1,s1.heap.objs.size],_,_,H1,rfl,I1.kept (t':=s1.toks) kp,zkF a _ _ (Nat.succ_ne_self _),⟨⟨_,he⟩,hit⟩,fun b hb=> ?_,q⟩
  have z:b=s1.heap.objs.size+1\/b=s1.heap.objs.size:=by simpa using hb
  rcases z with rfl | rfl
  ·exact I1.fpOk (Nat.le_succ _) (I1.hok.fresh (Nat.le_succ _))
  ·exact I1.fpOk (qaV _) (I1.hok.fresh (qaV _))
end
end L2
namespace L3
open PySem PySem.Spec PyProof.Rows L2
section
variable {X:Cx} {E:XE} {elts:List Expr} {k:Nat} {tpos pos:Pos}
noncomputable def zo9 (ds:List D):List D:=(List.range ds.length).map fun (i:Nat)=> .tup [.int i,ds.getD i .non]
theorem zns {K:W.Frag} {ι:Io} {H:Hp} {a:Addr} {vs:List V} {ds:List D} (h: ∀ ι' H',Pass ι H ι' H'->SqT K H' a vs) (rl:zaq K ι H ds vs):zrk K ι H (Ite K a) (zo9 ds) where
 go:=fun ι' H' i s hi=>by
  have hi:i<ds.length:=by simpa [zo9] using hi
  obtain ⟨v,ev,_⟩:=zaq.get rl (i:=i) (d:=ds[i]) (by simp [hi])
  exact ⟨vs,v,h ι' H' s,ev⟩
 yld:=fun ι' H' _ i x H2 s hr hi ⟨T,y,hT,e,e2,hy⟩=>by
  subst e e2
  have hi:i<ds.length:=by simpa [zo9] using hi
  obtain ⟨v,ev,rv⟩:=zaq.get rl (i:=i) (d:=ds[i]) (by simp [hi])
  have ey:=hy vs (h ι' H' s)
  rw [ev] at ey
  cases ey
  refine ⟨.inr ⟨T,_,hT,rfl⟩,.tup [.int i,ds[i]],by simp [zo9,hi],?_⟩
  obtain ⟨st,hr2⟩:=ztv.step (.inr ⟨T,[.int i,y],hT,rfl⟩) hr
  have rv2:Rel K ι' (upd H' T (.tup [.int i,y])) ds[i] y:=(rv.pass s).step st
  simp only [Rel]
  exact ⟨T,_,rfl,⟨zaM,hr.nin hT⟩,zaq.cons (by simp [Rel]) (zaq.cons rv2 zaq.nil)⟩
 stop:=fun ι' H' s=>⟨vs,h ι' H' s,by rw [<- rl.length];simp [zo9]⟩
noncomputable def ztV (f:FE):FA:=fun sd=>do
 let d<-f sd
 match d with
 | .tup ds=>pure (zo9 ds)
 | _=>M.bad
theorem ztc {l:Expr} {f:FE} {p:Pos} (hm:X.mg "enumerate"=none) (he:SE X E l f) (hg:Gl X "enumerate":=by rfl) (hs:starEach [l] X.env=[(false,eval l X.env)]:=by rfl):SI X E (.Tuple elts k tpos) (.Call (.Name "enumerate" p) [l] [] pos) (ztV f):=by
 refine PI.imp (zpC hg hm (zcg he zed hs) hs) fun σ H Q ⟨ι,h,sd,L,hh,q⟩=>⟨ι,h,sd,L,hh,Fin.bind q fun d h1 ι1 H1 e1 s1 hr1 q1 v rv=> ?_⟩
 cases d with
 | tup ds=>
  obtain ⟨a,vs,e,h1',h2⟩:=zk3 rv
  exact ⟨a,by rw [e],⟨vs,h1' _ _ (Pass.refl _ _)⟩,Fin.out hr1 q1 _ (zns h1' h2)⟩
 | _=>exact qa0 q1
end
end L3
namespace L3
open PySem PyProof.Rows
section
open PySem.SeqAt
open PySem.AutoSeq1 (wpAny_loadPart')
open PySem.MeetsSeq PySem.MeetsSeq2 PySem.MeetsSeq3
section
variable {prog:Program} {w:World} {A:Around} {E:Value->Shared->Prop} {s:Shared}
end
def zmp (h:Heap) (v:Value) (p:Int×List Int):Prop:= ∃ (a q:Addr) (t:Tok) (its:List Value),v= .ref a/\IsTup h a #[.int p.1 t,.ref q]/\IsTup h q its.toArray/\IntsAre its p.2
theorem zmp.keep {h h':Heap} {v:Value} {p:Int×List Int} (k: ∀ b o,h.get? b=some o->h'.get? b=some o):zmp h v p->zmp h' v p:=fun ⟨a,q,t,its,e,⟨o,x1,x2⟩,⟨o',y1,y2⟩,z⟩=>⟨a,q,t,its,e,⟨o,k _ _ x1,x2⟩,⟨o',k _ _ y1,y2⟩,z⟩
end
end L3
namespace L3
open PySem
section
variable {prog:Program} {w:World} {A:Around} {R:Result->Shared->Prop} {I:Addr} {fp wr:List Addr} {n:Nat} {P:Nat->Value->Prop} {St:Nat->Heap->Prop} {h0:Heap}
def zq3 (prog:Program) (w:World) (A:Around) (h0:Heap) (P:Nat->Value->Prop) (bt:Nat->Nat->Bool):Prop:=
 ∀ i j vi vj (s:Shared) (Q:Value->Shared->Prop) (E:Value->Shared->Prop),(∀ b o,h0.get? b=some o->s.heap.get? b=some o)->P i vi->P j vj->Q (.bool (bt i j)) s->wpAny (model prog w) A (richCompare .Lt vi vj) Q E s
theorem zl0 (W:Walks prog w A.in1 I fp wr n P St) (bt:Nat->Nat->Bool) (hcmp:zq3 prog w A.in1 h0 P bt) (S:Addr) (hSf:S∉fp) (h0w: ∀ b o,h0.get? b=some o->b∉wr/\b≠S):
  ∀ (k j:Nat) (s:Shared) (vb:Value) (c:Nat),n - (j+1)=k->j+1<=n->St (j+1) s.heap->P (argBest bt j) vb->(∀ b o,h0.get? b=some o->s.heap.get? b=some o)->
  s.heap.get? S=some {cls:= .type "list",dict:=none,data:= .seq #[vb,vb] c,slots:= #[]}->
  (∀ v h' tk,P (argBest bt (n - 1)) v->(∀ b o,b∉wr->b≠S->s.heap.get? b=some o->h'.get? b=some o)->R (.ok (.ret v)) {s with heap:=h',toks:=tk})->
  codeAny (model prog w) A (.builtin "min.loop" ⟨[.ref I,.none,.ref S],[]⟩) R s:=by
 have hSw:S∉wr:=fun h=>hSf (W.sub _ h)
 have hname:(toString "min"++toString ".loop":String)="min.loop":=by decide
 intro k
 induction k with
 | zero=>
  intro j s vb c hk hj hst hPb hx hS hR
  have hin:j+1=n:=by omega
  refine codeAny_builtin F.entry_min_loop ?_
  rw [qap F.plain_min_loop _]
  show wpAny _ A.in1 (seqItems? (.ref S)>>=_) _ _ s
  refine qaW (wpAny_seqItems hS rfl ?_)
  show wpAny _ A.in1 (tryCatch (pyNext (.ref I)) _>>=_) _ _ s
  refine qaW (wpAny_tryCatch (W.done s _ _ (hin▸hst) fun h' tk hk'=> ?_))
  show wpAny _ A.in1 (updateSeq S (fun _=> #[])>>=_) _ _ _
  refine qaW (wpAny_updateSeq (hk' S _ hSw hS) rfl (qaW (wpAny_letGo (qaX ?_))))
  exact hR vb _ tk (by rw [<- hin];exact hPb) fun b o hbw hbS e=>(qah _ _ (Ne.symm hbS)).trans (hk' b o hbw e)
 | succ k ih=>
  intro j s vb c hk hj hst hPb hx hS hR
  have hlt:j+1<n:=by omega
  refine codeAny_builtin F.entry_min_loop ?_
  rw [qap F.plain_min_loop _]
  show wpAny _ A.in1 (seqItems? (.ref S)>>=_) _ _ s
  refine qaW (wpAny_seqItems hS rfl ?_)
  show wpAny _ A.in1 (tryCatch (pyNext (.ref I)) _>>=_) _ _ s
  refine qaW (wpAny_tryCatch (W.item (j+1) s _ _ hlt hst fun v h' tk hP hst' hk'=> ?_))
  have hS':=hk' S _ hSw hS
  have hx': ∀ b o,h0.get? b=some o->h'.get? b=some o:=fun b o e=>hk' b o (h0w b o e).1 (hx b o e)
  show wpAny _ A.in1 (tryCatch (holding [v,v] (richCompare .Lt v vb>>=_)) _>>=_) _ _ _
  refine qaW (wpAny_tryCatch (qaO (qaW (hcmp (j+1) (argBest bt j) v vb _ _ _ hx' hP hPb ?_))))
  refine qaW (qaO (wpAny_truthy_bool ?_))
  refine qaW (wpAny_letGo (qaX ?_))
  cases hb:bt (j+1) (argBest bt j) with
  | true=>
   simp only [if_true]
   refine qaW (wpAny_updateSeq hS' rfl (qaW (wpAny_letGo ?_)))
   rw [hname]
   refine qaX ⟨plainId_quiet F.plain_min_loop _,ih (j+1) _ v _ (by omega) hlt (W.frame _ _ _ hst' fun b hbf o e=> ?_) (by simp only [argBest,hb,if_true];exact hP) (fun b o e=> ?_) (qal _ hS' rfl)
     fun v' h'' tk'' hP' hk''=> ?_⟩
   ·exact (qah _ _ (fun h:S=b=>hSf (by rw [h];exact hbf))).trans e
   ·exact (qah _ _ (Ne.symm (h0w b o e).2)).trans (hx' b o e)
   ·exact hR v' h'' tk'' hP' fun b o hbw hbS e=>hk'' b o hbw hbS ((qah _ _ (Ne.symm hbS)).trans (hk' b o hbw e))
  | false=>
   simp only [qax,if_false]
   refine qaW (wpAny_letGo ?_)
   rw [hname]
   exact qaX ⟨plainId_quiet F.plain_min_loop _,ih (j+1) _ vb c (by omega) hlt hst' (by simp only [argBest,hb,qax,if_false];exact hPb) hx' hS' fun v' h'' tk'' hP' hk''=>
     hR v' h'' tk'' hP' fun b o hbw hbS e=>hk'' b o hbw hbS (hk' b o hbw e)⟩
end
section
variable {prog:Program} {w:World} {A:Around} {E:Value->Shared->Prop} {s:Shared}
theorem zsZ {x:Value} {Q:Value->Shared->Prop}
  (h:wpAny (model prog w) A.in1 (pyIter x) (fun it s₂=> ∃ I fp wr n P St bt h0,it= .ref I/\Walks prog w A.in1 I fp wr n P St/\St 0 s₂.heap/\(∀ b∈fp,b<s₂.heap.objs.size)/\0<n/\zq3 prog w A.in1 h0 P bt/\(∀ b o,h0.get? b=some o->b∉wr/\s₂.heap.get? b=some o)/\
    ∀ v h' tk,P (argBest bt (n - 1)) v->(∀ b o,b∉wr->s₂.heap.get? b=some o->h'.get? b=some o)->Q v {s₂ with heap:=h',toks:=tk}) E s):
  wpAny (model prog w) A (call (.builtin "min") [x]) Q E s:=by
 have hname:(toString "min"++toString ".loop":String)="min.loop":=by decide
 refine call_function_tree F.kind_min F.plain_min F.entry_min (F.args_min1 _) ?_
 show wpAny _ A.in1 (Builtin.Builtins.bindParams "min" ["key","default"] 0 ⟨[],[]⟩>>=_) _ _ s
 refine qaW (wpAny_of_eq (show Builtin.Builtins.bindParams "min" ["key","default"] 0 ⟨[],[]⟩=pure [none,none] from rfl) ?_)
 refine qaW (qaX ?_)
 refine qaW (qaZ h (fun it s₂ h₂=> ?_) fun _ _ e=>e)
 obtain ⟨I,fp,wr,n,P,St,bt,h0,rfl,W,hst,hfp,hn,hcmp,hx,hQ⟩:=h₂
 refine qaW (qaC ?_)
 have hSf:s₂.heap.objs.size∉fp:=fun hm=>qaN _ (hfp _ hm)
 have hSw:s₂.heap.objs.size∉wr:=fun h=>hSf (W.sub _ h)
 have h0w: ∀ b o,h0.get? b=some o->b∉wr/\b≠s₂.heap.objs.size:=fun b o e=>⟨(hx b o e).1,qaR (qaQ (hx b o e).2)⟩
 rw [hname]
 refine qaX ⟨plainId_quiet F.plain_min_loop _,?_⟩
 refine codeAny_builtin F.entry_min_loop ?_
 rw [qap F.plain_min_loop _]
 show wpAny _ A.in1 (seqItems? (.ref s₂.heap.objs.size)>>=_) _ _ _
 refine qaW (wpAny_seqItems (qar _ rfl) rfl ?_)
 show wpAny _ A.in1 (tryCatch (pyNext (.ref I)) _>>=_) _ _ _
 refine qaW (wpAny_tryCatch (W.item 0 _ _ _ hn (W.frame _ _ _ hst fun b _ o e=>qag _ e) fun v h' tk hP hst' hk'=> ?_))
 have hS':=hk' s₂.heap.objs.size _ hSw (qar _ rfl)
 show wpAny _ A.in1 (updateSeq s₂.heap.objs.size (fun _=> #[v,v])>>=_) _ _ _
 refine qaW (wpAny_updateSeq hS' rfl ?_)
 rw [hname]
 refine qaX ⟨plainId_quiet F.plain_min_loop _,zl0 W bt hcmp s₂.heap.objs.size hSf h0w _ 0 _ v _ rfl hn (W.frame _ _ _ hst' fun b hbf o e=> ?_) hP (fun b o e=> ?_) (qal _ hS' rfl) fun v' h'' tk'' hP' hk''=> ?_⟩
 ·exact (qah _ _ (fun h:s₂.heap.objs.size=b=>hSf (by rw [h];exact hbf))).trans e
 ·exact (qah _ _ (Ne.symm (h0w b o e).2)).trans (hk' b o (h0w b o e).1 (qag _ (hx b o e).2))
 ·exact hQ v' h'' tk'' hP' fun b o hbw e=>hk'' b o hbw (qaR (qaQ e)) ((qah _ _ (Ne.symm (qaR (qaQ e)))).trans (hk' b o hbw (qag _ e)))
theorem znc {l:Addr} {items:Array Value} {bt:Nat->Nat->Bool} {Q:Value->Shared->Prop} (hh:zms A s.heap) (hl:s.heap.IsList l items) (hn:0<items.size) (hc:zq3 prog w A.in1 s.heap (fun i v=>items[i]? = some v) bt)
  (k: ∀ v h' tk,items[argBest bt (items.size - 1)]? = some v->(∀ b o,s.heap.get? b=some o->h'.get? b=some o)->Q v {s with heap:=h',toks:=tk}):wpAny (model prog w) A (call (.builtin "min") [.ref l]) Q E s:=by
 have hlt:l<s.heap.objs.size:=by obtain ⟨_,e,_⟩:=hl;exact qaQ e
 have hlI:l≠s.heap.objs.size:=qaR hlt
 refine zsZ (wpAny_pyIter_list hl ?_)
 have hfp: ∀ b∈[s.heap.objs.size,l],b<(s.heap.push {cls:= .type "list_iterator",data:= .fields #[.ref l,.int 0 0]}).objs.size:=fun b hb=>by
  rw [qaL]
  simp only [qaP,qaF,or_false] at hb
  rcases hb with rfl | rfl
  ·exact Nat.lt_succ_self _
  ·exact Nat.lt_succ_of_lt hlt
 have st1:(s.heap.push {cls:= .type "list_iterator",data:= .fields #[.ref l,.int 0 0]}).IsListIter s.heap.objs.size l 0:=⟨_,qar _ rfl,rfl,rfl⟩
 have hx: ∀ b o,s.heap.get? b=some o->b∉[s.heap.objs.size]/\(s.heap.push {cls:= .type "list_iterator",data:= .fields #[.ref l,.int 0 0]}).get? b=some o:=fun b o e=>
  ⟨fun hm=>qaN _ (by simp only [qaP,qaF,or_false] at hm;exact hm▸qaQ e),qag _ e⟩
 rcases hh with hh | ⟨ha,cls,head,hh,hX⟩
 ·exact ⟨_,_,_,_,_,_,bt,s.heap,rfl,Walks.list (A:=A.in1) hh _ l hlI items,⟨st1,hl.push _⟩,hfp,hn,hc,hx,fun v h' tk hv hk=>k v h' tk hv fun b o e=>hk b o (hx b o e).1 (hx b o e).2⟩
 ·obtain ⟨ob,vs,x1,x2⟩:=id hX
  have hX2:=hX.keep (h':=s.heap.push {cls:= .type "list_iterator",data:= .fields #[.ref l,.int 0 0]}) fun o e=>qag _ e
  refine ⟨_,_,_,_,_,_,bt,s.heap,rfl,zj4 (A:=A.in1) (ha:=ha) (cls:=cls) (head:=head) hh _ l hlI (qaR (qaQ x1)) items,⟨st1,hl.push _,hX2⟩,fun b hb=> ?_,hn,hc,hx,fun v h' tk hv hk=>k v h' tk hv fun b o e=>hk b o (hx b o e).1 (hx b o e).2⟩
  simp only [qaP,qaF,or_false] at hb
  rcases hb with z | z | z
  ·exact hfp b (by simp [z])
  ·exact hfp b (by simp [z])
  ·rw [z]
   show ha<(s.heap.push _).objs.size
   rw [qaL]
   exact Nat.lt_succ_of_lt (qaQ x1)
end
end L3
namespace L2
open PySem PySem.Spec PyProof.Rows L3
section
variable {X:Cx}
end
end L2
namespace L3
open PySem PySem.Spec PyProof.Rows L2
section
variable {X:Cx} {E:XE}
end
section
variable {X:Cx} {E:XE}
noncomputable def zpX (d:D):M Bool:=do let ds<-zo4 d;pure (!ds.isEmpty)
noncomputable def zpq (f:FE):FT:=fun sd=>do let d<-f sd;zpX d
theorem zlT {e:Expr} {f:FE} (h:SE X E e f) (he: ∀ whole,isTrue e X.env whole=(do let v<-whole;standAt e.pos;holding [v] (truthy v)):=by intro _;rfl):ST X E e (zpq f):=by
 refine PT.imp (zmT h he) fun σ H Q ⟨ι,h,sd,L,hh,q⟩=>⟨ι,h,sd,L,hh,Fin.bind q fun d h1 ι1 H1 e1 s1 hr1 q1 v rv=> ?_⟩
 obtain ⟨a,vs,ds',e',hs,rl',q2⟩:=zc0 hr1 rv q1
 have hl:=rl'.length
 have ee:(!ds'.isEmpty)= !vs.isEmpty:=by
  cases ds' with
  | nil=>
   cases vs with
   | nil=>rfl
   | cons _ _=>simp at hl
  | cons _ _=>
   cases vs with
   | nil=>simp at hl
   | cons _ _=>rfl
 rw [ee] at q2
 refine ⟨!vs.isEmpty,?_,Fin.out hr1 q2⟩
 rw [e']
 rcases zky hs with z | z
 ·exact .inl ⟨vs,z,rfl⟩
 ·exact .inr (.inl ⟨vs,z,rfl⟩)
end
end L3
section
namespace TS
set_option autoImplicit false
open PySem PyProof PyProof.Rows
noncomputable abbrev Ga:Bool->Keyed->Array Keyed->Nat->Nat->Nat->StateT SortSt Sem (Option Nat):=sortPriv% PySem.Builtin.gallop
noncomputable abbrev Lt:Keyed->Keyed->StateT SortSt Sem (Option Bool):=sortPriv% PySem.Builtin.lt
noncomputable abbrev El:Array Keyed->Nat->StateT SortSt Sem Keyed:=sortPriv% PySem.Builtin.elem
structure Cx where
 prog:Program
 w:World
 A:Around
 E:Value->Shared->Prop
 s:Shared
 kd:SortKind
 O:KeyOrd
 ky:Value->O.α
 ok:Value->Prop
 cmp: ∀ (E':Value->Shared->Prop) (x y:Value) (Q:Bool->Shared->Prop),ok x->ok y->Q (O.blt (ky x) (ky y)) s->wpAny (model prog w) A (keyLt' kd x y) Q E' s
noncomputable abbrev Cx.wp (c:Cx) {α:Type} (m:StateT SortSt Sem α) (Q:α->SortSt->Prop) (st:SortSt):Prop:=wpS (model c.prog c.w) c.A c.E c.s m Q st
noncomputable def Cx.lt (c:Cx) (x y:Keyed):Bool:=c.O.blt (c.ky x.1) (c.ky y.1)
def Cx.le (c:Cx) (x y:Keyed):Prop:=c.lt y x=false
section
variable {c:Cx}
theorem Cx.le_refl (x:Keyed):c.le x x:=c.O.irrefl _
theorem Cx.le_of_lt {x y:Keyed} (h:c.lt x y=true):c.le x y:=KeyOrd.klt_asymm (O:=c.O) h
theorem Cx.le_trans {x y z:Keyed} (h:c.le x y) (h2:c.le y z):c.le x z:=KeyOrd.kle_trans (O:=c.O) h h2
end
end TS
end
section
namespace TS
set_option autoImplicit false
open PySem PyProof PyProof.Rows
noncomputable abbrev Sg:Nat->StateT SortSt Sem Unit:=sortPriv% PySem.Builtin.setMinGallop
structure Sm (st st':SortSt):Prop where
 k:kindOf st'=kindOf st
 a:arrOf st'=arrOf st
 p:pendingOf st'=pendingOf st
 f:failedOf st'=failedOf st
theorem Sm.refl (st:SortSt):Sm st st:=⟨rfl,rfl,rfl,rfl⟩
theorem Sm.g {st st':SortSt} (h:Sm st st') (n:Nat):Sm st (SortSt.mk' (kindOf st') (arrOf st') (pendingOf st') n (failedOf st')):=⟨h.k,h.a,h.p,h.f⟩
structure Mg (r:Keyed->Keyed->Prop) (O L R T:List Keyed):Prop where
 s:O.Pairwise r
 l: ∀ x,x∈O-> ∀ y,y∈L->r x y
 r: ∀ x,x∈O-> ∀ y,y∈R->r x y
 p:(O++(L++R)).Perm T
section
variable {r:Keyed->Keyed->Prop} {O L R T X:List Keyed}
theorem Mg.symm (h:Mg r O L R T):Mg r O R L T:=⟨h.s,h.r,h.l,(List.Perm.append_left O List.perm_append_comm).trans h.p⟩
theorem Mg.fin (h:Mg r O L R T) (hs:(L++R).Pairwise r):(O++(L++R)).Pairwise r/\(O++(L++R)).Perm T:=by
 refine ⟨?_,h.p⟩
 rw [qaq]
 refine ⟨h.s,hs,fun x hx y hy=> ?_⟩
 rcases qaK.mp hy with hy | hy
 ·exact h.l x hx y hy
 ·exact h.r x hx y hy
end
section
variable {c:Cx}
def srt (c:Cx) (a:Array Keyed):Prop:=a.toList.Pairwise c.le
def okA (c:Cx) (a:Array Keyed):Prop:= ∀ x,x∈a.toList->c.ok x.1
structure MgA (c:Cx) (a b out:Array Keyed) (ia ib:Nat):Prop where
 m:Mg c.le out.toList (a.toList.drop ia) (b.toList.drop ib) (a.toList++b.toList)
 z:out.size=ia+ib
 la:ia<=a.size
 lb:ib<=b.size
def Fi (c:Cx) (a b res:Array Keyed):Prop:=srt c res/\res.toList.Perm (a.toList++b.toList)
variable {a b out:Array Keyed} {ia ib k:Nat}
theorem MgA.done (h:MgA c a b out ia ib) (ha:srt c a) (hb:srt c b) (he:ia=a.size\/ib=b.size):Fi c a b (out++a.extract ia++b.extract ib):=by
 have e:(out++a.extract ia++b.extract ib).toList=out.toList++(a.toList.drop ia++b.toList.drop ib):=by
  simp [List.extract,List.take_of_length_le]
 have hs:(a.toList.drop ia++b.toList.drop ib).Pairwise c.le:=by
  rcases he with he | he
  ·rw [List.drop_eq_nil_of_le (by simp [he]),List.nil_append]
   exact List.Pairwise.sublist (List.drop_sublist _ _) hb
  ·rw [List.drop_eq_nil_of_le (as:=b.toList) (by simp [he]),List.append_nil]
   exact List.Pairwise.sublist (List.drop_sublist _ _) ha
 obtain ⟨h1,h2⟩:=h.m.fin hs
 exact ⟨by unfold srt;rw [e];exact h1,by rw [e];exact h2⟩
end
end TS
end
section
namespace TS
set_option autoImplicit false
open PySem PyProof PyProof.Rows
section
variable {c:Cx} {a b:Array Keyed}
theorem zmo {α:Type} {p:Prop} [Decidable p] {x y:StateT SortSt Sem α} {Q:α->SortSt->Prop} {st:SortSt} (h1:p->c.wp x Q st) (h2: ¬p->c.wp y Q st):c.wp (if p then x else y) Q st:=by
 by_cases h:p
 ·rw [qa4 h];exact h1 h
 ·rw [qa5 h];exact h2 h
noncomputable abbrev StL:=ForInStep (Option (Array Keyed)×Array Keyed×Nat×Nat×Nat×Nat×Nat)
structure Ex (c:Cx) (a b:Array Keyed) (N:Nat) (Q:StL->SortSt->Prop) (st:SortSt):Prop where
 d1: ∀ res t,Fi c a b res->Q (.done (some res,t)) st
 d2: ∀ o i j t,MgA c a b o i j->i+1<a.size->j<b.size->N<=o.size->Q (.done (none,o,i,j,t)) st/\Q (.yield (none,o,i,j,t)) st
 hl: ∀ (o:Array Keyed) (i j:Nat),MgA c a b o i j->i+1=a.size->Fi c a b (o++b.extract j++a.extract i)
 ha:srt c a
 hb:srt c b
 oa:okA c a
 ob:okA c b
 hk:kindOf st=c.kd
section
variable {N:Nat} {Q:StL->SortSt->Prop} {st:SortSt} {o:Array Keyed} {i j g k l u v:Nat}
end
end
end TS
end
section
namespace TS
set_option autoImplicit false
open PySem PyProof PyProof.Rows
section
variable {c:Cx} {a b out:Array Keyed} {na nb at':Nat}
structure MgH (c:Cx) (a b out:Array Keyed) (na nb:Nat):Prop where
 m:Mg (fun x y=>c.le y x) out.toList (a.toList.take na).reverse (b.toList.take nb).reverse (a.toList++b.toList)
 z:out.size+na+nb=a.size+b.size
 la:na<=a.size
 lb:nb<=b.size
theorem zkY {l:Array Keyed} (n:Nat) (h:srt c l):((l.toList.take n).reverse).Pairwise (fun x y=>c.le y x):=by
 rw [List.pairwise_reverse]
 exact List.Pairwise.sublist (List.take_sublist _ _) h
theorem zkO {r:List Keyed} {O L R T:List Keyed} (h:Mg (fun x y=>c.le y x) O L R T) (hs:(L++R).Pairwise (fun x y=>c.le y x)) (e:r=(O++(L++R)).reverse):r.Pairwise c.le/\r.Perm T:=by
 obtain ⟨h1,h2⟩:=h.fin hs
 subst e
 exact ⟨by rw [List.pairwise_reverse];exact h1,(List.reverse_perm _).trans h2⟩
theorem MgH.done (h:MgH c a b out na nb) (ha:srt c a) (hb:srt c b) (he:na=0\/nb=0):Fi c a b (a.extract 0 na++b.extract 0 nb++out.reverse):=by
 have hs:((b.toList.take nb).reverse++(a.toList.take na).reverse).Pairwise (fun x y=>c.le y x):=by
  rcases he with he | he
  ·subst he;simpa using zkY nb hb
  ·subst he;simpa using zkY na ha
 exact zkO h.m.symm hs (by simp [List.extract])
theorem MgH.first (h:MgH c a b out na nb) (ha:srt c a) (_hb:srt c b) (he:nb=1) (hl: ∀ y,b[0]? = some y-> ∀ x,x∈a.toList->c.le y x):Fi c a b (b.extract 0 nb++a.extract 0 na++out.reverse):=by
 subst he
 have hlb:=h.lb
 have ed:b.toList.take 1=[b[0]]:=by
  obtain ⟨l⟩:=b
  cases l with
  | nil=>simp at hlb
  | cons x l=>simp
 have hs:((a.toList.take na).reverse++(b.toList.take 1).reverse).Pairwise (fun x y=>c.le y x):=by
  rw [ed,qaq]
  refine ⟨zkY na ha,List.pairwise_singleton _ _,?_⟩
  intro x hx y hy
  rw [List.mem_singleton.mp hy]
  exact hl _ (getElem?_pos b 0 (by omega)) x (List.mem_of_mem_take (List.mem_reverse.mp hx))
 exact zkO h.m hs (by simp [List.extract])
noncomputable abbrev H5:=Option (Array Keyed)×Nat×Nat×Array Keyed×Nat
noncomputable abbrev H6:=Option (Array Keyed)×Nat×Nat×Array Keyed×Nat×Nat
noncomputable abbrev H7:=Option (Array Keyed)×Nat×Nat×Array Keyed×Nat×Nat×Nat
def Hi (c:Cx) (a b:Array Keyed) (N:Nat) (p q:Nat) (o:Array Keyed):Prop:=MgH c a b o p q/\0<p/\1<q/\N<=o.size
structure Ey (c:Cx) (a b:Array Keyed) (N:Nat) (Q:ForInStep H7->SortSt->Prop) (st:SortSt):Prop where
 d1: ∀ res t,Fi c a b res->Q (.done (some res,t)) st
 d2: ∀ p q o t,Hi c a b N p q o->Q (.done (none,p,q,o,t)) st/\Q (.yield (none,p,q,o,t)) st
 hl: ∀ (o:Array Keyed) (i j:Nat),MgH c a b o i j->j=1->Fi c a b (b.extract 0 j++a.extract 0 i++o.reverse)
 ha:srt c a
 hb:srt c b
 oa:okA c a
 ob:okA c b
 hk:kindOf st=c.kd
noncomputable def U4 (a b:Array Keyed) (p q:Nat) (o:Array Keyed) (g k l:Nat):StateT SortSt Sem (ForInStep H7):=El a (p - 1)>>=fun z=>
 if (p - 1==0)=true then pure (.done (some (a.extract 0 (p - 1)++b.extract 0 q++(o.push z).reverse),p - 1,q,o.push z,g,k,l))
 else if (decide (k<7) && decide (l<7))=true then pure (.done (none,p - 1,q,o.push z,g,k,l)) else pure (.yield (none,p - 1,q,o.push z,g,k,l))
noncomputable def U3 (a b:Array Keyed) (p q:Nat) (o:Array Keyed) (g k v:Nat):StateT SortSt Sem (ForInStep H7):=El b (q - 1)>>=fun y=>
 if (q - 1==1)=true then pure (.done (some (b.extract 0 (q - 1)++a.extract 0 p++(o.push y).reverse),p,q - 1,o.push y,g,k,v))
 else El a (p - 1)>>=fun z=>Ga true z b 0 (q - 1) (q - 1 - 1)>>=fun x=>match x with
  | some l=>if q - 1 - l>0 then
    if (l==1)=true then pure (.done (some (b.extract 0 l++a.extract 0 p++(o.push y++(b.extract l (q - 1)).reverse).reverse),p,l,o.push y++(b.extract l (q - 1)).reverse,g,k,q - 1 - l))
    else if (l==0)=true then pure (.done (some (a.extract 0 p++b.extract 0 l++(o.push y++(b.extract l (q - 1)).reverse).reverse),p,l,o.push y++(b.extract l (q - 1)).reverse,g,k,q - 1 - l))
    else U4 a b p l (o.push y++(b.extract l (q - 1)).reverse) g k (q - 1 - l)
   else U4 a b p (q - 1) (o.push y) g k (q - 1 - l)
  | _=>pure (.done (some (a.extract 0 p++b.extract 0 (q - 1)++(o.push y).reverse),p,q - 1,o.push y,g,k,v))
noncomputable def U2 (a b:Array Keyed) (p q:Nat) (o:Array Keyed) (g u v:Nat):StateT SortSt Sem (ForInStep H7):=El b (q - 1)>>=fun y=>Ga false y a 0 p (p - 1)>>=fun x=>match x with
  | some k=>if p - k>0 then
    if (k==0)=true then pure (.done (some (a.extract 0 k++b.extract 0 q++(o++(a.extract k p).reverse).reverse),k,q,o++(a.extract k p).reverse,g,p - k,v))
    else U3 a b k q (o++(a.extract k p).reverse) g (p - k) v
   else U3 a b p q o g (p - k) v
  | _=>pure (.done (some (a.extract 0 p++b.extract 0 q++o.reverse),p,q,o,g,u,v))
noncomputable def Z1 (a b:Array Keyed) (g:Nat) (p q:Nat) (o:Array Keyed) (u v:Nat):StateT SortSt Sem (ForInStep H6):=El b (q - 1)>>=fun y=>El a (p - 1)>>=fun z=>Lt y z>>=fun x=>match x with
 | some w=>if w=true then El a (p - 1)>>=fun z=>if (p - 1==0)=true then pure (.done (some (a.extract 0 (p - 1)++b.extract 0 q++(o.push z).reverse),p - 1,q,o.push z,u+1,0)) else if u+1>=g then pure (.done (none,p - 1,q,o.push z,u+1,0)) else pure (.yield (none,p - 1,q,o.push z,u+1,0))
  else El b (q - 1)>>=fun y=>if (q - 1==1)=true then pure (.done (some (b.extract 0 (q - 1)++a.extract 0 p++(o.push y).reverse),p,q - 1,o.push y,0,v+1)) else if v+1>=g then pure (.done (none,p,q - 1,o.push y,0,v+1)) else pure (.yield (none,p,q - 1,o.push y,0,v+1))
 | _=>pure (.done (some (a.extract 0 p++b.extract 0 q++o.reverse),p,q,o,u,v))
noncomputable def Z2 (a b:Array Keyed) (p q:Nat) (o:Array Keyed) (g u v:Nat):StateT SortSt Sem (ForInStep H7):=
 if g>1 then Sg (g - 1)>>=fun _=>U2 a b p q o (g - 1) u v else Sg g>>=fun _=>U2 a b p q o g u v
section
variable {N:Nat} {Q:ForInStep H7->SortSt->Prop} {st:SortSt} {o:Array Keyed} {p q g k l u v:Nat}
end
end
end TS
end
section
namespace TS
set_option autoImplicit false
open PySem PyProof PyProof.Rows
structure Loc (xs ys:Array Keyed) (lo hi:Nat):Prop where
 p:ys.toList.Perm xs.toList
 o: ∀ i,i<lo\/hi<=i->ys[i]? = xs[i]?
theorem Loc.refl (xs:Array Keyed) (lo hi:Nat):Loc xs xs lo hi:=⟨List.Perm.refl _,fun _ _=>rfl⟩
theorem Loc.trans {xs ys zs:Array Keyed} {lo hi:Nat} (h:Loc xs ys lo hi) (h2:Loc ys zs lo hi):Loc xs zs lo hi:=⟨h2.p.trans h.p,fun i hi=>(h2.o i hi).trans (h.o i hi)⟩
theorem Loc.size {xs ys:Array Keyed} {lo hi:Nat} (h:Loc xs ys lo hi):ys.size=xs.size:=by simpa using h.p.length_eq
section
variable {c:Cx}
def sg (c:Cx) (xs:Array Keyed) (lo hi:Nat):Prop:= ∀ i j x y,lo<=i->i<=j->j<hi->xs[i]? = some x->xs[j]? = some y->c.le x y
end
end TS
end
section
namespace TS
set_option autoImplicit false
open PySem PyProof PyProof.Rows
noncomputable abbrev CR:Nat->Nat->StateT SortSt Sem (Option Nat):=sortPriv% PySem.Builtin.countRun
structure St (c:Cx) (a0:Array Keyed) (p0:Array (Nat×Nat×Nat)) (lo hi:Nat) (st:SortSt):Prop where
 k:kindOf st=c.kd
 f:failedOf st=none
 p:pendingOf st=p0
 l:Loc a0 (arrOf st) lo hi
section
variable {c:Cx} {a0:Array Keyed} {p0:Array (Nat×Nat×Nat)} {lo hi:Nat}
noncomputable def KV (c:Cx) (xs:Array Keyed) (i:Nat):c.O.α:=c.ky (xs[i]?.getD (.none,.none)).1
def up (c:Cx) (xs:Array Keyed) (lo hi:Nat):Prop:= ∀ i j,lo<=i->i<=j->j<hi->c.O.kle (KV c xs i) (KV c xs j)
def ek (c:Cx) (xs:Array Keyed) (lo hi:Nat):Prop:= ∀ i,lo<=i->i<hi->KV c xs i=KV c xs (hi - 1)
theorem St.set {st:SortSt} {xs:Array Keyed} (h:St c a0 p0 lo hi st) (hl:Loc (arrOf st) xs lo hi):St c a0 p0 lo hi (setArr st xs):=⟨h.k,h.f,h.p,h.l.trans hl⟩
theorem St.ok {st:SortSt} (h:St c a0 p0 lo hi st) (ho:okA c a0):okA c (arrOf st):=fun x hx=>ho x (h.l.p.mem_iff.mp hx)
end
end TS
end
section
namespace TS
set_option autoImplicit false
open PySem PyProof PyProof.Rows
section
variable {c:Cx}
noncomputable def chn (c:Cx) (xs:Array Keyed):List (Nat×Nat×Nat)->Nat->Nat->Prop
 | [],a,b=>a=b
 | t::r,a,b=>t.1=a/\0<t.2.1/\sg c xs a (a+t.2.1)/\chn c xs r (a+t.2.1) b
structure Rn (c:Cx) (a0:Array Keyed) (lo:Nat) (st:SortSt):Prop where
 k:kindOf st=c.kd
 f:failedOf st=none
 p:(arrOf st).toList.Perm a0.toList
 h:chn c (arrOf st) (pendingOf st).toList 0 lo
theorem Rn.size {a0:Array Keyed} {lo:Nat} {st:SortSt} (h:Rn c a0 lo st):(arrOf st).size=a0.size:=by simpa using h.p.length_eq
theorem Rn.ok {a0:Array Keyed} {lo:Nat} {st:SortSt} (h:Rn c a0 lo st) (ho:okA c a0):okA c (arrOf st):=fun x hx=>ho x (h.p.mem_iff.mp hx)
end
end TS
end
section
namespace TS
set_option autoImplicit false
open PySem PyProof PyProof.Rows
noncomputable def h6 (h:Heap) (a:Addr) (vs:List Value):Heap:=((h.update a (Obj.mapSeq fun _=> #[])).push (seqObj "tuple" vs.toArray 0)).push (seqObj "list" #[] 0)
def Srt (prog:Program) (w:World) (A:Around) (vs:List Value) (s1:Shared) (kd:SortKind) (O:KeyOrd) (ky:Value->O.α) (ok:Value->Prop):Prop:=
 (∀ v,v∈vs->ok v)/\ ∀ s2:Shared,(∀ b o,s1.heap.get? b=some o->s2.heap.get? b=some o)->
  (2<=vs.length-> ∀ (E:Value->Shared->Prop) (Q:SortKind->Shared->Prop),Q kd s2->wpAny (model prog w) A (keyKind' vs.toArray) Q E s2)/\
  ∀ (E:Value->Shared->Prop) (x y:Value) (Q:Bool->Shared->Prop),ok x->ok y->Q (O.blt (ky x) (ky y)) s2->wpAny (model prog w) A (keyLt' kd x y) Q E s2
end TS
end
namespace TS
set_option autoImplicit false
open PySem PyProof PyProof.Rows PySem.SeqAt
open PySem.MeetsSeq PySem.MeetsSeq2 PySem.MeetsSeq3
inductive Rs (A:Around) (s:Shared) (b:Bool):List ((Value×Value)×Nat)->Bool->Bool->Prop
 | nil (d:Bool):Rs A s b [] d d
 | eq {p q:Value} {i:Nat} {rest:List ((Value×Value)×Nat)} {d r:Bool} (h:EqAt A s p q true) (t:Rs A s b rest d r):Rs A s b (((p,q),i)::rest) d r
 | ne {p q:Value} {i:Nat} {rest:List ((Value×Value)×Nat)} {d l:Bool} (h:EqAt A s p q false) (t: ∀ (prog:Program) (w:World) (E:Value->Shared->Prop) (Q:Bool->Shared->Prop),Q l s->wpAny (model prog w) A (oneLt' (b && i==0) p q) Q E s):Rs A s b (((p,q),i)::rest) d l
section
variable {prog:Program} {w:World} {A:Around} {s:Shared}
def zp1 (h:Heap) (v:Value) (ns:List Int):Prop:= ∃ (a:Addr) (its:List Value),v= .ref a/\IsTup h a its.toArray/\IntsAre its ns
end
end TS
namespace TS
set_option autoImplicit false
open PySem PyProof PyProof.Rows PySem.SeqAt
def zjc (h:Heap) (v:Value):Prop:= ∃ (a:Addr) (xs:Array Value) (n:Int) (t:Tok),v= .ref a/\IsTup h a xs/\xs[0]? = some (.int n t)
section
variable {prog:Program} {w:World} {A:Around} {s:Shared}
theorem zol {v:Value} (h:zjc s.heap v) {E:Value->Shared->Prop}:wpAny (model prog w) A (firstOfTuple' v) (fun r s'=>s'=s/\ ∃ n t,r=some (.int n t)) E s:=by
 obtain ⟨a,xs,n,t,rfl,⟨o,e1,e2,m,d⟩,hx⟩:=h
 refine qaW (wpAny_typeOf (T:="tuple") ⟨o,e1,e2⟩ ?_)
 have:(Value.type "tuple" != Value.type "tuple")=false:=by rfl
 rw [this]
 refine qaW (listItems_at e1 d (qaX ⟨rfl,n,t,hx⟩))
theorem zii {E:Value->Shared->Prop}: ∀ (vs:List Value),(∀ v,v∈vs->zjc s.heap v)->wpAny (model prog w) A (vs.mapM firstOfTuple') (fun r s'=>s'=s/\ ∃ us ns,IntsAre us ns/\r=us.map some/\us.length=vs.length) E s
 | [],_=>by rw [List.mapM_nil];exact qaX ⟨rfl,[],[],.nil,rfl,rfl⟩
 | v::vs,h=>by
  rw [List.mapM_cons]
  refine qaW (qaZ (zol (h v (qau ..))) ?_ fun _ _ e=>e)
  rintro r s' ⟨es,n,t,rfl⟩
  rw [es]
  refine qaW (qaZ (zii vs fun u hu=>h u (qan _ hu)) ?_ fun _ _ e=>e)
  rintro r s' ⟨es,us,ns,h1,rfl,h3⟩
  rw [es]
  exact qaX ⟨rfl,.int n t::us,n::ns,.cons n t h1,rfl,by simp [h3]⟩
theorem zpo {vs:List Value} (h: ∀ v,v∈vs->zjc s.heap v) (h0:2<=vs.length) {E:Value->Shared->Prop} {Q:SortKind->Shared->Prop} (hq:Q (tuples' true) s):wpAny (model prog w) A (keyKind' vs.toArray) Q E s:=by
 rw [keyKind'_eq,List.mapM_toArray,map_eq_pure_bind,bind_assoc]
 refine qaW (qaZ (zii vs h) ?_ fun _ _ e=>e)
 rintro r s' ⟨rfl,us,ns,h1,rfl,h3⟩
 rw [pure_bind]
 rw [qa4 (by simp)]
 refine qaW (wpAny_rule ?_)
 have e1:Array.filterMap id (us.map some).toArray=us.toArray:=by simp
 rw [e1,oneTypeOnly'_eq,List.mapM_toArray,mapM_typeOf_ints h1]
 simp only [map_pure,pure_bind]
 obtain ⟨u,us',rfl⟩: ∃ u us',us=u::us':=by
  cases us with
  | nil=>simp at h3;omega
  | cons u us'=>exact ⟨u,us',rfl⟩
 have hall:((List.map (fun _=>Value.type "int") (u::us')).toArray.all fun x=>x==Value.type "int")=true:=by
  simp only [List.all_toArray,List.all_map,List.all_eq_true]
  intro _ _
  rfl
 have h0':(List.map (fun _=>Value.type "int") (u::us')).toArray[0]? = some (Value.type "int"):=by simp
 rw [h0']
 simp only [hall,if_true,pure_bind]
 exact qaX hq
end
theorem zp1.keep {h h':Heap} {v:Value} {p:List Int} (k: ∀ b o,h.get? b=some o->h'.get? b=some o):zp1 h v p->zp1 h' v p:=fun ⟨a,its,e,⟨o,x1,x2⟩,z⟩=>⟨a,its,e,⟨o,k _ _ x1,x2⟩,z⟩
structure KR where
 O:KeyOrd
 dflt:O.α
 At:Heap->Value->O.α->Prop
 inj: ∀ {h v p q},At h v p->At h v q->p=q
 keep: ∀ {h h':Heap} {v p},(∀ b o,h.get? b=some o->h'.get? b=some o)->At h v p->At h' v p
 first: ∀ {h v p},At h v p->zjc h v
 lt: ∀ {prog:Program} {w:World} {A:Around} {s:Shared} {E:Value->Shared->Prop} {Q:Bool->Shared->Prop} {u v p q},At s.heap v p->At s.heap u q->A.units+2<cLine->Q (O.blt p q) s->wpAny (model prog w) A (keyLt' (tuples' true) v u) Q E s
open Classical in
noncomputable def KR.ky (k:KR) (h:Heap) (v:Value):k.O.α:=if e: ∃ p,k.At h v p then e.choose else k.dflt
theorem KR.ky_eq {k:KR} {h:Heap} {v:Value} {p:k.O.α} (e:k.At h v p):k.ky h v=p:=by
 unfold KR.ky
 rw [dif_pos ⟨p,e⟩]
 exact k.inj (Exists.choose_spec ⟨p,e⟩) e
theorem KR.srt (k:KR) {prog:Program} {w:World} {A:Around} {vs:List Value} {s1:Shared} (hr:A.units+2<cLine) (h: ∀ v,v∈vs-> ∃ p,k.At s1.heap v p):Srt prog w A vs s1 (tuples' true) k.O (k.ky s1.heap) (fun v=> ∃ p,k.At s1.heap v p):=by
 refine ⟨h,fun s2 hk=>⟨fun h2 E Q hq=>zpo (fun v hv=> ?_) h2 hq,fun E x y Q hx hy hq=> ?_⟩⟩
 ·obtain ⟨p,hp⟩:=h v hv
  exact k.first (k.keep hk hp)
 ·obtain ⟨p,hp⟩:=hx
  obtain ⟨q,hq'⟩:=hy
  rw [KR.ky_eq hp,KR.ky_eq hq'] at hq
  exact k.lt (k.keep hk hp) (k.keep hk hq') hr hq
end TS
namespace TS
set_option autoImplicit false
open PySem PyProof.Rows
end TS
namespace L2
open PySem PySem.Spec PyProof.Rows TS
section
variable {X:L2.Cx}
end
end L2
namespace L3
open PySem PySem.Spec PyProof.Rows L2 TS
section
variable {X:L2.Cx} {E:XE}
end
end L3
namespace L3
open PySem PySem.Spec PyProof.Rows L2
section
variable {X:Cx} {E:XE}
end
section
variable {X:Cx} {E:XE} {scope:Scope} {N:List Str} {src:List (Option Nat)} {tg iter elt:Expr} {ifs:List Expr} {pos:Pos}
end
end L3
namespace L3
open PySem
open Sem (wp)
open AutoSeq1 (wpAny_loadPart')
section
variable {prog:Program} {w:World} {A:Around} {E:Value->Shared->Prop} {s:Shared}
end
end L3
namespace L2
open PySem PySem.Spec PyProof.Rows
section
variable {X:Cx} {elts:List Expr} {k:Nat} {tpos:Pos}
end
end L2
namespace L3
open PySem PySem.Spec PyProof.Rows L2
section
variable {X:Cx} {E:XE} {elts:List Expr} {k:Nat} {tpos pos:Pos}
end
end L3
namespace L2
open PySem PySem.Spec PyProof.Rows
section
variable {κ:Type} [DecidableEq κ]
noncomputable def zl5 (kvs:List (κ×V)) (k:κ) (v:V):List (κ×V):=
 if (kvs.any fun kv=>decide (kv.1=k))=true then kvs.map (fun kv=>if kv.1=k then (kv.1,v) else kv) else kvs++[(k,v)]
theorem ziI (kvs:List (κ×V)) (k:κ) (v:V):(zl5 kvs k v).length<=kvs.length+1:=by
 unfold zl5
 split
 ·rw [qaH];omega
 ·rw [qav,qaE,qaJ];omega
theorem KV.any {kvs:List (κ×V)} {vs:List (κ×Value)} (r:KV kvs vs) (k:κ):(kvs.any fun kv=>decide (kv.1=k))=vs.any fun kv=>decide (kv.1=k):=by
 unfold KV at r
 induction r with
 | nil=>rfl
 | cons h t ih=>rw [List.any_cons,List.any_cons,ih,h.1]
theorem KV.repl {kvs:List (κ×V)} {vs:List (κ×Value)} (r:KV kvs vs) (k:κ) {y:V} {u:Value} (ry:zbA y u):
  KV (kvs.map fun kv=>if kv.1=k then (kv.1,y) else kv) (vs.map fun kv=>if kv.1=k then (kv.1,u) else kv):=by
 unfold KV at r ⊢
 induction r with
 | nil=>exact .nil
 | @cons p q ps qs h t ih=>
  rw [qaM,qaM]
  refine .cons ?_ ih
  obtain ⟨h1,h2⟩:=h
  by_cases e:p.1=k
  ·rw [qa4 e,qa4 (h1.symm.trans e)];exact ⟨h1,ry⟩
  ·rw [qa5 e,qa5 (fun z=>e (h1.trans z))];exact ⟨h1,h2⟩
theorem KV.put {kvs:List (κ×V)} {vs:List (κ×Value)} (r:KV kvs vs) (k:κ) {y:V} {u:Value} (ry:zbA y u):KV (zl5 kvs k y) (stored vs k u):=by
 unfold zl5 stored
 rw [r.any k]
 by_cases e:(vs.any fun kv=>decide (kv.1=k))=true
 ·rw [qa4 e,qa4 e];exact r.repl k ry
 ·rw [qa5 e,qa5 e];exact Paired.snoc r ⟨rfl,ry⟩
theorem KV.length {kvs:List (κ×V)} {vs:List (κ×Value)} (r:KV kvs vs):kvs.length=vs.length:=Paired.length r
end
theorem zrW {P:Program} {w:World} {k:Key} {u:Value} (r:zbA (kV k) u):(zdM P w).is k u=true:=by
 cases k with
 | inl i=>obtain ⟨t,e⟩:=(show ∃ t,u=Value.int i t from r);subst e;exact ziY P w i t
 | inr x=>obtain ⟨t,e⟩:=(show ∃ t,u=Value.str x t from r);subst e;exact ziE P w x t
section
variable {X:Cx}
end
end L2
namespace L3
open PySem PySem.Spec PyProof.Rows L2
section
variable {X:L2.Cx} {E:XE}
noncomputable def zps (kvs:List (Int×D)) (k:Int) (d:D):List (Int×D):=
 if (kvs.any fun p=>decide (p.1=k))=true then kvs.map (fun p=>if p.1=k then (p.1,d) else p) else kvs++[(k,d)]
noncomputable def zcL (n:Nat):M (List (Int×D)):=fun h=>match h[n]? with
 | some (.dic kvs)=> .ok kvs h
 | _=> .bad
theorem zrd {K:W.Frag} {ι:Io} {H:Hp} {kvs:List (Int×D)} {vs:List (Key×V)} {k:Int} {d:D} {v:V} (r:Paired (fun (p:Int×D) (q:Key×V)=>q.1= .inl p.1/\Rel K ι H p.2 q.2) kvs vs) (rv:Rel K ι H d v):
  Paired (fun (p:Int×D) (q:Key×V)=>q.1= .inl p.1/\Rel K ι H p.2 q.2) (zps kvs k d) (zl5 vs (.inl k) v):=by
 have ha:(kvs.any fun p=>decide (p.1=k))=(vs.any fun p=>decide (p.1=(.inl k:Key))):=by
  induction r with
  | nil=>rfl
  | @cons p q ps qs h t ih=>
   rw [List.any_cons,List.any_cons,ih,h.1]
   congr 1
   rw [Bool.eq_iff_iff]
   simp only [qaD]
   exact ⟨fun z=>by rw [z],fun z=>by injection z⟩
 unfold zps zl5
 rw [ha]
 by_cases e:(vs.any fun p=>decide (p.1=(.inl k:Key)))=true
 ·rw [qa4 e,qa4 e]
  clear ha e
  induction r with
  | nil=>exact .nil
  | @cons p q ps qs h t ih=>
   rw [qaM,qaM]
   refine .cons ?_ ih
   by_cases e:p.1=k
   ·rw [qa4 e,qa4 (by rw [h.1,e])];exact ⟨h.1,rv⟩
   ·rw [qa5 e,qa5 (fun z=>e (by rw [h.1] at z;injection z))];exact h
 ·rw [qa5 e,qa5 e]
  exact Paired.snoc r ⟨rfl,rv⟩
end
open LT
section
variable {h:Hh}
end
end L3
namespace L3
open PySem PySem.Spec PyProof.Rows L2
structure Fd (K:W.Frag) (x:Str) (st:Stmt) (a:Addr) (d:FuncData):Prop where
 e:W.nsIn K mainGlobals x=some (some (.ref a))
 F:Fun K x x st a d
section
variable {X:Cx} {E:XE}
end
end L3
namespace L3
open PySem PyProof.Rows HT
section
open PySem.SeqAt
open PySem.AutoSeq1 (wpAny_loadPart')
open PySem.MeetsSeq PySem.MeetsSeq2 PySem.MeetsSeq3
end
section
variable {prog:Program} {w:World} {A:Around} {E:Value->Shared->Prop} {s:Shared}
end
end L3
namespace L3
open PySem PyProof.Rows
section
open PySem.SeqAt
open PySem.AutoSeq1 (wpAny_loadPart')
open PySem.MeetsSeq PySem.MeetsSeq2 PySem.MeetsSeq3
section
variable {prog:Program} {w:World} {A:Around} {E:Value->Shared->Prop} {s:Shared}
end
end
open PySem.Spec L2
section
variable {X:Cx} {E:XE}
end
end L3
namespace L2
open PySem PySem.Spec PyProof.Rows
section
variable {X:Cx}
end
end L2
namespace L3
open PySem PySem.Spec PyProof.Rows L2
section
variable {X:Cx} {E:XE}
end
open Classical in
noncomputable def chk (n:Nat) (ds:List D):M Unit:=fun h=>if h[n]? = some (.lst ds) then .ok () h else .bad
noncomputable def zcl (n:Nat) (full:List D) (f:D->M (Option D)):List D->M (List D)
 | []=>do chk n full;pure []
 | x::r=>do
  chk n full
  let o<-f x
  let ys<-zcl n full f r
  pure (match o with | some y=>y::ys | none=>ys)
section
variable {X:Cx} {E:XE} {scope:Scope} {N:List Str} {src:List (Option Nat)} {tg iter elt:Expr} {ifs:List Expr} {pos:Pos}
theorem zmC {α β:Type} {K:W.Frag} {ι:Io} {H:Hp} {h:Hh} {n:Nat} {ds:List D} {m:M α} {f:α->M β} {P:β->Io->Hp->Prop} (q:Fin K E ι H ((((do chk n ds;m):M α)>>=f) h) P):h[n]? = some (.lst ds)/\Fin K E ι H ((m>>=f) h) P:=by
 have e:(((do chk n ds;m):M α)>>=f) h=match chk n ds h with | .ok _ h'=>(m>>=f) h' | .exc c h'=> .exc c h' | .bad=> .bad:=by
  show M.bind (M.bind (chk n ds) fun _=>m) f h=_
  unfold M.bind
  cases chk n ds h<;>rfl
 rw [e] at q
 unfold chk at q
 by_cases hc:h[n]? = some (.lst ds)
 ·rw [qa4 hc] at q
  exact ⟨hc,q⟩
 ·rw [qa5 hc] at q
  exact qa0 q
theorem zva {n:Nat} {a:Addr} {K:W.Frag} {g:D->Sd->M Sd} {tc:Sd->M Bool} {te:Sd->M D} {ds:List D} {ι:Io} {H:Hp} {h:Hh} {sd:Sd} {σ:L2.St} {Q:VK} {p:Addr} (hk:zaY g src) (L:zcz K ι H sd σ) (hr:za4 K ι H h) (hn:ι.c[n]? = some (some a)) (hz:ds.length<=sizeLine)
  (q:Fin K E ι H ((do let ys<-zcl n ds (zbw g tc te (zao src sd)) ds;pure (D.lst ys)) h) fun d ι' H'=> ∀ v,Rel K ι' H' d v->Q v H') (hp:H p=none):
  ztx (Itl K a) (zrV K E g) (zf5 K E tc) (zf8 K E te) (bStart src σ) H p fun H'=>Q (.ref p) H':=by
 generalize hP:(fun (d:D) (ι':Io) (H':Hp)=> ∀ v,Rel K ι' H' d v->Q v H')=P at q
 generalize hf:zbw g tc te (zao src sd)=f at q
 have hpx:p∉ι.x:=fun z=>hr.nin hp (.inr z)
 have h0len:(zao src sd).length=src.length:=by unfold zao;rw [qaH]
 have h0non: ∀ (i:Nat),src[i]? = some none->(zao src sd)[i]? = some none:=fun i e=>by unfold zao;rw [List.getElem?_map,e];rfl
 refine ⟨fun i m σ' H'=>m=ds.length - i/\i<=ds.length/\ ∃ ι' h' done vs,ι'.x=p::ι.x/\zbE ι H ι'.show H'/\zcz K ι' H' (zao src sd) σ'/\za4 K ι' H' h'/\H' p=some (.lst vs)/\zaq K ι' H' done vs/\done.length<=i/\
     Fin K E ι H ((do let ys<-zcl n ds f (ds.drop i);pure (D.lst (done++ys))) h') P,
   ⟨_,rfl,Nat.zero_le _,ι.hide p,h,[],[],rfl,?_,L.bStart.pass (zfi hp),hr.hide hp,zaM,zaq.nil,qaV _,?_⟩,?_⟩
 ·have:=hr.laidS (o:= .lst []) hp
  exact ⟨this.old,this.new,this.hid,this.hidk,this.keep⟩
 ·simpa using q
 rintro i m σ2 H2 ⟨rfl,hi2,ι2,h2,done,vs,hx2,s2,L2,hr2,e2,rl2,dl2,q2⟩
 have ps2:Pass ι H ι2 H2:=⟨s2.old,fun b o hb n=>⟨s2.keep b o hb n,fun z=>by
   rcases z with z | z
   · exact s2.nin hb n (.inl z)
   · rw [hx2] at z
     rcases qaP.mp z with z | z
     · rw [z,hp] at hb;cases hb
     · exact n (.inr z)⟩⟩
 have hp2:p∈ι2.x:=by rw [hx2];exact qau
 have base: ∀ {ι':Io} {H':Hp},zbE ι2 H2 ι' H'->zbE ι H ι'.show H':=fun t=>s2.trans (t.shown hx2)
 have fact:h2[n]? = some (.lst ds)-> ∃ vs2,H2 a=some (.lst vs2)/\zaq K ι2 H2 ds vs2:=fun hc=>by
  have hn2:ι2.c[n]? = some (some a):=by
   rcases s2.old n (some a) hn with z | z
   ·exact z
   ·have:=hr2.dead n z
    rw [hc] at this
    cases this
  obtain ⟨o,e1,e2⟩:=hr2.at_ n a _ hn2 hc
  obtain ⟨vs2,rfl,rl⟩:=e2
  exact ⟨vs2,e1,rl⟩
 by_cases hlt:i<ds.length
 ·right
  have edr:ds.drop i=ds[i]::ds.drop (i+1):=qae hlt
  rw [edr,zcl] at q2
  obtain ⟨hc,q2⟩:=zmC q2
  obtain ⟨vs2,ev2,rlv⟩:=fact hc
  have sq:SqL K H2 a vs2:= .inl (.inl ev2)
  have hlv:=rlv.length
  refine ⟨⟨vs2,vs2[i]'(by omega),sq,by simp⟩,fun σ' H'=>i+1<=ds.length/\ ∃ ι' h' done vs,ι'.x=p::ι.x/\zbE ι H ι'.show H'/\zcz K ι' H' (zao src sd) σ'/\za4 K ι' H' h'/\H' p=some (.lst vs)/\zaq K ι' H' done vs/\done.length<=i+1/\
    Fin K E ι H ((do let ys<-zcl n ds f (ds.drop (i+1));pure (D.lst (done++ys))) h') P,fun σ' H' z=>⟨ds.length - (i+1),by omega,rfl,z.1,z.2⟩,fun x H3 y=> ?_⟩
  obtain ⟨eH,y⟩:=y
  have eH:=eH.symm
  subst eH
  obtain ⟨d,ed,rd⟩:=rlv.getV (y vs2 sq)
  have s3:zbE ι2 H2 ι2 H2:=zbE.refl _ _
  have hr3:=hr2
  rw [qaf hlt] at ed
  rw [Option.some.inj ed] at q2
  have q3:=q2
  have st3:zbE ι2 H2 ι2 H2:=s3
  have e3:H2 p=some (.lst vs):=e2
  have eq1:((do let o<-f d;let ys<-zcl n ds f (ds.drop (i+1));pure (match o with | some y=>y::ys | none=>ys))>>=fun ys=>pure (D.lst (done++ys)):M D)=(g d (zao src sd)>>=fun sd1=>tc sd1>>=fun c=>if c=true then (te sd1>>=fun y=>zcl n ds f (ds.drop (i+1))>>=fun ys=>pure (D.lst (done++[y]++ys))) else (zcl n ds f (ds.drop (i+1))>>=fun ys=>pure (D.lst (done++ys)))):=by
   rw [<- hf]
   simp only [zbw,bind_assoc]
   refine congrArg _ (funext fun sd1=> ?_)
   refine congrArg _ (funext fun c=> ?_)
   cases c with
   | true=>simp only [if_true,bind_assoc,pure_bind,List.append_assoc,List.cons_append,List.nil_append]
   | false=>simp only [qax,if_false,pure_bind]
  rw [eq1] at q3
  refine ⟨ι2,h2,zao src sd,d,L2.step s3,hr3,rd,?_⟩
  refine Fin.bindB q3 (fun ι' H' h' s hr'=>⟨ι'.show,base (s3.trans s),hr'.show⟩) fun sd4 h4 ι4 H4 e4 s4 hr4 q4 σ4 L4=> ?_
  have hx4:ι4.x=p::ι.x:=by rw [s4.hid];exact hx2
  obtain ⟨k1,k2⟩:=hk d _ h2 sd4 h4 h0len h0non e4
  refine ⟨ι4,h4,sd4,L4,hr4,Fin.bindB q4 (fun ι' H' h' s hr'=>⟨ι'.show,base ((s3.trans s4).trans s),hr'.show⟩) fun c h5 ι5 H5 e5 s5 hr5 q5=> ?_⟩
  have hx5:ι5.x=p::ι.x:=by rw [s5.hid];exact hx4
  have sub: ∀ {ι':Io} {H':Hp},zcz K ι' H' sd4 σ4->zcz K ι' H' (zao src sd) σ4:=fun {ι' H'} z=>⟨by rw [<- k1];exact z.1,fun j d' e=>z.2 j d' (k2 j d' (fun w=>by rw [h0non j w] at e;cases e) e)⟩
  have st5:zbE ι2 H2 ι5 H5:=(s3.trans s4).trans s5
  cases c with
  | false=>
   exact zpM ⟨hlt,ι5,h5,done,vs,hx5,base st5,sub (L4.step s5),hr5,by rw [st5.hidk p hp2];exact e2,rl2.step st5,Nat.le_succ_of_le dl2,q5⟩
  | true=>
   refine zpW ⟨ι5,h5,sd4,L4.step s5,hr5,Fin.bindB q5 (fun ι' H' h' s hr'=>⟨ι'.show,base (st5.trans s),hr'.show⟩) fun yd h6 ι6 H6 e6 s6 hr6 q6 y ry=> ?_⟩
   have st6:zbE ι2 H2 ι6 H6:=st5.trans s6
   have hx6:ι6.x=p::ι.x:=by rw [s6.hid];exact hx5
   have hp6:p∈ι6.x:=by rw [hx6];exact qau
   have e6':H6 p=some (.lst vs):=by rw [st6.hidk p hp2];exact e2
   refine ⟨vs,e6',by rw [<- rl2.length];omega,hlt,ι6,h6,done++[yd],vs++[y],hx6,zh9 hp hpx hx2 s2 st6,?_,hr6.hid hp6,zaM,?_,?_,?_⟩
   ·exact ((sub (L4.step s5)).step s6).pass (zd6 hp6)
   ·exact ((rl2.step st6).append (zaq.cons ry zaq.nil)).pass (zd6 hp6)
   ·rw [qav,List.length_singleton];omega
   ·exact q6
 ·left
  have e:i=ds.length:=by omega
  subst e
  rw [List.drop_length,zcl] at q2
  obtain ⟨hc,q2⟩:=zmC q2
  obtain ⟨vs2,ev2,rlv⟩:=fact hc
  refine ⟨⟨vs2,.inl (.inl ev2),by rw [rlv.length];exact qaV _⟩,?_⟩
  have q3:P (.lst done) ι2.show H2:=by
   have:Fin K E ι H ((pure (D.lst (done++[])):M D) h2) P:=q2
   rw [List.append_nil] at this
   exact this _ _ s2 hr2.show
  rw [<- hP] at q3
  refine q3 (.ref p) ?_
  simp only [Rel]
  refine ⟨p,vs,rfl,⟨e2,fun z=> ?_⟩,rl2.pass zfp⟩
  rcases z with z | z
  ·exact (hr2.hidt p (by rw [hx2];exact qau)).2 z
  ·exact hpx (by have z:p∈ι2.x.tail:=z;rw [hx2] at z;exact z)
noncomputable def zgg (f:FE) (g:D->Sd->M Sd) (tc:Sd->M Bool) (te:Sd->M D) (src:List (Option Nat)):Sd->M D:=fun sd=>do
 let d<-f sd
 match d with
 | .cel n=>do
  let ds<-zah n
  fits ds.length
  let ys<-zcl n ds (zbw g tc te (zao src sd)) ds
  pure (D.lst ys)
 | _=>M.bad
theorem zno {K:W.Frag} {f:FE} {g:D->Sd->M Sd} {tc:Sd->M Bool} {te:Sd->M D} (hk:zaY g src) (σ:L2.St) (H:Hp) (Q:VK) (q:zf8 K E (zgg f g tc te src) σ H Q):
  zn4 (zuQ K (zf8 K E f)) (zrV K E g) (zf5 K E tc) (zf8 K E te) src σ H Q:=by
 obtain ⟨ι,h,sd,L,hh,q⟩:=q
 refine ⟨ι,h,sd,L,hh,Fin.bind q fun d h1 ι1 H1 e1 s1 hr1 q1 v rv=> ?_⟩
 cases d with
 | cel n=>
  simp only [Rel] at rv
  obtain ⟨a,rfl,hn⟩:=rv
  have q1:Fin K E ι1 H1 ((do let ds<-zah n;fits ds.length;let ys<-zcl n ds (zbw g tc te (zao src sd)) ds;pure (D.lst ys):M D) h1) _:=q1
  have key: ∃ ds,h1[n]? = some (.lst ds)/\Fin K E ι1 H1 ((do fits ds.length;let ys<-zcl n ds (zbw g tc te (zao src sd)) ds;pure (D.lst ys):M D) h1) (fun d ι' H'=> ∀ v,Rel K ι' H' d v->Q v H'):=by
   cases hc:h1[n]? with
   | none=>
    have e:zah n h1= .bad:=by unfold zah;rw [hc]
    have:Fin K E ι1 H1 (M.bind (zah n) _ h1) _:=q1
    unfold M.bind at this
    rw [e] at this
    exact qa0 this
   | some c=>
    cases c with
    | lst ds=>
     have e:zah n h1= .ok ds h1:=by unfold zah;rw [hc]
     have:Fin K E ι1 H1 (M.bind (zah n) _ h1) _:=q1
     unfold M.bind at this
     rw [e] at this
     exact ⟨ds,rfl,this⟩
    | _=>
     have e:zah n h1= .bad:=by unfold zah;rw [hc]
     have:Fin K E ι1 H1 (M.bind (zah n) _ h1) _:=q1
     unfold M.bind at this
     rw [e] at this
     exact qa0 this
  obtain ⟨ds,hc,q2⟩:=key
  rcases hn with hn | hn
  ·obtain ⟨o,e1,e2⟩:=hr1.at_ n a _ hn hc
   obtain ⟨vs,rfl,rl⟩:=e2
   obtain ⟨z,q3⟩:=Fin.fits q2
   exact ⟨a,rfl,.inl ⟨⟨vs,.inl (.inl e1)⟩,fun p hp=>zva hk (L.step s1) hr1 hn z q3 hp⟩⟩
  ·have:=hr1.dead n hn
   rw [hc] at this
   cases this
 | _=>exact qa0 q1
theorem zmG {f:FE} {g:D->Sd->M Sd} {tc:Sd->M Bool} {te:Sd->M D} (B:BOk X scope N src) (hk:zaY g src) (hi:SE X E iter f)
  (hg: ∀ s H fp,SG (cxB X scope N s H fp) E tg g) (ht: ∀ s H fp,SCs (cxB X scope N s H fp) E ifs tc) (he: ∀ s H fp,SE (cxB X scope N s H fp) E elt te)
  (hs: ∀ x,foldedSetIterable iter X.env x=pure x:=by intro _;rfl):SE X E (.ListComp elt [⟨tg,iter,ifs,0⟩] scope pos) (zgg f g tc te src):=
 PE.imp (zl2 B (zoL hi) hg ht he hs) (zno hk)
end
end L3
namespace L3
open PySem PySem.Spec PyProof.Rows L2
section
variable {X:Cx} {E:XE} {pos:Pos}
end
end L3
namespace L2
open PySem PySem.Spec PyProof.Rows
section
variable {X:Cx}
noncomputable def atK (kvs:List (Key×V)) (k:Key):Option V:=(kvs.find? fun q=>decide (q.1=k)).map (·.2)
theorem zlO {kvs:List (Key×V)} {us:List (Key×Value)} (r:KV kvs us) {k:Key} {v:V} (e:atK kvs k=some v): ∃ w,valueAt us k=some w/\zbA v w:=by
 unfold KV at r
 induction r with
 | nil=>cases e
 | @cons p q ps qs h t ih=>
  by_cases hk:p.1=k
  ·have e2:atK (p::ps) k=some p.2:=by simp [atK,List.find?_cons,hk]
   rw [e2] at e
   cases e
   exact ⟨q.2,by simp [valueAt,List.find?_cons,h.1.symm.trans hk],h.2⟩
  ·have hk': ¬q.1=k:=fun z=>hk (h.1.trans z)
   have e2:atK (p::ps) k=atK ps k:=by simp [atK,List.find?_cons,hk]
   rw [e2] at e
   obtain ⟨w,hw,rw'⟩:=ih e
   exact ⟨w,by rw [<- hw];simp [valueAt,List.find?_cons,hk'],rw'⟩
end
end L2
namespace L3
open PySem PySem.Spec PyProof.Rows L2
section
variable {X:L2.Cx} {E:XE}
end
section
variable {X:L2.Cx} {E:XE}
end
end L3
namespace L2
open PySem PySem.Spec PyProof.Rows
section
variable {X:Cx}
end
end L2
namespace L3
open PySem PySem.Spec PyProof.Rows L2
section
variable {X:L2.Cx} {E:XE}
end
end L3
namespace L3
open PySem
open Sem (wp)
section
variable {prog:Program} {w:World} {A:Around} {E:Value->Shared->Prop} {s:Shared}
end
section
variable {prog:Program} {w:World} {A:Around} {E:Value->Shared->Prop} {s:Shared}
end
end L3
namespace L2
open PySem PySem.Spec PyProof.Rows
section
variable {X:Cx} {pins:List (Addr×Obj)} {σ:St} {H:Hp} {s:Shared} {h':Heap}
end
section
variable {X:Cx} {elts:List Expr} {k:Nat} {tpos:Pos}
end
end L2
namespace L3
open PySem PySem.Spec PyProof.Rows L2
section
variable {X:Cx} {E:XE} {elts:List Expr} {k:Nat} {tpos pos:Pos}
end
end L3
namespace L2
open PySem PySem.Spec PyProof.Rows
section
variable {X:Cx}
end
end L2
namespace L3
open PySem PySem.Spec PyProof.Rows L2
section
variable {X:L2.Cx} {E:XE}
end
end L3
namespace L3
open PySem
open Sem (wp)
section
variable {prog:Program} {w:World} {A:Around} {E:Value->Shared->Prop} {s:Shared}
theorem zhl {l:Addr} {xs:Array Value} {k:Nat} {Q:Option Value->Shared->Prop} (hA:A.handled=none) (hx:s.heap.get? l=some {cls:= .type "list",data:= .seq xs k})
  (h: ∀ h' tk,(∀ b o,s.heap.get? b=some o->h'.get? b=some o)->Q none {s with heap:=h',toks:=tk}):wpAny (model prog w) A (getAttr? (.ref l) "keys") Q E s:=by
 obtain ⟨hp,g,d,tk,os⟩:=s
 have hT: ∀ tk',(⟨hp,g,d,tk',os⟩:Shared).TypeIs (.ref l) "list":=fun _=>⟨_,hx,rfl⟩
 have f1:=sub_AttributeError
 have f3:=F.slot_list_getattribute.lookup
 have f4:=F.slot_list_getattribute.bind (.ref l)
 have f5:=am_list_getattr_none
 have hmiss:typeLookup (.type "list") "keys"=pure none:=by rw [typeLookup_type,builtinLookup_eq_fast];kernel_rfl
 unfold getAttr? getAttrBy? getAttrBy
 repeat (any_goals (first | assumption | exact hT _ | ((with_reducible show wpAny _ _ (call (Value.builtin "list.__getattribute__") _ _) _ _ _);refine call_meets F.slot_list_getattribute (hT _) am_entry_list_getattribute (F.args_list_getattribute_2 _ _) (meets_getattribute_miss_list l xs k #[] "keys" _ hmiss (by decide +kernel) (by size_fits)) ⟨hx,hA,fun h' tk' e hx'=> ?_⟩) | wp_step))
 obtain ⟨t',u',he⟩:=hx'.there
 show wpAny _ _ (getattributeRaised _ _ _ _ _ _ _) _ _ _
 unfold getattributeRaised
 repeat (any_goals (first | assumption | wp_step))
 exact h _ _ hx'.keeps
theorem zhY:entryFor table "dict.update.loop"=some Builtin.«dict.update.loop» := entryFor_of_tree (by kernel_rfl)
theorem zek:plainId "dict.update.loop"=true:=by decide +kernel
def zrK (prog:Program) (w:World) (A:Around) (d:Addr) (h0:Heap) (St:Nat->Heap->Prop) (i:Nat) (x:Value):Prop:=
 ∃ p k v n dd sl,x= .ref p/\h0.get? p=some {cls:= .type "tuple",dict:=dd,data:= .seq #[k,v] n,slots:=sl}/\
  ∀ (s:Shared) (Q:Unit->Shared->Prop) (E:Value->Shared->Prop),St i s.heap->(∀ b o,h0.get? b=some o->s.heap.get? b=some o)->(∀ h' tk,St (i+1) h'->Heap.SameBut d s.heap h'->Q () {s with heap:=h',toks:=tk})->wpAny (model prog w) A (dictSet d k v) Q E s
theorem zm5 {d it l:Addr} {items:Array Value} {h0:Heap} {St:Nat->Heap->Prop} {R:Result->Shared->Prop} (hh:A.handled=none) (hl:h0.IsList l items) (h0d: ∀ b o,h0.get? b=some o->b≠d/\b≠it) (hdi:d≠it)
  (fr: ∀ i h h',St i h->(∀ b o,b≠it->h.get? b=some o->h'.get? b=some o)->St i h') (pr: ∀ i x,items[i]? = some x->zrK prog w A.in1 d h0 St i x):
  ∀ (k i:Nat) (s:Shared),items.size - i=k->i<=items.size->St i s.heap->s.heap.IsListIter it l i->(∀ b o,h0.get? b=some o->s.heap.get? b=some o)->
  (∀ h' tk,St items.size h'->(∀ b o,b≠d->b≠it->s.heap.get? b=some o->h'.get? b=some o)->R (.ok (.ret .none)) {s with heap:=h',toks:=tk})->
  codeAny (model prog w) A (.builtin "dict.update.loop" ⟨[.ref d,.ref it,rawInt i,.none],[]⟩) R s:=by
 intro k
 induction k with
 | zero=>
  intro i s hk hi hst hit hx hR
  have hin:i=items.size:=by omega
  have hls:s.heap.IsList l items:=by obtain ⟨o,e,r⟩:=hl;exact ⟨o,hx _ _ e,r⟩
  refine codeAny_builtin zhY ?_
  rw [qap zek _]
  show wpAny _ A.in1 (pyNext (.ref it)>>=_) _ _ s
  refine qaW (wpAny_pyNext_list_end (A:=A.in1) hh hit hls (by rw [hin];simp) fun h' hx'=> ?_)
  show wpAny _ _ (Builtin.Dict.addKeywords d []>>=_) _ _ _
  refine qaW (qaX (qaX ?_))
  exact hR h' _ (fr _ _ _ (hin▸hst) fun b o hb e=>hx' b o hb e) fun b o _ hb e=>hx' b o hb e
 | succ k ih=>
  intro i s hk hi hst hit hx hR
  have hlt:i<items.size:=by omega
  have hls:s.heap.IsList l items:=by obtain ⟨o,e,r⟩:=hl;exact ⟨o,hx _ _ e,r⟩
  obtain ⟨p,key,v,n,dd,sl,ex,ep,put⟩:=pr i items[i] (by simp [hlt])
  refine codeAny_builtin zhY ?_
  rw [qap zek _]
  show wpAny _ A.in1 (pyNext (.ref it)>>=_) _ _ s
  refine qaW (wpAny_pyNext_list_item hit hls (x:= .ref p) (by rw [<- ex];simp [hlt]) fun h1 hit1 hs1=> ?_)
  have hx1: ∀ b o,h0.get? b=some o->h1.get? b=some o:=fun b o e=>hs1.extBut _ _ (h0d b o e).2 (hx b o e)
  have hp1:=hx1 _ _ ep
  refine qaW (qaO (qaW (wpAny_tryCatch ?_)))
  unfold Builtin.Dict.pairItems
  refine qaW (wpAny_typeOf (T:="tuple") ⟨_,hp1,rfl⟩ ?_)
  simp only [beq_self_eq_true,Bool.or_true,if_true]
  refine qaW (wpAny_seqItems hp1 rfl (qaX ?_))
  show wpAny _ _ (holding [key,v] (dictSet d key v)) _ _ _
  refine qaO (put _ _ _ (fr _ _ _ hst fun b o hb e=>hs1.extBut _ _ hb e) hx1 fun h2 tk hst2 hs2=> ?_)
  refine qaX ⟨plainId_quiet zek _,?_⟩
  show codeAny _ A (.builtin "dict.update.loop" ⟨[.ref d,.ref it,rawInt ((i:Int)+1),.none],[]⟩) _ _
  rw [show ((i:Int)+1)=((i+1:Nat):Int) by omega]
  refine ih (i+1) _ (by omega) hlt hst2 (hit1.extBut hs2.extBut (Ne.symm hdi)) (fun b o e=>hs2.extBut _ _ (h0d b o e).1 (hx1 b o e)) fun h3 tk3 hst3 hk3=> ?_
  exact hR h3 tk3 hst3 fun b o hbd hbi e=>hk3 b o hbd hbi (hs2.extBut _ _ hbd (hs1.extBut _ _ hbi e))
theorem zkZ {l:Addr} {items:Array Value} {k:Nat} {St:Nat->Heap->Prop} {Q:Value->Shared->Prop} (hA:A.handled=none) (hx:s.heap.get? l=some {cls:= .type "list",data:= .seq items k})
  (st0:St 0 (s.heap.push {cls:= .type "dict",data:= .dict #[]}))
  (fr: ∀ i h h',St i h->(∀ b o,(b=s.heap.objs.size\/ ∃ o',s.heap.get? b=some o')->h.get? b=some o->h'.get? b=some o)->St i h')
  (pr: ∀ i x,items[i]? = some x->zrK prog w A.in1.in1 s.heap.objs.size s.heap St i x)
  (h: ∀ h' tk,St items.size h'->(∀ b o,s.heap.get? b=some o->h'.get? b=some o)->Q (.ref s.heap.objs.size) {s with heap:=h',toks:=tk}):
  wpAny (model prog w) A (call (.type "dict") [.ref l]) Q E s:=by
 refine callType_codes (Q₁:=fun obj s₁=>obj= .ref s.heap.objs.size/\s₁={s with heap:=s.heap.push {cls:= .type "dict",data:= .dict #[]}}) F.kt_called_dict (F.kt_typeCall_dict_1 _) F.entry_dict_init (kt_code_dict_new _ ⟨rfl,rfl⟩) ?_
 rintro obj s₁ ⟨rfl,rfl⟩
 have hd:(s.heap.push {cls:= .type "dict",data:= .dict #[]}).get? s.heap.objs.size=some {cls:= .type "dict",data:= .dict #[]}:=qar _ rfl
 have hx1:(s.heap.push {cls:= .type "dict",data:= .dict #[]}).get? l=some {cls:= .type "list",data:= .seq items k}:=qag _ hx
 refine ⟨⟨_,hd,rfl⟩,F.args_dict_init_2 _ _,?_⟩
 unfold Builtin.«dict.__init__»
 refine qaW ?_
 unfold Builtin.Dict.selfAndRest
 refine qaW (wpAny_notOrdered_dict ⟨_,hd,rfl⟩ ?_)
 show wpAny _ _ (pure (s.heap.objs.size,[Value.ref l])) _ _ _
 refine qaX ?_
 show wpAny _ _ (Builtin.Dict.updateFrom "dict.__init__" s.heap.objs.size (.ref l) [] .none) _ _ _
 unfold Builtin.Dict.updateFrom
 refine qaW (wpAny_typeOf (T:="list") ⟨_,hx1,rfl⟩ ?_)
 rw [qa4 (by decide)]
 refine qaW (zhl (A:=A.in1.in1) hA hx1 fun h1 tk hk1=> ?_)
 simp only [Option.isNone_none,if_true]
 refine qaW (wpAny_rule ?_)
 have hl1:h1.IsList l items:=⟨_,hk1 _ _ hx1,rfl,k,rfl⟩
 refine qaW (wpAny_pyIter_list (s:={s with heap:=h1,toks:=tk}) hl1 ?_)
 refine qaX ⟨plainId_quiet zek _,?_⟩
 have hlt:s.heap.objs.size<h1.objs.size:=qaQ (hk1 _ _ hd)
 have old: ∀ b o,s.heap.get? b=some o->h1.get? b=some o:=fun b o e=>hk1 _ _ (qag _ e)
 have hne: ∀ b o,s.heap.get? b=some o->b≠s.heap.objs.size/\b≠h1.objs.size:=fun b o e=>⟨qaR (qaQ e),qaR (qaQ (old b o e))⟩
 refine zm5 (A:=A.in1) (d:=s.heap.objs.size) (it:=h1.objs.size) (l:=l) (items:=items) (h0:=s.heap) (St:=St) hA ⟨_,hx,rfl,k,rfl⟩ hne (qaR hlt) (fun i h h' hst hk=>fr i h h' hst fun b o hb e=> ?_) pr _ 0 _ rfl (Nat.zero_le _)
  (fr 0 _ _ st0 fun b o _ e=>qag _ (hk1 _ _ e)) ⟨_,qar _ rfl,rfl,rfl⟩ (fun b o e=>qag _ (old b o e)) fun h2 tk2 hst2 hk2=> ?_
 ·refine hk b o ?_ e
  rcases hb with rfl | ⟨o',e'⟩
  ·exact qaR hlt
  ·exact (hne b o' e').2
 ·exact ⟨rfl,h h2 tk2 hst2 fun b o e=>hk2 b o (hne b o e).1 (hne b o e).2 (qag _ (old b o e))⟩
end
end L3
namespace L2
open PySem PySem.Spec PyProof.Rows
section
variable {X:Cx}
theorem Inv.sysI {pins:List (Addr×Obj)} {σ:St} {H:Hp} {s:Shared} (I:Inv X pins σ H s):sysModules<s.heap.objs.size:=by
 have h:mainGlobals<s.heap.objs.size:=(I.mod.glob.keeps I.bk).lt
 exact Nat.lt_trans (by decide) h
noncomputable def zeM (zs:List (Int×V)):List (Key×V):=zs.foldl (fun kvs z=>zl5 kvs (.inl z.1) z.2) []
theorem ziR (zs:List (Int×V)) (z:Int×V):zeM (zs++[z])=zl5 (zeM zs) (.inl z.1) z.2:=by
 unfold zeM
 rw [List.foldl_append]
 rfl
theorem zgo (zs:List (Int×V)):(zeM zs).length<=zs.length:=by
 have key: ∀ (zs:List (Int×V)) (kvs:List (Key×V)),(zs.foldl (fun kvs z=>zl5 kvs (.inl z.1) z.2) kvs).length<=kvs.length+zs.length:=by
  intro zs
  induction zs with
  | nil=>intro kvs;exact qaV _
  | cons z zs ih=>
   intro kvs
   have h1:=ih (zl5 kvs (.inl z.1) z.2)
   have h2:=ziI kvs (.inl z.1) z.2
   rw [List.foldl_cons,qaE]
   omega
 have:=key zs []
 rw [qaJ,Nat.zero_add] at this
 exact this
theorem zmt (hc:X.calm=true):zaN X (.type "dict") (fun xs H Q=> ∃ (a:Addr) (zs:List (Addr×Int×V)),xs=[V.ref a]/\H a=some (.lst (zs.map fun z=>V.ref z.1))/\
    (∀ z∈zs,H z.1=some (.tup [.int z.2.1,z.2.2]))/\ ∀ p,H p=none->Q (.ref p) (upd H p (.dK (zeM (zs.map (·.2)))))):=by
 intro pins s σ H xs us Q I r h
 obtain ⟨a,zs,rfl,hH,hz,q⟩:=h
 obtain ⟨u,rfl,ru⟩:=zfv r
 cases ru
 obtain ⟨zl,its,n,rv,hl,e⟩:=I.lstM hH
 have hlen:zs.length=its.length:=by rw [<- hl,qaH]
 have zl:zs.length<=sizeLine:=by rw [qaH] at zl;exact zl
 refine L3.zkZ (A:=X.A) (s:=s) (l:=a) (items:=its.toArray) (k:=n) (St:=fun i h=> ∃ vs,KV (zeM ((zs.take i).map (·.2))) vs/\h.DictOf (zdM X.prog X.w) s.heap.objs.size vs) (I.ok.hd hc) e ?_ ?_ ?_ ?_
 ·exact ⟨[],.nil,Heap.DictOf.new _⟩
 ·rintro i h h' ⟨vs,kv,o,es,ep,h1,r⟩ hk
  exact ⟨vs,kv,o,es,ep,hk _ o (.inl rfl) h1,r⟩
 ·intro i x hx
  have hi:i<zs.length:=by
   have:i<its.toArray.size:=(qab.mp hx).1
   rw [qaA] at this
   omega
  have hmem:zs[i]∈zs:=List.getElem_mem hi
  obtain ⟨u,hu1,ru1⟩:=rv.get (i:=i) (x:= .ref zs[i].1) (by simp [hi])
  have hxu:x=u:=by
   have:its[i]? = some x:=by simpa using hx
   rw [hu1] at this
   exact (Option.some.inj this).symm
  have hxr:x= .ref zs[i].1:=by rw [hxu];exact ru1
  obtain ⟨_,its2,r2,⟨cc,dd,dt,sl⟩,o1,o2,m,o3⟩:=(show zbY X.prog X.w H s.heap zs[i].1 (.tup [.int zs[i].2.1,zs[i].2.2]) from I.hok _ _ (hz _ hmem))
  dsimp only at o2 o3
  subst o2 o3
  obtain ⟨u1,u2,rfl,k1,k2⟩:=r2.two
  refine ⟨zs[i].1,u1,u2,m,dd,sl,hxr,o1,fun s' Q' E' hst hold k=> ?_⟩
  obtain ⟨vs,kv,dd'⟩:=hst
  have hz':vs.length<=sizeLine:=by
   rw [<- kv.length]
   have:=zgo ((zs.take i).map (·.2))
   rw [qaH,List.length_take] at this
   omega
  refine wpAny_dictSet_pairs (hsz:=hz') (zrW (k:= .inl zs[i].2.1) k1) dd' fun h' d2 sb=>k h' _ ⟨_,?_,d2⟩ sb
  rw [List.take_succ,qaf hi,Option.toList_some,List.map_append,List.map_singleton,ziR]
  exact kv.put (.inl zs[i].2.1) k2
 ·rintro h' tk ⟨vs,kv,dd⟩ hk
  rw [show its.toArray.size=zs.length by simp;omega,List.take_length] at kv
  have fresh:=I.hok.fresh (qaV s.heap.objs.size)
  refine ⟨.ref s.heap.objs.size,_,I.laid (t':=tk) (h':=h') (a:=s.heap.objs.size) (o:= .dK (zeM (zs.map (·.2)))) hk (qaV _) ?_,rfl,q _ fresh⟩
  refine ⟨?_,by simpa using Nat.ne_of_gt I.sysI,vs,kv,dd⟩
  have:=zgo (zs.map (·.2))
  rw [qaH] at this
  omega
noncomputable def vAt (kvs:List (Key×V)) (k:Key):Option V:=(kvs.find? fun kv=>decide (kv.1=k)).map (·.2)
theorem zqe {kvs:List (Key×V)} {vs:List (Key×Value)} (r:KV kvs vs) (k:Key) {y:V} {u:Value} (ry:zbA y u):zbA ((vAt kvs k).getD y) ((valueAt vs k).getD u):=by
 unfold vAt valueAt
 unfold KV at r
 induction r with
 | nil=>exact ry
 | @cons p q ps qs h t ih=>
  rw [List.find?_cons,List.find?_cons, <-h.1]
  by_cases e:p.1=k
  ·rw [decide_eq_true e];exact h.2
  ·rw [decide_eq_false e];exact ih
theorem zsi:MtR X "dict.get" (fun x vs H Q=> ∃ a kvs k y,x= .ref a/\vs=[kV k,y]/\H a=some (.dK kvs)/\Q ((vAt kvs k).getD y) H):=by
 intro pins s σ H x vs v us Q I rx rv h
 obtain ⟨a,kvs,k,y,rfl,rfl,hH,q⟩:=h
 cases rx
 obtain ⟨u1,u2,rfl,k1,k2⟩:=rv.two
 obtain ⟨z,hd,vs,rel,dd⟩:=(show zbY X.prog X.w H s.heap a (.dK kvs) from I.hok a _ hH)
 refine call_meetsIn F.slot_dict_get dd.typeIs F.entry_dict_get (F.args_dict_get_3 _ _ _) (meets_dict_get_default _ a (zrW k1) hd _) ⟨_,dd.mapOf,?_⟩
 exact ⟨_,H,I.tok _,zqe rel k k2,q⟩
end
end L2
namespace L3
open PySem PySem.Spec PyProof.Rows L2
section
variable {X:L2.Cx} {E:XE}
noncomputable def zju (kvs:List (Int×D)):M D:=fun h=> .ok (.cel h.length) (h++[.dic kvs])
noncomputable def pr1:D->Option (Int×D)
 | .tup [.int k,d]=>some (k,d)
 | _=>none
noncomputable def prs:List D->Option (List (Int×D))
 | []=>some []
 | d::r=>(pr1 d).bind fun p=>(prs r).map (p:: ·)
noncomputable def zdU (ps:List (Int×D)):List (Int×D):=ps.foldl (fun kvs p=>zps kvs p.1 p.2) []
noncomputable def zpg:List D->M D:=zor fun d=>match d with
 | .lst ds=>do
  let ps<-ofO (prs ds)
  zju (zdU ps)
 | _=>M.bad
theorem zq5 {d:D} {p:Int×D} (e:pr1 d=some p):d= .tup [.int p.1,p.2]:=by
 unfold pr1 at e
 split at e
 ·cases e;rfl
 ·cases e
theorem zoT {K:W.Frag} {ι:Io} {H:Hp}: ∀ {ds:List D} {vs:List V} {ps:List (Int×D)},zaq K ι H ds vs->prs ds=some ps->
  ∃ zs:List (Addr×Int×V),vs=zs.map (fun z=>V.ref z.1)/\(∀ z∈zs,H z.1=some (.tup [.int z.2.1,z.2.2]))/\Paired (fun (p:Int×D) (z:Addr×Int×V)=>z.2.1=p.1/\Rel K ι H p.2 z.2.2) ps zs
 | [],vs,ps,h,e=>by
  simp only [zaq] at h
  subst h
  cases e
  exact ⟨[],rfl,(fun z hz=>nomatch hz),.nil⟩
 | d::r,vs,ps,h,e=>by
  simp only [zaq] at h
  obtain ⟨v,r',rfl,h1,h2⟩:=h
  unfold prs at e
  cases z:pr1 d with
  | none=>rw [z] at e;cases e
  | some p=>
   rw [z] at e
   cases z2:prs r with
   | none=>rw [z2] at e;cases e
   | some ps'=>
    rw [z2] at e
    cases e
    obtain ⟨zs,g1,g2,g3⟩:=zoT h2 z2
    have ed:=zq5 z
    subst ed
    simp only [Rel] at h1
    obtain ⟨a,us,rfl,ha,ru⟩:=h1
    simp only [zaq,Rel] at ru
    obtain ⟨u1,t1,rfl,ru1,u2,t2,rfl,ru2,rfl⟩:=ru
    subst ru1
    refine ⟨(a,p.1,u2)::zs,by rw [qaM,g1],fun y hy=> ?_,.cons ⟨rfl,ru2⟩ g3⟩
    rcases qaP.mp hy with rfl | hy
    ·exact ha.1
    ·exact g2 y hy
theorem zoe {K:W.Frag} {ι:Io} {H:Hp} {ps:List (Int×D)} {zs:List (Addr×Int×V)} (r:Paired (fun (p:Int×D) (z:Addr×Int×V)=>z.2.1=p.1/\Rel K ι H p.2 z.2.2) ps zs):
  Paired (fun (p:Int×D) (q:Key×V)=>q.1= .inl p.1/\Rel K ι H p.2 q.2) (zdU ps) (zeM (zs.map (·.2))):=by
 have key: ∀ {ps:List (Int×D)} {zs:List (Addr×Int×V)},Paired (fun (p:Int×D) (z:Addr×Int×V)=>z.2.1=p.1/\Rel K ι H p.2 z.2.2) ps zs-> ∀ {kvs:List (Int×D)} {vs:List (Key×V)},Paired (fun (p:Int×D) (q:Key×V)=>q.1= .inl p.1/\Rel K ι H p.2 q.2) kvs vs->
   Paired (fun (p:Int×D) (q:Key×V)=>q.1= .inl p.1/\Rel K ι H p.2 q.2) (ps.foldl (fun kvs p=>zps kvs p.1 p.2) kvs) ((zs.map (·.2)).foldl (fun kvs z=>zl5 kvs (.inl z.1) z.2) vs):=by
  intro ps zs r
  induction r with
  | nil=>intro kvs vs h;exact h
  | @cons p z ps zs hh t ih=>
   intro kvs vs h
   rw [List.foldl_cons,qaM,List.foldl_cons,hh.1]
   exact ih (zrd h hh.2)
 exact key r .nil
theorem zj5 (hc:X.calm=true):zaN X (.type "dict") (ziV X.K E zpg):=by
 refine zaN.imp (zmt hc) fun xs H Q ⟨ι,h,ds,rl,hr,q⟩=> ?_
 obtain ⟨d,v,e,r,q⟩:=zcr rl q
 cases d with
 | lst ds=>
  obtain ⟨ps,ek,q⟩:=Fin.ofOb q
  simp only [Rel] at r
  obtain ⟨a,vs,rfl,ha,r2⟩:=r
  obtain ⟨zs,g1,g2,g3⟩:=zoT r2 ek
  refine ⟨a,zs,by rw [e],by rw [<- g1];exact ha.1,g2,fun p hp=> ?_⟩
  exact zpw (E:=E) hr (c0:= .dic (zdU ps)) ⟨_,rfl,zoe g3⟩ q hp
 | _=>exact qa0 q
noncomputable def atK (kvs:List (Int×D)) (k:Int):Option D:=(kvs.find? fun p=>decide (p.1=k)).map (·.2)
theorem zlO {K:W.Frag} {ι:Io} {H:Hp} {kvs:List (Int×D)} {vs:List (Key×V)} (r:Paired (fun (p:Int×D) (q:Key×V)=>q.1= .inl p.1/\Rel K ι H p.2 q.2) kvs vs) (k:Int) {d:D} {v:V} (rd:Rel K ι H d v):
  Rel K ι H ((atK kvs k).getD d) ((vAt vs (.inl k)).getD v):=by
 unfold atK vAt
 induction r with
 | nil=>exact rd
 | @cons p q ps qs h t ih=>
  rw [List.find?_cons,List.find?_cons,h.1]
  by_cases e:p.1=k
  ·rw [decide_eq_true e,decide_eq_true (by rw [e])];exact h.2
  ·rw [decide_eq_false e,decide_eq_false (fun z=>e (by injection z))];exact ih
noncomputable def ziN (x:D) (ys:List D):M D:=match x,ys with
 | .cel n,[.int k,d]=>do
  let kvs<-zcL n
  pure ((atK kvs k).getD d)
 | _,_=>M.bad
noncomputable def zgx:D->M Unit
 | .cel n=>do let _<-zcL n;pure ()
 | _=>M.bad
noncomputable def zqq (fo:FE) (fs:FA):FE:=fun sd=>do
 let x<-fo sd
 zgx x
 let ys<-fs sd
 ziN x ys
theorem zjL {K:W.Frag} {ι:Io} {H:Hp} {h:Hh} (hr:za4 K ι H h) {n:Nat} {v:V} {α:Type} {f:List (Int×D)->M α} {P:α->Io->Hp->Prop} (r:Rel K ι H (.cel n) v) (q:Fin K E ι H ((zcL n>>=f) h) P):
  ∃ a kvs vs,v= .ref a/\H a=some (.dK vs)/\Paired (fun (p:Int×D) (q:Key×V)=>q.1= .inl p.1/\Rel K ι H p.2 q.2) kvs vs/\Fin K E ι H (f kvs h) P:=by
 simp only [Rel] at r
 obtain ⟨a,rfl,hn⟩:=r
 have q4:Fin K E ι H (M.bind (zcL n) f h) P:=q
 unfold M.bind zcL at q4
 rcases hn with hn | hn
 ·have hl:=hr.len
  have hlt:=(qac.mp hn).1
  obtain ⟨c,hc⟩: ∃ c,h[n]? = some c:=⟨h[n],by simp [hl,hlt]⟩
  rw [hc] at q4
  obtain ⟨ob,e3,co⟩:=hr.at_ n a c hn hc
  cases c with
  | dic kvs=>
   obtain ⟨vs,rfl,rp⟩:=co
   exact ⟨a,kvs,vs,rfl,e3,rp,q4⟩
  | _=>exact qa0 q4
 ·rw [hr.dead n hn] at q4
  exact qa0 q4
variable {o e1 e2:Expr} {cpos apos:Pos} {fo:FE} {fs:FA}
theorem zsW (ho:SE X E o fo) (ha:SA X E [e1,e2] fs)
  (hbase:attributeBase o "get" X.env (eval o X.env)=eval o X.env:=by rfl)
  (hfew:((backTo cpos (starEach [e1,e2] X.env)).all (fun x=> !x.1) && (backToKw cpos (keywordEach [] X.env)).all (fun x=>x.1.isSome)
    && decide (([e1,e2]:List Expr).length+([]:List Keyword).length+(if ([]:List Keyword).isEmpty then 0 else 1)<30))=true:=by rfl)
  (hline:(apos.endLine==cpos.line)=true:=by rfl) (hs:starEach [e1,e2] X.env=(false,eval e1 X.env)::starEach [e2] X.env:=by rfl) (hplain:(backTo cpos (starEach [e2] X.env)).any (·.1)=false:=by rfl):
  SE X E (.Call (.Attribute o "get" apos) [e1,e2] [] cpos) (zqq fo fs):=by
 refine PE.imp (zoi PySem.F.plainAttrs_dict PySem.F.slot_dict_get PySem.F.type_dict_get zsi ho ha hbase hfew hline hs hplain) fun σ H Q ⟨ι,h,sd,L,hh,q⟩=>⟨ι,h,sd,L,hh,Fin.bind q fun d h1 ι1 H1 e1 s1 hr1 q1 v rv=> ?_⟩
 cases d with
 | cel n=>
  have q2:Fin X.K E ι1 H1 ((zcL n>>=fun _=>fs sd>>=fun ys=>ziN (.cel n) ys) h1) (fun d ι' H'=> ∀ v,Rel X.K ι' H' d v->Q v H'):=by
   have ee:(zgx (.cel n)>>=fun _=>fs sd>>=fun ys=>ziN (.cel n) ys:M D)=(zcL n>>=fun _=>fs sd>>=fun ys=>ziN (.cel n) ys):=by
    show ((zcL n>>=fun _=>pure ())>>=fun _=>fs sd>>=fun ys=>ziN (.cel n) ys)=_
    simp only [bind_assoc,pure_bind]
   rw [<- ee]
   exact q1
  obtain ⟨a,kvs,vs,ev,hH,_,q3⟩:=zjL hr1 rv q2
  subst ev
  refine ⟨.inr (.inr (.inl ⟨rfl,.inl ⟨vs,hH⟩⟩)),ι1,h1,sd,L.step s1,hr1,Fin.bind q3 fun ys h3 ι3 H3 e3 s3 hr3 q4 ws rw'=> ?_⟩
  have rv3:=rv.step s3
  match ys,rw',q4 with
  | [.int k,d],rw',q4=>
   have q4':Fin X.K E ι3 H3 ((zcL n>>=fun kvs=>(pure ((atK kvs k).getD d):M D)) h3) (fun d ι' H'=> ∀ v,Rel X.K ι' H' d v->Q v H'):=q4
   obtain ⟨a3,kvs3,vs3,ea,hH3,rp3,q5⟩:=zjL hr3 rv3 q4'
   cases ea
   simp only [zaq,Rel] at rw'
   obtain ⟨w1,t1,rfl,rfl,w2,t2,rfl,rw2,rfl⟩:=rw'
   exact ⟨a,vs3,.inl k,w2,rfl,rfl,hH3,Fin.out hr3 q5 _ (zlO rp3 k rw2)⟩
  | [],_,q4=>exact qa0 q4
  | [y],_,q4=>cases y<;>exact qa0 q4
  | y::_::_::_,_,q4=>cases y<;>exact qa0 q4
  | [.non,_],_,q4=>exact qa0 q4
  | [.bl _,_],_,q4=>exact qa0 q4
  | [.str _,_],_,q4=>exact qa0 q4
  | [.tup _,_],_,q4=>exact qa0 q4
  | [.lst _,_],_,q4=>exact qa0 q4
  | [.cel _,_],_,q4=>exact qa0 q4
  | [.set _,_],_,q4=>exact qa0 q4
  | [.dct,_],_,q4=>exact qa0 q4
  | [.fn _,_],_,q4=>exact qa0 q4
  | [.scr _,_],_,q4=>exact qa0 q4
  | [.exn _,_],_,q4=>exact qa0 q4
 | _=>exact qa0 q1
end
noncomputable def zbP (n:Nat):M (String×List (Str×D)):=fun h=>match h[n]? with
 | some (.ins c fs)=> .ok (c,fs) h
 | _=> .bad
noncomputable def zjj (n:Nat) (c:String) (fs:List (Str×D)):M Unit:=fun h=> .ok () (h.set n (.ins c fs))
noncomputable def zjp (c:String):M D:=fun h=> .ok (.cel h.length) (h++[.ins c []])
noncomputable def zeT (f:Str) (d:D):List (Str×D)->List (Str×D)
 | []=>[(f,d)]
 | (g,x)::r=>if g=f then (g,d)::r else (g,x)::zeT f d r
structure zmK (K:W.Frag) (c:String) (C:Addr) (names:List Str):Prop where
 at_:W.nsIn K mainGlobals (c:Str)=some (some (.ref C))
 cls:Cls K C
 no: ∀ f∈names,zfA K C f
structure Fm (K:W.Frag) (C:Addr) (m q:Str) (st:Stmt) (a:Addr) (d:FuncData):Prop where
 at_:W.findIn K (.ref C) m=some (some (.ref a))
 fn:W.isFn K (.ref a)=true
 F:Fun K m q st a d
noncomputable abbrev FR (K:W.Frag) (ι:Io) (H:Hp):=Paired (fun (p:Str×D) (q:Str×V)=>q.1=p.1/\Rel K ι H p.2 q.2)
section
variable {K:W.Frag} {ι:Io} {H:Hp}
theorem FR.look {fs:List (Str×D)} {vs:List (Str×V)} (r:FR K ι H fs vs) (f:Str):(∃ d v,fs.lookup f=some d/\vs.lookup f=some v/\Rel K ι H d v)\/(fs.lookup f=none/\vs.lookup f=none):=by
 induction r with
 | nil=>exact .inr ⟨rfl,rfl⟩
 | @cons p q ps qs h t ih=>
  obtain ⟨a,d⟩:=p
  obtain ⟨b,v⟩:=q
  obtain ⟨h1,h2⟩:=h
  dsimp only at h1 h2
  subst h1
  rw [List.lookup_cons,List.lookup_cons]
  cases e:(f==b) with
  | true=>exact .inl ⟨d,v,rfl,rfl,h2⟩
  | false=>exact ih
theorem FR.put {fs:List (Str×D)} {vs:List (Str×V)} (r:FR K ι H fs vs) (f:Str) {d:D} {v:V} (rd:Rel K ι H d v):FR K ι H (zeT f d fs) (zhj f v vs):=by
 induction r with
 | nil=>exact .cons ⟨rfl,rd⟩ .nil
 | @cons p q ps qs h t ih=>
  obtain ⟨a,d'⟩:=p
  obtain ⟨b,v'⟩:=q
  obtain ⟨h1,h2⟩:=h
  dsimp only at h1 h2
  subst h1
  unfold zeT zhj
  by_cases e:b=f
  ·rw [qa4 e,qa4 e];exact .cons ⟨rfl,rd⟩ t
  ·rw [qa5 e,qa5 e];exact .cons ⟨rfl,h2⟩ ih
theorem zgI {E:XE} {h:Hh} (hr:za4 K ι H h) {n:Nat} {v:V} {α:Type} {f:String×List (Str×D)->M α} {P:α->Io->Hp->Prop} (r:Rel K ι H (.cel n) v) (q:Fin K E ι H ((zbP n>>=f) h) P):
  ∃ (a:Addr) (c:String) (fs:List (Str×D)) (C dx:Addr) (vs:List (Str×V)),v= .ref a/\ι.c[n]? = some (some a)/\H a=some (.ins C dx vs)/\W.nsIn K mainGlobals (c:Str)=some (some (.ref C))/\FR K ι H fs vs/\Fin K E ι H (f (c,fs) h) P:=by
 simp only [Rel] at r
 obtain ⟨a,rfl,hn⟩:=r
 have q4:Fin K E ι H (M.bind (zbP n) f h) P:=q
 unfold M.bind zbP at q4
 rcases hn with hn | hn
 ·have hl:=hr.len
  have hlt:=(qac.mp hn).1
  obtain ⟨c,hc⟩: ∃ c,h[n]? = some c:=⟨h[n],by simp [hl,hlt]⟩
  rw [hc] at q4
  obtain ⟨ob,e3,co⟩:=hr.at_ n a c hn hc
  cases c with
  | ins c fs=>
   obtain ⟨C,dx,vs,rfl,hC,rp⟩:=co
   exact ⟨a,c,fs,C,dx,vs,rfl,hn,e3,hC,rp,q4⟩
  | _=>exact qa0 q4
 ·rw [hr.dead n hn] at q4
  exact qa0 q4
end
noncomputable def zeP (c:String) (f:Str):D->M D
 | .cel n=>do
  let p<-zbP n
  if p.1=c then ofO (p.2.lookup f) else M.bad
 | _=>M.bad
noncomputable def zoj (c:String) (f:Str) (d:D):D->M Unit
 | .cel n=>do
  let p<-zbP n
  if p.1=c/\p.2.length<1000 then zjj n c (zeT f d p.2) else M.bad
 | _=>M.bad
noncomputable def zkX (c:String) (f:Str) (fo fv:FE):FS:=fun sd=>do
 let d<-fv sd
 let x<-fo sd
 zoj c f d x
 pure (.nx sd)
noncomputable def zqm (c:String) (m:Str):D->M Unit
 | .cel n=>do
  let p<-zbP n
  if p.1=c/\p.2.lookup m=none then pure () else M.bad
 | _=>M.bad
noncomputable def zbT (c:String) (m:Str) (F:List D->M D) (fo:FE) (fs:FA):FE:=fun sd=>do
 let x<-fo sd
 zqm c m x
 let ys<-fs sd
 F (x::ys)
noncomputable def zts (x:D):D->M D
 | .non=>pure x
 | _=>M.bad
noncomputable def ziC (c:String) (F:List D->M D):List D->M D:=fun ds=>do
 let x<-zjp c
 let v<-F (x::ds)
 zts x v
section
variable {X:Cx} {E:XE} {o e v:Expr} {es:List Expr} {pos p cpos apos:Pos} {fo fe fv:FE} {fs:FA} {x m f:Str} {c:String} {C:Addr} {names:List Str}
theorem zcO (T:zmK X.K c C names) (hf:names.contains f=true) (he:SE X E e fe) (hb:attributeBase e f X.env (eval e X.env)=eval e X.env:=by rfl):SE X E (.Attribute e f pos) (cUn (zeP c f) fe):=by
 refine PE.imp (zsQ he hb) fun σ H Q ⟨ι,h,sd,L,hh,q⟩=>⟨ι,h,sd,L,hh,Fin.bind q fun d h1 ι1 H1 e1 s1 hr1 q1 w rw'=> ?_⟩
 cases d with
 | cel n=>
  obtain ⟨a,c',gs,C',dx,vs,rfl,hn,hH,hC,rp,q2⟩:=zgI hr1 rw' q1
  obtain ⟨ec,q3⟩:=Fin.guard q2
  subst ec
  have eC:C'=C:=by
   have:=hC.symm.trans T.at_
   simpa using this
  subst eC
  dsimp only at q3
  rcases rp.look f with ⟨d,u,l1,l2,rd⟩ | ⟨l1,_⟩
  ·rw [l1] at q3
   exact ⟨a,C',dx,vs,u,rfl,hH,T.cls,T.no f (by simpa using hf),l2,Fin.out hr1 q3 _ rd⟩
  ·rw [l1] at q3
   exact qa0 q3
 | _=>exact qa0 q1
theorem zk8 {pos':Pos} (T:zmK X.K c C names) (hf:names.contains f=true) (ho:SE X E o fo) (hv:SE X E v fv) (hs:swapsWith v (some (.Attribute o f pos')) pos.line X.env=pure false:=by rfl):
  SS X E (.Assign [.Attribute o f pos'] v pos) (zkX c f fo fv):=by
 refine PS.imp (zsT ho hv hs) fun D0 σ H ⟨ι,h,sd,L,hh,q⟩=>⟨ι,h,sd,L,hh,Fin.bind q fun d h1 ι1 H1 e1 s1 hr1 q1 w rw'=> ?_⟩
 refine ⟨ι1,h1,sd,L.step s1,hr1,Fin.bind q1 fun y h2 ι2 H2 e2 s2 hr2 q2 u ru=> ?_⟩
 cases y with
 | cel n=>
  have q2':Fin X.K E ι2 H2 ((zbP n>>=fun p=>(if p.1=c/\p.2.length<1000 then (zjj n c (zeT f d p.2)>>=fun _=>(pure (.nx sd):M Out)) else M.bad)) h2) (ziO X.K D0):=by
   have ee:(zoj c f d (.cel n)>>=fun _=>(pure (.nx sd):M Out))=(zbP n>>=fun p=>(if p.1=c/\p.2.length<1000 then (zjj n c (zeT f d p.2)>>=fun _=>(pure (.nx sd):M Out)) else M.bad)):=by
    show ((zbP n>>=fun p=>(if p.1=c/\p.2.length<1000 then zjj n c (zeT f d p.2) else M.bad))>>=fun _=>(pure (.nx sd):M Out))=_
    rw [bind_assoc]
    congr 1
    funext p
    split<;>rfl
   rw [<- ee]
   exact q2
  obtain ⟨a,c',gs,C',dx,vs,rfl,hn,hH,hC,rp,q3⟩:=zgI hr2 ru q2'
  obtain ⟨ec,q4⟩:=Fin.guard q3
  obtain ⟨ec,el⟩:=ec
  dsimp only at ec el q4
  subst ec
  have eC:C'=C:=by
   have:=hC.symm.trans T.at_
   simpa using this
  subst eC
  have rd2:=rw'.step s2
  refine ⟨a,C',dx,vs,rfl,hH,T.cls,T.no f (by simpa using hf),by rw [<- Paired.length rp];exact el,?_⟩
  have q5:Fin X.K E ι2 H2 (R.ok (Out.nx sd) (h2.set n (.ins c' (zeT f d gs)))) (ziO X.K D0):=q4
  exact q5 ι2 _ (hr2.cellS hn) (hr2.cellO hn (c':= .ins c' (zeT f d gs)) ⟨C',dx,_,rfl,hC,rp.put f rd2⟩) σ (((L.step s1).step s2).step (hr2.cellS hn))
 | _=>exact qa0 q2
theorem zdu {α:Type} {ι:Io} {H:Hp} {h:Hh} {d:D} {w:V} {g:M α} {P:α->Io->Hp->Prop} (hC:W.nsIn X.K mainGlobals (c:Str)=some (some (.ref C))) (hr:za4 X.K ι H h) (r:Rel X.K ι H d w) (q:Fin X.K E ι H ((zqm c m d>>=fun _=>g) h) P):
  ∃ a dx vs,w= .ref a/\H a=some (.ins C dx vs)/\vs.lookup m=none/\Fin X.K E ι H (g h) P:=by
 cases d with
 | cel n=>
  have q2:Fin X.K E ι H ((zbP n>>=fun p=>(if p.1=c/\p.2.lookup m=none then g else M.bad)) h) P:=by
   have ee:(zqm c m (.cel n)>>=fun _=>g)=(zbP n>>=fun p=>(if p.1=c/\p.2.lookup m=none then g else M.bad)):=by
    show ((zbP n>>=fun p=>(if p.1=c/\p.2.lookup m=none then (pure ():M Unit) else M.bad))>>=fun _=>g)=_
    rw [bind_assoc]
    congr 1
    funext p
    split<;>rfl
   rw [<- ee]
   exact q
  obtain ⟨a,c',gs,C',dx,vs,rfl,hn,hH,hC',rp,q3⟩:=zgI hr r q2
  obtain ⟨ec,q4⟩:=Fin.guard q3
  obtain ⟨ec,el⟩:=ec
  dsimp only at ec el q4
  subst ec
  have eC:C'=C:=by
   have:=hC'.symm.trans hC
   simpa using this
  subst eC
  refine ⟨a,dx,vs,rfl,hH,?_,q4⟩
  rcases rp.look m with ⟨d,u,l1,l2,rd⟩ | ⟨_,l2⟩
  ·rw [el] at l1;cases l1
  ·exact l2
 | _=>exact qa0 q
theorem ziJ {k:Nat} {n:Nat} {F:List D->M D} {ι:Io} {H:Hp} {h:Hh} {ds:List D} {vs:List V} {Q:VK} (hr:za4 X.K ι H h) (rv:zaq X.K ι H ds vs) (q:Fin X.K E ι H (zak n F ds h) fun d ι' H'=> ∀ v,Rel X.K ι' H' d v->Q v H'):spE X.K n F vs H Q (zlC X.K E):=by
 unfold zak at q
 by_cases hl:ds.length=n
 ·rw [qa4 hl] at q
  exact ⟨by rw [<- rv.length];exact hl,ι,h,ds,rv,hr,Fin.exmono (fun c H' z C v hc=>⟨c,C,rfl,hc,z⟩) q⟩
 ·rw [qa5 hl] at q
  exact qa0 q
theorem zlU {k:Nat} {n:Nat} {F:List D->M D} {ι:Io} {H:Hp} {h:Hh} {ds:List D} {vs:List V} {Q:VK} {E':XK} (hr:za4 X.K ι H h) (rv:zaq X.K ι H ds vs) (q:Fin X.K E ι H (zak n (fun ds=>noX (F ds)) ds h) fun d ι' H'=> ∀ v,Rel X.K ι' H' d v->Q v H'):zbO X.K n F vs H Q E':=by
 unfold zak at q
 by_cases hl:ds.length=n
 ·rw [qa4 hl] at q
  exact ⟨by rw [<- rv.length];exact hl,ι,h,ds,rv,hr,Fin.noX q⟩
 ·rw [qa5 hl] at q
  exact qa0 q
section
variable {k n:Nat} {g:Addr} {fd:FuncData} {ps:List Str} {F:List D->M D} {pl:Sem Bool}
theorem zkS (T:zmK X.K c C names) (hm:zfW X.K C m g) (G:zbh X.prog X.w X.K X.mg X.base (CXE X.prog X.w) k g fd ps (spE X.K n F)) (hx:zbW (CXE X.prog X.w) X (zlC X.K E)) (hr:zcn k X.A) (hb:zav X.K fd ps []) (ho:SE X E o fo) (ha:SA X E (e::es) fs)
  (hst:starEach (e::es) X.env=(false,eval e X.env)::starEach es X.env:=by rfl) (hpl:(backTo pos (starEach es X.env)).any (·.1)=false:=by rfl)
  (ht:eval (.Call (.Attribute o m apos) (e::es) [] pos) X.env=(do
    let ov<-eval o X.env
    standAt apos.atName
    let (f,first)<-holding [ov] (getMethod ov m pl)
    callWith pos f first (backTo pos (starEach (e::es) X.env)) (backToKw pos (keywordEach [] X.env))):=by rfl):
  SE X E (.Call (.Attribute o m apos) (e::es) [] pos) (zbT c m (zak n F) fo fs):=by
 refine PE.imp (ziF ho T.cls hm G hr hb (dvs:=[]) .nil hx ha hst hpl ht) fun σ H Q ⟨ι,h,sd,L,hh,q⟩=>⟨ι,h,sd,L,hh,Fin.bind q fun d h1 ι1 H1 e1 s1 hr1 q1 w rw'=> ?_⟩
 obtain ⟨a,dx,vs,ew,hH,hl,q2⟩:=zdu T.at_ hr1 rw' q1
 refine ⟨a,dx,vs,ew,hH,hl,ι1,h1,sd,L.step s1,hr1,Fin.bind q2 fun ys h2 ι2 H2 e2 s2 hr2 q3 us ru=> ?_⟩
 show spE X.K n F (w::(us++[])) H2 Q _
 rw [List.append_nil]
 exact ziJ (k:=k) hr2 (.cons (rw'.step s2) ru) q3
theorem zrg (T:zmK X.K c C names) (hm:zfW X.K C m g) (G:zbh X.prog X.w X.K X.mg X.base CX0 k g fd ps (zbO X.K n F)) (hr:zcn k X.A) (hb:zav X.K fd ps []) (ho:SE X E o fo) (ha:SA X E (e::es) fs)
  (hst:starEach (e::es) X.env=(false,eval e X.env)::starEach es X.env:=by rfl) (hpl:(backTo pos (starEach es X.env)).any (·.1)=false:=by rfl)
  (ht:eval (.Call (.Attribute o m apos) (e::es) [] pos) X.env=(do
    let ov<-eval o X.env
    standAt apos.atName
    let (f,first)<-holding [ov] (getMethod ov m pl)
    callWith pos f first (backTo pos (starEach (e::es) X.env)) (backToKw pos (keywordEach [] X.env))):=by rfl):
  SE X E (.Call (.Attribute o m apos) (e::es) [] pos) (zbT c m (zak n fun ds=>noX (F ds)) fo fs):=by
 refine PE.imp (ziF ho T.cls hm G hr hb (dvs:=[]) .nil (E:=fun _ _ _=>False) zka ha hst hpl ht) fun σ H Q ⟨ι,h,sd,L,hh,q⟩=>⟨ι,h,sd,L,hh,Fin.bind q fun d h1 ι1 H1 e1 s1 hr1 q1 w rw'=> ?_⟩
 obtain ⟨a,dx,vs,ew,hH,hl,q2⟩:=zdu T.at_ hr1 rw' q1
 refine ⟨a,dx,vs,ew,hH,hl,ι1,h1,sd,L.step s1,hr1,Fin.bind q2 fun ys h2 ι2 H2 e2 s2 hr2 q3 us ru=> ?_⟩
 show zbO X.K n F (w::(us++[])) H2 Q _
 rw [List.append_nil]
 exact zlU (k:=k) hr2 (.cons (rw'.step s2) ru) q3
theorem zjF (T:zmK X.K c C names) (hm:zfW X.K C m g) (G:zbh X.prog X.w X.K X.mg X.base (CXE X.prog X.w) k g fd ps (spE X.K n F)) (hx:zbW (CXE X.prog X.w) X (zlC X.K E)) (hr:zcn k X.A) (hb:zav X.K fd ps []) (ho:SE X E o fo)
  (ht:eval (.Call (.Attribute o m apos) [] [] pos) X.env=(do
    let ov<-eval o X.env
    standAt apos.atName
    let (f,first)<-holding [ov] (getMethod ov m pl)
    callWith pos f first (backTo pos (starEach [] X.env)) (backToKw pos (keywordEach [] X.env))):=by rfl):
  SE X E (.Call (.Attribute o m apos) [] [] pos) (zbT c m (zak n F) fo zal):=by
 refine PE.imp (zg2 ho T.cls hm G hr hb (dvs:=[]) .nil hx ht) fun σ H Q ⟨ι,h,sd,L,hh,q⟩=>⟨ι,h,sd,L,hh,Fin.bind q fun d h1 ι1 H1 e1 s1 hr1 q1 w rw'=> ?_⟩
 obtain ⟨a,dx,vs,ew,hH,hl,q2⟩:=zdu T.at_ hr1 rw' q1
 exact ⟨a,dx,vs,ew,hH,hl,ziJ (k:=k) hr1 (.cons rw' .nil) q2⟩
theorem zmR (T:zmK X.K c C names) (hm:zfW X.K C m g) (G:zbh X.prog X.w X.K X.mg X.base CX0 k g fd ps (zbO X.K n F)) (hr:zcn k X.A) (hb:zav X.K fd ps []) (ho:SE X E o fo)
  (ht:eval (.Call (.Attribute o m apos) [] [] pos) X.env=(do
    let ov<-eval o X.env
    standAt apos.atName
    let (f,first)<-holding [ov] (getMethod ov m pl)
    callWith pos f first (backTo pos (starEach [] X.env)) (backToKw pos (keywordEach [] X.env))):=by rfl):
  SE X E (.Call (.Attribute o m apos) [] [] pos) (zbT c m (zak n fun ds=>noX (F ds)) fo zal):=by
 refine PE.imp (zg2 ho T.cls hm G hr hb (dvs:=[]) .nil (E:=fun _ _ _=>False) zka ht) fun σ H Q ⟨ι,h,sd,L,hh,q⟩=>⟨ι,h,sd,L,hh,Fin.bind q fun d h1 ι1 H1 e1 s1 hr1 q1 w rw'=> ?_⟩
 obtain ⟨a,dx,vs,ew,hH,hl,q2⟩:=zdu T.at_ hr1 rw' q1
 exact ⟨a,dx,vs,ew,hH,hl,zlU (k:=k) (E':=fun _ _ _=>False) hr1 (.cons rw' .nil) q2⟩
theorem ziz (T:zmK X.K c C names) (M0:Mk X.K C g) (G:zbh X.prog X.w X.K X.mg X.base (CXE X.prog X.w) k g fd ps (spE X.K n F)) (hx:zbW (CXE X.prog X.w) X (zlC X.K E)) (hr:zcn (k+1) X.A) (hm:X.mg (c:Str)=some (.ref C)) (hb:zav X.K fd ps [])
  (ha:SA X E (e::es) fs) (hg:Gl X (c:Str):=by rfl) (hdb:((c:Str)==("__debug__":Str))=false:=by decide) (he:starEach (e::es) X.env=(false,eval e X.env)::starEach es X.env:=by rfl) (hpl:(backTo pos (starEach es X.env)).any (·.1)=false:=by rfl):
  SE X E (.Call (.Name (c:Str) p) (e::es) [] pos) (zaI (ziC c (zak n F)) fs):=by
 refine PE.imp (zqQ M0 G hr hg hm hb (dvs:=[]) .nil hx ha hdb he hpl) fun σ H Q ⟨ι,h,sd,L,hh,q⟩=>⟨ι,h,sd,L,hh,Fin.bind q fun ds h1 ι1 H1 e1 s1 hr1 q1 us ru=> ?_⟩
 intro x dx hx hdx hne
 rw [List.append_nil]
 have hr2:za4 X.K ι1 (upd H1 dx (.own x)) h1:=hr1.laid hdx
 have st2:zbE ι1 H1 ι1 (upd H1 dx (.own x)):=hr1.laidS hdx
 have hx2:upd H1 dx (.own x) x=none:=by rw [zau (Ne.symm hne)];exact hx
 obtain ⟨ι3,st3,hr3,rx3⟩: ∃ ι3,zbE ι1 (upd H1 dx (.own x)) ι3 (upd (upd H1 dx (.own x)) x (.ins C dx []))/\za4 X.K ι3 (upd (upd H1 dx (.own x)) x (.ins C dx [])) (h1++[.ins c []])/\Rel X.K ι3 (upd (upd H1 dx (.own x)) x (.ins C dx [])) (.cel h1.length) (.ref x):=
  zpw (E:=E) hr2 (c0:= .ins c []) (Q:=fun v H'=> ∃ ι3,zbE ι1 (upd H1 dx (.own x)) ι3 H'/\za4 X.K ι3 H' (h1++[.ins c []])/\Rel X.K ι3 H' (.cel h1.length) v) ⟨C,dx,[],rfl,T.at_,.nil⟩ (fun ι' H' s hr v rv=>⟨ι',s,hr,rv⟩) hx2
 refine ziJ (k:=k) hr3 (.cons rx3 ((ru.step st2).step st3)) ?_
 have q2:Fin X.K E ι3 (upd (upd H1 dx (.own x)) x (.ins C dx [])) ((zak n F (.cel h1.length::ds)>>=fun v=>zts (.cel h1.length) v) (h1++[.ins c []])) (fun d ι' H'=> ∀ v,Rel X.K ι' H' d v->Q v H'):=Fin.step (st2.trans st3) q1
 refine Fin.bind q2 fun d h4 ι4 H4 e4 s4 hr4 q4 v rv=> ?_
 cases d with
 | non=>
  simp only [Rel] at rv
  exact ⟨rv,Fin.out hr4 q4 _ (rx3.step s4)⟩
 | _=>exact qa0 q4
theorem zkD {n:Nat} {F:List D->M D} {ι:Io} {H:Hp} {h:Hh} {ds:List D} {vs:List V} {Q:VK} {E':XK} (hr:za4 X.K ι H h) (rv:zaq X.K ι H ds vs) (q:Fin X.K E0x ι H (zak n F ds h) fun d ι' H'=> ∀ v,Rel X.K ι' H' d v->Q v H'):zbO X.K n F vs H Q E':=by
 unfold zak at q
 by_cases hl:ds.length=n
 ·rw [qa4 hl] at q
  exact ⟨by rw [<- rv.length];exact hl,ι,h,ds,rv,hr,q⟩
 ·rw [qa5 hl] at q
  exact qa0 q
theorem zrT (T:zmK X.K c C names) (hm:zfW X.K C m g) (G:zbh X.prog X.w X.K X.mg X.base CX0 k g fd ps (zbO X.K n F)) (hr:zcn k X.A) (hb:zav X.K fd ps []) (ho:SE X E0x o fo) (ha:SA X E0x (e::es) fs)
  (hst:starEach (e::es) X.env=(false,eval e X.env)::starEach es X.env:=by rfl) (hpl:(backTo pos (starEach es X.env)).any (·.1)=false:=by rfl)
  (ht:eval (.Call (.Attribute o m apos) (e::es) [] pos) X.env=(do
    let ov<-eval o X.env
    standAt apos.atName
    let (f,first)<-holding [ov] (getMethod ov m pl)
    callWith pos f first (backTo pos (starEach (e::es) X.env)) (backToKw pos (keywordEach [] X.env))):=by rfl):
  SE X E0x (.Call (.Attribute o m apos) (e::es) [] pos) (zbT c m (zak n F) fo fs):=by
 refine PE.imp (ziF ho T.cls hm G hr hb (dvs:=[]) .nil (E:=fun _ _ _=>False) zka ha hst hpl ht) fun σ H Q ⟨ι,h,sd,L,hh,q⟩=>⟨ι,h,sd,L,hh,Fin.bind q fun d h1 ι1 H1 e1 s1 hr1 q1 w rw'=> ?_⟩
 obtain ⟨a,dx,vs,ew,hH,hl,q2⟩:=zdu T.at_ hr1 rw' q1
 refine ⟨a,dx,vs,ew,hH,hl,ι1,h1,sd,L.step s1,hr1,Fin.bind q2 fun ys h2 ι2 H2 e2 s2 hr2 q3 us ru=> ?_⟩
 show zbO X.K n F (w::(us++[])) H2 Q _
 rw [List.append_nil]
 exact zkD hr2 (.cons (rw'.step s2) ru) q3
theorem zcf (T:zmK X.K c C names) (hm:zfW X.K C m g) (G:zbh X.prog X.w X.K X.mg X.base CX0 k g fd ps (zbO X.K n F)) (hr:zcn k X.A) (hb:zav X.K fd ps []) (ho:SE X E0x o fo)
  (ht:eval (.Call (.Attribute o m apos) [] [] pos) X.env=(do
    let ov<-eval o X.env
    standAt apos.atName
    let (f,first)<-holding [ov] (getMethod ov m pl)
    callWith pos f first (backTo pos (starEach [] X.env)) (backToKw pos (keywordEach [] X.env))):=by rfl):
  SE X E0x (.Call (.Attribute o m apos) [] [] pos) (zbT c m (zak n F) fo zal):=by
 refine PE.imp (zg2 ho T.cls hm G hr hb (dvs:=[]) .nil (E:=fun _ _ _=>False) zka ht) fun σ H Q ⟨ι,h,sd,L,hh,q⟩=>⟨ι,h,sd,L,hh,Fin.bind q fun d h1 ι1 H1 e1 s1 hr1 q1 w rw'=> ?_⟩
 obtain ⟨a,dx,vs,ew,hH,hl,q2⟩:=zdu T.at_ hr1 rw' q1
 exact ⟨a,dx,vs,ew,hH,hl,zkD (E':=fun _ _ _=>False) hr1 (.cons rw' .nil) q2⟩
end
end
end L3
namespace L2
open PySem PySem.Spec PyProof.Rows L3
section
variable {X:Cx} {e:Expr} {te:TE} {pos p2:Pos}
theorem zhg (its:List Value):slicePick its.toArray none none (some (-1))=its.reverse.toArray:=by
 unfold slicePick sliceBounds sliceRange
 simp only [Option.getD_some,show ¬((-1:Int)>0) by decide,if_false,qaA]
 have hc:(if (its.length:Int) - 1> -1 then ((its.length:Int) - 1 - -1 - -1 - 1) / (- -1) else 0).toNat=its.length:=by
  have:(- -1:Int)=1:=by decide
  rw [this,Int.ediv_one]
  split<;>omega
 rw [hc,List.filterMap_map]
 have:=HT.zm3 its.toArray
 rw [qaA] at this
 rw [show its.toArray.toList=its from rfl] at this
 rw [<- this]
 congr 2
 funext m
 simp only [Function.comp]
 rw [Int.mul_comm]
theorem zqP {st:Expr} (he:PE X e te) (hst:PE X st (tC (.int (-1)))):PE X (.Subscript e (.Slice none none (some st) p2) pos) (fun σ H Q=>te σ H fun x H1=> ∃ a xs,x= .ref a/\SqL X.K H1 a xs/\ ∀ p,H1 p=none->Q (.ref p) (upd H1 p (.lst xs.reverse))):=by
 intro pins s σ H Q I h
 refine Subscript_ (thn (he pins s σ H _ I h) fun v s1 ⟨x,H1,I1,r1,q1⟩=> ?_)
 obtain ⟨a,xs,rfl,hx,q⟩:=q1
 cases r1
 refine wpAny_Slice ?_
 rw [evalPart_none]
 refine qaX (qaX ?_)
 rw [evalPart_some]
 refine thn (hst pins s1 σ H1 (fun z Hz=>z= .int (-1)/\Hz=H1) I1 ⟨rfl,rfl⟩) fun u s2 ⟨z,Hz,I2,rz,ez,eH⟩=> ?_
 subst ez eH
 obtain ⟨t,rfl⟩:=rz
 have I4:Inv X pins σ Hz {s2 with heap:=s2.heap.push {cls:= .type "slice",data:= .fields #[.none,.none,.int (-1) t]}}:=I2.kept (t':=s2.toks) fun b ob q=>qag _ q
 obtain ⟨its,r,ht,hz⟩:=I4.list hx
 have hlen:its.length=xs.length:=r.length.symm
 show wpAny (model X.prog X.w) X.A (subscriptTail e (.Slice none none (some st) p2) (.ref a) (.ref s2.heap.objs.size)) (EP X pins σ Q) X.xe {s2 with heap:=s2.heap.push {cls:= .type "slice",data:= .fields #[.none,.none,.int (-1) t]}}
 refine tail_any (ops:=[.ref a,.ref s2.heap.objs.size]) ht.isList.typeIs slot_list_getitem.lookup (wpAny_getItem_list_slice ht.isList ⟨_,qar _ rfl,rfl,rfl⟩ .none .none (.int _ _) (by decide) ?_ (by rw [qaA,hlen];exact hz)) (by with_unfolding_all rfl)
 rw [zhg]
 refine ⟨.ref _,_,I4.laid (t':=s2.toks) (o:= .lst xs.reverse) (fun b ob q=>qag _ q) (qaV _) ?_,rfl,q _ (I4.hok.fresh (qaV _))⟩
 exact ⟨by rw [List.length_reverse];exact hz,its.reverse,0,r.reverse,qar _ rfl⟩
def TAt (h:Heap) (v:Value) (p:List Int):Prop:= ∃ (a:Addr) (its:List Value),v= .ref a/\IsTup h a its.toArray/\IntsAre its p
theorem TAt.keep {h h':Heap} {v:Value} {p:List Int} (k: ∀ b o,h.get? b=some o->h'.get? b=some o):TAt h v p->TAt h' v p:=fun ⟨a,its,e,⟨o,x1,x2⟩,z⟩=>⟨a,its,e,⟨o,k _ _ x1,x2⟩,z⟩
theorem zq4 {prog:Program} {w:World} {A:Around} {E:Value->Shared->Prop} {s:Shared} {u v:Value} {p q:List Int} {Q:Value->Shared->Prop} (hv:TAt s.heap v p) (hu:TAt s.heap u q) (hr:A.units<cLine) (h:Q (.bool (HT.zdq p q)) s):wpAny (model prog w) A (richCompare .Lt v u) Q E s:=by
 obtain ⟨a,its,rfl,ha,hi⟩:=hv
 obtain ⟨b,its',rfl,hb,hj⟩:=hu
 exact HT.zkq ha hb (by simpa using hi) (by simpa using hj) hr h
theorem zmf (hu:X.A.units+60<cLine):zaN X (.builtin "min") (fun xs H Q=> ∃ (a:Addr) (vs:List V) (ps:List (List Int)),xs=[.ref a]/\SqL X.K H a vs/\ps.length=vs.length/\0<vs.length/\(∀ (i:Nat) v p,vs[i]? = some v->ps[i]? = some p-> ∃ b,v= .ref b/\SqT X.K H b (p.map V.int))/\
    ∀ v,vs[argBest (fun i j=>HT.zdq (ps.getD i []) (ps.getD j [])) (ps.length - 1)]? = some v->Q v H):=by
 intro pins s σ H xs us Q I r h
 obtain ⟨a,vs,ps,rfl,hq,hlen,hpos,hp,q⟩:=h
 obtain ⟨u,rfl,rx⟩:=zfv r
 cases rx
 obtain ⟨its,r',pl,hz⟩:=I.list hq
 have hlen':=r'.length
 have back: ∀ (i:Nat) u,its.toArray[i]? = some u-> ∃ v,vs[i]? = some v/\zbA v u:=fun i u e=>by
  have e':its[i]? = some u:=by simpa using e
  have hi:i<vs.length:=by have:=(qac.mp e').1;omega
  obtain ⟨u',hu',ru⟩:=r'.get (x:=vs[i]) (i:=i) (by simp [hi])
  rw [e'] at hu'
  cases hu'
  exact ⟨vs[i],by simp [hi],ru⟩
 have key: ∀ (i:Nat) u,its.toArray[i]? = some u->TAt s.heap u (ps.getD i []):=fun i u e=>by
  obtain ⟨v,ev,ru⟩:=back i u e
  have hi:i<ps.length:=by have:=(qac.mp ev).1;omega
  obtain ⟨b,rfl,hb⟩:=hp i v (ps.getD i []) ev (by simp [List.getD,hi])
  cases ru
  obtain ⟨its2,r2,p2,_⟩:=I.tuple hb
  exact ⟨b,its2,rfl,p2,zcd r2⟩
 refine L3.znc I.hand pl.isList (by simp;omega) (bt:=fun i j=>HT.zdq (ps.getD i []) (ps.getD j [])) (fun i j vi vj s' Q E hk hi hj hQ=>zq4 ((key i vi hi).keep hk) ((key j vj hj).keep hk) (by rw [Around.in1_units];omega) hQ) fun v h' tk hv hk=> ?_
 have hs:its.toArray.size - 1=ps.length - 1:=by simp;omega
 rw [hs] at hv
 obtain ⟨v0,ev,ru⟩:=back _ _ hv
 exact ⟨v0,H,I.grown (s':={s with heap:=h',toks:=tk}) rfl rfl hk,ru,q v0 ev⟩
end
end L2
namespace L3
open PySem PySem.Spec PyProof.Rows L2
section
variable {X:Cx} {E:XE}
noncomputable def zqS:D->M D
 | .lst ds=>pure (.lst ds.reverse)
 | _=>M.bad
theorem ztd {e:Expr} {p2 pos p3 p4:Pos} {j:Nat} {f:FE} (he:SE X E e f):SE X E (.Subscript e (.Slice none none (some (.UnaryOp .USub (.Constant (.int 1) j p3) p4)) p2) pos) (cUn zqS f):=by
 refine PE.imp (zqP he (PE.imp (zsw zoY zpa) fun σ H Q q=>⟨1,rfl,q⟩)) fun σ H Q ⟨ι,h,sd,L,hh,q⟩=>⟨ι,h,sd,L,hh,Fin.bind q fun d h1 ι1 H1 e1 s1 hr1 q1 v rv=> ?_⟩
 cases d with
 | lst ds=>
  obtain ⟨a,vs,e,k1,k2⟩:=zd8 rv
  exact ⟨a,vs,e,k1,fun p hp=>zqh hr1 k2.reverse q1 hp⟩
 | _=>exact qa0 q1
noncomputable def zgS:List D->Option (List (List Int))
 | []=>some []
 | d::r=>(match d with | .tup ds=>zdQ ds | _=>none).bind fun p=>(zgS r).map fun ps=>p::ps
noncomputable def zfC (ps:List (List Int)):Nat:=argBest (fun i j=>HT.zdq (ps.getD i []) (ps.getD j [])) (ps.length - 1)
noncomputable def znN:List D->M D:=zor fun d=>do
 let ds<-zo4 d
 let ps<-ofO (match d with | .tup _=>none | _=>zgS ds)
 ofO (ds[zfC ps]?)
theorem zh3 {K:W.Frag} {ι:Io} {H:Hp}: ∀ {ds:List D} {vs:List V} {ps:List (List Int)},zaq K ι H ds vs->zgS ds=some ps->ps.length=vs.length/\ ∀ (i:Nat) v p,vs[i]? = some v->ps[i]? = some p-> ∃ b,v= .ref b/\SqT K H b (p.map V.int)
 | [],vs,ps,h,e=>by
  simp only [zaq] at h
  subst h
  cases e
  exact ⟨rfl,fun i v p e1=>by simp at e1⟩
 | d::r,vs,ps,h,e=>by
  simp only [zaq] at h
  obtain ⟨v,r',rfl,h1,h2⟩:=h
  unfold zgS at e
  cases d with
  | tup xs=>
   dsimp only at e
   cases z:zdQ xs with
   | none=>rw [z] at e;cases e
   | some p=>
    rw [z] at e
    cases z2:zgS r with
    | none=>rw [z2] at e;cases e
    | some qs=>
     rw [z2] at e
     cases e
     obtain ⟨g1,g2⟩:=zh3 h2 z2
     refine ⟨by simp [g1],fun i v' p' e1 e2=> ?_⟩
     cases i with
     | zero=>
      simp at e1 e2
      subst e1 e2
      obtain ⟨b,ws,rfl,k1,k2⟩:=zdg h1
      have:=zdj k2 z
      subst this
      exact ⟨b,rfl,k1⟩
     | succ i=>
      simp at e1 e2
      exact g2 i v' p' e1 e2
  | _=>cases e
theorem zjS (hu:X.A.units+60<cLine):zaN X (.builtin "min") (ziV X.K E znN):=by
 refine zaN.imp (zmf hu) fun xs H Q ⟨ι,h,ds,rl,hr,q⟩=> ?_
 obtain ⟨d,v,e,r,q⟩:=zcr rl q
 obtain ⟨a,vs,ds',e',hs,rl',q⟩:=zc0 hr r q
 obtain ⟨ps,ep,q⟩:=Fin.ofOb q
 obtain ⟨x,ex⟩: ∃ x,ds'[zfC ps]? = some x:=by
  cases ex:ds'[zfC ps]? with
  | none=>rw [ex] at q;exact qa0 q
  | some x=>exact ⟨x,rfl⟩
 rw [ex] at q
 rcases hs with ⟨hs,hd⟩ | ⟨hs,hd⟩
 ·have ep':zgS ds'=some ps:=by
   cases d with
   | tup ts=>exact absurd rfl (hd ts)
   | _=>exact ep
  obtain ⟨g1,g2⟩:=zh3 rl' ep'
  have hlt:=(qac.mp ex).1
  have hl:=rl'.length
  refine ⟨a,vs,ps,by rw [e,e'],hs,g1,by omega,g2,fun v0 ev=> ?_⟩
  obtain ⟨w,ew,rw'⟩:=zaq.get rl' ex
  have ev':vs[zfC ps]? = some v0:=ev
  rw [ew] at ev'
  cases ev'
  exact Fin.out hr q _ rw'
 ·subst hd
  cases ep
noncomputable def znw (x:D):M D:=match x with
 | .cel n=>do
  let ds<-zah n
  match ds[ds.length - 1]? with
  | some d=>do zbe n ds.dropLast;pure d
  | none=>M.bad
 | _=>M.bad
theorem zaq.dropLast {K:W.Frag} {ι:Io} {H:Hp} {ds:List D} {vs:List V} (h:zaq K ι H ds vs):zaq K ι H ds.dropLast vs.dropLast:=by
 have hl:=h.length
 rw [List.dropLast_eq_take,List.dropLast_eq_take,hl]
 exact h.take _
variable {o:Expr} {cpos apos:Pos} {fo:FE}
theorem zoC (ho:SE X E o fo) (hbase:attributeBase o "pop" X.env (eval o X.env)=eval o X.env:=by rfl) (hline:(apos.endLine==cpos.line)=true:=by rfl):SE X E (.Call (.Attribute o "pop" apos) [] [] cpos) (cUn znw fo):=by
 refine PE.imp (zsn PySem.F.plainAttrs_list PySem.F.slot_list_pop PySem.F.type_list_pop zrY ho hbase hline) fun σ H Q ⟨ι,h,sd,L,hh,q⟩=>⟨ι,h,sd,L,hh,Fin.bind q fun d h1 ι1 H1 e1 s1 hr1 q1 v rv=> ?_⟩
 cases d with
 | cel n=>
  have q2:Fin X.K E ι1 H1 ((zah n>>=fun ds=>(match ds[ds.length - 1]? with | some d=>(do zbe n ds.dropLast;pure d) | none=>(M.bad:M D))) h1) (fun d ι' H'=> ∀ v,Rel X.K ι' H' d v->Q v H'):=q1
  obtain ⟨ds,e2,q3⟩:=zff q2
  obtain ⟨a,vs,rfl,hn,hH,rl⟩:=hr1.read rv e2
  cases e3:ds[ds.length - 1]? with
  | none=>rw [e3] at q3;exact qa0 q3
  | some d=>
   rw [e3] at q3
   obtain ⟨y,ey,ry⟩:=rl.get e3
   have hl:=rl.length
   refine ⟨.inl ⟨rfl,vs,SqL.of hH⟩,a,vs,y,rfl,rfl,hH,by rw [<- hl];exact ey,?_⟩
   have q4:Fin X.K E ι1 H1 (R.ok d (h1.set n (.lst ds.dropLast))) (fun d ι' H'=> ∀ v,Rel X.K ι' H' d v->Q v H'):=q3
   exact q4 ι1 _ (hr1.cellS hn) (hr1.cell hn rl.dropLast) _ (ry.step (hr1.cellS hn))
 | _=>exact qa0 q1
end
end L3
section
end
namespace L3
open PySem PySem.Spec PyProof.Rows L2 LT
def Gro (h h':Hh):Prop:= ∃ t,h'=h++t
theorem Gro.refl {h:Hh}:Gro h h:=⟨[],by simp⟩
theorem Gro.trans {h h1 h2:Hh} (a:Gro h h1) (b:Gro h1 h2):Gro h h2:=by
 obtain ⟨t,rfl⟩:=a
 obtain ⟨u,rfl⟩:=b
 exact ⟨t++u,by simp⟩
theorem Gro.get {h h':Hh} {n:Nat} {c:C} (g:Gro h h') (e:h[n]? = some c):h'[n]? = some c:=by
 obtain ⟨t,rfl⟩:=g
 rw [qad (qac.mp e).1]
 exact e
theorem Gro.ext {b:Nat} {h h':Hh} (q:Bx b h) (g:Gro h h'):Ext b h h':=by
 obtain ⟨z,e⟩:=q
 exact ⟨⟨z,g.get e⟩,fun n c _ e=>g.get e⟩
def Ev {α:Type} (m:M α) (a:α):Prop:= ∀ h, ∃ h',m h= .ok a h'/\Gro h h'
section
variable {α β:Type} {m:M α} {a:α} {f:α->M β} {b:β} {h:Hh} {P:α->Hh->Prop}
theorem Ev.pure:Ev (Pure.pure a:M α) a:=fun h=>⟨h,rfl,.refl⟩
theorem Ev.of (e:m=Pure.pure a):Ev m a:=e▸ .pure
theorem Ev.bind (x:Ev m a) (y:Ev (f a) b):Ev (m>>=f) b:=fun h=>by
 obtain ⟨h1,e1,g1⟩:=x h
 obtain ⟨h2,e2,g2⟩:=y h1
 refine ⟨h2,?_,g1.trans g2⟩
 show M.bind m f h=_
 unfold M.bind
 rw [e1]
 exact e2
theorem Ev.wp (x:Ev m a) (k: ∀ h',Gro h h'->P a h'):wp m h P:=by
 obtain ⟨h1,e1,g1⟩:=x h
 exact ⟨a,h1,e1,k h1 g1⟩
theorem Ev.of_wp (x: ∀ h,L3.wp m h fun r h'=>r=a/\Gro h h'):Ev m a:=fun h=>by
 obtain ⟨r,h1,e1,rfl,g⟩:=x h
 exact ⟨h1,e1,g⟩
theorem Ev.noX (x:Ev m a):Ev (L3.noX m) a:=fun h=>by
 obtain ⟨h1,e1,g1⟩:=x h
 refine ⟨h1,?_,g1⟩
 unfold L3.noX
 rw [e1]
end
@[simp] theorem zmZ {α:Type} {a:α}:noX (pure a:M α)=pure a:=rfl
theorem zou {α:Type} {m:M α} {h:Hh} {P:α->Hh->Prop} (q:wp m h P):wp (noX m) h P:=by
 obtain ⟨a,h',e,q⟩:=q
 refine ⟨a,h',?_,q⟩
 unfold noX
 rw [e]
noncomputable def zgs {α:Type} (c:String):M α:=fun h=> .exc c h
@[simp] theorem zjV {α β:Type} {c:String} {f:α->M β}:((zgs c:M α)>>=f)=zgs c:=rfl
@[simp] theorem zn3 {c:String} {sd:Sd}:zeG c sd=zgs c:=rfl
theorem zsB {n:Nat} {Fs:List (List D->M D)} {fi:FE} {fs:FA} {sd:Sd}:zt1 n Fs fi fs sd=(do let i<-fi sd;let F<-zrE Fs i;let ds<-fs sd;zak n F ds):=rfl
noncomputable def tI (xs:List Int):D:= .tup (xs.map D.int)
noncomputable def zb2 (o:List Int×Int):D:= .tup [tI o.1,.int o.2]
noncomputable def zc4 (m:Int) (os:List (List Int×Int)):D:= .tup [.int m,.tup (os.map zb2)]
structure Stk (m:Int) (os:List (List Int×Int)):Prop where
 m0:1<=m
 m1:m<=10
 len:os.length<=12
 up: ∀ o∈os,o.1.Pairwise (· < ·)
 bd: ∀ o∈os, ∀ x∈o.1,0<=x/\x<m
 ne: ∀ o∈os,o.1≠[]
 pos: ∀ o∈os,0<o.2
theorem Stk.olen {m:Int} {os:List (List Int×Int)} (s:Stk m os): ∀ o∈os,o.1.length<=10:=fun o ho=>by
 have h:=zgu (m:=m) (ts:=o.1.map D.int) (l:=0) (zcQ.mpr ⟨s.up o ho,fun x hx=>s.bd o ho x hx⟩) (by have:=s.m0;omega)
 rw [qaH] at h
 have:=s.m1
 omega
theorem zlS {fo fe:FE} {sd:Sd}:ziu fo fe sd=(do let x<-fo sd;zdH x;let y<-fe sd;zdV x y):=rfl
theorem zqi {n:Nat}:zdH (.cel n)=(do let _<-zah n;pure ()):=rfl
theorem zn6 {n:Nat} {zs:List D}:zdV (.cel n) (.tup zs)=(do let ds<-zah n;fits (ds.length+zs.length);zbe n (ds++zs);pure .non):=rfl
theorem zjq {xs:List Int} {m:Int} (m0:0<=m) (h:xs.Pairwise (· < ·)) (b: ∀ x∈xs,0<=x/\x<m):(xs.length:Int)<=m:=by
 have:=zgu (m:=m) (ts:=xs.map D.int) (l:=0) (zcQ.mpr ⟨h,b⟩) m0
 rw [qaH] at this
 omega
theorem zi9 {xs:List Int} {m:Int} (m0:0<=m) (b: ∀ x∈xs,0<=x/\x<m):((zda xs).length:Int)<=m:=zjq m0 (zir xs) fun x hx=>b x (zcS.mp hx)
theorem ze6 {xs:List Int} {m:Int} (m0:0<=m) (m1:m<=60) (b: ∀ x∈xs,0<=x/\x<m):(xs.foldl step_dedup []).length<64:=by
 have h:=zi9 m0 b
 unfold zda at h
 rw [(za2 _).length_eq] at h
 omega
theorem zeK {n:Nat} {h:Hh} {xs:List Int} {P:D->Hh->Prop} (e:h[n]? = some (.lst (xs.map D.int))) (h1:(xs.foldl step_dedup []).length<64) (h2:xs.length<4000) (k:P (.lst ((zda xs).map D.int)) h):wp (zdt (.cel n)) h P:=by
 unfold zdt
 show wp (zah n>>=_) h P
 rw [zai,zce e]
 show wp (do let ns<-ofO (zdQ (xs.map D.int));if (ns.foldl step_dedup []).length<64/\ns.length<4000 then pure (.lst ((zda ns).map D.int)) else M.bad:M D) h P
 rw [zdo]
 show wp (if (xs.foldl step_dedup []).length<64/\xs.length<4000 then (pure (.lst ((zda xs).map D.int)):M D) else M.bad) h P
 rw [qa4 ⟨h1,h2⟩,zan]
 exact k
theorem ztX: ∀ {xs ys:List Int},xs.Pairwise (· < ·)->ys.Pairwise (· < ·)->(∀ k,k∈xs↔k∈ys)->xs=ys:=by
 intro xs ys hx hy hm
 have nx:xs.Nodup:=hx.imp fun z=>by omega
 have ny:ys.Nodup:=hy.imp fun z=>by omega
 have p:List.Perm xs ys:=(List.perm_ext_iff_of_nodup nx ny).mpr hm
 exact (zeX p (hx.imp fun z=>by omega)).trans (zeX (List.Perm.refl ys) (hy.imp fun z=>by omega)).symm
theorem zhp {x y:D} {a b:PyData} (e1:pd x=some a) (e2:pd y=some b) (h:zkc a b=true):dEq x y=pure (.bl (PyData.eqv a b)):=by
 show zkw false x y=_
 unfold zkw
 rw [e1,e2]
 simp only [h,if_true]
 rfl
theorem zun (xs:List Int):pd (tI xs)=some (.tuple (xs.map PyData.int)):=by unfold tI pd;rw [zcc];rfl
theorem zpf (xs ys:List Int):dEq (.lst (xs.map D.int)) (.lst (ys.map D.int))=pure (.bl (xs==ys)):=by
 have e1:pd (.lst (xs.map D.int))=some (.list (xs.map PyData.int)):=by unfold pd;rw [zcc];rfl
 have e2:pd (.lst (ys.map D.int))=some (.list (ys.map PyData.int)):=by unfold pd;rw [zcc];rfl
 rw [zhp e1 e2 (by unfold zkc;simp [PyData.canLay0,zbl,PyData.depth,zbR])]
 simp only [PyData.eqv,zeZ]
theorem zlb (xs:List Int):ztq [.lst (xs.map D.int)]=pure (.int xs.sum):=by
 show (do let bs<-ofO (zdQ (xs.map D.int));pure (.int bs.sum):M D)=_
 rw [zdo]
 rfl
def gk (d:D):Prop:=kn d=true/\ ∀ ds,d= .tup ds->ds.length<64/\ ∀ x∈ds,kn x=true
theorem ztS {xs:List Int} (h:xs.length<64):gk (tI xs):=⟨rfl,fun ds e=>by
  cases e
  exact ⟨by rw [qaH];exact h,fun x hx=>by obtain ⟨i,_,rfl⟩:=qaU.mp hx;rfl⟩⟩
noncomputable def ztr (n:Nat):D->Bool
 | .tup ds=>zch n 0 ds
 | _=>false
theorem zlV {os:List (List Int×Int)} {i:Int} (h0:0<=i) (h1:i<os.length):atI (os.map zb2) i=some (zb2 (os.getD i.toNat ([],0))):=by
 have hl:i.toNat<os.length:=by omega
 have:=zdN (xs:=os.map zb2) (j:=i.toNat) (v:=zb2 (os.getD i.toNat ([],0))) (by simp [hl,List.getD])
 rw [<- this]
 congr 1
 omega
noncomputable def zc9 (os:List (List Int×Int)) (ls:List Int):List (List Int×Int):=ls.map fun i=>os.getD i.toNat ([],0)
theorem zmj {os:List (List Int×Int)} {ls:List Int} (b: ∀ x∈ls,0<=x/\x<os.length): ∀ o∈zc9 os ls,o∈os:=fun o ho=>by
 obtain ⟨i,hi,rfl⟩:=qaU.mp ho
 have:=b i hi
 have hl:i.toNat<os.length:=by omega
 simp [List.getD,hl]
theorem ziL {xs:List Int} (h:xs.length<64):ziM [.lst (xs.map D.int)]=pure (.lst ((zc7 xs).map D.int)):=by
 show (do let ns<-ofO (zdQ (xs.map D.int));if ns.length<64 then pure (.lst ((zc7 ns).map D.int)) else M.bad:M D)=_
 rw [zdo]
 show (if xs.length<64 then (pure (.lst ((zc7 xs).map D.int)):M D) else M.bad)=_
 rw [qa4 h]
theorem zgm {xs:List Int} (h:xs.Nodup):(zc7 xs).Pairwise (· < ·):=by
 have h1:=zd7 xs
 have h2:(zc7 xs).Nodup:=(za2 xs).nodup_iff.mpr h
 exact (List.pairwise_and_iff.mpr ⟨h1,h2⟩).imp fun z=>by have:=z.1;have:=z.2;omega
theorem zit {xs ys:List Int} (h:xs.Nodup) (hm: ∀ k,k∈xs↔k∈ys):zc7 xs=zda ys:=ztX (zgm h) (zir ys) fun k=>by rw [(za2 xs).mem_iff,zcS,hm]
theorem zla {xs:List Int} {m:Int} (m0:0<=m) (h:xs.Nodup) (b: ∀ x∈xs,0<=x/\x<m):(xs.length:Int)<=m:=by
 rw [<- (za2 xs).length_eq]
 exact zjq m0 (zgm h) fun x hx=>b x ((za2 xs).mem_iff.mp hx)
theorem zpH (xs:List D) (lo hi:Option Int):(L3.zgc xs lo hi).length<=xs.length:=by
 unfold L3.zgc
 rw [List.length_take,List.length_drop]
 omega
theorem zpU {xs:List D} {lo hi:Option Int} {d:D} (h:d∈L3.zgc xs lo hi):d∈xs:=List.mem_of_mem_drop (List.mem_of_mem_take h)
theorem ziK {xs:List D} {t:Int} (t0:0<=t) (t1:t<(xs.length:Int)): ∃ d,atI xs t=some d/\d∈xs:=by
 have ht:t.toNat<xs.length:=by omega
 refine ⟨xs[t.toNat],?_,List.getElem_mem ht⟩
 have:=zdN (xs:=xs) (j:=t.toNat) (v:=xs[t.toNat]) (by simp [ht])
 rw [<- this]
 congr 1
 omega
theorem zuF {i j:Int}:zpV [.int i,.int j]=pure (.int (if j<i then j else i)):=rfl
theorem zt7 {i j:Int}:zpi [.int i,.int j]=pure (.int (if j>i then j else i)):=rfl
theorem znv (xs:List Int):dNe (tI xs) (.tup [])=pure (.bl (!xs.isEmpty)):=by
 show zkw true _ _=_
 unfold zkw
 rw [zun xs,show pd (.tup [])=some (.tuple []) from rfl]
 have c:zkc (.tuple (xs.map PyData.int)) (.tuple [])=true:=by
  unfold zkc
  simp [PyData.canLay0,PyData.canLayAll0,zbl,PyData.depth,PyData.depthAll,zbR]
 simp only [c,if_true,PyData.eqv]
 cases xs<;>rfl
theorem zlR {b:Nat} {turn:D->M (Option D)} (ht: ∀ (i:Int) {h:Hh} {Q:Option D->Hh->Prop},Bx b h->(∀ o h',Ext b h h'->(o=none\/o=some (.int i))->Q o h')->wp (turn (.int i)) h Q):
  ∀ (is:List Int) {h:Hh} {P:List D->Hh->Prop},Bx b h->(∀ (ys:List Int) h',Ext b h h'->ys.Sublist is->P (ys.map D.int) h')->wp (zco turn (is.map D.int)) h P
 | [],h,P,q,k=>by
  rw [List.map_nil,zco,zan]
  exact k [] h (Ext.refl q) .slnil
 | i::r,h,P,q,k=>by
  rw [qaM,zco,zai]
  refine ht i q fun o h2 x2 ho=> ?_
  rw [zai]
  refine zlR ht r x2.1 fun ys h3 x3 hl=> ?_
  rw [zan]
  rcases ho with rfl | rfl
  ·exact k ys h3 (x2.trans x3) (.cons _ hl)
  ·exact k (i::ys) h3 (x2.trans x3) (.cons₂ _ hl)
theorem zhB (n:Nat):((List.range n).map fun (k:Nat)=>(k:Int)).Pairwise (· < ·):=by
 rw [List.pairwise_map]
 exact List.pairwise_lt_range.imp fun z=>by omega
theorem zh0 {n:Nat}: ∀ x∈(List.range n).map fun (k:Nat)=>(k:Int),0<=x/\x<n:=fun x hx=>by
 obtain ⟨k,hk,rfl⟩:=qaU.mp hx
 have:=List.mem_range.mp hk
 omega
def EvX {α:Type} (m:M α) (c:String):Prop:= ∀ h, ∃ h',m h= .exc c h'/\Gro h h'
section
variable {α β:Type} {m:M α} {a:α} {f:α->M β} {c:String}
theorem EvX.raise:EvX (zgs c:M α) c:=fun h=>⟨h,rfl,.refl⟩
theorem EvX.of (e:m=zgs c):EvX m c:=e▸ .raise
theorem EvX.left (x:EvX m c):EvX (m>>=f) c:=fun h=>by
 obtain ⟨h1,e1,g1⟩:=x h
 refine ⟨h1,?_,g1⟩
 show M.bind m f h=_
 unfold M.bind
 rw [e1]
end
theorem zsE {g:FS} {sd:Sd}:zu7 g sd=noX (g sd):=rfl
theorem zrH {g:FE} {sd:Sd}:zu9 g sd=noX (g sd):=rfl
theorem zni (xs:List D) {k:Int} (h:0<=k):L3.zgc xs none (some k)=xs.take k.toNat:=by
 have e:=HT.zmm xs.length xs.length k.toNat
 rw [Int.toNat_of_nonneg h] at e
 unfold L3.zgc
 have e0:HT.sIx xs.length 0 none=0:=rfl
 rw [e0,e]
 simp
theorem znO (xs:List D) {k:Int} (h:0<=k):L3.zgc xs (some k) none=xs.drop k.toNat:=by
 have e:=HT.zmm xs.length 0 k.toNat
 rw [Int.toNat_of_nonneg h] at e
 unfold L3.zgc
 have e0:HT.sIx xs.length xs.length none=xs.length:=rfl
 rw [e0,e]
 by_cases hk:k.toNat<=xs.length
 ·rw [Nat.min_eq_left hk,List.take_of_length_le (by rw [List.length_drop];omega)]
 ·rw [Nat.min_eq_right (by omega),List.drop_eq_nil_of_le (show xs.length<=k.toNat by omega)]
  simp
end L3
namespace K92
open PySem PySem.Spec PyProof.Rows L2 L3
noncomputable def zdf:List String:=["NoStock","NoOffer","NoThing","NoCover","NoNumber","NotFull","NoRow"]
noncomputable def G_22:FS:=zar (sIf (zd0 dLt (zag 1) (zaI zin (zab (zag 0) zal))) (zb1 (cOp dIx (zag 0) (zag 1))) zeu) (zb1 (cOp zex (cOp zpr (cK (.int 6151)) (zag 1)) (cK (.int 29))))
noncomputable def F_22:List D->M D:=zcD 2 G_22
theorem d_22 (x0 x1:D):F_22 [x0,x1]=(do let o<-G_22 [some x0,some x1];zcC o):=rfl
noncomputable def G_23:FS:=zar (zb3 2 (cOp zex (cOp zgE (cOp zex (zag 0) (cK (.int 1))) (cK (.int 40692))) (cOp zgE (cK (.int 104729)) (zag 1)))) (zar (zb3 2 (cOp zex (cOp zrn (cOp zgE (zag 2) (zag 2)) (cK (.int 2147483399))) (zag 1))) (zb1 (cOp zrn (cOp zgE (zag 2) (cOp zex (zag 2) (cK (.int 31)))) (cK (.int 2147483563)))))
noncomputable def F_23:List D->M D:=zcD 3 G_23
theorem d_23 (x0 x1:D):F_23 [x0,x1]=(do let o<-G_23 [some x0,some x1,none];zcC o):=rfl
noncomputable def zdi:FS:=zb3 3 (cOp zex (cOp zgE (zag 3) (cK (.int 2147483647))) (zaI (zak 2 F_23) (zab (zag 2) (zab (zag 4) zal))))
noncomputable def G_24:FS:=zar (zb3 2 (zaI (zak 2 F_22) (zab (zag 0) (zab (zag 1) zal)))) (zar (sIf (zd0 dEq (cOp zrn (zag 2) (cK (.int 2))) (cK (.int 0))) (zb1 (zhr (zab (cOp zqy (zag 2) (cK (.int 2))) zal))) zeu) (zar (zb3 3 (cK (.int 0))) (zar (zkQ (zmN (zab (cK (.int 24)) zal)) (zbC 4) zdi) (zb1 (zhr (zab (zag 3) zal))))))
noncomputable def F_24:List D->M D:=zcD 5 G_24
theorem d_24 (x0 x1:D):F_24 [x0,x1]=(do let o<-G_24 [some x0,some x1,none,none,none];zcC o):=rfl
noncomputable def G_25:FS:=zar (zrm (zaI zfm (zab (cOp dIx (zag 0) (cK (.int 0))) (zab (zag 1) zal))) (zfS 2 (zb6 (zbC 2) (zb6 (zbC 3) zf0)))) (zar (zrm (zag 2) (zq9 (zag 0) (cK (.int 0)))) (zb1 (zag 3)))
noncomputable def F_25:List D->M D:=zcD 4 G_25
theorem d_25 (x0 x1:D):F_25 [x0,x1]=(do let o<-G_25 [some x0,some x1,none,none];zcC o):=rfl
noncomputable def zcx:FE:=zag 0
noncomputable def zcB:FT:=zd0 dLe (zaI (zak 2 F_25) (zab (zag 1) (zab (cK (.int 4)) zal))) (zag 2)
noncomputable def zbx:FS:=zar (zb3 8 (zba (zmN (zab (zag 3) zal)) (zbC 0) zcB zcx [none,some 0,some 5])) (zar (sIf (zd0 dEq (zag 8) (zfH zal)) (zb3 8 (zfH (zab (zaI (zak 2 F_25) (zab (zag 0) (zab (zag 3) zal))) zal))) zeu) (zdD (zdT (zag 6) (zbg (zab (zaI zcM (zab (zag 8) zal)) (zab (cOp zex (cK (.int 1)) (zaI (zak 2 F_25) (zab (zag 0) (zab (zag 4) zal)))) zal))))))
noncomputable def G_26:FS:=zar (zb3 3 (cOp zex (cK (.int 1)) (zaI (zak 2 F_25) (zab (zag 0) (zab (zag 1) zal))))) (zar (zb3 4 (cOp dIx (zfH (zab (cK (.int 1)) (zab (cK (.int 3)) (zab (cK (.int 20)) (zab (cOp zpS (cK (.int 10)) (cK (.int 20))) zal))))) (zaI (zak 2 F_25) (zab (zag 0) (zab (cK (.int 4)) zal))))) (zar (zb3 5 (zaI (zak 2 F_25) (zab (zag 0) (zab (cK (.int 3)) zal)))) (zar (zb3 6 (zhr zal)) (zar (zkQ (zmN (zab (zaI (zak 2 F_25) (zab (zag 0) (zab (cOp zex (zag 2) (cK (.int 1))) zal))) zal)) (zbC 7) zbx) (zb1 (zbg (zab (zag 3) (zab (zaI zcM (zab (zag 6) zal)) zal))))))))
noncomputable def F_26:List D->M D:=zcD 9 G_26
theorem d_26 (x0 x1 x2:D):F_26 [x0,x1,x2]=(do let o<-G_26 [some x0,some x1,some x2,none,none,none,none,none,none];zcC o):=rfl
noncomputable def zca:FE:=zag 0
noncomputable def zb9:FT:=zd0 dIn (zag 1) (cOp dIx (zag 0) (cK (.int 0)))
noncomputable def zee:FE:=zag 0
noncomputable def zcV:FT:=zd0 dEq (zba (iSq (zag 1)) (zbC 0) zb9 zca [none,some 0]) (zfH zal)
noncomputable def G_27:FS:=zar (zrm (zaI (zak 3 F_26) (zab (zag 0) (zab (zag 1) (zab (cOp ztp (zag 2) (cK (.int 1))) zal)))) (zfS 2 (zb6 (zbC 3) (zb6 (zbC 4) zf0)))) (zar (zb3 5 (zaI zcM (zab (zba (zmN (zab (zag 3) zal)) (zbC 0) zcV zee [none,some 4]) zal))) (zar (zb3 6 (zaI (zak 2 F_25) (zab (zag 0) (zab (cOp zex (zaI zin (zab (zag 4) zal)) (cK (.int 1))) zal)))) (zar (sIf (zd0 dNe (zag 5) (zbg zal)) (zb3 4 (cOp zex (cOp zex (cSl (zag 4) zj2 (zkk (zag 6))) (zbg (zab (zbg (zab (zag 5) (zab (cOp zex (cK (.int 1)) (zaI (zak 2 F_25) (zab (zag 0) (zab (cK (.int 9)) zal)))) zal))) zal))) (cSl (zag 4) (zkk (zag 6)) zj2))) zeu) (zb1 (zbg (zab (zag 3) (zab (zag 4) zal)))))))
noncomputable def F_27:List D->M D:=zcD 7 G_27
theorem d_27 (x0 x1 x2:D):F_27 [x0,x1,x2]=(do let o<-G_27 [some x0,some x1,some x2,none,none,none,none];zcC o):=rfl
noncomputable def G_31:FS:=zar (zb3 1 (zfH (zab (cUn (zoP zdf "NoNumber") (zag 0)) (zab (cUn (zoP zdf "NoCover") (zag 0)) (zab (cUn (zoP zdf "NotFull") (zag 0)) (zab (cUn (zoP zdf "NoOffer") (zag 0)) zal)))))) (zar (zb3 1 (cOp zex (zag 1) (zfH (zab (cUn (zoP zdf "NoThing") (zag 0)) (zab (cUn (zoP zdf "NoStock") (zag 0)) (zab (cUn (zoP zdf "NoRow") (zag 0)) (zab (cK (.bl true)) zal))))))) (zb1 (cOp dIx (zfH (zab (cK (.str "number")) (zab (cK (.str "cover")) (zab (cK (.str "full")) (zab (cK (.str "offer")) (zab (cK (.str "thing")) (zab (cK (.str "stock")) (zab (cK (.str "row")) (zab (cK (.str "other")) zal))))))))) (cUn zsg (zag 1)))))
noncomputable def F_31:List D->M D:=zcD 2 G_31
theorem d_31 (x0:D):F_31 [x0]=(do let o<-G_31 [some x0,none];zcC o):=rfl
noncomputable def G_9:FS:=zb1 (zo8 (cUn (ziB "tuple") (zag 0)) (cOp dEq (zaI zin (zab (zag 0) zal)) (cK (.int 2))))
noncomputable def F_9:List D->M D:=zcD 1 G_9
theorem d_9 (x0:D):F_9 [x0]=(do let o<-G_9 [some x0];zcC o):=rfl
noncomputable def G_8:FS:=zb1 (zo8 (cUn (ziB "int") (zag 0)) (zto (cUn (ziB "bool") (zag 0))))
noncomputable def F_8:List D->M D:=zcD 1 G_8
theorem d_8 (x0:D):F_8 [x0]=(do let o<-G_8 [some x0];zcC o):=rfl
noncomputable def zbs:FS:=zar (sIf (tOr (zgO (zih (zaI (zak 1 F_8) (zab (zag 3) zal)))) (tOr (zd0 dLt (zag 3) (zag 2)) (zd0 dGe (zag 3) (zag 1)))) (zb1 (cK (.bl false))) zeu) (zb3 2 (cOp zex (zag 3) (cK (.int 1))))
noncomputable def G_10:FS:=zar (sIf (zgO (zih (cUn (ziB "tuple") (zag 0)))) (zb1 (cK (.bl false))) zeu) (zar (zb3 2 (cK (.int 0))) (zar (zkQ (iSq (zag 0)) (zbC 3) zbs) (zb1 (cK (.bl true)))))
noncomputable def F_10:List D->M D:=zcD 4 G_10
theorem d_10 (x0 x1:D):F_10 [x0,x1]=(do let o<-G_10 [some x0,some x1,none,none];zcC o):=rfl
noncomputable def G_12:FS:=zar (sIf (zgO (zih (zaI (zak 1 F_9) (zab (zag 0) zal)))) (zb1 (cK (.bl false))) zeu) (zar (zb3 2 (cOp dIx (zag 0) (cK (.int 0)))) (zar (zb3 3 (cOp dIx (zag 0) (cK (.int 1)))) (zb1 (zo8 (zaI (zak 2 F_10) (zab (zag 2) (zab (zag 1) zal))) (zo8 (cOp dGt (zaI zin (zab (zag 2) zal)) (cK (.int 0))) (zo8 (zaI (zak 1 F_8) (zab (zag 3) zal)) (cOp dGt (zag 3) (cK (.int 0)))))))))
noncomputable def F_12:List D->M D:=zcD 4 G_12
theorem d_12 (x0 x1:D):F_12 [x0,x1]=(do let o<-G_12 [some x0,some x1,none,none];zcC o):=rfl
noncomputable def zdn:FE:=zaI (zak 2 F_12) (zab (zag 0) (zab (zag 1) zal))
noncomputable def G_11:FS:=zar (sIf (zgO (zih (zaI (zak 1 F_9) (zab (zag 0) zal)))) (zb1 (cK (.bl false))) zeu) (zar (zb3 1 (cOp dIx (zag 0) (cK (.int 0)))) (zar (zb3 2 (cOp dIx (zag 0) (cK (.int 1)))) (zar (sIf (tOr (zgO (zih (zaI (zak 1 F_8) (zab (zag 1) zal)))) (tOr (zd0 dLt (zag 1) (cK (.int 1))) (zd0 dGt (zag 1) (cK (.int 10))))) (zb1 (cK (.bl false))) zeu) (zar (sIf (tOr (zgO (zih (cUn (ziB "tuple") (zag 2)))) (zd0 dGt (zaI zin (zab (zag 2) zal)) (cK (.int 12)))) (zb1 (cK (.bl false))) zeu) (zb1 (zaI ztu (zab (zba (iSq (zag 2)) (zbC 0) (fun _=>pure true) zdn [none,some 1]) zal)))))))
noncomputable def F_11:List D->M D:=zcD 3 G_11
theorem d_11 (x0:D):F_11 [x0]=(do let o<-G_11 [some x0,none,none];zcC o):=rfl
noncomputable def zas:FS:=zar (sIf (zgO (zih (zaI (zak 1 fun ds=>noX (F_11 ds)) (zab (zag 1) zal)))) (zeG "NoStock") zeu) (zar (zkX "Keeper" "stock" (zag 0) (zag 1)) (zar (zkX "Keeper" "things" (zag 0) (zhr zal)) (zkX "Keeper" "steps" (zag 0) (zhr zal))))
noncomputable def F_Keeper___init__:List D->M D:=zcD 2 zas
theorem d_Keeper___init__ (x0 x1:D):F_Keeper___init__ [x0,x1]=(do let o<-zas [some x0,some x1];zcC o):=rfl
noncomputable def G_32:FS:=zar (zb3 1 (cK (.str "told"))) (zar (zjZ zdf (zdD (zaI (ziC "Keeper" (zak 2 F_Keeper___init__)) (zab (zag 0) zal))) 1 F_31) (zb1 (zag 1)))
noncomputable def F_32:List D->M D:=zcD 3 G_32
theorem d_32 (x0:D):F_32 [x0]=(do let o<-G_32 [some x0,none,none];zcC o):=rfl
noncomputable def G_29:FS:=zar (zb3 1 (zfH (zab (cK .non) (zab (cK (.bl true)) (zab (cK (.bl false)) (zab (cUn zov (cK (.int 1))) (zab (cK (.int 0)) (zab (cK (.int 1)) (zab (cK (.int 2)) (zab (cK (.str "")) (zab (cK (.str "0")) (zab (zbg zal) (zab (zbg (zab (cK (.int 0)) zal)) (zab (zbg (zab (cK (.int 0)) (zab (cK (.int 1)) zal))) (zab (zbg (zab (cK (.int 1)) (zab (cK (.int 0)) zal))) (zab (zbg (zab (cK (.int 0)) (zab (cK (.int 0)) zal))) (zab (zbg (zab (cK (.bl true)) zal)) (zab (zfH (zab (cK (.int 0)) zal)) (zab (cK .dct) (zab (zbg (zab (zbg (zab (cK (.int 0)) zal)) zal)) zal)))))))))))))))))))) (zar (zb3 1 (cOp zex (zag 1) (zfH (zab (zbg (zab (cK .non) zal)) (zab (cOp zpS (cK (.int 10)) (cK (.int 39))) (zab (zbg (zab (cK (.int 12)) zal)) (zab (zbg (zab (cUn zov (cK (.int 1))) zal)) (zab (zbg (zab (cK (.int 0)) (zab (cK (.str "1")) zal))) (zab (zfH (zab (cK (.int 0)) (zab (cK (.int 1)) zal))) (zab (zbg (zab (cK (.int 0)) (zab (cK (.int 1)) (zab (cK (.int 2)) zal)))) zal)))))))))) (zb1 (cOp dIx (zag 1) (zaI (zak 2 F_25) (zab (zag 0) (zab (zaI zin (zab (zag 1) zal)) zal))))))
noncomputable def F_29:List D->M D:=zcD 2 G_29
theorem d_29 (x0:D):F_29 [x0]=(do let o<-G_29 [some x0,none];zcC o):=rfl
noncomputable def G_34:FS:=zar (zrm (zag 1) (zfS 2 (zb6 (zbC 2) (zb6 (zbC 3) zf0)))) (zar (zb3 4 (zaI (zak 1 F_29) (zab (zag 0) zal))) (zar (zb3 5 (zbg (zab (zbg (zab (cK (.int 0)) zal)) (zab (cK (.int 1)) zal)))) (zar (zb3 6 (zfH (zab (zbg (zab (zbg (zab (cK (.int 0)) zal)) (zab (cK (.int 0)) zal))) (zab (zbg (zab (zbg (zab (cK (.int 0)) zal)) (zab (cK (.bl true)) zal))) (zab (zbg (zab (zbg zal) (zab (cK (.int 1)) zal))) (zab (zbg (zab (zbg (zab (zag 2) zal)) (zab (cK (.int 1)) zal))) (zab (zbg (zab (zbg (zab (cK (.int 0)) (zab (cK (.int 0)) zal))) (zab (cK (.int 1)) zal))) (zab (zbg (zab (zfH (zab (cK (.int 0)) zal)) (zab (cK (.int 1)) zal))) (zab (zbg (zab (zbg (zab (cK (.int 0)) zal)) (zab (cK (.str "1")) zal))) (zab (zbg (zab (zbg (zab (cK (.int 0)) zal)) zal)) zal)))))))))) (zar (zb3 7 (cOp dIx (cOp zex (zag 6) (zfH (zab (zbg (zab (zbg (zab (cK (.bl true)) zal)) (zab (cK (.int 1)) zal))) (zab (cK .non) zal)))) (zaI (zak 2 F_25) (zab (zag 0) (zab (cK (.int 10)) zal))))) (zar (zb3 8 (zfH (zab (zbg (zab (cK (.int 0)) (zab (zbg zal) zal))) (zab (zbg (zab (cK (.int 11)) (zab (zbg zal) zal))) (zab (zbg (zab (cK (.bl true)) (zab (zbg zal) zal))) (zab (zbg (zab (zag 2) (zab (zaI zlH (zab (zag 3) zal)) zal))) (zab (zfH (zab (zag 2) (zab (zag 3) zal))) (zab (zbg (zab (zag 2) zal)) (zab (zbg (zab (zag 2) (zab (cOp zpr (zbg (zab (zag 5) zal)) (cK (.int 13))) zal))) zal))))))))) (zar (zb3 8 (cOp zex (zag 8) (zfH (zab (zbg (zab (zag 2) (zab (cOp zex (cSl (zag 3) zj2 (zkk (cK (.int 11)))) (zbg (zab (zag 7) zal))) zal))) (zab (zbg (zab (zag 2) (zab (cOp zex (zbg (zab (zag 7) zal)) (cSl (zag 3) zj2 (zkk (cK (.int 11))))) zal))) (zab (cK .non) (zab (zbg (zab (zag 2) (zab (zag 3) (zab (cK (.int 0)) zal)))) (zab (zbg (zab (cK (.str "1")) (zab (zag 3) zal))) zal)))))))) (zar (zb3 8 (cOp zex (zag 8) (zfH (zab (zbg (zab (zag 2) (zab (zbg (zab (zag 4) zal)) zal))) (zab (zbg (zab (zag 4) (zab (zag 4) zal))) zal))))) (zb1 (cOp dIx (zag 8) (zaI (zak 2 F_25) (zab (zag 0) (zab (zaI zin (zab (zag 8) zal)) zal))))))))))))
noncomputable def F_34:List D->M D:=zcD 9 G_34
theorem d_34 (x0 x1:D):F_34 [x0,x1]=(do let o<-G_34 [some x0,some x1,none,none,none,none,none,none,none];zcC o):=rfl
noncomputable def G_16:FS:=sIf (tOr (zgO (zih (zaI (zak 1 fun ds=>noX (F_8 ds)) (zab (zag 1) zal)))) (tOr (zd0 dLt (zag 1) (cK (.int 0))) (zd0 dGe (zag 1) (cOp dIx (zag 0) (cK (.int 0)))))) (zeG "NoThing") zeu
noncomputable def F_16:List D->M D:=zcD 2 G_16
theorem d_16 (x0 x1:D):F_16 [x0,x1]=(do let o<-G_16 [some x0,some x1];zcC o):=rfl
noncomputable def zbN:FE:=zag 0
noncomputable def zbL:FT:=zd0 dIn (zag 2) (cOp dIx (zag 1) (cK (.int 0)))
noncomputable def G_20:FS:=zb1 (zaI zcM (zab (zba (ztV (cOp dIx (zag 0) (cK (.int 1)))) (zfS 2 (zb6 (zbC 0) (zb6 (zbC 1) zf0))) zbL zbN [none,none,some 1]) zal))
noncomputable def F_20:List D->M D:=zcD 2 G_20
theorem d_20 (x0 x1:D):F_20 [x0,x1]=(do let o<-G_20 [some x0,some x1];zcC o):=rfl
noncomputable def za9:FS:=zdD (ziu (zag 1) (cOp dIx (zag 2) (cK (.int 0))))
noncomputable def G_19:FS:=zar (zb3 1 (zhr zal)) (zar (zkQ (iSq (zag 0)) (zbC 2) za9) (zb1 (zaI zcM (zab (cUn zdt (zag 1)) zal))))
noncomputable def F_19:List D->M D:=zcD 3 G_19
theorem d_19 (x0:D):F_19 [x0]=(do let o<-G_19 [some x0,none,none];zcC o):=rfl
noncomputable def G_13:FS:=zb1 (zaI (zak 2 F_10) (zab (zag 1) (zab (zaI zin (zab (cOp dIx (zag 0) (cK (.int 1))) zal)) zal)))
noncomputable def F_13:List D->M D:=zcD 2 G_13
theorem d_13 (x0 x1:D):F_13 [x0,x1]=(do let o<-G_13 [some x0,some x1];zcC o):=rfl
noncomputable def G_17:FS:=sIf (zgO (zih (zaI (zak 2 fun ds=>noX (F_13 ds)) (zab (zag 0) (zab (zag 1) zal))))) (zeG "NoCover") zeu
noncomputable def F_17:List D->M D:=zcD 2 G_17
theorem d_17 (x0 x1:D):F_17 [x0,x1]=(do let o<-G_17 [some x0,some x1];zcC o):=rfl
noncomputable def zeb:FE:=cOp dIx (cOp dIx (zag 1) (cK (.int 1))) (zag 0)
noncomputable def G_18:FS:=zar (zdD (zaI (zak 2 F_17) (zab (zag 0) (zab (zag 1) zal)))) (zb1 (zba (iSq (zag 1)) (zbC 0) (fun _=>pure true) zeb [none,some 0]))
noncomputable def F_18:List D->M D:=zcD 2 G_18
theorem d_18 (x0 x1:D):F_18 [x0,x1]=(do let o<-G_18 [some x0,some x1];zcC o):=rfl
noncomputable def G_14:FS:=zb1 (zaI (zak 1 fun ds=>noX (F_19 ds)) (zab (zaI (zak 2 F_18) (zab (zag 0) (zab (zag 1) zal))) zal))
noncomputable def F_14:List D->M D:=zcD 2 G_14
theorem d_14 (x0 x1:D):F_14 [x0,x1]=(do let o<-G_14 [some x0,some x1];zcC o):=rfl
noncomputable def zcj:FE:=cOp dIx (zag 0) (cK (.int 3))
noncomputable def zay:FS:=zb1 (zgg (cUn (zeP "Keeper" "steps") (zag 0)) (zbC 0) (fun _=>pure true) zcj [none])
noncomputable def F_Keeper_in_order:List D->M D:=zcD 1 zay
theorem d_Keeper_in_order (x0:D):F_Keeper_in_order [x0]=(do let o<-zay [some x0];zcC o):=rfl
noncomputable def zat:FS:=zb1 (zaI zcM (zab (zaI ziM (zab (zbT "Keeper" "in_order" (zak 1 F_Keeper_in_order) (zag 0) zal) zal)) zal))
noncomputable def F_Keeper_taken:List D->M D:=zcD 1 zat
theorem d_Keeper_taken (x0:D):F_Keeper_taken [x0]=(do let o<-zat [some x0];zcC o):=rfl
noncomputable def zcE:FE:=zbg (zab (cOp dIx (zag 0) (cK (.int 1))) (zab (cOp dIx (zag 0) (cK (.int 2))) zal))
noncomputable def zcJ:FE:=zqq (zag 1) (zab (zag 0) (zab (cK (.int 0)) zal))
noncomputable def zaH:FS:=zar (zb3 1 (zaI zpg (zab (zgg (cUn (zeP "Keeper" "steps") (zag 0)) (zbC 0) (fun _=>pure true) zcE [none]) zal))) (zb1 (zba (zmN (zab (cOp dIx (cUn (zeP "Keeper" "stock") (zag 0)) (cK (.int 0))) zal)) (zbC 0) (fun _=>pure true) zcJ [none,some 1]))
noncomputable def F_Keeper_shares:List D->M D:=zcD 2 zaH
theorem d_Keeper_shares (x0:D):F_Keeper_shares [x0]=(do let o<-zaH [some x0,none];zcC o):=rfl
noncomputable def zck:FE:=cOp dIx (zag 1) (zag 0)
noncomputable def zbq:FS:=zar (zb3 2 (cOp dIx (cOp dIx (cUn (zeP "Keeper" "stock") (zag 0)) (cK (.int 1))) (zag 1))) (zar (zb3 3 (zbT "Keeper" "shares" (zak 1 F_Keeper_shares) (zag 0) zal)) (zb1 (cOp ztp (cOp dIx (zag 2) (cK (.int 1))) (zaI ztq (zab (zba (iSq (cOp dIx (zag 2) (cK (.int 0)))) (zbC 0) (fun _=>pure true) zck [none,some 3]) zal)))))
noncomputable def F_Keeper_room:List D->M D:=zcD 4 zbq
theorem d_Keeper_room (x0 x1:D):F_Keeper_room [x0,x1]=(do let o<-zbq [some x0,some x1,none,none];zcC o):=rfl
noncomputable def zdd:FE:=zbg (zab (zbT "Keeper" "room" (zak 2 fun ds=>noX (F_Keeper_room ds)) (zag 1) (zab (zag 0) zal)) (zab (zag 0) zal))
noncomputable def zaG:FS:=zar (zdD (zaI (zak 2 F_16) (zab (cUn (zeP "Keeper" "stock") (zag 0)) (zab (zag 1) zal)))) (zar (zb3 2 (zaI (zak 2 fun ds=>noX (F_20 ds)) (zab (cUn (zeP "Keeper" "stock") (zag 0)) (zab (zag 1) zal)))) (zar (sIf (zgO (zpq (zag 2))) (zeG "NotFull") zeu) (zar (sIf (zd0 zln (zag 1) (zaI (zak 2 F_14) (zab (cUn (zeP "Keeper" "stock") (zag 0)) (zab (zbT "Keeper" "taken" (zak 1 fun ds=>noX (F_Keeper_taken ds)) (zag 0) zal) zal)))) (zar (zb3 3 (zaI znN (zab (zba (iSq (zag 2)) (zbC 0) (fun _=>pure true) zdd [none,some 0]) zal))) (zdD (zdT (cUn (zeP "Keeper" "steps") (zag 0)) (zbg (zab (zaI zin (zab (cUn (zeP "Keeper" "things") (zag 0)) zal)) (zab (zag 1) (zab (cOp dIx (zag 3) (cK (.int 0))) (zab (cOp dIx (zag 3) (cK (.int 1))) zal)))))))) zeu) (zdD (zdT (cUn (zeP "Keeper" "things") (zag 0)) (zag 1))))))
noncomputable def F_Keeper_come:List D->M D:=zcD 4 zaG
theorem d_Keeper_come (x0 x1:D):F_Keeper_come [x0,x1]=(do let o<-zaG [some x0,some x1,none,none];zcC o):=rfl
noncomputable def zaL:FS:=zar (sIf (zgO (zpq (cUn (zeP "Keeper" "things") (zag 0)))) (zeG "NoRow") zeu) (zar (zdD (cUn znw (cUn (zeP "Keeper" "things") (zag 0)))) (sIf (zsb (zpq (cUn (zeP "Keeper" "steps") (zag 0))) (zd0 dEq (cOp dIx (cOp dIx (cUn (zeP "Keeper" "steps") (zag 0)) (cUn zov (cK (.int 1)))) (cK (.int 0))) (zaI zin (zab (cUn (zeP "Keeper" "things") (zag 0)) zal)))) (zdD (cUn znw (cUn (zeP "Keeper" "steps") (zag 0)))) zeu))
noncomputable def F_Keeper_undo:List D->M D:=zcD 1 zaL
theorem d_Keeper_undo (x0:D):F_Keeper_undo [x0]=(do let o<-zaL [some x0];zcC o):=rfl
noncomputable def G_33:FS:=zar (zb3 3 (cK (.str "told"))) (zar (zjZ zdf (sIf (zd0 dEq (zag 1) (cK (.str "come"))) (zdD (zbT "Keeper" "come" (zak 2 F_Keeper_come) (zag 0) (zab (zag 2) zal))) (zdD (zbT "Keeper" "undo" (zak 1 F_Keeper_undo) (zag 0) zal))) 3 F_31) (zb1 (zag 3)))
noncomputable def F_33:List D->M D:=zcD 5 G_33
theorem d_33 (x0 x1 x2:D):F_33 [x0,x1,x2]=(do let o<-G_33 [some x0,some x1,some x2,none,none];zcC o):=rfl
noncomputable def zbu:FS:=zb1 (zaI zlH (zab (cUn (zeP "Keeper" "things") (zag 0)) zal))
noncomputable def F_Keeper_came:List D->M D:=zcD 1 zbu
theorem d_Keeper_came (x0:D):F_Keeper_came [x0]=(do let o<-zbu [some x0];zcC o):=rfl
noncomputable def zc3:FE:=zbg (zab (zag 0) (zab (cK (.int 1)) zal))
noncomputable def zbc:FS:=zb1 (zaI zcM (zab (zba (iSq (zbT "Keeper" "shares" (zak 1 F_Keeper_shares) (zag 0) zal)) (zbC 0) (fun _=>pure true) zc3 [none]) zal))
noncomputable def F_Keeper_bears:List D->M D:=zcD 1 zbc
theorem d_Keeper_bears (x0:D):F_Keeper_bears [x0]=(do let o<-zbc [some x0];zcC o):=rfl
noncomputable def zdm:FE:=cOp dIx (zag 0) (cK (.int 1))
noncomputable def G_15:FS:=zb1 (zaI ztq (zab (zba (iSq (zaI (zak 2 F_18) (zab (zag 0) (zab (zag 1) zal)))) (zbC 0) (fun _=>pure true) zdm [none]) zal))
noncomputable def F_15:List D->M D:=zcD 2 G_15
theorem d_15 (x0 x1:D):F_15 [x0,x1]=(do let o<-G_15 [some x0,some x1];zcC o):=rfl
noncomputable def zbr:FS:=zb1 (zaI (zak 2 F_15) (zab (cUn (zeP "Keeper" "stock") (zag 0)) (zab (zbT "Keeper" "taken" (zak 1 F_Keeper_taken) (zag 0) zal) zal)))
noncomputable def F_Keeper_paid:List D->M D:=zcD 1 zbr
theorem d_Keeper_paid (x0:D):F_Keeper_paid [x0]=(do let o<-zbr [some x0];zcC o):=rfl
noncomputable def zb4:FE:=cOp dIn (zag 0) (zag 1)
noncomputable def zaJ:FS:=zar (zb3 2 (zaI (zak 2 F_14) (zab (cUn (zeP "Keeper" "stock") (zag 0)) (zab (zag 1) zal)))) (zb1 (zaI ztu (zab (zba (iSq (cUn zdt (cUn (zeP "Keeper" "things") (zag 0)))) (zbC 0) (fun _=>pure true) zb4 [none,some 2]) zal)))
noncomputable def F_Keeper_is_enough:List D->M D:=zcD 3 zaJ
theorem d_Keeper_is_enough (x0 x1:D):F_Keeper_is_enough [x0,x1]=(do let o<-zaJ [some x0,some x1,none];zcC o):=rfl
noncomputable def zbo:FE:=zag 0
noncomputable def zbk:FT:=zd0 dNe (zag 0) (zag 1)
noncomputable def zaU:FS:=zar (zb3 3 (zaI zcM (zab (zba (iSq (zag 1)) (zbC 0) zbk zbo [none,some 2]) zal))) (sIf (zih (zbT "Keeper" "is_enough" (zak 2 F_Keeper_is_enough) (zag 0) (zab (zag 3) zal))) (zb3 1 (zag 3)) zeu)
noncomputable def zaE:FS:=zar (zb3 1 (zbT "Keeper" "taken" (zak 1 F_Keeper_taken) (zag 0) zal)) (zar (zkQ (iSq (cUn zqS (zbT "Keeper" "in_order" (zak 1 F_Keeper_in_order) (zag 0) zal))) (zbC 2) zaU) (zb1 (zag 1)))
noncomputable def F_Keeper_least_kept:List D->M D:=zcD 4 zaE
theorem d_Keeper_least_kept (x0:D):F_Keeper_least_kept [x0]=(do let o<-zaE [some x0,none,none,none];zcC o):=rfl
noncomputable def G_30:FS:=zb1 (zfH (zab (zbT "Keeper" "came" (zak 1 F_Keeper_came) (zag 0) zal) (zab (zbT "Keeper" "taken" (zak 1 F_Keeper_taken) (zag 0) zal) (zab (zbT "Keeper" "bears" (zak 1 F_Keeper_bears) (zag 0) zal) (zab (zbT "Keeper" "paid" (zak 1 F_Keeper_paid) (zag 0) zal) (zab (zbT "Keeper" "least_kept" (zak 1 F_Keeper_least_kept) (zag 0) zal) zal))))))
noncomputable def F_30:List D->M D:=zcD 1 G_30
theorem d_30 (x0:D):F_30 [x0]=(do let o<-G_30 [some x0];zcC o):=rfl
noncomputable def G_28:FS:=zb1 (zo8 (cUn (ziB "int") (zag 0)) (zto (cUn (ziB "bool") (zag 0))))
noncomputable def F_28:List D->M D:=zcD 1 G_28
theorem d_28 (x0:D):F_28 [x0]=(do let o<-G_28 [some x0];zcC o):=rfl
noncomputable def zgZ:FS:=sIf (tOr (zgO (zih (zaI (zak 1 F_28) (zab (zag 6) zal)))) (zgO (zih (zfE dLe dLt (cK (.int 0)) (zag 6) (cOp dIx (zag 3) (cK (.int 0))))))) (sIf (tOr (zd0 dNe (zaI (zak 3 F_33) (zab (zag 4) (zab (cK (.str "come")) (zab (zag 6) zal)))) (cK (.str "thing"))) (zd0 dNe (zaI (zak 1 F_30) (zab (zag 4) zal)) (zag 5))) (zb1 (cK (.bl false))) zeu) zeu
noncomputable def zfy:FS:=zar (zb3 2 (zaI (zak 2 F_24) (zab (zag 0) (zab (zag 1) zal)))) (zar (zb3 3 (zaI (zak 3 F_27) (zab (zag 2) (zab (cK (.int 9)) (zab (cK (.int 12)) zal))))) (zar (sIf (zd0 dNe (zaI (zak 1 F_32) (zab (zaI (zak 2 F_34) (zab (zag 2) (zab (zag 3) zal))) zal)) (cK (.str "stock"))) (zb1 (cK (.bl false))) zeu) (zar (zb3 4 (zaI (ziC "Keeper" (zak 2 F_Keeper___init__)) (zab (zag 3) zal))) (zar (sIf (zd0 dNe (zaI (zak 3 F_33) (zab (zag 4) (zab (cK (.str "undo")) (zab (cK .non) zal)))) (cK (.str "row"))) (zb1 (cK (.bl false))) zeu) (zar (zdD (zbT "Keeper" "come" (zak 2 F_Keeper_come) (zag 4) (zab (zaI (zak 2 F_25) (zab (zag 2) (zab (cOp dIx (zag 3) (cK (.int 0))) zal))) zal))) (zar (zb3 5 (zaI (zak 1 F_30) (zab (zag 4) zal))) (zar (zkQ (iSq (zfH (zab (cOp dIx (zag 3) (cK (.int 0))) (zab (cUn zov (cK (.int 1))) (zab (cK (.bl true)) (zab (cK .non) (zab (cK (.str "0")) (zab (zbg (zab (cK (.int 0)) zal)) (zab (zaI (zak 1 F_29) (zab (zag 2) zal)) zal))))))))) (zbC 6) zgZ) (zar (zdD (zbT "Keeper" "undo" (zak 1 F_Keeper_undo) (zag 4) zal)) (sIf (zd0 dNe (zaI (zak 3 F_33) (zab (zag 4) (zab (cK (.str "undo")) (zab (cK .non) zal)))) (cK (.str "row"))) (zb1 (cK (.bl false))) zeu)))))))))
noncomputable def G_35:FS:=zar (zkQ (zmN (zab (zaI zpi (zab (cK (.int 1)) (zab (zaI zpV (zab (zaI zin (zab (zag 0) zal)) (zab (cK (.int 6)) zal))) zal))) zal)) (zbC 1) zfy) (zb1 (cOp dEq (zaI (zak 3 F_33) (zab (zaI (ziC "Keeper" (zak 2 F_Keeper___init__)) (zab (zbg (zab (cK (.int 2)) (zab (zbg (zab (zbg (zab (zbg (zab (cK (.int 0)) zal)) (zab (cK (.int 1)) zal))) zal)) zal))) zal)) (zab (cK (.str "come")) (zab (cK (.int 1)) zal)))) (cK (.str "full"))))
noncomputable def F_35:List D->M D:=zcD 7 G_35
theorem d_35 (x0:D):F_35 [x0]=(do let o<-G_35 [some x0,none,none,none,none,none,none];zcC o):=rfl
end K92
set_option genInjectivity false
set_option genSizeOf false
set_option genSizeOfSpec false
namespace K92
open PySem PySem.Spec PyProof.Rows L2 L3
noncomputable def top (i:Nat):Stmt:=PySem.Challenge.pw_cheapcovers_k92_keepers_refused.main.body.getD i (.Pass ⟨0,0,0,0⟩)
theorem zgN {A:Around} {k:Nat} (hr:zcn k A):A.units+60<cLine:=by have:=hr.units;omega
theorem zoB {P:Program} {w:World} {K:W.Frag} {mg:Str->Option Value} {base:Heap} {N:List Str} {qual:Str} {scope:Scope} {f:Addr} {cd:Value} {A:Around} {outer:List Env} {s:Shared} {H:Hp} {E:XK}:ze8 (zij CX0 P w K mg base N qual scope f cd A outer s H E).nox:=⟨rfl,rfl,rfl⟩
theorem zo6:bootBuiltins "all"=some (.builtin "all"):=by decide +kernel
theorem zmu:bootBuiltins "bool"=some (.type "bool"):=by decide +kernel
theorem zqd:bootBuiltins "dict"=some (.type "dict"):=by decide +kernel
theorem zmc:bootBuiltins "divmod"=some (.builtin "divmod"):=by decide +kernel
theorem zoE:bootBuiltins "int"=some (.type "int"):=by decide +kernel
theorem zdl:bootBuiltins "len"=some (.builtin "len"):=by decide +kernel
theorem zli:bootBuiltins "list"=some (.type "list"):=by decide +kernel
theorem zsz:bootBuiltins "max"=some (.builtin "max"):=by decide +kernel
theorem zo1:bootBuiltins "min"=some (.builtin "min"):=by decide +kernel
theorem zlm:bootBuiltins "sorted"=some (.builtin "sorted"):=by decide +kernel
theorem zo7:bootBuiltins "sum"=some (.builtin "sum"):=by decide +kernel
theorem zbM:bootBuiltins "tuple"=some (.type "tuple"):=by decide +kernel
noncomputable def zeS (s:Stmt) (j:Nat):Stmt:=match s with
 | .ClassDef _ _ _ body .. => body.getD j (.Pass ⟨0,0,0,0⟩)
 | _=> .Pass ⟨0,0,0,0⟩
noncomputable abbrev s_22:Stmt:=top 29
noncomputable abbrev s_23:Stmt:=top 30
noncomputable abbrev s_24:Stmt:=top 31
noncomputable abbrev s_25:Stmt:=top 32
noncomputable abbrev s_26:Stmt:=top 33
noncomputable abbrev s_27:Stmt:=top 34
noncomputable abbrev s_31:Stmt:=top 38
noncomputable abbrev s_9:Stmt:=top 11
noncomputable abbrev s_8:Stmt:=top 10
noncomputable abbrev s_10:Stmt:=top 12
noncomputable abbrev s_12:Stmt:=top 17
noncomputable abbrev s_11:Stmt:=top 16
noncomputable abbrev zbt:Stmt:=zeS (top 27) 0
noncomputable abbrev s_32:Stmt:=top 39
noncomputable abbrev s_29:Stmt:=top 36
noncomputable abbrev s_34:Stmt:=top 41
noncomputable abbrev s_16:Stmt:=top 21
noncomputable abbrev s_20:Stmt:=top 25
noncomputable abbrev s_19:Stmt:=top 24
noncomputable abbrev s_13:Stmt:=top 18
noncomputable abbrev s_17:Stmt:=top 22
noncomputable abbrev s_18:Stmt:=top 23
noncomputable abbrev s_14:Stmt:=top 19
noncomputable abbrev za0:Stmt:=zeS (top 27) 8
noncomputable abbrev zbV:Stmt:=zeS (top 27) 4
noncomputable abbrev za1:Stmt:=zeS (top 27) 9
noncomputable abbrev zbK:Stmt:=zeS (top 27) 10
noncomputable abbrev zbG:Stmt:=zeS (top 27) 1
noncomputable abbrev zb7:Stmt:=zeS (top 27) 2
noncomputable abbrev s_33:Stmt:=top 40
noncomputable abbrev zcb:Stmt:=zeS (top 27) 3
noncomputable abbrev zby:Stmt:=zeS (top 27) 5
noncomputable abbrev s_15:Stmt:=top 20
noncomputable abbrev zb8:Stmt:=zeS (top 27) 6
noncomputable abbrev zaV:Stmt:=zeS (top 27) 11
noncomputable abbrev zaP:Stmt:=zeS (top 27) 7
noncomputable abbrev s_30:Stmt:=top 37
noncomputable abbrev s_28:Stmt:=top 35
noncomputable abbrev s_35:Stmt:=top 42
structure Ad where
 a_0:Addr
 a_1:Addr
 a_2:Addr
 a_3:Addr
 a_4:Addr
 a_5:Addr
 a_6:Addr
 a_7:Addr
 a_21:Addr
 a_22:Addr
 d_22:FuncData
 a_23:Addr
 d_23:FuncData
 a_24:Addr
 d_24:FuncData
 a_25:Addr
 d_25:FuncData
 a_26:Addr
 d_26:FuncData
 a_27:Addr
 d_27:FuncData
 a_31:Addr
 d_31:FuncData
 a_9:Addr
 d_9:FuncData
 a_8:Addr
 d_8:FuncData
 a_10:Addr
 d_10:FuncData
 a_12:Addr
 d_12:FuncData
 a_11:Addr
 d_11:FuncData
 a_Keeper___init__:Addr
 d_Keeper___init__:FuncData
 a_32:Addr
 d_32:FuncData
 a_29:Addr
 d_29:FuncData
 a_34:Addr
 d_34:FuncData
 a_16:Addr
 d_16:FuncData
 a_20:Addr
 d_20:FuncData
 a_19:Addr
 d_19:FuncData
 a_13:Addr
 d_13:FuncData
 a_17:Addr
 d_17:FuncData
 a_18:Addr
 d_18:FuncData
 a_14:Addr
 d_14:FuncData
 a_Keeper_in_order:Addr
 d_Keeper_in_order:FuncData
 a_Keeper_taken:Addr
 d_Keeper_taken:FuncData
 a_Keeper_shares:Addr
 d_Keeper_shares:FuncData
 a_Keeper_room:Addr
 d_Keeper_room:FuncData
 a_Keeper_come:Addr
 d_Keeper_come:FuncData
 a_Keeper_undo:Addr
 d_Keeper_undo:FuncData
 a_33:Addr
 d_33:FuncData
 a_Keeper_came:Addr
 d_Keeper_came:FuncData
 a_Keeper_bears:Addr
 d_Keeper_bears:FuncData
 a_15:Addr
 d_15:FuncData
 a_Keeper_paid:Addr
 d_Keeper_paid:FuncData
 a_Keeper_is_enough:Addr
 d_Keeper_is_enough:FuncData
 a_Keeper_least_kept:Addr
 d_Keeper_least_kept:FuncData
 a_30:Addr
 d_30:FuncData
 a_28:Addr
 d_28:FuncData
 a_35:Addr
 d_35:FuncData
structure Tx (K:W.Frag) (mg:Str->Option Value) (t:Ad):Prop where
 n_all:mg "all"=none
 n_bool:mg "bool"=none
 n_dict:mg "dict"=none
 n_divmod:mg "divmod"=none
 n_enumerate:mg "enumerate"=none
 n_int:mg "int"=none
 n_isinstance:mg "isinstance"=none
 n_len:mg "len"=none
 n_list:mg "list"=none
 n_max:mg "max"=none
 n_min:mg "min"=none
 n_range:mg "range"=none
 n_set:mg "set"=none
 n_sorted:mg "sorted"=none
 n_sum:mg "sum"=none
 n_tuple:mg "tuple"=none
 g_0:mg "CoverError"=some (.ref t.a_0)
 g_1:mg "NoStock"=some (.ref t.a_1)
 g_2:mg "NoOffer"=some (.ref t.a_2)
 g_3:mg "NoThing"=some (.ref t.a_3)
 g_4:mg "NoCover"=some (.ref t.a_4)
 g_5:mg "NoNumber"=some (.ref t.a_5)
 g_6:mg "NotFull"=some (.ref t.a_6)
 g_7:mg "NoRow"=some (.ref t.a_7)
 g_21:mg "Keeper"=some (.ref t.a_21)
 I_21:zmK K "Keeper" t.a_21 ["stock","things","steps"]
 Y_21:Mk K t.a_21 t.a_Keeper___init__
 k_1:zcv K "NoStock" t.a_1
 k_2:zcv K "NoOffer" t.a_2
 k_3:zcv K "NoThing" t.a_3
 k_4:zcv K "NoCover" t.a_4
 k_5:zcv K "NoNumber" t.a_5
 k_6:zcv K "NotFull" t.a_6
 k_7:zcv K "NoRow" t.a_7
 x_exc:zn0 K t.a_0 zdf
 c_MOST_OFFERS: ∃ k,mg "MOST_OFFERS"=some (.int 12 k)
 c_MOST_THINGS: ∃ k,mg "MOST_THINGS"=some (.int 10 k)
 m_22:mg "_law_cell"=some (.ref t.a_22)
 F_22:Fun K "_law_cell" "_law_cell" s_22 t.a_22 t.d_22
 b_22:zav K t.d_22 ["script","k"] []
 m_23:mg "_law_mix"=some (.ref t.a_23)
 F_23:Fun K "_law_mix" "_law_mix" s_23 t.a_23 t.d_23
 b_23:zav K t.d_23 ["cell","k"] []
 m_24:mg "_law_box"=some (.ref t.a_24)
 F_24:Fun K "_law_box" "_law_box" s_24 t.a_24 t.d_24
 b_24:zav K t.d_24 ["script","k"] []
 m_25:mg "_law_take"=some (.ref t.a_25)
 F_25:Fun K "_law_take" "_law_take" s_25 t.a_25 t.d_25
 b_25:zav K t.d_25 ["box","many"] []
 m_26:mg "_law_stock"=some (.ref t.a_26)
 F_26:Fun K "_law_stock" "_law_stock" s_26 t.a_26 t.d_26
 b_26:zav K t.d_26 ["box","most_things","most_offers"] []
 m_27:mg "_law_full"=some (.ref t.a_27)
 F_27:Fun K "_law_full" "_law_full" s_27 t.a_27 t.d_27
 b_27:zav K t.d_27 ["box","most_things","most_offers"] []
 m_31:mg "_law_kind"=some (.ref t.a_31)
 F_31:Fun K "_law_kind" "_law_kind" s_31 t.a_31 t.d_31
 b_31:zav K t.d_31 ["e"] []
 m_9:mg "is_pair"=some (.ref t.a_9)
 F_9:Fun K "is_pair" "is_pair" s_9 t.a_9 t.d_9
 b_9:zav K t.d_9 ["thing"] []
 m_8:mg "is_whole"=some (.ref t.a_8)
 F_8:Fun K "is_whole" "is_whole" s_8 t.a_8 t.d_8
 b_8:zav K t.d_8 ["thing"] []
 m_10:mg "is_rising"=some (.ref t.a_10)
 F_10:Fun K "is_rising" "is_rising" s_10 t.a_10 t.d_10
 b_10:zav K t.d_10 ["thing","bound"] []
 m_12:mg "is_offer"=some (.ref t.a_12)
 F_12:Fun K "is_offer" "is_offer" s_12 t.a_12 t.d_12
 b_12:zav K t.d_12 ["thing","many"] []
 m_11:mg "is_stock"=some (.ref t.a_11)
 F_11:Fun K "is_stock" "is_stock" s_11 t.a_11 t.d_11
 b_11:zav K t.d_11 ["thing"] []
 M_Keeper___init__:zfW K t.a_21 "__init__" t.a_Keeper___init__
 F_Keeper___init__:Fun K "__init__" "Keeper.__init__" zbt t.a_Keeper___init__ t.d_Keeper___init__
 b_Keeper___init__:zav K t.d_Keeper___init__ ["self","stock"] []
 m_32:mg "_law_made"=some (.ref t.a_32)
 F_32:Fun K "_law_made" "_law_made" s_32 t.a_32 t.d_32
 b_32:zav K t.d_32 ["thing"] []
 m_29:mg "_law_odd"=some (.ref t.a_29)
 F_29:Fun K "_law_odd" "_law_odd" s_29 t.a_29 t.d_29
 b_29:zav K t.d_29 ["box"] []
 m_34:mg "_law_no_stock"=some (.ref t.a_34)
 F_34:Fun K "_law_no_stock" "_law_no_stock" s_34 t.a_34 t.d_34
 b_34:zav K t.d_34 ["box","stock"] []
 m_16:mg "need_thing"=some (.ref t.a_16)
 F_16:Fun K "need_thing" "need_thing" s_16 t.a_16 t.d_16
 b_16:zav K t.d_16 ["stock","thing"] []
 m_20:mg "offers_with"=some (.ref t.a_20)
 F_20:Fun K "offers_with" "offers_with" s_20 t.a_20 t.d_20
 b_20:zav K t.d_20 ["stock","thing"] []
 m_19:mg "things_together"=some (.ref t.a_19)
 F_19:Fun K "things_together" "things_together" s_19 t.a_19 t.d_19
 b_19:zav K t.d_19 ["offers"] []
 m_13:mg "is_lot"=some (.ref t.a_13)
 F_13:Fun K "is_lot" "is_lot" s_13 t.a_13 t.d_13
 b_13:zav K t.d_13 ["stock","thing"] []
 m_17:mg "need_lot"=some (.ref t.a_17)
 F_17:Fun K "need_lot" "need_lot" s_17 t.a_17 t.d_17
 b_17:zav K t.d_17 ["stock","lot"] []
 m_18:mg "offers_of"=some (.ref t.a_18)
 F_18:Fun K "offers_of" "offers_of" s_18 t.a_18 t.d_18
 b_18:zav K t.d_18 ["stock","lot"] []
 m_14:mg "things_of"=some (.ref t.a_14)
 F_14:Fun K "things_of" "things_of" s_14 t.a_14 t.d_14
 b_14:zav K t.d_14 ["stock","lot"] []
 M_Keeper_in_order:zfW K t.a_21 "in_order" t.a_Keeper_in_order
 F_Keeper_in_order:Fun K "in_order" "Keeper.in_order" za0 t.a_Keeper_in_order t.d_Keeper_in_order
 b_Keeper_in_order:zav K t.d_Keeper_in_order ["self"] []
 M_Keeper_taken:zfW K t.a_21 "taken" t.a_Keeper_taken
 F_Keeper_taken:Fun K "taken" "Keeper.taken" zbV t.a_Keeper_taken t.d_Keeper_taken
 b_Keeper_taken:zav K t.d_Keeper_taken ["self"] []
 M_Keeper_shares:zfW K t.a_21 "shares" t.a_Keeper_shares
 F_Keeper_shares:Fun K "shares" "Keeper.shares" za1 t.a_Keeper_shares t.d_Keeper_shares
 b_Keeper_shares:zav K t.d_Keeper_shares ["self"] []
 M_Keeper_room:zfW K t.a_21 "room" t.a_Keeper_room
 F_Keeper_room:Fun K "room" "Keeper.room" zbK t.a_Keeper_room t.d_Keeper_room
 b_Keeper_room:zav K t.d_Keeper_room ["self","number"] []
 M_Keeper_come:zfW K t.a_21 "come" t.a_Keeper_come
 F_Keeper_come:Fun K "come" "Keeper.come" zbG t.a_Keeper_come t.d_Keeper_come
 b_Keeper_come:zav K t.d_Keeper_come ["self","thing"] []
 M_Keeper_undo:zfW K t.a_21 "undo" t.a_Keeper_undo
 F_Keeper_undo:Fun K "undo" "Keeper.undo" zb7 t.a_Keeper_undo t.d_Keeper_undo
 b_Keeper_undo:zav K t.d_Keeper_undo ["self"] []
 m_33:mg "_law_said"=some (.ref t.a_33)
 F_33:Fun K "_law_said" "_law_said" s_33 t.a_33 t.d_33
 b_33:zav K t.d_33 ["keeper","deed","thing"] []
 M_Keeper_came:zfW K t.a_21 "came" t.a_Keeper_came
 F_Keeper_came:Fun K "came" "Keeper.came" zcb t.a_Keeper_came t.d_Keeper_came
 b_Keeper_came:zav K t.d_Keeper_came ["self"] []
 M_Keeper_bears:zfW K t.a_21 "bears" t.a_Keeper_bears
 F_Keeper_bears:Fun K "bears" "Keeper.bears" zby t.a_Keeper_bears t.d_Keeper_bears
 b_Keeper_bears:zav K t.d_Keeper_bears ["self"] []
 m_15:mg "price_of"=some (.ref t.a_15)
 F_15:Fun K "price_of" "price_of" s_15 t.a_15 t.d_15
 b_15:zav K t.d_15 ["stock","lot"] []
 M_Keeper_paid:zfW K t.a_21 "paid" t.a_Keeper_paid
 F_Keeper_paid:Fun K "paid" "Keeper.paid" zb8 t.a_Keeper_paid t.d_Keeper_paid
 b_Keeper_paid:zav K t.d_Keeper_paid ["self"] []
 M_Keeper_is_enough:zfW K t.a_21 "is_enough" t.a_Keeper_is_enough
 F_Keeper_is_enough:Fun K "is_enough" "Keeper.is_enough" zaV t.a_Keeper_is_enough t.d_Keeper_is_enough
 b_Keeper_is_enough:zav K t.d_Keeper_is_enough ["self","lot"] []
 M_Keeper_least_kept:zfW K t.a_21 "least_kept" t.a_Keeper_least_kept
 F_Keeper_least_kept:Fun K "least_kept" "Keeper.least_kept" zaP t.a_Keeper_least_kept t.d_Keeper_least_kept
 b_Keeper_least_kept:zav K t.d_Keeper_least_kept ["self"] []
 m_30:mg "_law_told"=some (.ref t.a_30)
 F_30:Fun K "_law_told" "_law_told" s_30 t.a_30 t.d_30
 b_30:zav K t.d_30 ["keeper"] []
 m_28:mg "_law_whole"=some (.ref t.a_28)
 F_28:Fun K "_law_whole" "_law_whole" s_28 t.a_28 t.d_28
 b_28:zav K t.d_28 ["found"] []
 m_35:mg "law"=some (.ref t.a_35)
 F_35:Fun K "law" "law" s_35 t.a_35 t.d_35
 b_35:zav K t.d_35 ["script"] []
section
variable {P:Program} {w:World} {K:W.Frag} {mg:Str->Option Value} {base:Heap} {t:Ad}
theorem sc_22:zap ["script","k"] ["script","k"] (zae s_22):=⟨rfl,rfl,rfl,by decide +kernel,rfl,by decide +kernel,by decide +kernel⟩
theorem ok_22 (T:Tx K mg t):zbh P w K mg base CX0 1 t.a_22 t.d_22 ["script","k"] (zbO K 2 F_22):=by
 refine zbB (k:=0) (G:=G_22) (N:=["script","k"]) (ps:=["script","k"]) (st:=s_22) T.F_22 sc_22 fun cdv A outer s H E hr=> ?_
 refine zaf ?_ ?_
 refine ze1 ?_ ?_ ?_
 refine zbf ?_ ?_ ?_
 exact zh5
 exact zad 1
 refine za3 (id:="len") ?_ ?_ ?_ ?_
 exact zbm
 exact zdl
 exact T.n_len
 refine zaa ?_ ?_
 exact zad 0
 exact zac
 refine zam ?_
 refine zaS ?_
 refine zdb ?_ ?_
 exact zad 0
 exact zad 1
 exact zbp
 refine zam ?_
 refine zaS ?_
 refine zdc ?_ ?_ ?_
 exact zaW
 refine zdc ?_ ?_ ?_
 exact zlG
 exact zaj
 exact zad 1
 exact zaj
theorem nd_23:(["cell","k","number"]:List Str).Nodup:=by decide +kernel
theorem sc_23:zap ["cell","k","number"] ["cell","k"] (zae s_23):=⟨rfl,rfl,rfl,by decide +kernel,rfl,by decide +kernel,by decide +kernel⟩
theorem ok_23 (T:Tx K mg t):zbh P w K mg base CX0 1 t.a_23 t.d_23 ["cell","k"] (zbO K 2 F_23):=by
 refine zbB (k:=0) (G:=G_23) (N:=["cell","k","number"]) (ps:=["cell","k"]) (st:=s_23) T.F_23 sc_23 fun cdv A outer s H E hr=> ?_
 refine zaf ?_ ?_
 refine zaR 2 ?_ ?_
 exact nd_23
 refine zdc ?_ ?_ ?_
 exact zaW
 refine zdc ?_ ?_ ?_
 exact zfg
 refine zdc ?_ ?_ ?_
 exact zaW
 exact zad 0
 exact zaj
 exact zaj
 refine zdc ?_ ?_ ?_
 exact zfg
 exact zaj
 exact zad 1
 refine zaf ?_ ?_
 refine zaR 2 ?_ ?_
 exact nd_23
 refine zdc ?_ ?_ ?_
 exact zaW
 refine zdc ?_ ?_ ?_
 exact ziQ
 refine zdc ?_ ?_ ?_
 exact zfg
 exact zad 2
 exact zad 2
 exact zaj
 exact zad 1
 refine zam ?_
 refine zaS ?_
 refine zdc ?_ ?_ ?_
 exact ziQ
 refine zdc ?_ ?_ ?_
 exact zfg
 exact zad 2
 refine zdc ?_ ?_ ?_
 exact zaW
 exact zad 2
 exact zaj
 exact zaj
theorem nd_24:(["script","k","here","number","j"]:List Str).Nodup:=by decide +kernel
theorem sc_24:zap ["script","k","here","number","j"] ["script","k"] (zae s_24):=⟨rfl,rfl,rfl,by decide +kernel,rfl,by decide +kernel,by decide +kernel⟩
theorem ok_24 (T:Tx K mg t):zbh P w K mg base CX0 2 t.a_24 t.d_24 ["script","k"] (zbO K 2 F_24):=by
 have G_22:=ok_22 (P:=P) (w:=w) (base:=base) T
 have G_23:=ok_23 (P:=P) (w:=w) (base:=base) T
 refine zbB (k:=1) (G:=G_24) (N:=["script","k","here","number","j"]) (ps:=["script","k"]) (st:=s_24) T.F_24 sc_24 fun cdv A outer s H E hr=> ?_
 refine zaf ?_ ?_
 refine zaR 2 ?_ ?_
 exact nd_24
 refine zaD (k:=1) (g:=t.a_22) (fd:=t.d_22) (ps:=["script","k"]) ?_ ?_ ?_ ?_ ?_ ?_
 exact G_22
 exact (hr.mono (by decide))
 exact T.m_22
 exact T.F_22.kp
 exact T.b_22
 refine zaa ?_ ?_
 exact zad 0
 refine zaa ?_ ?_
 exact zad 1
 exact zac
 refine zaf ?_ ?_
 refine ze1 ?_ ?_ ?_
 refine zbf ?_ ?_ ?_
 exact (ze7 (zgN hr))
 refine zdc ?_ ?_ ?_
 exact ziQ
 exact zad 2
 exact zaj
 exact zaj
 refine zam ?_
 refine zaS ?_
 refine zgl ?_
 refine zaa ?_ ?_
 refine zdc ?_ ?_ ?_
 exact zmS
 exact zad 2
 exact zaj
 exact zac
 exact zbp
 refine zaf ?_ ?_
 refine zaR 3 ?_ ?_
 exact nd_24
 exact zaj
 refine zaf ?_ ?_
 refine ziZ ?_ ?_ ?_ ?_ ?_
 exact rfl
 exact PassesOwn.never
 refine zkd ?_ ?_
 exact T.n_range
 refine zaa ?_ ?_
 exact zaj
 exact zac
 exact zaB 4 nd_24
 refine zam ?_
 refine zaR 3 ?_ ?_
 exact nd_24
 refine zdc ?_ ?_ ?_
 exact zaW
 refine zdc ?_ ?_ ?_
 exact zfg
 exact zad 3
 exact zaj
 refine zaD (k:=1) (g:=t.a_23) (fd:=t.d_23) (ps:=["cell","k"]) ?_ ?_ ?_ ?_ ?_ ?_
 exact G_23
 exact (hr.mono (by decide))
 exact T.m_23
 exact T.F_23.kp
 exact T.b_23
 refine zaa ?_ ?_
 exact zad 2
 refine zaa ?_ ?_
 exact zad 4
 exact zac
 refine zam ?_
 refine zaS ?_
 refine zgl ?_
 refine zaa ?_ ?_
 exact zad 3
 exact zac
theorem nd_25:(["box","many","left","digit"]:List Str).Nodup:=by decide +kernel
theorem sc_25:zap ["box","many","left","digit"] ["box","many"] (zae s_25):=⟨rfl,rfl,rfl,by decide +kernel,rfl,by decide +kernel,by decide +kernel⟩
theorem ok_25 (T:Tx K mg t):zbh P w K mg base CX0 1 t.a_25 t.d_25 ["box","many"] (zbO K 2 F_25):=by
 refine zbB (k:=0) (G:=G_25) (N:=["box","many","left","digit"]) (ps:=["box","many"]) (st:=s_25) T.F_25 sc_25 fun cdv A outer s H E hr=> ?_
 refine zaf ?_ ?_
 refine znA ?_ ?_
 refine za3 (id:="divmod") ?_ ?_ ?_ ?_
 exact zhC
 exact zmc
 exact T.n_divmod
 refine zaa ?_ ?_
 refine zdb ?_ ?_
 exact zad 0
 exact zaj
 refine zaa ?_ ?_
 exact zad 1
 exact zac
 refine zjD ?_ ?_
 exact rfl
 refine zcs ?_ ?_
 exact zaB 2 nd_25
 refine zcs ?_ ?_
 exact zaB 3 nd_25
 exact zhe
 refine zaf ?_ ?_
 refine znA ?_ ?_
 exact zad 2
 refine zrM ?_ ?_
 exact zad 0
 exact zaj
 refine zam ?_
 refine zaS ?_
 exact zad 3
theorem nd_26:(["box","most_things","most_offers","many","kind","full","offers","turn","things"]:List Str).Nodup:=by decide +kernel
theorem zuv:(["thing","box","full"]:List Str).Nodup:=by decide +kernel
theorem sc_26:zap ["box","most_things","most_offers","many","kind","full","offers","turn","things"] ["box","most_things","most_offers"] (zae s_26):=⟨rfl,rfl,rfl,by decide +kernel,rfl,by decide +kernel,by decide +kernel⟩
theorem ok_26 (T:Tx K mg t):zbh P w K mg base CX0 2 t.a_26 t.d_26 ["box","most_things","most_offers"] (zbO K 3 F_26):=by
 have G_25:=ok_25 (P:=P) (w:=w) (base:=base) T
 refine zbB (k:=1) (G:=G_26) (N:=["box","most_things","most_offers","many","kind","full","offers","turn","things"]) (ps:=["box","most_things","most_offers"]) (st:=s_26) T.F_26 sc_26 fun cdv A outer s H E hr=> ?_
 refine zaf ?_ ?_
 refine zaR 3 ?_ ?_
 exact nd_26
 refine zdc ?_ ?_ ?_
 exact zaW
 exact zaj
 refine zaD (k:=1) (g:=t.a_25) (fd:=t.d_25) (ps:=["box","many"]) ?_ ?_ ?_ ?_ ?_ ?_
 exact G_25
 exact (hr.mono (by decide))
 exact T.m_25
 exact T.F_25.kp
 exact T.b_25
 refine zaa ?_ ?_
 exact zad 0
 refine zaa ?_ ?_
 exact zad 1
 exact zac
 refine zaf ?_ ?_
 refine zaR 4 ?_ ?_
 exact nd_26
 refine zdb ?_ ?_
 refine zcK ?_
 refine zaa ?_ ?_
 exact zaj
 refine zaa ?_ ?_
 exact zaj
 refine zaa ?_ ?_
 exact zaj
 refine zaa ?_ ?_
 refine zdc ?_ ?_ ?_
 exact zmn
 exact zaj
 exact zaj
 exact zac
 refine zaD (k:=1) (g:=t.a_25) (fd:=t.d_25) (ps:=["box","many"]) ?_ ?_ ?_ ?_ ?_ ?_
 exact G_25
 exact (hr.mono (by decide))
 exact T.m_25
 exact T.F_25.kp
 exact T.b_25
 refine zaa ?_ ?_
 exact zad 0
 refine zaa ?_ ?_
 exact zaj
 exact zac
 refine zaf ?_ ?_
 refine zaR 5 ?_ ?_
 exact nd_26
 refine zaD (k:=1) (g:=t.a_25) (fd:=t.d_25) (ps:=["box","many"]) ?_ ?_ ?_ ?_ ?_ ?_
 exact G_25
 exact (hr.mono (by decide))
 exact T.m_25
 exact T.F_25.kp
 exact T.b_25
 refine zaa ?_ ?_
 exact zad 0
 refine zaa ?_ ?_
 exact zaj
 exact zac
 refine zaf ?_ ?_
 refine zaR 6 ?_ ?_
 exact nd_26
 refine zgl ?_
 exact zac
 refine zaf ?_ ?_
 refine ziZ ?_ ?_ ?_ ?_ ?_
 exact rfl
 exact PassesOwn.never
 refine zkd ?_ ?_
 exact T.n_range
 refine zaa ?_ ?_
 refine zaD (k:=1) (g:=t.a_25) (fd:=t.d_25) (ps:=["box","many"]) ?_ ?_ ?_ ?_ ?_ ?_
 exact G_25
 exact (hr.mono (by decide))
 exact T.m_25
 exact T.F_25.kp
 exact T.b_25
 refine zaa ?_ ?_
 exact zad 0
 refine zaa ?_ ?_
 refine zdc ?_ ?_ ?_
 exact zaW
 exact zad 2
 exact zaj
 exact zac
 exact zac
 exact zaB 7 nd_26
 refine zaf ?_ ?_
 refine zl3 8 (N:=["thing","box","full"]) ?_ ?_ ?_ ?_ ?_ ?_ ?_ ?_
 exact rfl
 exact nd_26
 exact (BOk.of (Xn:=(zae s_26).names) (XN:=["box","most_things","most_offers","many","kind","full","offers","turn","things"]) rfl rfl rfl (by decide +kernel))
 exact (zaY.name (i:=0) rfl)
 refine zkd ?_ ?_
 exact T.n_range
 refine zaa ?_ ?_
 exact zad 3
 exact zac
 intro _ _ _
 exact zaB 0 zuv
 intro _ _ _
 refine zia ?_
 refine zbf ?_ ?_ ?_
 exact zpb
 refine zaD (k:=1) (g:=t.a_25) (fd:=t.d_25) (ps:=["box","many"]) ?_ ?_ ?_ ?_ ?_ ?_
 exact G_25
 exact (hr.mono (by decide))
 exact T.m_25
 exact T.F_25.kp
 exact T.b_25
 refine zaa ?_ ?_
 exact zad 1
 refine zaa ?_ ?_
 exact zaj
 exact zac
 exact zad 2
 intro _ _ _
 exact zad 0
 refine zaf ?_ ?_
 refine ze1 ?_ ?_ ?_
 refine zbf ?_ ?_ ?_
 exact (ze7 (zgN hr))
 exact zad 8
 refine zcK ?_
 exact zac
 refine zam ?_
 refine zaR 8 ?_ ?_
 exact nd_26
 refine zcK ?_
 refine zaa ?_ ?_
 refine zaD (k:=1) (g:=t.a_25) (fd:=t.d_25) (ps:=["box","many"]) ?_ ?_ ?_ ?_ ?_ ?_
 exact G_25
 exact (hr.mono (by decide))
 exact T.m_25
 exact T.F_25.kp
 exact T.b_25
 refine zaa ?_ ?_
 exact zad 0
 refine zaa ?_ ?_
 exact zad 3
 exact zac
 exact zac
 exact zbp
 refine zam ?_
 refine zcI ?_
 refine zgy ?_ ?_
 exact zad 6
 refine zaw ?_
 refine zaa ?_ ?_
 refine zbI (T:="tuple") ?_ ?_ ?_ ?_
 exact zbn
 exact zbM
 exact T.n_tuple
 refine zaa ?_ ?_
 exact zad 8
 exact zac
 refine zaa ?_ ?_
 refine zdc ?_ ?_ ?_
 exact zaW
 exact zaj
 refine zaD (k:=1) (g:=t.a_25) (fd:=t.d_25) (ps:=["box","many"]) ?_ ?_ ?_ ?_ ?_ ?_
 exact G_25
 exact (hr.mono (by decide))
 exact T.m_25
 exact T.F_25.kp
 exact T.b_25
 refine zaa ?_ ?_
 exact zad 0
 refine zaa ?_ ?_
 exact zad 4
 exact zac
 exact zac
 refine zam ?_
 refine zaS ?_
 refine zaw ?_
 refine zaa ?_ ?_
 exact zad 3
 refine zaa ?_ ?_
 refine zbI (T:="tuple") ?_ ?_ ?_ ?_
 exact zbn
 exact zbM
 exact T.n_tuple
 refine zaa ?_ ?_
 exact zad 6
 exact zac
 exact zac
theorem nd_27:(["box","most_things","most_offers","many","offers","left","at"]:List Str).Nodup:=by decide +kernel
theorem ztC:(["thing","offers"]:List Str).Nodup:=by decide +kernel
theorem zuG:(["one","thing"]:List Str).Nodup:=by decide +kernel
theorem sc_27:zap ["box","most_things","most_offers","many","offers","left","at"] ["box","most_things","most_offers"] (zae s_27):=⟨rfl,rfl,rfl,by decide +kernel,rfl,by decide +kernel,by decide +kernel⟩
theorem ok_27 (T:Tx K mg t):zbh P w K mg base CX0 3 t.a_27 t.d_27 ["box","most_things","most_offers"] (zbO K 3 F_27):=by
 have G_26:=ok_26 (P:=P) (w:=w) (base:=base) T
 have G_25:=ok_25 (P:=P) (w:=w) (base:=base) T
 refine zbB (k:=2) (G:=G_27) (N:=["box","most_things","most_offers","many","offers","left","at"]) (ps:=["box","most_things","most_offers"]) (st:=s_27) T.F_27 sc_27 fun cdv A outer s H E hr=> ?_
 refine zaf ?_ ?_
 refine znA ?_ ?_
 refine zaD (k:=2) (g:=t.a_26) (fd:=t.d_26) (ps:=["box","most_things","most_offers"]) ?_ ?_ ?_ ?_ ?_ ?_
 exact G_26
 exact (hr.mono (by decide))
 exact T.m_26
 exact T.F_26.kp
 exact T.b_26
 refine zaa ?_ ?_
 exact zad 0
 refine zaa ?_ ?_
 exact zad 1
 refine zaa ?_ ?_
 refine zdc ?_ ?_ ?_
 exact zmE
 exact zad 2
 exact zaj
 exact zac
 refine zjD ?_ ?_
 exact rfl
 refine zcs ?_ ?_
 exact zaB 3 nd_27
 refine zcs ?_ ?_
 exact zaB 4 nd_27
 exact zhe
 refine zaf ?_ ?_
 refine zaR 5 ?_ ?_
 exact nd_27
 refine zbI (T:="tuple") ?_ ?_ ?_ ?_
 exact zbn
 exact zbM
 exact T.n_tuple
 refine zaa ?_ ?_
 refine zc5 (N:=["thing","offers"]) ?_ ?_ ?_ ?_ ?_ ?_ ?_
 exact rfl
 exact (BOk.of (Xn:=(zae s_27).names) (XN:=["box","most_things","most_offers","many","offers","left","at"]) rfl rfl rfl (by decide +kernel))
 exact (zaY.name (i:=0) rfl)
 refine zkd ?_ ?_
 exact T.n_range
 refine zaa ?_ ?_
 exact zad 3
 exact zac
 intro _ _ _
 exact zaB 0 ztC
 intro _ _ _
 refine zia ?_
 refine zbf ?_ ?_ ?_
 exact (ze7 (zgN hr))
 refine zc5 (N:=["one","thing"]) ?_ ?_ ?_ ?_ ?_ ?_ ?_
 exact rfl
 exact (BOk.of (N:=["one","thing"]) (src:=[none,some 0]) rfl rfl rfl (by rfl))
 exact (zaY.name (i:=0) rfl)
 refine zeo ?_
 exact zad 1
 intro _ _ _
 exact zaB 0 zuG
 intro _ _ _
 refine zia ?_
 refine zbf ?_ ?_ ?_
 exact (zlt (zgN hr))
 exact zad 1
 refine zdb ?_ ?_
 exact zad 0
 exact zaj
 intro _ _ _
 exact zad 0
 refine zcK ?_
 exact zac
 intro _ _ _
 exact zad 0
 exact zac
 refine zaf ?_ ?_
 refine zaR 6 ?_ ?_
 exact nd_27
 refine zaD (k:=1) (g:=t.a_25) (fd:=t.d_25) (ps:=["box","many"]) ?_ ?_ ?_ ?_ ?_ ?_
 exact G_25
 exact (hr.mono (by decide))
 exact T.m_25
 exact T.F_25.kp
 exact T.b_25
 refine zaa ?_ ?_
 exact zad 0
 refine zaa ?_ ?_
 refine zdc ?_ ?_ ?_
 exact zaW
 refine za3 (id:="len") ?_ ?_ ?_ ?_
 exact zbm
 exact zdl
 exact T.n_len
 refine zaa ?_ ?_
 exact zad 4
 exact zac
 exact zaj
 exact zac
 refine zaf ?_ ?_
 refine ze1 ?_ ?_ ?_
 refine zbf ?_ ?_ ?_
 exact (zfJ (zgN hr))
 exact zad 5
 refine zaw ?_
 exact zac
 refine zam ?_
 refine zaR 4 ?_ ?_
 exact nd_27
 refine zdc ?_ ?_ ?_
 exact zaW
 refine zdc ?_ ?_ ?_
 exact zaW
 refine zeW ?_ ?_ ?_
 exact zad 4
 exact zg7
 refine zhc ?_
 exact zad 6
 refine zaw ?_
 refine zaa ?_ ?_
 refine zaw ?_
 refine zaa ?_ ?_
 exact zad 5
 refine zaa ?_ ?_
 refine zdc ?_ ?_ ?_
 exact zaW
 exact zaj
 refine zaD (k:=1) (g:=t.a_25) (fd:=t.d_25) (ps:=["box","many"]) ?_ ?_ ?_ ?_ ?_ ?_
 exact G_25
 exact (hr.mono (by decide))
 exact T.m_25
 exact T.F_25.kp
 exact T.b_25
 refine zaa ?_ ?_
 exact zad 0
 refine zaa ?_ ?_
 exact zaj
 exact zac
 exact zac
 exact zac
 refine zeW ?_ ?_ ?_
 exact zad 4
 refine zhc ?_
 exact zad 6
 exact zg7
 exact zbp
 refine zam ?_
 refine zaS ?_
 refine zaw ?_
 refine zaa ?_ ?_
 exact zad 3
 refine zaa ?_ ?_
 exact zad 4
 exact zac
theorem nd_31:(["e","kinds"]:List Str).Nodup:=by decide +kernel
theorem sc_31:zap ["e","kinds"] ["e"] (zae s_31):=⟨rfl,rfl,rfl,by decide +kernel,rfl,by decide +kernel,by decide +kernel⟩
theorem ok_31 (T:Tx K mg t):FnH P w K mg base  1 t.a_31 t.d_31 ["e"] (zbO K 1 F_31):=by
 refine zr5 (k:=0) (G:=G_31) (N:=["e","kinds"]) (ps:=["e"]) (st:=s_31) T.F_31 sc_31 fun cdv A outer s H hr=> ?_
 refine zaf ?_ ?_
 refine zaR 1 ?_ ?_
 exact nd_31
 refine zcK ?_
 refine zaa ?_ ?_
 refine zix (CE:=t.a_0) (CC:=t.a_5) ?_ ?_ ?_ ?_ ?_ ?_
 exact T.x_exc
 exact (by decide +kernel)
 exact T.k_5
 exact T.n_isinstance
 exact T.g_5
 exact zad 0
 refine zaa ?_ ?_
 refine zix (CE:=t.a_0) (CC:=t.a_4) ?_ ?_ ?_ ?_ ?_ ?_
 exact T.x_exc
 exact (by decide +kernel)
 exact T.k_4
 exact T.n_isinstance
 exact T.g_4
 exact zad 0
 refine zaa ?_ ?_
 refine zix (CE:=t.a_0) (CC:=t.a_6) ?_ ?_ ?_ ?_ ?_ ?_
 exact T.x_exc
 exact (by decide +kernel)
 exact T.k_6
 exact T.n_isinstance
 exact T.g_6
 exact zad 0
 refine zaa ?_ ?_
 refine zix (CE:=t.a_0) (CC:=t.a_2) ?_ ?_ ?_ ?_ ?_ ?_
 exact T.x_exc
 exact (by decide +kernel)
 exact T.k_2
 exact T.n_isinstance
 exact T.g_2
 exact zad 0
 exact zac
 refine zaf ?_ ?_
 refine zaR 1 ?_ ?_
 exact nd_31
 refine zdc ?_ ?_ ?_
 exact zaW
 exact zad 1
 refine zcK ?_
 refine zaa ?_ ?_
 refine zix (CE:=t.a_0) (CC:=t.a_3) ?_ ?_ ?_ ?_ ?_ ?_
 exact T.x_exc
 exact (by decide +kernel)
 exact T.k_3
 exact T.n_isinstance
 exact T.g_3
 exact zad 0
 refine zaa ?_ ?_
 refine zix (CE:=t.a_0) (CC:=t.a_1) ?_ ?_ ?_ ?_ ?_ ?_
 exact T.x_exc
 exact (by decide +kernel)
 exact T.k_1
 exact T.n_isinstance
 exact T.g_1
 exact zad 0
 refine zaa ?_ ?_
 refine zix (CE:=t.a_0) (CC:=t.a_7) ?_ ?_ ?_ ?_ ?_ ?_
 exact T.x_exc
 exact (by decide +kernel)
 exact T.k_7
 exact T.n_isinstance
 exact T.g_7
 exact zad 0
 refine zaa ?_ ?_
 exact zgz
 exact zac
 refine zam ?_
 refine zaS ?_
 refine zdb ?_ ?_
 refine zcK ?_
 refine zaa ?_ ?_
 exact zbX
 refine zaa ?_ ?_
 exact zbX
 refine zaa ?_ ?_
 exact zbX
 refine zaa ?_ ?_
 exact zbX
 refine zaa ?_ ?_
 exact zbX
 refine zaa ?_ ?_
 exact zbX
 refine zaa ?_ ?_
 exact zbX
 refine zaa ?_ ?_
 exact zbX
 exact zac
 refine zp7 ?_
 exact zad 1
theorem sc_9:zap ["thing"] ["thing"] (zae s_9):=⟨rfl,rfl,rfl,by decide +kernel,rfl,by decide +kernel,by decide +kernel⟩
theorem ok_9 (T:Tx K mg t):zbh P w K mg base CX0 1 t.a_9 t.d_9 ["thing"] (zbO K 1 F_9):=by
 refine zbB (k:=0) (G:=G_9) (N:=["thing"]) (ps:=["thing"]) (st:=s_9) T.F_9 sc_9 fun cdv A outer s H E hr=> ?_
 refine zam ?_
 refine zaS ?_
 refine zkn ?_ ?_
 refine zis ?_ ?_ ?_ ?_ ?_
 exact zfz
 exact zbM
 exact T.n_isinstance
 exact T.n_tuple
 exact zad 0
 refine znh ?_
 refine zmr ?_ ?_ ?_
 exact (ze7 (zgN hr))
 refine za3 (id:="len") ?_ ?_ ?_ ?_
 exact zbm
 exact zdl
 exact T.n_len
 refine zaa ?_ ?_
 exact zad 0
 exact zac
 exact zaj
theorem sc_8:zap ["thing"] ["thing"] (zae s_8):=⟨rfl,rfl,rfl,by decide +kernel,rfl,by decide +kernel,by decide +kernel⟩
theorem ok_8 (T:Tx K mg t):zbh P w K mg base CX0 1 t.a_8 t.d_8 ["thing"] (zbO K 1 F_8):=by
 refine zbB (k:=0) (G:=G_8) (N:=["thing"]) (ps:=["thing"]) (st:=s_8) T.F_8 sc_8 fun cdv A outer s H E hr=> ?_
 refine zam ?_
 refine zaS ?_
 refine zkn ?_ ?_
 refine zis ?_ ?_ ?_ ?_ ?_
 exact zmA
 exact zoE
 exact T.n_isinstance
 exact T.n_int
 exact zad 0
 refine znh ?_
 refine zrJ ?_
 refine zis ?_ ?_ ?_ ?_ ?_
 exact zjy
 exact zmu
 exact T.n_isinstance
 exact T.n_bool
 exact zad 0
theorem nd_10:(["thing","bound","least","number"]:List Str).Nodup:=by decide +kernel
theorem sc_10:zap ["thing","bound","least","number"] ["thing","bound"] (zae s_10):=⟨rfl,rfl,rfl,by decide +kernel,rfl,by decide +kernel,by decide +kernel⟩
theorem ok_10 (T:Tx K mg t):zbh P w K mg base CX0 2 t.a_10 t.d_10 ["thing","bound"] (zbO K 2 F_10):=by
 have G_8:=ok_8 (P:=P) (w:=w) (base:=base) T
 refine zbB (k:=1) (G:=G_10) (N:=["thing","bound","least","number"]) (ps:=["thing","bound"]) (st:=s_10) T.F_10 sc_10 fun cdv A outer s H E hr=> ?_
 refine zaf ?_ ?_
 refine ze1 ?_ ?_ ?_
 refine zcP ?_
 refine zdr ?_
 refine zis ?_ ?_ ?_ ?_ ?_
 exact zfz
 exact zbM
 exact T.n_isinstance
 exact T.n_tuple
 exact zad 0
 refine zam ?_
 refine zaS ?_
 exact zgz
 exact zbp
 refine zaf ?_ ?_
 refine zaR 2 ?_ ?_
 exact nd_10
 exact zaj
 refine zaf ?_ ?_
 refine ziZ ?_ ?_ ?_ ?_ ?_
 exact rfl
 exact PassesOwn.never
 refine zeo ?_
 exact zad 0
 exact zaB 3 nd_10
 refine zaf ?_ ?_
 refine ze1 ?_ ?_ ?_
 refine zdS ?_
 refine zgM ?_ ?_
 refine zcP ?_
 refine zdr ?_
 refine zaD (k:=1) (g:=t.a_8) (fd:=t.d_8) (ps:=["thing"]) ?_ ?_ ?_ ?_ ?_ ?_
 exact G_8
 exact (hr.mono (by decide))
 exact T.m_8
 exact T.F_8.kp
 exact T.b_8
 refine zaa ?_ ?_
 exact zad 3
 exact zac
 refine zgM ?_ ?_
 refine zbf ?_ ?_ ?_
 exact zh5
 exact zad 3
 exact zad 2
 refine zgf ?_
 refine zbf ?_ ?_ ?_
 exact zoU
 exact zad 3
 exact zad 1
 refine zam ?_
 refine zaS ?_
 exact zgz
 exact zbp
 refine zam ?_
 refine zaR 2 ?_ ?_
 exact nd_10
 refine zdc ?_ ?_ ?_
 exact zaW
 exact zad 3
 exact zaj
 refine zam ?_
 refine zaS ?_
 exact zgz
theorem nd_12:(["thing","many","things","price"]:List Str).Nodup:=by decide +kernel
theorem sc_12:zap ["thing","many","things","price"] ["thing","many"] (zae s_12):=⟨rfl,rfl,rfl,by decide +kernel,rfl,by decide +kernel,by decide +kernel⟩
theorem ok_12 (T:Tx K mg t):zbh P w K mg base CX0 3 t.a_12 t.d_12 ["thing","many"] (zbO K 2 F_12):=by
 have G_9:=ok_9 (P:=P) (w:=w) (base:=base) T
 have G_8:=ok_8 (P:=P) (w:=w) (base:=base) T
 have G_10:=ok_10 (P:=P) (w:=w) (base:=base) T
 refine zbB (k:=2) (G:=G_12) (N:=["thing","many","things","price"]) (ps:=["thing","many"]) (st:=s_12) T.F_12 sc_12 fun cdv A outer s H E hr=> ?_
 refine zaf ?_ ?_
 refine ze1 ?_ ?_ ?_
 refine zcP ?_
 refine zdr ?_
 refine zaD (k:=1) (g:=t.a_9) (fd:=t.d_9) (ps:=["thing"]) ?_ ?_ ?_ ?_ ?_ ?_
 exact G_9
 exact (hr.mono (by decide))
 exact T.m_9
 exact T.F_9.kp
 exact T.b_9
 refine zaa ?_ ?_
 exact zad 0
 exact zac
 refine zam ?_
 refine zaS ?_
 exact zgz
 exact zbp
 refine zaf ?_ ?_
 refine zaR 2 ?_ ?_
 exact nd_12
 refine zdb ?_ ?_
 exact zad 0
 exact zaj
 refine zaf ?_ ?_
 refine zaR 3 ?_ ?_
 exact nd_12
 refine zdb ?_ ?_
 exact zad 0
 exact zaj
 refine zam ?_
 refine zaS ?_
 refine zkn ?_ ?_
 refine zaD (k:=2) (g:=t.a_10) (fd:=t.d_10) (ps:=["thing","bound"]) ?_ ?_ ?_ ?_ ?_ ?_
 exact G_10
 exact (hr.mono (by decide))
 exact T.m_10
 exact T.F_10.kp
 exact T.b_10
 refine zaa ?_ ?_
 exact zad 2
 refine zaa ?_ ?_
 exact zad 1
 exact zac
 refine zkn ?_ ?_
 refine zmr ?_ ?_ ?_
 exact zjv
 refine za3 (id:="len") ?_ ?_ ?_ ?_
 exact zbm
 exact zdl
 exact T.n_len
 refine zaa ?_ ?_
 exact zad 2
 exact zac
 exact zaj
 refine zkn ?_ ?_
 refine zaD (k:=1) (g:=t.a_8) (fd:=t.d_8) (ps:=["thing"]) ?_ ?_ ?_ ?_ ?_ ?_
 exact G_8
 exact (hr.mono (by decide))
 exact T.m_8
 exact T.F_8.kp
 exact T.b_8
 refine zaa ?_ ?_
 exact zad 3
 exact zac
 refine znh ?_
 refine zmr ?_ ?_ ?_
 exact zjv
 exact zad 3
 exact zaj
theorem nd_11:(["thing","many","offers"]:List Str).Nodup:=by decide +kernel
theorem zt2:(["offer","many"]:List Str).Nodup:=by decide +kernel
theorem sc_11:zap ["thing","many","offers"] ["thing"] (zae s_11):=⟨rfl,rfl,rfl,by decide +kernel,rfl,by decide +kernel,by decide +kernel⟩
theorem ok_11 (T:Tx K mg t):zbh P w K mg base CX0 4 t.a_11 t.d_11 ["thing"] (zbO K 1 F_11):=by
 have G_9:=ok_9 (P:=P) (w:=w) (base:=base) T
 have G_8:=ok_8 (P:=P) (w:=w) (base:=base) T
 have G_12:=ok_12 (P:=P) (w:=w) (base:=base) T
 refine zbB (k:=3) (G:=G_11) (N:=["thing","many","offers"]) (ps:=["thing"]) (st:=s_11) T.F_11 sc_11 fun cdv A outer s H E hr=> ?_
 refine zaf ?_ ?_
 refine ze1 ?_ ?_ ?_
 refine zcP ?_
 refine zdr ?_
 refine zaD (k:=1) (g:=t.a_9) (fd:=t.d_9) (ps:=["thing"]) ?_ ?_ ?_ ?_ ?_ ?_
 exact G_9
 exact (hr.mono (by decide))
 exact T.m_9
 exact T.F_9.kp
 exact T.b_9
 refine zaa ?_ ?_
 exact zad 0
 exact zac
 refine zam ?_
 refine zaS ?_
 exact zgz
 exact zbp
 refine zaf ?_ ?_
 refine zaR 1 ?_ ?_
 exact nd_11
 refine zdb ?_ ?_
 exact zad 0
 exact zaj
 refine zaf ?_ ?_
 refine zaR 2 ?_ ?_
 exact nd_11
 refine zdb ?_ ?_
 exact zad 0
 exact zaj
 refine zaf ?_ ?_
 refine ze1 ?_ ?_ ?_
 refine zdS ?_
 refine zgM ?_ ?_
 refine zcP ?_
 refine zdr ?_
 refine zaD (k:=1) (g:=t.a_8) (fd:=t.d_8) (ps:=["thing"]) ?_ ?_ ?_ ?_ ?_ ?_
 exact G_8
 exact (hr.mono (by decide))
 exact T.m_8
 exact T.F_8.kp
 exact T.b_8
 refine zaa ?_ ?_
 exact zad 1
 exact zac
 refine zgM ?_ ?_
 refine zbf ?_ ?_ ?_
 exact zh5
 exact zad 1
 exact zaj
 refine zgf ?_
 refine zbf ?_ ?_ ?_
 exact zjv
 exact zad 1
 exact zkT T.c_MOST_THINGS
 refine zam ?_
 refine zaS ?_
 exact zgz
 exact zbp
 refine zaf ?_ ?_
 refine ze1 ?_ ?_ ?_
 refine zdS ?_
 refine zgM ?_ ?_
 refine zcP ?_
 refine zdr ?_
 refine zis ?_ ?_ ?_ ?_ ?_
 exact zfz
 exact zbM
 exact T.n_isinstance
 exact T.n_tuple
 exact zad 2
 refine zgf ?_
 refine zbf ?_ ?_ ?_
 exact zjv
 refine za3 (id:="len") ?_ ?_ ?_ ?_
 exact zbm
 exact zdl
 exact T.n_len
 refine zaa ?_ ?_
 exact zad 2
 exact zac
 exact zkT T.c_MOST_OFFERS
 refine zam ?_
 refine zaS ?_
 exact zgz
 exact zbp
 refine zam ?_
 refine zaS ?_
 refine za3 (id:="all") ?_ ?_ ?_ ?_
 exact (zhE rfl)
 exact zo6
 exact T.n_all
 refine zaa ?_ ?_
 refine zc5 (N:=["offer","many"]) ?_ ?_ ?_ ?_ ?_ ?_ ?_
 exact rfl
 exact (BOk.of (Xn:=(zae s_11).names) (XN:=["thing","many","offers"]) rfl rfl rfl (by decide +kernel))
 exact (zaY.name (i:=0) rfl)
 refine zeo ?_
 exact zad 2
 intro _ _ _
 exact zaB 0 zt2
 intro _ _ _
 exact zdG
 intro _ _ _
 refine zaD (k:=3) (g:=t.a_12) (fd:=t.d_12) (ps:=["thing","many"]) ?_ ?_ ?_ ?_ ?_ ?_
 exact G_12
 exact (hr.mono (by decide))
 exact T.m_12
 exact T.F_12.kp
 exact T.b_12
 refine zaa ?_ ?_
 exact zad 0
 refine zaa ?_ ?_
 exact zad 1
 exact zac
 exact zac
theorem zef:zap ["self","stock"] ["self","stock"] (zae zbt):=⟨rfl,rfl,rfl,by decide +kernel,rfl,by decide +kernel,by decide +kernel⟩
theorem zcp (T:Tx K mg t):zbh P w K mg base (CXE P w) 5 t.a_Keeper___init__ t.d_Keeper___init__ ["self","stock"] (spE K 2 F_Keeper___init__):=by
 have G_11:=ok_11 (P:=P) (w:=w) (base:=base) T
 refine ze3 (k:=4) (G:=zas) (N:=["self","stock"]) (ps:=["self","stock"]) (st:=zbt) T.F_Keeper___init__ zef fun cdv A outer s H E hr=> ?_
 refine zaf ?_ ?_
 refine ze1 ?_ ?_ ?_
 refine zcP ?_
 refine zdr ?_
 refine zfj (k:=4) (g:=t.a_11) (fd:=t.d_11) (ps:=["thing"]) ?_ ?_ ?_ ?_ ?_ ?_
 exact G_11
 exact (hr.mono (by decide))
 exact T.m_11
 exact T.F_11.kp
 exact T.b_11
 refine zaa ?_ ?_
 exact zad 1
 exact zac
 refine zam ?_
 exact zft (c:="NoStock") rfl zeh T.x_exc (by decide +kernel) T.k_1
 exact zbp
 refine zaf ?_ ?_
 refine zk8 (C:=t.a_21) (names:=["stock","things","steps"]) ?_ ?_ ?_ ?_
 exact T.I_21
 exact (by decide +kernel)
 exact zad 0
 exact zad 1
 refine zaf ?_ ?_
 refine zk8 (C:=t.a_21) (names:=["stock","things","steps"]) ?_ ?_ ?_ ?_
 exact T.I_21
 exact (by decide +kernel)
 exact zad 0
 refine zgl ?_
 exact zac
 refine zam ?_
 refine zk8 (C:=t.a_21) (names:=["stock","things","steps"]) ?_ ?_ ?_ ?_
 exact T.I_21
 exact (by decide +kernel)
 exact zad 0
 refine zgl ?_
 exact zac
theorem nd_32:(["thing","word","e"]:List Str).Nodup:=by decide +kernel
theorem sc_32:zap ["thing","word","e"] ["thing"] (zae s_32):=⟨rfl,rfl,rfl,by decide +kernel,rfl,by decide +kernel,by decide +kernel⟩
theorem ok_32 (T:Tx K mg t):zbh P w K mg base CX0 7 t.a_32 t.d_32 ["thing"] (zbO K 1 F_32):=by
 have G_31:=ok_31 (P:=P) (w:=w) (base:=base) T
 have zas:=zcp (P:=P) (w:=w) (base:=base) T
 refine zbB (k:=6) (G:=G_32) (N:=["thing","word","e"]) (ps:=["thing"]) (st:=s_32) T.F_32 sc_32 fun cdv A outer s H E hr=> ?_
 refine zaf ?_ ?_
 refine zaR 1 ?_ ?_
 exact nd_32
 exact zbX
 refine zaf ?_ ?_
 refine zo2 (CE:=t.a_0) (pe:="e") (k:=1) (fdk:=t.d_31) (fk:=t.a_31) 2 1 ?_ ?_ ?_ ?_ ?_ ?_ ?_ ?_ ?_ ?_
 exact zoB
 exact nd_32
 exact T.g_0
 exact T.x_exc
 exact G_31
 exact T.b_31
 exact T.m_31
 exact T.F_31.kp
 exact (zdk.of (hr.mono (by decide)))
 intro pn xe E' hx
 refine zam ?_
 refine zcI ?_
 refine ziz (C:=t.a_21) (names:=["stock","things","steps"]) (k:=5) (g:=t.a_Keeper___init__) (fd:=t.d_Keeper___init__) (ps:=["self","stock"]) ?_ ?_ ?_ ?_ ?_ ?_ ?_ ?_
 exact T.I_21
 exact T.Y_21
 exact zas
 exact hx
 exact (hr.mono (by decide))
 exact T.g_21
 exact T.b_Keeper___init__
 refine zaa ?_ ?_
 exact zad 0
 exact zac
 refine zam ?_
 refine zaS ?_
 exact zad 1
theorem nd_29:(["box","some"]:List Str).Nodup:=by decide +kernel
theorem sc_29:zap ["box","some"] ["box"] (zae s_29):=⟨rfl,rfl,rfl,by decide +kernel,rfl,by decide +kernel,by decide +kernel⟩
theorem ok_29 (T:Tx K mg t):zbh P w K mg base CX0 2 t.a_29 t.d_29 ["box"] (zbO K 1 F_29):=by
 have G_25:=ok_25 (P:=P) (w:=w) (base:=base) T
 refine zbB (k:=1) (G:=G_29) (N:=["box","some"]) (ps:=["box"]) (st:=s_29) T.F_29 sc_29 fun cdv A outer s H E hr=> ?_
 refine zaf ?_ ?_
 refine zaR 1 ?_ ?_
 exact nd_29
 refine zcK ?_
 refine zaa ?_ ?_
 exact ziq
 refine zaa ?_ ?_
 exact zgz
 refine zaa ?_ ?_
 exact zgz
 refine zaa ?_ ?_
 refine znt ?_
 exact zaj
 refine zaa ?_ ?_
 exact zaj
 refine zaa ?_ ?_
 exact zaj
 refine zaa ?_ ?_
 exact zaj
 refine zaa ?_ ?_
 exact zbX
 refine zaa ?_ ?_
 exact zbX
 refine zaa ?_ ?_
 refine zaw ?_
 exact zac
 refine zaa ?_ ?_
 refine zaw ?_
 refine zaa ?_ ?_
 exact zaj
 exact zac
 refine zaa ?_ ?_
 refine zaw ?_
 refine zaa ?_ ?_
 exact zaj
 refine zaa ?_ ?_
 exact zaj
 exact zac
 refine zaa ?_ ?_
 refine zaw ?_
 refine zaa ?_ ?_
 exact zaj
 refine zaa ?_ ?_
 exact zaj
 exact zac
 refine zaa ?_ ?_
 refine zaw ?_
 refine zaa ?_ ?_
 exact zaj
 refine zaa ?_ ?_
 exact zaj
 exact zac
 refine zaa ?_ ?_
 refine zaw ?_
 refine zaa ?_ ?_
 exact zgz
 exact zac
 refine zaa ?_ ?_
 refine zcK ?_
 refine zaa ?_ ?_
 exact zaj
 exact zac
 refine zaa ?_ ?_
 exact zpL
 refine zaa ?_ ?_
 refine zaw ?_
 refine zaa ?_ ?_
 refine zaw ?_
 refine zaa ?_ ?_
 exact zaj
 exact zac
 exact zac
 exact zac
 refine zaf ?_ ?_
 refine zaR 1 ?_ ?_
 exact nd_29
 refine zdc ?_ ?_ ?_
 exact zaW
 exact zad 1
 refine zcK ?_
 refine zaa ?_ ?_
 refine zaw ?_
 refine zaa ?_ ?_
 exact ziq
 exact zac
 refine zaa ?_ ?_
 refine zdc ?_ ?_ ?_
 exact zmn
 exact zaj
 exact zaj
 refine zaa ?_ ?_
 refine zaw ?_
 refine zaa ?_ ?_
 exact zaj
 exact zac
 refine zaa ?_ ?_
 refine zaw ?_
 refine zaa ?_ ?_
 refine znt ?_
 exact zaj
 exact zac
 refine zaa ?_ ?_
 refine zaw ?_
 refine zaa ?_ ?_
 exact zaj
 refine zaa ?_ ?_
 exact zbX
 exact zac
 refine zaa ?_ ?_
 refine zcK ?_
 refine zaa ?_ ?_
 exact zaj
 refine zaa ?_ ?_
 exact zaj
 exact zac
 refine zaa ?_ ?_
 refine zaw ?_
 refine zaa ?_ ?_
 exact zaj
 refine zaa ?_ ?_
 exact zaj
 refine zaa ?_ ?_
 exact zaj
 exact zac
 exact zac
 refine zam ?_
 refine zaS ?_
 refine zdb ?_ ?_
 exact zad 1
 refine zaD (k:=1) (g:=t.a_25) (fd:=t.d_25) (ps:=["box","many"]) ?_ ?_ ?_ ?_ ?_ ?_
 exact G_25
 exact (hr.mono (by decide))
 exact T.m_25
 exact T.F_25.kp
 exact T.b_25
 refine zaa ?_ ?_
 exact zad 0
 refine zaa ?_ ?_
 refine za3 (id:="len") ?_ ?_ ?_ ?_
 exact zbm
 exact zdl
 exact T.n_len
 refine zaa ?_ ?_
 exact zad 1
 exact zac
 exact zac
theorem nd_34:(["box","stock","many","offers","odd","one","rows","row","some"]:List Str).Nodup:=by decide +kernel
theorem sc_34:zap ["box","stock","many","offers","odd","one","rows","row","some"] ["box","stock"] (zae s_34):=⟨rfl,rfl,rfl,by decide +kernel,rfl,by decide +kernel,by decide +kernel⟩
theorem ok_34 (T:Tx K mg t):zbh P w K mg base CX0 3 t.a_34 t.d_34 ["box","stock"] (zbO K 2 F_34):=by
 have G_29:=ok_29 (P:=P) (w:=w) (base:=base) T
 have G_25:=ok_25 (P:=P) (w:=w) (base:=base) T
 refine zbB (k:=2) (G:=G_34) (N:=["box","stock","many","offers","odd","one","rows","row","some"]) (ps:=["box","stock"]) (st:=s_34) T.F_34 sc_34 fun cdv A outer s H E hr=> ?_
 refine zaf ?_ ?_
 refine znA ?_ ?_
 exact zad 1
 refine zjD ?_ ?_
 exact rfl
 refine zcs ?_ ?_
 exact zaB 2 nd_34
 refine zcs ?_ ?_
 exact zaB 3 nd_34
 exact zhe
 refine zaf ?_ ?_
 refine zaR 4 ?_ ?_
 exact nd_34
 refine zaD (k:=2) (g:=t.a_29) (fd:=t.d_29) (ps:=["box"]) ?_ ?_ ?_ ?_ ?_ ?_
 exact G_29
 exact (hr.mono (by decide))
 exact T.m_29
 exact T.F_29.kp
 exact T.b_29
 refine zaa ?_ ?_
 exact zad 0
 exact zac
 refine zaf ?_ ?_
 refine zaR 5 ?_ ?_
 exact nd_34
 refine zaw ?_
 refine zaa ?_ ?_
 refine zaw ?_
 refine zaa ?_ ?_
 exact zaj
 exact zac
 refine zaa ?_ ?_
 exact zaj
 exact zac
 refine zaf ?_ ?_
 refine zaR 6 ?_ ?_
 exact nd_34
 refine zcK ?_
 refine zaa ?_ ?_
 refine zaw ?_
 refine zaa ?_ ?_
 refine zaw ?_
 refine zaa ?_ ?_
 exact zaj
 exact zac
 refine zaa ?_ ?_
 exact zaj
 exact zac
 refine zaa ?_ ?_
 refine zaw ?_
 refine zaa ?_ ?_
 refine zaw ?_
 refine zaa ?_ ?_
 exact zaj
 exact zac
 refine zaa ?_ ?_
 exact zgz
 exact zac
 refine zaa ?_ ?_
 refine zaw ?_
 refine zaa ?_ ?_
 refine zaw ?_
 exact zac
 refine zaa ?_ ?_
 exact zaj
 exact zac
 refine zaa ?_ ?_
 refine zaw ?_
 refine zaa ?_ ?_
 refine zaw ?_
 refine zaa ?_ ?_
 exact zad 2
 exact zac
 refine zaa ?_ ?_
 exact zaj
 exact zac
 refine zaa ?_ ?_
 refine zaw ?_
 refine zaa ?_ ?_
 refine zaw ?_
 refine zaa ?_ ?_
 exact zaj
 refine zaa ?_ ?_
 exact zaj
 exact zac
 refine zaa ?_ ?_
 exact zaj
 exact zac
 refine zaa ?_ ?_
 refine zaw ?_
 refine zaa ?_ ?_
 refine zcK ?_
 refine zaa ?_ ?_
 exact zaj
 exact zac
 refine zaa ?_ ?_
 exact zaj
 exact zac
 refine zaa ?_ ?_
 refine zaw ?_
 refine zaa ?_ ?_
 refine zaw ?_
 refine zaa ?_ ?_
 exact zaj
 exact zac
 refine zaa ?_ ?_
 exact zbX
 exact zac
 refine zaa ?_ ?_
 refine zaw ?_
 refine zaa ?_ ?_
 refine zaw ?_
 refine zaa ?_ ?_
 exact zaj
 exact zac
 exact zac
 exact zac
 refine zaf ?_ ?_
 refine zaR 7 ?_ ?_
 exact nd_34
 refine zdb ?_ ?_
 refine zdc ?_ ?_ ?_
 exact zaW
 exact zad 6
 refine zcK ?_
 refine zaa ?_ ?_
 refine zaw ?_
 refine zaa ?_ ?_
 refine zaw ?_
 refine zaa ?_ ?_
 exact zgz
 exact zac
 refine zaa ?_ ?_
 exact zaj
 exact zac
 refine zaa ?_ ?_
 exact ziq
 exact zac
 refine zaD (k:=1) (g:=t.a_25) (fd:=t.d_25) (ps:=["box","many"]) ?_ ?_ ?_ ?_ ?_ ?_
 exact G_25
 exact (hr.mono (by decide))
 exact T.m_25
 exact T.F_25.kp
 exact T.b_25
 refine zaa ?_ ?_
 exact zad 0
 refine zaa ?_ ?_
 exact zaj
 exact zac
 refine zaf ?_ ?_
 refine zaR 8 ?_ ?_
 exact nd_34
 refine zcK ?_
 refine zaa ?_ ?_
 refine zaw ?_
 refine zaa ?_ ?_
 exact zaj
 refine zaa ?_ ?_
 refine zaw ?_
 exact zac
 exact zac
 refine zaa ?_ ?_
 refine zaw ?_
 refine zaa ?_ ?_
 exact zaj
 refine zaa ?_ ?_
 refine zaw ?_
 exact zac
 exact zac
 refine zaa ?_ ?_
 refine zaw ?_
 refine zaa ?_ ?_
 exact zgz
 refine zaa ?_ ?_
 refine zaw ?_
 exact zac
 exact zac
 refine zaa ?_ ?_
 refine zaw ?_
 refine zaa ?_ ?_
 exact zad 2
 refine zaa ?_ ?_
 refine zbI (T:="list") ?_ ?_ ?_ ?_
 exact zgq
 exact zli
 exact T.n_list
 refine zaa ?_ ?_
 exact zad 3
 exact zac
 exact zac
 refine zaa ?_ ?_
 refine zcK ?_
 refine zaa ?_ ?_
 exact zad 2
 refine zaa ?_ ?_
 exact zad 3
 exact zac
 refine zaa ?_ ?_
 refine zaw ?_
 refine zaa ?_ ?_
 exact zad 2
 exact zac
 refine zaa ?_ ?_
 refine zaw ?_
 refine zaa ?_ ?_
 exact zad 2
 refine zaa ?_ ?_
 refine zdc ?_ ?_ ?_
 exact zlG
 refine zaw ?_
 refine zaa ?_ ?_
 exact zad 5
 exact zac
 exact zaj
 exact zac
 exact zac
 refine zaf ?_ ?_
 refine zaR 8 ?_ ?_
 exact nd_34
 refine zdc ?_ ?_ ?_
 exact zaW
 exact zad 8
 refine zcK ?_
 refine zaa ?_ ?_
 refine zaw ?_
 refine zaa ?_ ?_
 exact zad 2
 refine zaa ?_ ?_
 refine zdc ?_ ?_ ?_
 exact zaW
 refine zeW ?_ ?_ ?_
 exact zad 3
 exact zg7
 refine zhc ?_
 exact zaj
 refine zaw ?_
 refine zaa ?_ ?_
 exact zad 7
 exact zac
 exact zac
 refine zaa ?_ ?_
 refine zaw ?_
 refine zaa ?_ ?_
 exact zad 2
 refine zaa ?_ ?_
 refine zdc ?_ ?_ ?_
 exact zaW
 refine zaw ?_
 refine zaa ?_ ?_
 exact zad 7
 exact zac
 refine zeW ?_ ?_ ?_
 exact zad 3
 exact zg7
 refine zhc ?_
 exact zaj
 exact zac
 refine zaa ?_ ?_
 exact ziq
 refine zaa ?_ ?_
 refine zaw ?_
 refine zaa ?_ ?_
 exact zad 2
 refine zaa ?_ ?_
 exact zad 3
 refine zaa ?_ ?_
 exact zaj
 exact zac
 refine zaa ?_ ?_
 refine zaw ?_
 refine zaa ?_ ?_
 exact zbX
 refine zaa ?_ ?_
 exact zad 3
 exact zac
 exact zac
 refine zaf ?_ ?_
 refine zaR 8 ?_ ?_
 exact nd_34
 refine zdc ?_ ?_ ?_
 exact zaW
 exact zad 8
 refine zcK ?_
 refine zaa ?_ ?_
 refine zaw ?_
 refine zaa ?_ ?_
 exact zad 2
 refine zaa ?_ ?_
 refine zaw ?_
 refine zaa ?_ ?_
 exact zad 4
 exact zac
 exact zac
 refine zaa ?_ ?_
 refine zaw ?_
 refine zaa ?_ ?_
 exact zad 4
 refine zaa ?_ ?_
 exact zad 4
 exact zac
 exact zac
 refine zam ?_
 refine zaS ?_
 refine zdb ?_ ?_
 exact zad 8
 refine zaD (k:=1) (g:=t.a_25) (fd:=t.d_25) (ps:=["box","many"]) ?_ ?_ ?_ ?_ ?_ ?_
 exact G_25
 exact (hr.mono (by decide))
 exact T.m_25
 exact T.F_25.kp
 exact T.b_25
 refine zaa ?_ ?_
 exact zad 0
 refine zaa ?_ ?_
 refine za3 (id:="len") ?_ ?_ ?_ ?_
 exact zbm
 exact zdl
 exact T.n_len
 refine zaa ?_ ?_
 exact zad 8
 exact zac
 exact zac
theorem sc_16:zap ["stock","thing"] ["stock","thing"] (zae s_16):=⟨rfl,rfl,rfl,by decide +kernel,rfl,by decide +kernel,by decide +kernel⟩
theorem ok_16 (T:Tx K mg t):zbh P w K mg base (CXE P w) 2 t.a_16 t.d_16 ["stock","thing"] (spE K 2 F_16):=by
 have G_8:=ok_8 (P:=P) (w:=w) (base:=base) T
 refine ze3 (k:=1) (G:=G_16) (N:=["stock","thing"]) (ps:=["stock","thing"]) (st:=s_16) T.F_16 sc_16 fun cdv A outer s H E hr=> ?_
 refine zam ?_
 refine ze1 ?_ ?_ ?_
 refine zdS ?_
 refine zgM ?_ ?_
 refine zcP ?_
 refine zdr ?_
 refine zfj (k:=1) (g:=t.a_8) (fd:=t.d_8) (ps:=["thing"]) ?_ ?_ ?_ ?_ ?_ ?_
 exact G_8
 exact (hr.mono (by decide))
 exact T.m_8
 exact T.F_8.kp
 exact T.b_8
 refine zaa ?_ ?_
 exact zad 1
 exact zac
 refine zgM ?_ ?_
 refine zbf ?_ ?_ ?_
 exact zh5
 exact zad 1
 exact zaj
 refine zgf ?_
 refine zbf ?_ ?_ ?_
 exact zoU
 exact zad 1
 refine zdb ?_ ?_
 exact zad 0
 exact zaj
 refine zam ?_
 exact zft (c:="NoThing") rfl zeh T.x_exc (by decide +kernel) T.k_3
 exact zbp
theorem zrq:(["number","offer","thing"]:List Str).Nodup:=by decide +kernel
theorem sc_20:zap ["stock","thing"] ["stock","thing"] (zae s_20):=⟨rfl,rfl,rfl,by decide +kernel,rfl,by decide +kernel,by decide +kernel⟩
theorem ok_20 (T:Tx K mg t):zbh P w K mg base CX0 1 t.a_20 t.d_20 ["stock","thing"] (zbO K 2 F_20):=by
 refine zbB (k:=0) (G:=G_20) (N:=["stock","thing"]) (ps:=["stock","thing"]) (st:=s_20) T.F_20 sc_20 fun cdv A outer s H E hr=> ?_
 refine zam ?_
 refine zaS ?_
 refine zbI (T:="tuple") ?_ ?_ ?_ ?_
 exact zbn
 exact zbM
 exact T.n_tuple
 refine zaa ?_ ?_
 refine zc5 (N:=["number","offer","thing"]) ?_ ?_ ?_ ?_ ?_ ?_ ?_
 exact rfl
 exact (BOk.of (Xn:=(zae s_20).names) (XN:=["stock","thing"]) rfl rfl rfl (by decide +kernel))
 exact (zaY.tup (zcU.cons (i:=0) rfl (zcU.cons (i:=1) rfl zcU.nil)))
 refine ztc ?_ ?_
 exact T.n_enumerate
 refine zdb ?_ ?_
 exact zad 0
 exact zaj
 intro _ _ _
 refine zjD ?_ ?_
 exact rfl
 refine zcs ?_ ?_
 exact zaB 0 zrq
 refine zcs ?_ ?_
 exact zaB 1 zrq
 exact zhe
 intro _ _ _
 refine zia ?_
 refine zbf ?_ ?_ ?_
 exact (zlt (zgN hr))
 exact zad 2
 refine zdb ?_ ?_
 exact zad 1
 exact zaj
 intro _ _ _
 exact zad 0
 exact zac
theorem nd_19:(["offers","things","offer"]:List Str).Nodup:=by decide +kernel
theorem sc_19:zap ["offers","things","offer"] ["offers"] (zae s_19):=⟨rfl,rfl,rfl,by decide +kernel,rfl,by decide +kernel,by decide +kernel⟩
theorem ok_19 (T:Tx K mg t):zbh P w K mg base CX0 1 t.a_19 t.d_19 ["offers"] (zbO K 1 F_19):=by
 refine zbB (k:=0) (G:=G_19) (N:=["offers","things","offer"]) (ps:=["offers"]) (st:=s_19) T.F_19 sc_19 fun cdv A outer s H E hr=> ?_
 refine zaf ?_ ?_
 refine zaR 1 ?_ ?_
 exact nd_19
 refine zgl ?_
 exact zac
 refine zaf ?_ ?_
 refine ziZ ?_ ?_ ?_ ?_ ?_
 exact rfl
 exact PassesOwn.never
 refine zeo ?_
 exact zad 0
 exact zaB 2 nd_19
 refine zam ?_
 refine zcI ?_
 refine zmL ?_ ?_
 exact zad 1
 refine zdb ?_ ?_
 exact zad 2
 exact zaj
 refine zam ?_
 refine zaS ?_
 refine zbI (T:="tuple") ?_ ?_ ?_ ?_
 exact zbn
 exact zbM
 exact T.n_tuple
 refine zaa ?_ ?_
 refine zhP ?_ ?_ ?_ ?_
 exact rfl
 exact T.n_sorted
 exact T.n_set
 exact zad 1
 exact zac
theorem sc_13:zap ["stock","thing"] ["stock","thing"] (zae s_13):=⟨rfl,rfl,rfl,by decide +kernel,rfl,by decide +kernel,by decide +kernel⟩
theorem ok_13 (T:Tx K mg t):zbh P w K mg base CX0 3 t.a_13 t.d_13 ["stock","thing"] (zbO K 2 F_13):=by
 have G_10:=ok_10 (P:=P) (w:=w) (base:=base) T
 refine zbB (k:=2) (G:=G_13) (N:=["stock","thing"]) (ps:=["stock","thing"]) (st:=s_13) T.F_13 sc_13 fun cdv A outer s H E hr=> ?_
 refine zam ?_
 refine zaS ?_
 refine zaD (k:=2) (g:=t.a_10) (fd:=t.d_10) (ps:=["thing","bound"]) ?_ ?_ ?_ ?_ ?_ ?_
 exact G_10
 exact (hr.mono (by decide))
 exact T.m_10
 exact T.F_10.kp
 exact T.b_10
 refine zaa ?_ ?_
 exact zad 1
 refine zaa ?_ ?_
 refine za3 (id:="len") ?_ ?_ ?_ ?_
 exact zbm
 exact zdl
 exact T.n_len
 refine zaa ?_ ?_
 refine zdb ?_ ?_
 exact zad 0
 exact zaj
 exact zac
 exact zac
theorem sc_17:zap ["stock","lot"] ["stock","lot"] (zae s_17):=⟨rfl,rfl,rfl,by decide +kernel,rfl,by decide +kernel,by decide +kernel⟩
theorem ok_17 (T:Tx K mg t):zbh P w K mg base (CXE P w) 4 t.a_17 t.d_17 ["stock","lot"] (spE K 2 F_17):=by
 have G_13:=ok_13 (P:=P) (w:=w) (base:=base) T
 refine ze3 (k:=3) (G:=G_17) (N:=["stock","lot"]) (ps:=["stock","lot"]) (st:=s_17) T.F_17 sc_17 fun cdv A outer s H E hr=> ?_
 refine zam ?_
 refine ze1 ?_ ?_ ?_
 refine zcP ?_
 refine zdr ?_
 refine zfj (k:=3) (g:=t.a_13) (fd:=t.d_13) (ps:=["stock","thing"]) ?_ ?_ ?_ ?_ ?_ ?_
 exact G_13
 exact (hr.mono (by decide))
 exact T.m_13
 exact T.F_13.kp
 exact T.b_13
 refine zaa ?_ ?_
 exact zad 0
 refine zaa ?_ ?_
 exact zad 1
 exact zac
 refine zam ?_
 exact zft (c:="NoCover") rfl zeh T.x_exc (by decide +kernel) T.k_4
 exact zbp
theorem zru:(["number","stock"]:List Str).Nodup:=by decide +kernel
theorem sc_18:zap ["stock","lot"] ["stock","lot"] (zae s_18):=⟨rfl,rfl,rfl,by decide +kernel,rfl,by decide +kernel,by decide +kernel⟩
theorem ok_18 (T:Tx K mg t):zbh P w K mg base (CXE P w) 5 t.a_18 t.d_18 ["stock","lot"] (spE K 2 F_18):=by
 have G_17:=ok_17 (P:=P) (w:=w) (base:=base) T
 refine ze3 (k:=4) (G:=G_18) (N:=["stock","lot"]) (ps:=["stock","lot"]) (st:=s_18) T.F_18 sc_18 fun cdv A outer s H E hr=> ?_
 refine zaf ?_ ?_
 refine zcI ?_
 refine zet (k:=4) (g:=t.a_17) (fd:=t.d_17) (ps:=["stock","lot"]) ?_ ?_ ?_ ?_ ?_ ?_ ?_
 exact G_17
 exact zgJ
 exact (hr.mono (by decide))
 exact T.m_17
 exact T.F_17.kp
 exact T.b_17
 refine zaa ?_ ?_
 exact zad 0
 refine zaa ?_ ?_
 exact zad 1
 exact zac
 refine zam ?_
 refine zaS ?_
 refine zc5 (N:=["number","stock"]) ?_ ?_ ?_ ?_ ?_ ?_ ?_
 exact rfl
 exact (BOk.of (Xn:=(zae s_18).names) (XN:=["stock","lot"]) rfl rfl rfl (by decide +kernel))
 exact (zaY.name (i:=0) rfl)
 refine zeo ?_
 exact zad 1
 intro _ _ _
 exact zaB 0 zru
 intro _ _ _
 exact zdG
 intro _ _ _
 refine zdb ?_ ?_
 refine zdb ?_ ?_
 exact zad 1
 exact zaj
 exact zad 0
theorem sc_14:zap ["stock","lot"] ["stock","lot"] (zae s_14):=⟨rfl,rfl,rfl,by decide +kernel,rfl,by decide +kernel,by decide +kernel⟩
theorem ok_14 (T:Tx K mg t):zbh P w K mg base (CXE P w) 6 t.a_14 t.d_14 ["stock","lot"] (spE K 2 F_14):=by
 have G_19:=ok_19 (P:=P) (w:=w) (base:=base) T
 have G_18:=ok_18 (P:=P) (w:=w) (base:=base) T
 refine ze3 (k:=5) (G:=G_14) (N:=["stock","lot"]) (ps:=["stock","lot"]) (st:=s_14) T.F_14 sc_14 fun cdv A outer s H E hr=> ?_
 refine zam ?_
 refine zaS ?_
 refine zfj (k:=1) (g:=t.a_19) (fd:=t.d_19) (ps:=["offers"]) ?_ ?_ ?_ ?_ ?_ ?_
 exact G_19
 exact (hr.mono (by decide))
 exact T.m_19
 exact T.F_19.kp
 exact T.b_19
 refine zaa ?_ ?_
 refine zet (k:=5) (g:=t.a_18) (fd:=t.d_18) (ps:=["stock","lot"]) ?_ ?_ ?_ ?_ ?_ ?_ ?_
 exact G_18
 exact zgJ
 exact (hr.mono (by decide))
 exact T.m_18
 exact T.F_18.kp
 exact T.b_18
 refine zaa ?_ ?_
 exact zad 0
 refine zaa ?_ ?_
 exact zad 1
 exact zac
 exact zac
theorem zr1:(["step"]:List Str).Nodup:=by decide +kernel
theorem zel:zap ["self"] ["self"] (zae za0):=⟨rfl,rfl,rfl,by decide +kernel,rfl,by decide +kernel,by decide +kernel⟩
theorem zcq (T:Tx K mg t):zbh P w K mg base CX0 1 t.a_Keeper_in_order t.d_Keeper_in_order ["self"] (zbO K 1 F_Keeper_in_order):=by
 refine zbB (k:=0) (G:=zay) (N:=["self"]) (ps:=["self"]) (st:=za0) T.F_Keeper_in_order zel fun cdv A outer s H E hr=> ?_
 refine zam ?_
 refine zaS ?_
 refine zmG (N:=["step"]) ?_ ?_ ?_ ?_ ?_ ?_
 exact (BOk.of (Xn:=(zae za0).names) (XN:=["self"]) rfl rfl rfl (by decide +kernel))
 exact (zaY.name (i:=0) rfl)
 refine zcO (C:=t.a_21) (names:=["stock","things","steps"]) ?_ ?_ ?_
 exact T.I_21
 exact (by decide +kernel)
 exact zad 0
 intro _ _ _
 exact zaB 0 zr1
 intro _ _ _
 exact zdG
 intro _ _ _
 refine zdb ?_ ?_
 exact zad 0
 exact zaj
theorem zfd:zap ["self"] ["self"] (zae zbV):=⟨rfl,rfl,rfl,by decide +kernel,rfl,by decide +kernel,by decide +kernel⟩
theorem zbF (T:Tx K mg t):zbh P w K mg base CX0 2 t.a_Keeper_taken t.d_Keeper_taken ["self"] (zbO K 1 F_Keeper_taken):=by
 have zay:=zcq (P:=P) (w:=w) (base:=base) T
 refine zbB (k:=1) (G:=zat) (N:=["self"]) (ps:=["self"]) (st:=zbV) T.F_Keeper_taken zfd fun cdv A outer s H E hr=> ?_
 refine zam ?_
 refine zaS ?_
 refine zbI (T:="tuple") ?_ ?_ ?_ ?_
 exact zbn
 exact zbM
 exact T.n_tuple
 refine zaa ?_ ?_
 refine za3 (id:="sorted") ?_ ?_ ?_ ?_
 exact (zh7 rfl)
 exact zlm
 exact T.n_sorted
 refine zaa ?_ ?_
 refine zcf (C:=t.a_21) (names:=["stock","things","steps"]) (k:=1) (g:=t.a_Keeper_in_order) (fd:=t.d_Keeper_in_order) (ps:=["self"]) ?_ ?_ ?_ ?_ ?_ ?_
 exact T.I_21
 exact T.M_Keeper_in_order
 exact zay
 exact (hr.mono (by decide))
 exact T.b_Keeper_in_order
 exact zad 0
 exact zac
 exact zac
theorem zeQ:(["self","borne"]:List Str).Nodup:=by decide +kernel
theorem ztj:(["step"]:List Str).Nodup:=by decide +kernel
theorem zsN:(["thing","borne"]:List Str).Nodup:=by decide +kernel
theorem zeO:zap ["self","borne"] ["self"] (zae za1):=⟨rfl,rfl,rfl,by decide +kernel,rfl,by decide +kernel,by decide +kernel⟩
theorem zc6 (T:Tx K mg t):zbh P w K mg base CX0 1 t.a_Keeper_shares t.d_Keeper_shares ["self"] (zbO K 1 F_Keeper_shares):=by
 refine zbB (k:=0) (G:=zaH) (N:=["self","borne"]) (ps:=["self"]) (st:=za1) T.F_Keeper_shares zeO fun cdv A outer s H E hr=> ?_
 refine zaf ?_ ?_
 refine zaR 1 ?_ ?_
 exact zeQ
 refine zbI (T:="dict") ?_ ?_ ?_ ?_
 exact (zj5 rfl)
 exact zqd
 exact T.n_dict
 refine zaa ?_ ?_
 refine zmG (N:=["step"]) ?_ ?_ ?_ ?_ ?_ ?_
 exact (BOk.of (Xn:=(zae za1).names) (XN:=["self","borne"]) rfl rfl rfl (by decide +kernel))
 exact (zaY.name (i:=0) rfl)
 refine zcO (C:=t.a_21) (names:=["stock","things","steps"]) ?_ ?_ ?_
 exact T.I_21
 exact (by decide +kernel)
 exact zad 0
 intro _ _ _
 exact zaB 0 ztj
 intro _ _ _
 exact zdG
 intro _ _ _
 refine zaw ?_
 refine zaa ?_ ?_
 refine zdb ?_ ?_
 exact zad 0
 exact zaj
 refine zaa ?_ ?_
 refine zdb ?_ ?_
 exact zad 0
 exact zaj
 exact zac
 exact zac
 refine zam ?_
 refine zaS ?_
 refine zc5 (N:=["thing","borne"]) ?_ ?_ ?_ ?_ ?_ ?_ ?_
 exact rfl
 exact (BOk.of (Xn:=(zae za1).names) (XN:=["self","borne"]) rfl rfl rfl (by decide +kernel))
 exact (zaY.name (i:=0) rfl)
 refine zkd ?_ ?_
 exact T.n_range
 refine zaa ?_ ?_
 refine zdb ?_ ?_
 refine zcO (C:=t.a_21) (names:=["stock","things","steps"]) ?_ ?_ ?_
 exact T.I_21
 exact (by decide +kernel)
 exact zad 0
 exact zaj
 exact zac
 intro _ _ _
 exact zaB 0 zsN
 intro _ _ _
 exact zdG
 intro _ _ _
 refine zsW ?_ ?_
 exact zad 1
 refine zaa ?_ ?_
 exact zad 0
 refine zaa ?_ ?_
 exact zaj
 exact zac
theorem zdI:(["self","number","offer","shares"]:List Str).Nodup:=by decide +kernel
theorem ztY:(["thing","shares"]:List Str).Nodup:=by decide +kernel
theorem zfT:zap ["self","number","offer","shares"] ["self","number"] (zae zbK):=⟨rfl,rfl,rfl,by decide +kernel,rfl,by decide +kernel,by decide +kernel⟩
theorem zfX (T:Tx K mg t):zbh P w K mg base CX0 2 t.a_Keeper_room t.d_Keeper_room ["self","number"] (zbO K 2 F_Keeper_room):=by
 have zaH:=zc6 (P:=P) (w:=w) (base:=base) T
 refine zbB (k:=1) (G:=zbq) (N:=["self","number","offer","shares"]) (ps:=["self","number"]) (st:=zbK) T.F_Keeper_room zfT fun cdv A outer s H E hr=> ?_
 refine zaf ?_ ?_
 refine zaR 2 ?_ ?_
 exact zdI
 refine zdb ?_ ?_
 refine zdb ?_ ?_
 refine zcO (C:=t.a_21) (names:=["stock","things","steps"]) ?_ ?_ ?_
 exact T.I_21
 exact (by decide +kernel)
 exact zad 0
 exact zaj
 exact zad 1
 refine zaf ?_ ?_
 refine zaR 3 ?_ ?_
 exact zdI
 refine zcf (C:=t.a_21) (names:=["stock","things","steps"]) (k:=1) (g:=t.a_Keeper_shares) (fd:=t.d_Keeper_shares) (ps:=["self"]) ?_ ?_ ?_ ?_ ?_ ?_
 exact T.I_21
 exact T.M_Keeper_shares
 exact zaH
 exact (hr.mono (by decide))
 exact T.b_Keeper_shares
 exact zad 0
 refine zam ?_
 refine zaS ?_
 refine zdc ?_ ?_ ?_
 exact zmE
 refine zdb ?_ ?_
 exact zad 2
 exact zaj
 refine za3 (id:="sum") ?_ ?_ ?_ ?_
 exact (zhA rfl)
 exact zo7
 exact T.n_sum
 refine zaa ?_ ?_
 refine zc5 (N:=["thing","shares"]) ?_ ?_ ?_ ?_ ?_ ?_ ?_
 exact rfl
 exact (BOk.of (Xn:=(zae zbK).names) (XN:=["self","number","offer","shares"]) rfl rfl rfl (by decide +kernel))
 exact (zaY.name (i:=0) rfl)
 refine zeo ?_
 refine zdb ?_ ?_
 exact zad 2
 exact zaj
 intro _ _ _
 exact zaB 0 ztY
 intro _ _ _
 exact zdG
 intro _ _ _
 refine zdb ?_ ?_
 exact zad 1
 exact zad 0
 exact zac
theorem zdJ:(["self","thing","numbers","best"]:List Str).Nodup:=by decide +kernel
theorem zuh:(["number","self"]:List Str).Nodup:=by decide +kernel
theorem zfM:zap ["self","thing","numbers","best"] ["self","thing"] (zae zbG):=⟨rfl,rfl,rfl,by decide +kernel,rfl,by decide +kernel,by decide +kernel⟩
theorem zdK (T:Tx K mg t):zbh P w K mg base (CXE P w) 7 t.a_Keeper_come t.d_Keeper_come ["self","thing"] (spE K 2 F_Keeper_come):=by
 have G_16:=ok_16 (P:=P) (w:=w) (base:=base) T
 have G_20:=ok_20 (P:=P) (w:=w) (base:=base) T
 have G_14:=ok_14 (P:=P) (w:=w) (base:=base) T
 have zat:=zbF (P:=P) (w:=w) (base:=base) T
 have zbq:=zfX (P:=P) (w:=w) (base:=base) T
 refine ze3 (k:=6) (G:=zaG) (N:=["self","thing","numbers","best"]) (ps:=["self","thing"]) (st:=zbG) T.F_Keeper_come zfM fun cdv A outer s H E hr=> ?_
 refine zaf ?_ ?_
 refine zcI ?_
 refine zet (k:=2) (g:=t.a_16) (fd:=t.d_16) (ps:=["stock","thing"]) ?_ ?_ ?_ ?_ ?_ ?_ ?_
 exact G_16
 exact zgJ
 exact (hr.mono (by decide))
 exact T.m_16
 exact T.F_16.kp
 exact T.b_16
 refine zaa ?_ ?_
 refine zcO (C:=t.a_21) (names:=["stock","things","steps"]) ?_ ?_ ?_
 exact T.I_21
 exact (by decide +kernel)
 exact zad 0
 refine zaa ?_ ?_
 exact zad 1
 exact zac
 refine zaf ?_ ?_
 refine zaR 2 ?_ ?_
 exact zdJ
 refine zfj (k:=1) (g:=t.a_20) (fd:=t.d_20) (ps:=["stock","thing"]) ?_ ?_ ?_ ?_ ?_ ?_
 exact G_20
 exact (hr.mono (by decide))
 exact T.m_20
 exact T.F_20.kp
 exact T.b_20
 refine zaa ?_ ?_
 refine zcO (C:=t.a_21) (names:=["stock","things","steps"]) ?_ ?_ ?_
 exact T.I_21
 exact (by decide +kernel)
 exact zad 0
 refine zaa ?_ ?_
 exact zad 1
 exact zac
 refine zaf ?_ ?_
 refine ze1 ?_ ?_ ?_
 refine zcP ?_
 refine zlT ?_
 exact zad 2
 refine zam ?_
 exact zft (c:="NotFull") rfl zeh T.x_exc (by decide +kernel) T.k_6
 exact zbp
 refine zaf ?_ ?_
 refine ze1 ?_ ?_ ?_
 refine zbf ?_ ?_ ?_
 exact (zlp (zgN hr))
 exact zad 1
 refine zet (k:=6) (g:=t.a_14) (fd:=t.d_14) (ps:=["stock","lot"]) ?_ ?_ ?_ ?_ ?_ ?_ ?_
 exact G_14
 exact zgJ
 exact (hr.mono (by decide))
 exact T.m_14
 exact T.F_14.kp
 exact T.b_14
 refine zaa ?_ ?_
 refine zcO (C:=t.a_21) (names:=["stock","things","steps"]) ?_ ?_ ?_
 exact T.I_21
 exact (by decide +kernel)
 exact zad 0
 refine zaa ?_ ?_
 refine zmR (C:=t.a_21) (names:=["stock","things","steps"]) (k:=2) (g:=t.a_Keeper_taken) (fd:=t.d_Keeper_taken) (ps:=["self"]) ?_ ?_ ?_ ?_ ?_ ?_
 exact T.I_21
 exact T.M_Keeper_taken
 exact zat
 exact (hr.mono (by decide))
 exact T.b_Keeper_taken
 exact zad 0
 exact zac
 refine zaf ?_ ?_
 refine zaR 3 ?_ ?_
 exact zdJ
 refine za3 (id:="min") ?_ ?_ ?_ ?_
 exact (zjS (zgN hr))
 exact zo1
 exact T.n_min
 refine zaa ?_ ?_
 refine zc5 (N:=["number","self"]) ?_ ?_ ?_ ?_ ?_ ?_ ?_
 exact rfl
 exact (BOk.of (Xn:=(zae zbG).names) (XN:=["self","thing","numbers","best"]) rfl rfl rfl (by decide +kernel))
 exact (zaY.name (i:=0) rfl)
 refine zeo ?_
 exact zad 2
 intro _ _ _
 exact zaB 0 zuh
 intro _ _ _
 exact zdG
 intro _ _ _
 refine zaw ?_
 refine zaa ?_ ?_
 refine zrg (C:=t.a_21) (names:=["stock","things","steps"]) (k:=2) (g:=t.a_Keeper_room) (fd:=t.d_Keeper_room) (ps:=["self","number"]) ?_ ?_ ?_ ?_ ?_ ?_ ?_
 exact T.I_21
 exact T.M_Keeper_room
 exact zbq
 exact (hr.mono (by decide))
 exact T.b_Keeper_room
 exact zad 1
 refine zaa ?_ ?_
 exact zad 0
 exact zac
 refine zaa ?_ ?_
 exact zad 0
 exact zac
 exact zac
 refine zam ?_
 refine zcI ?_
 refine zgy ?_ ?_
 refine zcO (C:=t.a_21) (names:=["stock","things","steps"]) ?_ ?_ ?_
 exact T.I_21
 exact (by decide +kernel)
 exact zad 0
 refine zaw ?_
 refine zaa ?_ ?_
 refine za3 (id:="len") ?_ ?_ ?_ ?_
 exact zbm
 exact zdl
 exact T.n_len
 refine zaa ?_ ?_
 refine zcO (C:=t.a_21) (names:=["stock","things","steps"]) ?_ ?_ ?_
 exact T.I_21
 exact (by decide +kernel)
 exact zad 0
 exact zac
 refine zaa ?_ ?_
 exact zad 1
 refine zaa ?_ ?_
 refine zdb ?_ ?_
 exact zad 3
 exact zaj
 refine zaa ?_ ?_
 refine zdb ?_ ?_
 exact zad 3
 exact zaj
 exact zac
 exact zbp
 refine zam ?_
 refine zcI ?_
 refine zgy ?_ ?_
 refine zcO (C:=t.a_21) (names:=["stock","things","steps"]) ?_ ?_ ?_
 exact T.I_21
 exact (by decide +kernel)
 exact zad 0
 exact zad 1
theorem zfN:zap ["self"] ["self"] (zae zb7):=⟨rfl,rfl,rfl,by decide +kernel,rfl,by decide +kernel,by decide +kernel⟩
theorem zdF (T:Tx K mg t):zbh P w K mg base (CXE P w) 1 t.a_Keeper_undo t.d_Keeper_undo ["self"] (spE K 1 F_Keeper_undo):=by
 refine ze3 (k:=0) (G:=zaL) (N:=["self"]) (ps:=["self"]) (st:=zb7) T.F_Keeper_undo zfN fun cdv A outer s H E hr=> ?_
 refine zaf ?_ ?_
 refine ze1 ?_ ?_ ?_
 refine zcP ?_
 refine zlT ?_
 refine zcO (C:=t.a_21) (names:=["stock","things","steps"]) ?_ ?_ ?_
 exact T.I_21
 exact (by decide +kernel)
 exact zad 0
 refine zam ?_
 exact zft (c:="NoRow") rfl zeh T.x_exc (by decide +kernel) T.k_7
 exact zbp
 refine zaf ?_ ?_
 refine zcI ?_
 refine zoC ?_
 refine zcO (C:=t.a_21) (names:=["stock","things","steps"]) ?_ ?_ ?_
 exact T.I_21
 exact (by decide +kernel)
 exact zad 0
 refine zam ?_
 refine ze1 ?_ ?_ ?_
 refine zdS ?_
 refine zrs ?_ ?_
 refine zlT ?_
 refine zcO (C:=t.a_21) (names:=["stock","things","steps"]) ?_ ?_ ?_
 exact T.I_21
 exact (by decide +kernel)
 exact zad 0
 refine zpu ?_
 refine zbf ?_ ?_ ?_
 exact (ze7 (zgN hr))
 refine zdb ?_ ?_
 refine zdb ?_ ?_
 refine zcO (C:=t.a_21) (names:=["stock","things","steps"]) ?_ ?_ ?_
 exact T.I_21
 exact (by decide +kernel)
 exact zad 0
 refine znt ?_
 exact zaj
 exact zaj
 refine za3 (id:="len") ?_ ?_ ?_ ?_
 exact zbm
 exact zdl
 exact T.n_len
 refine zaa ?_ ?_
 refine zcO (C:=t.a_21) (names:=["stock","things","steps"]) ?_ ?_ ?_
 exact T.I_21
 exact (by decide +kernel)
 exact zad 0
 exact zac
 refine zam ?_
 refine zcI ?_
 refine zoC ?_
 refine zcO (C:=t.a_21) (names:=["stock","things","steps"]) ?_ ?_ ?_
 exact T.I_21
 exact (by decide +kernel)
 exact zad 0
 exact zbp
theorem nd_33:(["keeper","deed","thing","word","e"]:List Str).Nodup:=by decide +kernel
theorem sc_33:zap ["keeper","deed","thing","word","e"] ["keeper","deed","thing"] (zae s_33):=⟨rfl,rfl,rfl,by decide +kernel,rfl,by decide +kernel,by decide +kernel⟩
theorem ok_33 (T:Tx K mg t):zbh P w K mg base CX0 8 t.a_33 t.d_33 ["keeper","deed","thing"] (zbO K 3 F_33):=by
 have G_31:=ok_31 (P:=P) (w:=w) (base:=base) T
 have zaG:=zdK (P:=P) (w:=w) (base:=base) T
 have zaL:=zdF (P:=P) (w:=w) (base:=base) T
 refine zbB (k:=7) (G:=G_33) (N:=["keeper","deed","thing","word","e"]) (ps:=["keeper","deed","thing"]) (st:=s_33) T.F_33 sc_33 fun cdv A outer s H E hr=> ?_
 refine zaf ?_ ?_
 refine zaR 3 ?_ ?_
 exact nd_33
 exact zbX
 refine zaf ?_ ?_
 refine zo2 (CE:=t.a_0) (pe:="e") (k:=1) (fdk:=t.d_31) (fk:=t.a_31) 4 3 ?_ ?_ ?_ ?_ ?_ ?_ ?_ ?_ ?_ ?_
 exact zoB
 exact nd_33
 exact T.g_0
 exact T.x_exc
 exact G_31
 exact T.b_31
 exact T.m_31
 exact T.F_31.kp
 exact (zdk.of (hr.mono (by decide)))
 intro pn xe E' hx
 refine zam ?_
 refine ze1 ?_ ?_ ?_
 refine zbf ?_ ?_ ?_
 exact (ze7 (zgN hr))
 exact zad 1
 exact zbX
 refine zam ?_
 refine zcI ?_
 refine zkS (C:=t.a_21) (names:=["stock","things","steps"]) (k:=7) (g:=t.a_Keeper_come) (fd:=t.d_Keeper_come) (ps:=["self","thing"]) ?_ ?_ ?_ ?_ ?_ ?_ ?_ ?_
 exact T.I_21
 exact T.M_Keeper_come
 exact zaG
 exact hx
 exact (hr.mono (by decide))
 exact T.b_Keeper_come
 exact zad 0
 refine zaa ?_ ?_
 exact zad 2
 exact zac
 refine zam ?_
 refine zcI ?_
 refine zjF (C:=t.a_21) (names:=["stock","things","steps"]) (k:=1) (g:=t.a_Keeper_undo) (fd:=t.d_Keeper_undo) (ps:=["self"]) ?_ ?_ ?_ ?_ ?_ ?_ ?_
 exact T.I_21
 exact T.M_Keeper_undo
 exact zaL
 exact hx
 exact (hr.mono (by decide))
 exact T.b_Keeper_undo
 exact zad 0
 refine zam ?_
 refine zaS ?_
 exact zad 3
theorem zf2:zap ["self"] ["self"] (zae zcb):=⟨rfl,rfl,rfl,by decide +kernel,rfl,by decide +kernel,by decide +kernel⟩
theorem zfZ (T:Tx K mg t):zbh P w K mg base CX0 1 t.a_Keeper_came t.d_Keeper_came ["self"] (zbO K 1 F_Keeper_came):=by
 refine zbB (k:=0) (G:=zbu) (N:=["self"]) (ps:=["self"]) (st:=zcb) T.F_Keeper_came zf2 fun cdv A outer s H E hr=> ?_
 refine zam ?_
 refine zaS ?_
 refine zbI (T:="list") ?_ ?_ ?_ ?_
 exact zgq
 exact zli
 exact T.n_list
 refine zaa ?_ ?_
 refine zcO (C:=t.a_21) (names:=["stock","things","steps"]) ?_ ?_ ?_
 exact T.I_21
 exact (by decide +kernel)
 exact zad 0
 exact zac
theorem ztZ:(["share"]:List Str).Nodup:=by decide +kernel
theorem zfe:zap ["self"] ["self"] (zae zby):=⟨rfl,rfl,rfl,by decide +kernel,rfl,by decide +kernel,by decide +kernel⟩
theorem zfD (T:Tx K mg t):zbh P w K mg base CX0 2 t.a_Keeper_bears t.d_Keeper_bears ["self"] (zbO K 1 F_Keeper_bears):=by
 have zaH:=zc6 (P:=P) (w:=w) (base:=base) T
 refine zbB (k:=1) (G:=zbc) (N:=["self"]) (ps:=["self"]) (st:=zby) T.F_Keeper_bears zfe fun cdv A outer s H E hr=> ?_
 refine zam ?_
 refine zaS ?_
 refine zbI (T:="tuple") ?_ ?_ ?_ ?_
 exact zbn
 exact zbM
 exact T.n_tuple
 refine zaa ?_ ?_
 refine zc5 (N:=["share"]) ?_ ?_ ?_ ?_ ?_ ?_ ?_
 exact rfl
 exact (BOk.of (Xn:=(zae zby).names) (XN:=["self"]) rfl rfl rfl (by decide +kernel))
 exact (zaY.name (i:=0) rfl)
 refine zeo ?_
 refine zcf (C:=t.a_21) (names:=["stock","things","steps"]) (k:=1) (g:=t.a_Keeper_shares) (fd:=t.d_Keeper_shares) (ps:=["self"]) ?_ ?_ ?_ ?_ ?_ ?_
 exact T.I_21
 exact T.M_Keeper_shares
 exact zaH
 exact (hr.mono (by decide))
 exact T.b_Keeper_shares
 exact zad 0
 intro _ _ _
 exact zaB 0 ztZ
 intro _ _ _
 exact zdG
 intro _ _ _
 refine zaw ?_
 refine zaa ?_ ?_
 exact zad 0
 refine zaa ?_ ?_
 exact zaj
 exact zac
 exact zac
theorem zrO:(["offer"]:List Str).Nodup:=by decide +kernel
theorem sc_15:zap ["stock","lot"] ["stock","lot"] (zae s_15):=⟨rfl,rfl,rfl,by decide +kernel,rfl,by decide +kernel,by decide +kernel⟩
theorem ok_15 (T:Tx K mg t):zbh P w K mg base CX0 6 t.a_15 t.d_15 ["stock","lot"] (zbO K 2 F_15):=by
 have G_18:=ok_18 (P:=P) (w:=w) (base:=base) T
 refine zbB (k:=5) (G:=G_15) (N:=["stock","lot"]) (ps:=["stock","lot"]) (st:=s_15) T.F_15 sc_15 fun cdv A outer s H E hr=> ?_
 refine zam ?_
 refine zaS ?_
 refine za3 (id:="sum") ?_ ?_ ?_ ?_
 exact (zhA rfl)
 exact zo7
 exact T.n_sum
 refine zaa ?_ ?_
 refine zc5 (N:=["offer"]) ?_ ?_ ?_ ?_ ?_ ?_ ?_
 exact rfl
 exact (BOk.of (Xn:=(zae s_15).names) (XN:=["stock","lot"]) rfl rfl rfl (by decide +kernel))
 exact (zaY.name (i:=0) rfl)
 refine zeo ?_
 refine zet (k:=5) (g:=t.a_18) (fd:=t.d_18) (ps:=["stock","lot"]) ?_ ?_ ?_ ?_ ?_ ?_ ?_
 exact G_18
 exact zeA
 exact (hr.mono (by decide))
 exact T.m_18
 exact T.F_18.kp
 exact T.b_18
 refine zaa ?_ ?_
 exact zad 0
 refine zaa ?_ ?_
 exact zad 1
 exact zac
 intro _ _ _
 exact zaB 0 zrO
 intro _ _ _
 exact zdG
 intro _ _ _
 refine zdb ?_ ?_
 exact zad 0
 exact zaj
 exact zac
theorem zfQ:zap ["self"] ["self"] (zae zb8):=⟨rfl,rfl,rfl,by decide +kernel,rfl,by decide +kernel,by decide +kernel⟩
theorem zfU (T:Tx K mg t):zbh P w K mg base CX0 7 t.a_Keeper_paid t.d_Keeper_paid ["self"] (zbO K 1 F_Keeper_paid):=by
 have G_15:=ok_15 (P:=P) (w:=w) (base:=base) T
 have zat:=zbF (P:=P) (w:=w) (base:=base) T
 refine zbB (k:=6) (G:=zbr) (N:=["self"]) (ps:=["self"]) (st:=zb8) T.F_Keeper_paid zfQ fun cdv A outer s H E hr=> ?_
 refine zam ?_
 refine zaS ?_
 refine zaD (k:=6) (g:=t.a_15) (fd:=t.d_15) (ps:=["stock","lot"]) ?_ ?_ ?_ ?_ ?_ ?_
 exact G_15
 exact (hr.mono (by decide))
 exact T.m_15
 exact T.F_15.kp
 exact T.b_15
 refine zaa ?_ ?_
 refine zcO (C:=t.a_21) (names:=["stock","things","steps"]) ?_ ?_ ?_
 exact T.I_21
 exact (by decide +kernel)
 exact zad 0
 refine zaa ?_ ?_
 refine zcf (C:=t.a_21) (names:=["stock","things","steps"]) (k:=2) (g:=t.a_Keeper_taken) (fd:=t.d_Keeper_taken) (ps:=["self"]) ?_ ?_ ?_ ?_ ?_ ?_
 exact T.I_21
 exact T.M_Keeper_taken
 exact zat
 exact (hr.mono (by decide))
 exact T.b_Keeper_taken
 exact zad 0
 exact zac
theorem zdX:(["self","lot","had"]:List Str).Nodup:=by decide +kernel
theorem zrC:(["thing","had"]:List Str).Nodup:=by decide +kernel
theorem zdR:zap ["self","lot","had"] ["self","lot"] (zae zaV):=⟨rfl,rfl,rfl,by decide +kernel,rfl,by decide +kernel,by decide +kernel⟩
theorem zdO (T:Tx K mg t):zbh P w K mg base CX0 7 t.a_Keeper_is_enough t.d_Keeper_is_enough ["self","lot"] (zbO K 2 F_Keeper_is_enough):=by
 have G_14:=ok_14 (P:=P) (w:=w) (base:=base) T
 refine zbB (k:=6) (G:=zaJ) (N:=["self","lot","had"]) (ps:=["self","lot"]) (st:=zaV) T.F_Keeper_is_enough zdR fun cdv A outer s H E hr=> ?_
 refine zaf ?_ ?_
 refine zaR 2 ?_ ?_
 exact zdX
 refine zet (k:=6) (g:=t.a_14) (fd:=t.d_14) (ps:=["stock","lot"]) ?_ ?_ ?_ ?_ ?_ ?_ ?_
 exact G_14
 exact zeA
 exact (hr.mono (by decide))
 exact T.m_14
 exact T.F_14.kp
 exact T.b_14
 refine zaa ?_ ?_
 refine zcO (C:=t.a_21) (names:=["stock","things","steps"]) ?_ ?_ ?_
 exact T.I_21
 exact (by decide +kernel)
 exact zad 0
 refine zaa ?_ ?_
 exact zad 1
 exact zac
 refine zam ?_
 refine zaS ?_
 refine za3 (id:="all") ?_ ?_ ?_ ?_
 exact (zhE rfl)
 exact zo6
 exact T.n_all
 refine zaa ?_ ?_
 refine zc5 (N:=["thing","had"]) ?_ ?_ ?_ ?_ ?_ ?_ ?_
 exact rfl
 exact (BOk.of (Xn:=(zae zaV).names) (XN:=["self","lot","had"]) rfl rfl rfl (by decide +kernel))
 exact (zaY.name (i:=0) rfl)
 refine zeo ?_
 refine zhP ?_ ?_ ?_ ?_
 exact rfl
 exact T.n_sorted
 exact T.n_set
 refine zcO (C:=t.a_21) (names:=["stock","things","steps"]) ?_ ?_ ?_
 exact T.I_21
 exact (by decide +kernel)
 exact zad 0
 intro _ _ _
 exact zaB 0 zrC
 intro _ _ _
 exact zdG
 intro _ _ _
 refine zmr ?_ ?_ ?_
 exact (zlt (zgN hr))
 exact zad 0
 exact zad 1
 exact zac
theorem zaZ:(["self","kept","number","fewer"]:List Str).Nodup:=by decide +kernel
theorem ztz:(["other","number"]:List Str).Nodup:=by decide +kernel
theorem zdA:zap ["self","kept","number","fewer"] ["self"] (zae zaP):=⟨rfl,rfl,rfl,by decide +kernel,rfl,by decide +kernel,by decide +kernel⟩
theorem zdC (T:Tx K mg t):zbh P w K mg base CX0 8 t.a_Keeper_least_kept t.d_Keeper_least_kept ["self"] (zbO K 1 F_Keeper_least_kept):=by
 have zat:=zbF (P:=P) (w:=w) (base:=base) T
 have zay:=zcq (P:=P) (w:=w) (base:=base) T
 have zaJ:=zdO (P:=P) (w:=w) (base:=base) T
 refine zbB (k:=7) (G:=zaE) (N:=["self","kept","number","fewer"]) (ps:=["self"]) (st:=zaP) T.F_Keeper_least_kept zdA fun cdv A outer s H E hr=> ?_
 refine zaf ?_ ?_
 refine zaR 1 ?_ ?_
 exact zaZ
 refine zcf (C:=t.a_21) (names:=["stock","things","steps"]) (k:=2) (g:=t.a_Keeper_taken) (fd:=t.d_Keeper_taken) (ps:=["self"]) ?_ ?_ ?_ ?_ ?_ ?_
 exact T.I_21
 exact T.M_Keeper_taken
 exact zat
 exact (hr.mono (by decide))
 exact T.b_Keeper_taken
 exact zad 0
 refine zaf ?_ ?_
 refine ziZ ?_ ?_ ?_ ?_ ?_
 exact rfl
 exact PassesOwn.never
 refine zeo ?_
 refine ztd ?_
 refine zcf (C:=t.a_21) (names:=["stock","things","steps"]) (k:=1) (g:=t.a_Keeper_in_order) (fd:=t.d_Keeper_in_order) (ps:=["self"]) ?_ ?_ ?_ ?_ ?_ ?_
 exact T.I_21
 exact T.M_Keeper_in_order
 exact zay
 exact (hr.mono (by decide))
 exact T.b_Keeper_in_order
 exact zad 0
 exact zaB 2 zaZ
 refine zaf ?_ ?_
 refine zaR 3 ?_ ?_
 exact zaZ
 refine zbI (T:="tuple") ?_ ?_ ?_ ?_
 exact zbn
 exact zbM
 exact T.n_tuple
 refine zaa ?_ ?_
 refine zc5 (N:=["other","number"]) ?_ ?_ ?_ ?_ ?_ ?_ ?_
 exact rfl
 exact (BOk.of (Xn:=(zae zaP).names) (XN:=["self","kept","number","fewer"]) rfl rfl rfl (by decide +kernel))
 exact (zaY.name (i:=0) rfl)
 refine zeo ?_
 exact zad 1
 intro _ _ _
 exact zaB 0 ztz
 intro _ _ _
 refine zia ?_
 refine zbf ?_ ?_ ?_
 exact (zfJ (zgN hr))
 exact zad 0
 exact zad 1
 intro _ _ _
 exact zad 0
 exact zac
 refine zam ?_
 refine ze1 ?_ ?_ ?_
 refine zdr ?_
 refine zrT (C:=t.a_21) (names:=["stock","things","steps"]) (k:=7) (g:=t.a_Keeper_is_enough) (fd:=t.d_Keeper_is_enough) (ps:=["self","lot"]) ?_ ?_ ?_ ?_ ?_ ?_ ?_
 exact T.I_21
 exact T.M_Keeper_is_enough
 exact zaJ
 exact (hr.mono (by decide))
 exact T.b_Keeper_is_enough
 exact zad 0
 refine zaa ?_ ?_
 exact zad 3
 exact zac
 refine zam ?_
 refine zaR 1 ?_ ?_
 exact zaZ
 exact zad 3
 exact zbp
 refine zam ?_
 refine zaS ?_
 exact zad 1
theorem sc_30:zap ["keeper"] ["keeper"] (zae s_30):=⟨rfl,rfl,rfl,by decide +kernel,rfl,by decide +kernel,by decide +kernel⟩
theorem ok_30 (T:Tx K mg t):zbh P w K mg base CX0 9 t.a_30 t.d_30 ["keeper"] (zbO K 1 F_30):=by
 have zbu:=zfZ (P:=P) (w:=w) (base:=base) T
 have zat:=zbF (P:=P) (w:=w) (base:=base) T
 have zbc:=zfD (P:=P) (w:=w) (base:=base) T
 have zbr:=zfU (P:=P) (w:=w) (base:=base) T
 have zaE:=zdC (P:=P) (w:=w) (base:=base) T
 refine zbB (k:=8) (G:=G_30) (N:=["keeper"]) (ps:=["keeper"]) (st:=s_30) T.F_30 sc_30 fun cdv A outer s H E hr=> ?_
 refine zam ?_
 refine zaS ?_
 refine zcK ?_
 refine zaa ?_ ?_
 refine zcf (C:=t.a_21) (names:=["stock","things","steps"]) (k:=1) (g:=t.a_Keeper_came) (fd:=t.d_Keeper_came) (ps:=["self"]) ?_ ?_ ?_ ?_ ?_ ?_
 exact T.I_21
 exact T.M_Keeper_came
 exact zbu
 exact (hr.mono (by decide))
 exact T.b_Keeper_came
 exact zad 0
 refine zaa ?_ ?_
 refine zcf (C:=t.a_21) (names:=["stock","things","steps"]) (k:=2) (g:=t.a_Keeper_taken) (fd:=t.d_Keeper_taken) (ps:=["self"]) ?_ ?_ ?_ ?_ ?_ ?_
 exact T.I_21
 exact T.M_Keeper_taken
 exact zat
 exact (hr.mono (by decide))
 exact T.b_Keeper_taken
 exact zad 0
 refine zaa ?_ ?_
 refine zcf (C:=t.a_21) (names:=["stock","things","steps"]) (k:=2) (g:=t.a_Keeper_bears) (fd:=t.d_Keeper_bears) (ps:=["self"]) ?_ ?_ ?_ ?_ ?_ ?_
 exact T.I_21
 exact T.M_Keeper_bears
 exact zbc
 exact (hr.mono (by decide))
 exact T.b_Keeper_bears
 exact zad 0
 refine zaa ?_ ?_
 refine zcf (C:=t.a_21) (names:=["stock","things","steps"]) (k:=7) (g:=t.a_Keeper_paid) (fd:=t.d_Keeper_paid) (ps:=["self"]) ?_ ?_ ?_ ?_ ?_ ?_
 exact T.I_21
 exact T.M_Keeper_paid
 exact zbr
 exact (hr.mono (by decide))
 exact T.b_Keeper_paid
 exact zad 0
 refine zaa ?_ ?_
 refine zcf (C:=t.a_21) (names:=["stock","things","steps"]) (k:=8) (g:=t.a_Keeper_least_kept) (fd:=t.d_Keeper_least_kept) (ps:=["self"]) ?_ ?_ ?_ ?_ ?_ ?_
 exact T.I_21
 exact T.M_Keeper_least_kept
 exact zaE
 exact (hr.mono (by decide))
 exact T.b_Keeper_least_kept
 exact zad 0
 exact zac
theorem sc_28:zap ["found"] ["found"] (zae s_28):=⟨rfl,rfl,rfl,by decide +kernel,rfl,by decide +kernel,by decide +kernel⟩
theorem ok_28 (T:Tx K mg t):zbh P w K mg base CX0 1 t.a_28 t.d_28 ["found"] (zbO K 1 F_28):=by
 refine zbB (k:=0) (G:=G_28) (N:=["found"]) (ps:=["found"]) (st:=s_28) T.F_28 sc_28 fun cdv A outer s H E hr=> ?_
 refine zam ?_
 refine zaS ?_
 refine zkn ?_ ?_
 refine zis ?_ ?_ ?_ ?_ ?_
 exact zmA
 exact zoE
 exact T.n_isinstance
 exact T.n_int
 exact zad 0
 refine znh ?_
 refine zrJ ?_
 refine zis ?_ ?_ ?_ ?_ ?_
 exact zjy
 exact zmu
 exact T.n_isinstance
 exact T.n_bool
 exact zad 0
theorem nd_35:(["script","k","box","stock","keeper","ahead","thing"]:List Str).Nodup:=by decide +kernel
theorem sc_35:zap ["script","k","box","stock","keeper","ahead","thing"] ["script"] (zae s_35):=⟨rfl,rfl,rfl,by decide +kernel,rfl,by decide +kernel,by decide +kernel⟩
theorem ok_35 (T:Tx K mg t):zbh P w K mg base CX0 10 t.a_35 t.d_35 ["script"] (zbO K 1 F_35):=by
 have G_24:=ok_24 (P:=P) (w:=w) (base:=base) T
 have G_27:=ok_27 (P:=P) (w:=w) (base:=base) T
 have G_32:=ok_32 (P:=P) (w:=w) (base:=base) T
 have G_34:=ok_34 (P:=P) (w:=w) (base:=base) T
 have zas:=zcp (P:=P) (w:=w) (base:=base) T
 have G_33:=ok_33 (P:=P) (w:=w) (base:=base) T
 have zaG:=zdK (P:=P) (w:=w) (base:=base) T
 have G_25:=ok_25 (P:=P) (w:=w) (base:=base) T
 have G_30:=ok_30 (P:=P) (w:=w) (base:=base) T
 have G_29:=ok_29 (P:=P) (w:=w) (base:=base) T
 have G_28:=ok_28 (P:=P) (w:=w) (base:=base) T
 have zaL:=zdF (P:=P) (w:=w) (base:=base) T
 refine zbB (k:=9) (G:=G_35) (N:=["script","k","box","stock","keeper","ahead","thing"]) (ps:=["script"]) (st:=s_35) T.F_35 sc_35 fun cdv A outer s H E hr=> ?_
 refine zaf ?_ ?_
 refine ziZ ?_ ?_ ?_ ?_ ?_
 exact rfl
 exact PassesOwn.never
 refine zkd ?_ ?_
 exact T.n_range
 refine zaa ?_ ?_
 refine za3 (id:="max") ?_ ?_ ?_ ?_
 exact (zj8 rfl)
 exact zsz
 exact T.n_max
 refine zaa ?_ ?_
 exact zaj
 refine zaa ?_ ?_
 refine za3 (id:="min") ?_ ?_ ?_ ?_
 exact (zjP rfl)
 exact zo1
 exact T.n_min
 refine zaa ?_ ?_
 refine za3 (id:="len") ?_ ?_ ?_ ?_
 exact zbm
 exact zdl
 exact T.n_len
 refine zaa ?_ ?_
 exact zad 0
 exact zac
 refine zaa ?_ ?_
 exact zaj
 exact zac
 exact zac
 exact zac
 exact zaB 1 nd_35
 refine zaf ?_ ?_
 refine zaR 2 ?_ ?_
 exact nd_35
 refine zaD (k:=2) (g:=t.a_24) (fd:=t.d_24) (ps:=["script","k"]) ?_ ?_ ?_ ?_ ?_ ?_
 exact G_24
 exact (hr.mono (by decide))
 exact T.m_24
 exact T.F_24.kp
 exact T.b_24
 refine zaa ?_ ?_
 exact zad 0
 refine zaa ?_ ?_
 exact zad 1
 exact zac
 refine zaf ?_ ?_
 refine zaR 3 ?_ ?_
 exact nd_35
 refine zaD (k:=3) (g:=t.a_27) (fd:=t.d_27) (ps:=["box","most_things","most_offers"]) ?_ ?_ ?_ ?_ ?_ ?_
 exact G_27
 exact (hr.mono (by decide))
 exact T.m_27
 exact T.F_27.kp
 exact T.b_27
 refine zaa ?_ ?_
 exact zad 2
 refine zaa ?_ ?_
 exact zaj
 refine zaa ?_ ?_
 exact zaj
 exact zac
 refine zaf ?_ ?_
 refine ze1 ?_ ?_ ?_
 refine zbf ?_ ?_ ?_
 exact (zfJ (zgN hr))
 refine zaD (k:=7) (g:=t.a_32) (fd:=t.d_32) (ps:=["thing"]) ?_ ?_ ?_ ?_ ?_ ?_
 exact G_32
 exact (hr.mono (by decide))
 exact T.m_32
 exact T.F_32.kp
 exact T.b_32
 refine zaa ?_ ?_
 refine zaD (k:=3) (g:=t.a_34) (fd:=t.d_34) (ps:=["box","stock"]) ?_ ?_ ?_ ?_ ?_ ?_
 exact G_34
 exact (hr.mono (by decide))
 exact T.m_34
 exact T.F_34.kp
 exact T.b_34
 refine zaa ?_ ?_
 exact zad 2
 refine zaa ?_ ?_
 exact zad 3
 exact zac
 exact zac
 exact zbX
 refine zam ?_
 refine zaS ?_
 exact zgz
 exact zbp
 refine zaf ?_ ?_
 refine zaR 4 ?_ ?_
 exact nd_35
 refine ziz (C:=t.a_21) (names:=["stock","things","steps"]) (k:=5) (g:=t.a_Keeper___init__) (fd:=t.d_Keeper___init__) (ps:=["self","stock"]) ?_ ?_ ?_ ?_ ?_ ?_ ?_ ?_
 exact T.I_21
 exact T.Y_21
 exact zas
 exact zeA
 exact (hr.mono (by decide))
 exact T.g_21
 exact T.b_Keeper___init__
 refine zaa ?_ ?_
 exact zad 3
 exact zac
 refine zaf ?_ ?_
 refine ze1 ?_ ?_ ?_
 refine zbf ?_ ?_ ?_
 exact (zfJ (zgN hr))
 refine zaD (k:=8) (g:=t.a_33) (fd:=t.d_33) (ps:=["keeper","deed","thing"]) ?_ ?_ ?_ ?_ ?_ ?_
 exact G_33
 exact (hr.mono (by decide))
 exact T.m_33
 exact T.F_33.kp
 exact T.b_33
 refine zaa ?_ ?_
 exact zad 4
 refine zaa ?_ ?_
 exact zbX
 refine zaa ?_ ?_
 exact ziq
 exact zac
 exact zbX
 refine zam ?_
 refine zaS ?_
 exact zgz
 exact zbp
 refine zaf ?_ ?_
 refine zcI ?_
 refine zkS (C:=t.a_21) (names:=["stock","things","steps"]) (k:=7) (g:=t.a_Keeper_come) (fd:=t.d_Keeper_come) (ps:=["self","thing"]) ?_ ?_ ?_ ?_ ?_ ?_ ?_ ?_
 exact T.I_21
 exact T.M_Keeper_come
 exact zaG
 exact zeA
 exact (hr.mono (by decide))
 exact T.b_Keeper_come
 exact zad 4
 refine zaa ?_ ?_
 refine zaD (k:=1) (g:=t.a_25) (fd:=t.d_25) (ps:=["box","many"]) ?_ ?_ ?_ ?_ ?_ ?_
 exact G_25
 exact (hr.mono (by decide))
 exact T.m_25
 exact T.F_25.kp
 exact T.b_25
 refine zaa ?_ ?_
 exact zad 2
 refine zaa ?_ ?_
 refine zdb ?_ ?_
 exact zad 3
 exact zaj
 exact zac
 exact zac
 refine zaf ?_ ?_
 refine zaR 5 ?_ ?_
 exact nd_35
 refine zaD (k:=9) (g:=t.a_30) (fd:=t.d_30) (ps:=["keeper"]) ?_ ?_ ?_ ?_ ?_ ?_
 exact G_30
 exact (hr.mono (by decide))
 exact T.m_30
 exact T.F_30.kp
 exact T.b_30
 refine zaa ?_ ?_
 exact zad 4
 exact zac
 refine zaf ?_ ?_
 refine ziZ ?_ ?_ ?_ ?_ ?_
 exact rfl
 exact PassesOwn.never
 refine zeo ?_
 refine zcK ?_
 refine zaa ?_ ?_
 refine zdb ?_ ?_
 exact zad 3
 exact zaj
 refine zaa ?_ ?_
 refine znt ?_
 exact zaj
 refine zaa ?_ ?_
 exact zgz
 refine zaa ?_ ?_
 exact ziq
 refine zaa ?_ ?_
 exact zbX
 refine zaa ?_ ?_
 refine zaw ?_
 refine zaa ?_ ?_
 exact zaj
 exact zac
 refine zaa ?_ ?_
 refine zaD (k:=2) (g:=t.a_29) (fd:=t.d_29) (ps:=["box"]) ?_ ?_ ?_ ?_ ?_ ?_
 exact G_29
 exact (hr.mono (by decide))
 exact T.m_29
 exact T.F_29.kp
 exact T.b_29
 refine zaa ?_ ?_
 exact zad 2
 exact zac
 exact zac
 exact zaB 6 nd_35
 refine zam ?_
 refine ze1 ?_ ?_ ?_
 refine zdS ?_
 refine zgM ?_ ?_
 refine zcP ?_
 refine zdr ?_
 refine zaD (k:=1) (g:=t.a_28) (fd:=t.d_28) (ps:=["found"]) ?_ ?_ ?_ ?_ ?_ ?_
 exact G_28
 exact (hr.mono (by decide))
 exact T.m_28
 exact T.F_28.kp
 exact T.b_28
 refine zaa ?_ ?_
 exact zad 6
 exact zac
 refine zgf ?_
 refine zcP ?_
 refine zoa ?_ ?_ ?_ ?_ ?_
 exact zpb
 exact zh5
 exact zaj
 exact zad 6
 refine zdb ?_ ?_
 exact zad 3
 exact zaj
 refine zam ?_
 refine ze1 ?_ ?_ ?_
 refine zdS ?_
 refine zgM ?_ ?_
 refine zbf ?_ ?_ ?_
 exact (zfJ (zgN hr))
 refine zaD (k:=8) (g:=t.a_33) (fd:=t.d_33) (ps:=["keeper","deed","thing"]) ?_ ?_ ?_ ?_ ?_ ?_
 exact G_33
 exact (hr.mono (by decide))
 exact T.m_33
 exact T.F_33.kp
 exact T.b_33
 refine zaa ?_ ?_
 exact zad 4
 refine zaa ?_ ?_
 exact zbX
 refine zaa ?_ ?_
 exact zad 6
 exact zac
 exact zbX
 refine zgf ?_
 refine zbf ?_ ?_ ?_
 exact (zfJ (zgN hr))
 refine zaD (k:=9) (g:=t.a_30) (fd:=t.d_30) (ps:=["keeper"]) ?_ ?_ ?_ ?_ ?_ ?_
 exact G_30
 exact (hr.mono (by decide))
 exact T.m_30
 exact T.F_30.kp
 exact T.b_30
 refine zaa ?_ ?_
 exact zad 4
 exact zac
 exact zad 5
 refine zam ?_
 refine zaS ?_
 exact zgz
 exact zbp
 exact zbp
 refine zaf ?_ ?_
 refine zcI ?_
 refine zjF (C:=t.a_21) (names:=["stock","things","steps"]) (k:=1) (g:=t.a_Keeper_undo) (fd:=t.d_Keeper_undo) (ps:=["self"]) ?_ ?_ ?_ ?_ ?_ ?_ ?_
 exact T.I_21
 exact T.M_Keeper_undo
 exact zaL
 exact zeA
 exact (hr.mono (by decide))
 exact T.b_Keeper_undo
 exact zad 4
 refine zam ?_
 refine ze1 ?_ ?_ ?_
 refine zbf ?_ ?_ ?_
 exact (zfJ (zgN hr))
 refine zaD (k:=8) (g:=t.a_33) (fd:=t.d_33) (ps:=["keeper","deed","thing"]) ?_ ?_ ?_ ?_ ?_ ?_
 exact G_33
 exact (hr.mono (by decide))
 exact T.m_33
 exact T.F_33.kp
 exact T.b_33
 refine zaa ?_ ?_
 exact zad 4
 refine zaa ?_ ?_
 exact zbX
 refine zaa ?_ ?_
 exact ziq
 exact zac
 exact zbX
 refine zam ?_
 refine zaS ?_
 exact zgz
 exact zbp
 refine zam ?_
 refine zaS ?_
 refine zmr ?_ ?_ ?_
 exact (ze7 (zgN hr))
 refine zaD (k:=8) (g:=t.a_33) (fd:=t.d_33) (ps:=["keeper","deed","thing"]) ?_ ?_ ?_ ?_ ?_ ?_
 exact G_33
 exact (hr.mono (by decide))
 exact T.m_33
 exact T.F_33.kp
 exact T.b_33
 refine zaa ?_ ?_
 refine ziz (C:=t.a_21) (names:=["stock","things","steps"]) (k:=5) (g:=t.a_Keeper___init__) (fd:=t.d_Keeper___init__) (ps:=["self","stock"]) ?_ ?_ ?_ ?_ ?_ ?_ ?_ ?_
 exact T.I_21
 exact T.Y_21
 exact zas
 exact zeA
 exact (hr.mono (by decide))
 exact T.g_21
 exact T.b_Keeper___init__
 refine zaa ?_ ?_
 refine zaw ?_
 refine zaa ?_ ?_
 exact zaj
 refine zaa ?_ ?_
 refine zaw ?_
 refine zaa ?_ ?_
 refine zaw ?_
 refine zaa ?_ ?_
 refine zaw ?_
 refine zaa ?_ ?_
 exact zaj
 exact zac
 refine zaa ?_ ?_
 exact zaj
 exact zac
 exact zac
 exact zac
 exact zac
 refine zaa ?_ ?_
 exact zbX
 refine zaa ?_ ?_
 exact zaj
 exact zac
 exact zbX
end
end K92
set_option exponentiation.threshold 8000
namespace L3
open PySem PySem.Spec PyProof.Rows L2 LT
section
theorem zjN {i j:Int} (h0:0<j) (h1:j<2^100):zfm [.int i,.int j]=pure (.tup [.int (i / j),.int (i % j)]):=by
 unfold zfm
 simp only
 rw [qa4 ⟨h0,h1⟩]
theorem zg0 {i j:Int} (h:(zbd i || zbd j || zhk i j)=true):zgE (.int i) (.int j)=pure (.int (i*j)):=by
 show (if (zbd i || zbd j || zhk i j)=true then _ else _)=_
 rw [qa4 h]
theorem zlY {i j:Int} (h: -1000000000000000<i) (h':i<1000000000000000):zgE (.int i) (.int j)=pure (.int (i*j)):=zg0 (by rw [zgF h h'];rfl)
theorem zkU {i j:Int} (h: -1000000000000000<j) (h':j<1000000000000000):zgE (.int i) (.int j)=pure (.int (i*j)):=zg0 (by rw [zgF h h'];simp)
theorem zqG {x:Int} {n:Nat} (h:x.natAbs<2^n):Builtin.Int.intBits x<=n:=by
 unfold Builtin.Int.intBits
 split
 ·exact Nat.zero_le _
 ·rename_i c
  have h0:x.natAbs≠0:=fun z=>c (by simp;omega)
  exact (Nat.log2_lt h0).mpr h
theorem ziU {x:Int} {n:Nat} (h:Builtin.Int.intBits x<=n):x.natAbs<2^n:=by
 unfold Builtin.Int.intBits at h
 split at h
 ·rename_i c
  have:x=0:=by simpa using c
  subst this
  exact Nat.pow_pos (by decide)
 ·rename_i c
  have h0:x.natAbs≠0:=fun z=>c (by simp;omega)
  exact (Nat.log2_lt h0).mp h
theorem znF {c k:Int} {n:Nat} (h:Builtin.Int.intBits c<=n) (k0:0<=k) (k1:k<24):Builtin.Int.intBits ((c+1)*40692+104729*k)<=n+22:=by
 refine zqG ?_
 have h1:=ziU h
 rw [Nat.pow_add]
 generalize 2^n=B at h1
 have:(2:Nat)^22=4194304:=rfl
 rw [this]
 omega
theorem zsr:zpS (.int 10) (.int 20)=pure (.int 100000000000000000000):=by
 unfold zpS dII
 simp only
 rw [qa4 (by decide)]
 rfl
theorem zsG {n:Nat}:zcM [.cel n]=(do let ds<-zah n;pure (.tup ds)):=rfl
end
section
noncomputable def pdO (o:List Int×Int):PyData:= .tuple [.tuple (o.1.map PyData.int),.int o.2]
theorem zmb: ∀ os:List (List Int×Int),pdL (os.map zb2)=some (os.map pdO)
 | []=>rfl
 | o::r=>by
  rw [qaM,pdL,zmb r]
  simp only [zb2,tI,pd,pdL,zcc,Option.map,pdO,qaM]
theorem zi8: ∀ os:List (List Int×Int),PyData.canLayAll0 (os.map pdO)=true
 | []=>rfl
 | o::r=>by simp [PyData.canLayAll0,PyData.canLay0,zbl,zi8 r,pdO]
theorem zm0 (os:List (List Int×Int)):dEq (.lst (os.map zb2)) (.lst [])=pure (.bl os.isEmpty):=by
 have e1:pd (.lst (os.map zb2))=some (.list (os.map pdO)):=by unfold pd;rw [zmb];rfl
 have e2:pd (.lst [])=some (.list []):=rfl
 rw [zhp e1 e2 (by unfold zkc;simp [PyData.canLay0,PyData.canLayAll0,zi8,PyData.depth,PyData.depthAll])]
 cases os<;>rfl
theorem zjA {x y:D} {a b:PyData} (e1:pd x=some a) (e2:pd y=some b) (h:zkc a b=true):dNe x y=pure (.bl (!PyData.eqv a b)):=by
 show zkw true x y=_
 unfold zkw
 rw [e1,e2]
 simp only [h,if_true]
theorem zbZ {α β:Type} {p:α->Bool} {g:α->β}: ∀ xs:List α,xs.filterMap (fun x=>if p x=true then some (g x) else none)=(xs.filter p).map g
 | []=>rfl
 | x::r=>by
  rw [qat,List.filter_cons,zbZ r]
  cases p x<;>simp
theorem zcN {α:Type} {g':α->D} {fi:FA} {g:D->Sd->M Sd} {tc:FT} {te:FE} {src:List (Option Nat)} {sd:Sd} {xs:List α} {k:α->Option D} (hi:fi sd=pure (xs.map g')) (hl:xs.length<=1000) (hf: ∀ x∈xs,zbw g tc te (zao src sd) (g' x)=pure (k x)):zba fi g tc te src sd=pure (.lst (xs.filterMap k)):=by
 unfold zba
 rw [hi]
 simp only [pure_bind]
 rw [zax (by rw [qaH];exact hl)]
 simp only [pure_bind]
 have: ∀ {ys:List α},(∀ x∈ys,zbw g tc te (zao src sd) (g' x)=pure (k x))->zco (zbw g tc te (zao src sd)) (ys.map g')=pure (ys.filterMap k):=by
  intro ys
  induction ys with
  | nil=>intro _;rfl
  | cons x r ih=>
   intro hf
   rw [qaM,zco,hf x qau,ih fun y hy=>hf y (qan _ hy)]
   simp only [pure_bind]
   cases e:k x<;>simp [qat,e]
 rw [this hf]
 simp only [pure_bind]
noncomputable def kl (n:Nat):Nat->List (List Int)
 | 0=>[[]]
 | r+1=>(kl n r).take 1++(kl n r).map (fun ls=>((n - (r+1):Nat):Int)::ls)++(kl n r).drop 1
noncomputable def pr (os:List (List Int×Int)) (ls:List Int):Int:=(ls.map fun i=>(os.getD i.toNat ([],0)).2).sum
section
variable {g g1 g':FS} {t:FT} {a:FE} {fs fi:FA} {gt:D->Sd->M Sd} {sd:Sd} {i:Nat} {h:Hh} {P:Out->Hh->Prop} {ds:List D} {d:D}
theorem zd5 (q:wp (a sd) h fun d h'=>wp (g' (sd.set i (some d))) h' P):wp (zar (zb3 i a) g' sd) h P:=by
 rw [zaz,zb5,bind_assoc,zai]
 exact q
theorem zgv (e:a sd=pure d) (q:wp (g' (sd.set i (some d))) h P):wp (zar (zb3 i a) g' sd) h P:=by
 refine zd5 ?_
 rw [e,zan]
 exact q
theorem zqo (e:fi sd=pure ds) (q:wp (zbv (fun x sd=>do let sd1<-gt x sd;g sd1) ds sd) h fun o h'=>wp (andThen o g') h' P):wp (zar (zkQ fi gt g) g' sd) h P:=by
 rw [zaz,zgk,e,pure_bind,zai]
 exact q
end
end
section
theorem zoO {n:Nat} {ds:List D} {h:Hh} {P:Unit->Hh->Prop} (e:h[n]? = some (.lst ds)) (q:P () h):wp (chk n ds) h P:=by
 refine ⟨(),h,?_,q⟩
 unfold chk
 rw [qa4 e]
theorem zja {α:Type} {g':α->D} {n:Nat} {full:List D} {F:D->M (Option D)} {k:α->Option D} {h:Hh} (e:h[n]? = some (.lst full)): ∀ (ys:List α) {P:List D->Hh->Prop},(∀ x∈ys,F (g' x)=pure (k x))->P (ys.filterMap k) h->wp (zcl n full F (ys.map g')) h P
 | [],P,_,q=>by
  rw [List.map_nil,zcl,zai]
  refine zoO e ?_
  rw [zan]
  exact q
 | y::r,P,hf,q=>by
  rw [qaM,zcl,zai]
  refine zoO e ?_
  rw [hf y qau,pure_bind,zai]
  refine zja e r (fun x hx=>hf x (qan _ hx)) ?_
  rw [zan]
  rw [qat] at q
  cases hk:k y with
  | none=>rw [hk] at q;exact q
  | some z=>rw [hk] at q;exact q
theorem znn {α:Type} {g':α->D} {f:D->M (Option D)} {k:α->Option D} {h:Hh}: ∀ {xs:List α} {P:List D->Hh->Prop},(∀ x∈xs,wp (f (g' x)) h fun o h'=>o=k x/\h'=h)->P (xs.filterMap k) h->wp (zco f (xs.map g')) h P
 | [],P,_,q=>by rw [List.map_nil,zco,zan];exact q
 | x::r,P,hf,q=>by
  rw [qaM,zco,zai]
  refine zey (hf x qau) ?_
  rintro o h' ⟨rfl,rfl⟩
  rw [zai]
  refine znn (fun y hy=>hf y (qan _ hy)) ?_
  rw [zan]
  rw [qat] at q
  cases hk:k x<;>rw [hk] at q<;>exact q
theorem za6 {α:Type} {g:α->D} (xs:List α):xs.filterMap (fun x=>some (g x))=xs.map g:=by simp
theorem zjf {α:Type} {g':α->D} {f:FE} {g:D->Sd->M Sd} {tc:FT} {te:FE} {src:List (Option Nat)} {sd:Sd} {n:Nat} {h:Hh} {xs:List α} {k:α->Option D} {P:D->Hh->Prop} (hf: ∀ {P:D->Hh->Prop},P (.cel n) h->wp (f sd) h P) (e:h[n]? = some (.lst (xs.map g'))) (hl:xs.length<=1000)
  (ht: ∀ x∈xs,zbw g tc te (zao src sd) (g' x)=pure (k x)) (q:P (.lst (xs.filterMap k)) h):wp (zgg f g tc te src sd) h P:=by
 unfold zgg
 rw [zai]
 refine hf ?_
 simp only [zai,zce e]
 rw [zax (by rw [qaH];exact hl),zan]
 refine zja e xs ht ?_
 rw [zan]
 exact q
theorem zth {α:Type} {g':α->D} {f:D->M (Option D)} {k:α->Option D}: ∀ {xs:List α} {h:Hh} {P:List D->Hh->Prop},(∀ x∈xs, ∀ h',Gro h h'->wp (f (g' x)) h' fun o h''=>o=k x/\Gro h' h'')->(∀ h',Gro h h'->P (xs.filterMap k) h')->wp (zco f (xs.map g')) h P
 | [],h,P,_,q=>by rw [List.map_nil,zco,zan];exact q h .refl
 | x::r,h,P,hf,q=>by
  rw [qaM,zco,zai]
  refine zey (hf x qau h .refl) ?_
  rintro o h1 ⟨rfl,g1⟩
  rw [zai]
  refine zth (fun y hy h' g'=>hf y (qan _ hy) h' (g1.trans g')) fun h2 g2=> ?_
  rw [zan]
  have q:=q h2 (g1.trans g2)
  rw [qat] at q
  cases hk:k x<;>rw [hk] at q<;>exact q
noncomputable def zil (st:D) (tn sn:Nat):List (Str×D):=[("stock",st),("things",.cel tn),("steps",.cel sn)]
section
variable {n:Nat} {c:String} {f m:Str} {fs:List (Str×D)} {d:D} {h:Hh}
theorem zbj {P:D->Hh->Prop} (e:h[n]? = some (.ins c fs)) (l:fs.lookup f=some d) (k:P d h):wp (zeP c f (.cel n)) h P:=by
 refine ⟨d,h,?_,k⟩
 show M.bind (zbP n) _ h=_
 unfold M.bind zbP
 rw [e]
 simp only [if_true,l]
 rfl
theorem zbi {P:Unit->Hh->Prop} (e:h[n]? = some (.ins c fs)) (l:fs.lookup m=none) (k:P () h):wp (zqm c m (.cel n)) h P:=by
 refine ⟨(),h,?_,k⟩
 show M.bind (zbP n) _ h=_
 unfold M.bind zbP
 rw [e]
 simp only [l,and_self,if_true]
 rfl
theorem ziD {P:Unit->Hh->Prop} (e:h[n]? = some (.ins c fs)) (l:fs.length<1000) (k:P () (h.set n (.ins c (zeT f d fs)))):wp (zoj c f d (.cel n)) h P:=by
 refine ⟨(),h.set n (.ins c (zeT f d fs)),?_,k⟩
 show M.bind (zbP n) _ h=_
 unfold M.bind zbP
 rw [e]
 simp only [l,and_self,if_true]
 rfl
theorem zsO {kvs:List (Int×D)} {k:Int} {P:D->Hh->Prop} (e:h[n]? = some (.dic kvs)) (q:P ((atK kvs k).getD d) h):wp (ziN (.cel n) [.int k,d]) h P:=by
 refine ⟨_,h,?_,q⟩
 show M.bind (zcL n) _ h=_
 unfold M.bind zcL
 rw [e]
 rfl
theorem zlD {kvs:List (Int×D)} {P:Unit->Hh->Prop} (e:h[n]? = some (.dic kvs)) (q:P () h):wp (zgx (.cel n)) h P:=by
 refine ⟨_,h,?_,q⟩
 show M.bind (zcL n) _ h=_
 unfold M.bind zcL
 rw [e]
 rfl
theorem zlM {kvs:List (Int×D)} {P:D->Hh->Prop} (q:P (.cel h.length) (h++[.dic kvs])):wp (zju kvs) h P:=⟨_,_,rfl,q⟩
theorem zlB {P:D->Hh->Prop} (q:P (.cel h.length) (h++[.ins c []])):wp (zjp c) h P:=⟨_,_,rfl,q⟩
theorem zio {ds:List D} {P:D->Hh->Prop} (e:h[n]? = some (.lst ds)) (q:P (.int ds.length) h):wp (zin [.cel n]) h P:=by
 show wp (zah n>>=fun ds=>(pure (.int ds.length):M D)) h P
 rw [zai,zce e,zan]
 exact q
theorem znk {ds:List D} {P:D->Hh->Prop} (e:h[n]? = some (.lst ds)) (q:P (.lst ds) h):wp (zlH [.cel n]) h P:=by
 show wp (zah n>>=fun ds=>(pure (.lst ds):M D)) h P
 rw [zai,zce e,zan]
 exact q
end
theorem zbb {st:D} {tn sn:Nat}:(zil st tn sn).lookup ("stock":Str)=some st:=rfl
theorem za8 {st:D} {tn sn:Nat}:(zil st tn sn).lookup ("things":Str)=some (.cel tn):=rfl
theorem zbS {st:D} {tn sn:Nat}:(zil st tn sn).lookup ("steps":Str)=some (.cel sn):=rfl
section
variable {st:D} {tn sn:Nat}
theorem zfq:(zil st tn sn).lookup ("in_order":Str)=none:=rfl
theorem ze0:(zil st tn sn).lookup ("taken":Str)=none:=rfl
theorem zhu:(zil st tn sn).lookup ("shares":Str)=none:=rfl
theorem zqX:(zil st tn sn).lookup ("room":Str)=none:=rfl
theorem zl9:(zil st tn sn).lookup ("come":Str)=none:=rfl
theorem zra:(zil st tn sn).lookup ("came":Str)=none:=rfl
theorem znC:(zil st tn sn).lookup ("bears":Str)=none:=rfl
theorem zrh:(zil st tn sn).lookup ("paid":Str)=none:=rfl
theorem zhy:(zil st tn sn).lookup ("is_enough":Str)=none:=rfl
theorem zgP:(zil st tn sn).lookup ("least_kept":Str)=none:=rfl
theorem zkP:(zil st tn sn).lookup ("undo":Str)=none:=rfl
end
theorem zp3 {c:String} {m:Str} {F:List D->M D} {fo:FE} {fs:FA} {sd:Sd}:zbT c m F fo fs sd=(fo sd>>=fun x=>zqm c m x>>=fun _=>fs sd>>=fun ys=>F (x::ys)):=rfl
theorem zre {c:String} {f:Str} {fo fv:FE} {sd:Sd}:zkX c f fo fv sd=(fv sd>>=fun d=>fo sd>>=fun x=>zoj c f d x>>=fun _=>pure (.nx sd)):=rfl
theorem zqL {fo:FE} {fs:FA} {sd:Sd}:zqq fo fs sd=(fo sd>>=fun x=>zgx x>>=fun _=>fs sd>>=fun ys=>ziN x ys):=rfl
theorem zoz {c:String} {F:List D->M D} {ds:List D}:ziC c F ds=(zjp c>>=fun x=>F (x::ds)>>=fun v=>zts x v):=rfl
theorem zqs (kvs:List (Int×D)) (k:Int) (d:D) (j:Int):atK (zps kvs k d) j=if k=j then some d else atK kvs j:=by
 unfold zps atK
 split
 ·rename_i e
  induction kvs with
  | nil=>simp at e
  | cons p r ih=>
   rw [qaM,List.find?_cons,List.find?_cons]
   by_cases h1:p.1=k
   ·rw [qa4 h1]
    by_cases h2:k=j
    ·rw [qa4 h2]
     dsimp only
     rw [decide_eq_true (h1.trans h2)]
     rfl
    ·rw [qa5 h2]
     dsimp only
     rw [decide_eq_false (fun z=>h2 (h1.symm.trans z))]
     dsimp only
     by_cases h3:(r.any fun p=>decide (p.1=k))=true
     ·rw [ih h3,qa5 h2]
     ·congr 1
      have:r.map (fun p=>if p.1=k then (p.1,d) else p)=r:=by
       refine (List.map_congr_left fun q hq=> ?_).trans (List.map_id _)
       rw [qa5 fun z=>h3 (List.any_eq_true.mpr ⟨q,hq,decide_eq_true z⟩)]
       rfl
      rw [this]
   ·rw [qa5 h1]
    have h3:(r.any fun p=>decide (p.1=k))=true:=by
     rw [List.any_cons,decide_eq_false h1] at e
     simpa using e
    by_cases h4:p.1=j
    ·rw [decide_eq_true h4,qa5 (fun z=>h1 (h4.trans z.symm))]
    ·rw [decide_eq_false h4]
     exact ih h3
 ·rename_i e
  rw [List.find?_append]
  by_cases h2:k=j
  ·subst h2
   rw [qa4 rfl]
   have:kvs.find? (fun p=>decide (p.1=k))=none:=by
    rw [List.find?_eq_none]
    intro p hp hd
    exact e (List.any_eq_true.mpr ⟨p,hp,hd⟩)
   rw [this]
   simp
  ·rw [qa5 h2]
   have:[(k,d)].find? (fun p=>decide (p.1=j))=none:=by simp [h2]
   rw [this]
   simp
theorem zkl (ps:List (Int×D)) (p:Int×D):zdU (ps++[p])=zps (zdU ps) p.1 p.2:=by
 unfold zdU
 rw [List.foldl_append]
 rfl
end
section
theorem zt8 {x y z:D} {r:List D}:atI (x::y::z::r) 2=some z:=by
 have:=zdN (xs:=x::y::z::r) (j:=2) (v:=z) rfl
 simpa using this
theorem zub {x y z w:D} {r:List D}:atI (x::y::z::w::r) 3=some w:=by
 have:=zdN (xs:=x::y::z::w::r) (j:=3) (v:=w) rfl
 simpa using this
noncomputable abbrev Sp4:=Int×Int×Int×Int
noncomputable def zim (x:Sp4):D:= .tup [.int x.1,.int x.2.1,.int x.2.2.1,.int x.2.2.2]
noncomputable def zc1 (ss:List Sp4):List Int:=ss.map (·.2.2.2)
noncomputable def sh (ss:List Sp4) (t:Int):Int:=((ss.reverse.find? fun x=>decide (x.2.1=t)).map (·.2.2.1)).getD 0
theorem ztU (ss:List Sp4) (t:Int):(atK (zdU (ss.map fun x=>(x.2.1,D.int x.2.2.1))) t).getD (.int 0)= .int (sh ss t):=by
 have key: ∀ l:List Sp4,(atK (zdU (l.reverse.map fun x=>(x.2.1,D.int x.2.2.1))) t).getD (.int 0)= .int (((l.find? fun x=>decide (x.2.1=t)).map (·.2.2.1)).getD 0):=by
  intro l
  induction l with
  | nil=>rfl
  | cons x l ih=>
   rw [List.reverse_cons,List.map_append,List.map_singleton,zkl,zqs,List.find?_cons]
   by_cases e:x.2.1=t
   ·rw [qa4 e,decide_eq_true e]
    rfl
   ·rw [qa5 e,decide_eq_false e]
    exact ih
 have:=key ss.reverse
 rw [List.reverse_reverse] at this
 exact this
theorem zk0: ∀ ss:List Sp4,prs (ss.map fun x=> .tup [.int x.2.1,.int x.2.2.1])=some (ss.map fun x=>(x.2.1,D.int x.2.2.1))
 | []=>rfl
 | x::r=>by
  rw [qaM]
  unfold prs
  rw [zk0 r]
  rfl
end
section
theorem zoF (bt:Nat->Nat->Bool): ∀ k,argBest bt k<=k
 | 0=>qaV _
 | k+1=>by
  have ih:=zoF bt k
  unfold argBest
  split
  ·exact qaV _
  ·omega
theorem zg1 {ps:List (List Int)} (h:ps≠[]):zfC ps<ps.length:=by
 have h1:=zoF (fun i j=>HT.zdq (ps.getD i []) (ps.getD j [])) (ps.length - 1)
 have h2:=List.length_pos_iff.mpr h
 unfold zfC
 omega
theorem zjl: ∀ ps:List (List Int),zgS (ps.map tI)=some ps
 | []=>rfl
 | p::r=>by
  rw [qaM]
  unfold zgS
  rw [zjl r]
  show (zdQ (p.map D.int)).bind _=_
  rw [zdo]
  rfl
theorem zm8 {ps:List (List Int)} (h:ps≠[]):znN [.lst (ps.map tI)]=pure (tI (ps.getD (zfC ps) [])):=by
 show (do let qs<-ofO (zgS (ps.map tI));ofO ((ps.map tI)[zfC qs]?):M D)=_
 rw [zjl]
 show ofO ((ps.map tI)[zfC ps]?)=_
 rw [List.getElem?_map,qaf (zg1 h),List.getD,qaf (zg1 h)]
 rfl
theorem zvH (xs:List Int):zpX (tI xs)=pure (!xs.isEmpty):=by
 show (pure (!(xs.map D.int).isEmpty):M Bool)=_
 cases xs<;>rfl
theorem zi2 {n:Nat} {ds:List D} {h:Hh} {P:Bool->Hh->Prop} (e:h[n]? = some (.lst ds)) (q:P (!ds.isEmpty) h):wp (zpX (.cel n)) h P:=by
 show wp (zah n>>=fun ds=>(pure (!ds.isEmpty):M Bool)) h P
 rw [zai,zce e,zan]
 exact q
theorem zs5 {f:FE} {sd:Sd}:zpq f sd=(f sd>>=fun d=>zpX d):=rfl
theorem zox {n:Nat} {ds:List D} {d:D} {h:Hh} {P:D->Hh->Prop} (e:h[n]? = some (.lst ds)) (hl:ds.length+1<=1000) (q:P .non (h.set n (.lst (ds++[d])))):wp (zcX (.cel n) d) h P:=by
 show wp (zah n>>=fun ds=>fits (ds.length+1)>>=fun _=>zbe n (ds++[d])>>=fun _=>(pure .non:M D)) h P
 rw [zai,zce e,zax hl,pure_bind,zai,zic,zan]
 exact q
theorem zoc {n:Nat} {ds:List D} {h:Hh} {P:Unit->Hh->Prop} (e:h[n]? = some (.lst ds)) (q:P () h):wp (zdH (.cel n)) h P:=by
 show wp (zah n>>=fun _=>(pure ():M Unit)) h P
 rw [zai,zce e,zan]
 exact q
theorem zlz {fo fe:FE} {sd:Sd}:zdT fo fe sd=(fo sd>>=fun x=>zdH x>>=fun _=>fe sd>>=fun y=>zcX x y):=rfl
theorem zhG (k:Int) (xs:List Int):zln (.int k) (.tup (xs.map D.int))=pure (.bl (!xs.any (· == k))):=by
 show zo3 true (.int k) (.tup (xs.map D.int))=_
 unfold zo3
 simp only [pd]
 rw [zcc]
 have c:zn5 (.int k) (xs.map PyData.int)=true:=by
  unfold zn5
  simp [PyData.canLay0,zbl,PyData.depth,zbR]
 simp only [c,if_true,zgw]
theorem zd3 {k:Int} {xs:List Int}:xs.any (· == k)=true↔k∈xs:=by
 rw [List.any_eq_true]
 constructor
 ·rintro ⟨x,hx,e⟩
  rw [beq_iff_eq] at e
  exact e▸hx
 ·intro h
  exact ⟨k,h,by simp⟩
end
section
theorem zuW (xs:List Int):zpX (.tup (xs.map D.int))=pure (!xs.isEmpty):=zvH xs
theorem zk7 {n:Nat} {ds:List D} {d:D} {h:Hh} {P:D->Hh->Prop} (e:h[n]? = some (.lst (ds++[d]))) (q:P d (h.set n (.lst ds))):wp (znw (.cel n)) h P:=by
 show wp (zah n>>=fun ds=>(match ds[ds.length - 1]? with | some d=>(do zbe n ds.dropLast;pure d) | none=>(M.bad:M D))) h P
 rw [zai,zce e]
 have e1:(ds++[d])[(ds++[d]).length - 1]? = some d:=by simp
 rw [e1,List.dropLast_concat]
 show wp (zbe n ds>>=fun _=>(pure d:M D)) h P
 rw [zai,zic,zan]
 exact q
theorem zos {n:Nat} {ds:List D} {i:Int} {d:D} {h:Hh} {P:D->Hh->Prop} (e:h[n]? = some (.lst ds)) (l:atI ds i=some d) (q:P d h):wp (dIx (.cel n) (.int i)) h P:=by
 show wp (zah n>>=fun ds=>ofO (atI ds i)) h P
 rw [zai,zce e,l]
 show wp (pure d) h P
 rw [zan]
 exact q
theorem zsx (a b:Int):dEq (.int a) (.int b)=pure (.bl (decide (a=b))):=by
 rw [ztW]
 congr 2
end
section
theorem ztQ (a b:Int):dNe (.int a) (.int b)=pure (.bl (a != b)):=by
 rw [zvk]
 rfl
end
section
theorem zjo: ∀ lss:List (List Int),PyData.canLayAll0 (lss.map fun ls=>PyData.tuple (ls.map PyData.int))=true
 | []=>rfl
 | o::r=>by simp [PyData.canLayAll0,PyData.canLay0,zbl,zjo r]
theorem znb (lss:List (List Int)):PyData.depthAll (lss.map fun ls=>PyData.tuple (ls.map PyData.int))<=1:=by
 induction lss with
 | nil=>simp [PyData.depthAll]
 | cons x r ih=>
  rw [qaM,PyData.depthAll,PyData.depth,zbR]
  omega
theorem zjz: ∀ lss:List (List Int),PyData.eqvAll (lss.map fun ls=>PyData.tuple (ls.map PyData.int)) (lss.map fun ls=>PyData.tuple (ls.map PyData.int))=true
 | []=>rfl
 | x::r=>by
  rw [qaM,PyData.eqvAll,zjz r,PyData.eqv,zeZ]
  simp
theorem zjt: ∀ lss:List (List Int),pdL (lss.map tI)=some (lss.map fun ls=>PyData.tuple (ls.map PyData.int))
 | []=>rfl
 | x::r=>by
  rw [qaM,pdL,zjt r,tI,pd,zcc]
  rfl
theorem zvy {h0:Hh} {a b c:C}:(h0++[a,b]).set h0.length c=h0++[c,b]:=by simp
theorem zvg {h0:Hh} {a b c d:C}:(h0++[a,b]++[d]).set h0.length c=h0++[c,b,d]:=by simp
theorem ztJ {ds:List D} {lo hi:Option Int}:dSl (.lst ds) lo hi=pure (.lst (zgc ds lo hi)):=rfl
theorem zm6 {h0:Hh} {a b:C}:(h0++[a]).set h0.length b=h0++[b]:=by simp
theorem zq1 (a b c e:List Int) (lss:List (List Int)) (p:Int):dNe (.lst [.lst (a.map D.int),tI b,.tup (lss.map tI),.int p,tI c]) (.lst [.lst (a.map D.int),tI b,.tup (lss.map tI),.int p,tI c])=pure (.bl false):=by
 have e1:pd (.lst [.lst (a.map D.int),tI b,.tup (lss.map tI),.int p,tI c])=some (.list [.list (a.map PyData.int),.tuple (b.map PyData.int),.tuple (lss.map fun ls=>PyData.tuple (ls.map PyData.int)),.int p,.tuple (c.map PyData.int)]):=by
  unfold tI
  simp only [pd,pdL,zcc,Option.map_some]
  rw [show (lss.map fun xs=>D.tup (xs.map D.int))=lss.map tI from rfl,zjt]
  rfl
 have hd:=znb lss
 rw [zjA e1 e1 ?_]
 ·simp only [PyData.eqv,PyData.eqvAll,zeZ,zjz,beq_self_eq_true,Bool.and_self,Bool.not_true]
 ·unfold zkc
  simp [PyData.canLay0,PyData.canLayAll0,zbl,zjo,PyData.depth,PyData.depthAll,zbR]
  omega
end
section
theorem zrp:zpS (.int 10) (.int 39)=pure (.int 1000000000000000000000000000000000000000):=by
 unfold zpS dII
 simp only
 rw [qa4 (by decide)]
 rfl
end
section
theorem zg9 {n:Nat} {c:String} {f:Str} {fs:List (Str×D)} {d:D} {h:Hh} {α:Type} {g:D->M α} (e:h[n]? = some (.ins c fs)) (l:fs.lookup f=some d):(zeP c f (.cel n)>>=g) h=g d h:=by
 obtain ⟨d',h',e1,e2,e3⟩:=zbj (P:=fun x h'=>x=d/\h'=h) e l ⟨rfl,rfl⟩
 subst e2 e3
 show M.bind (zeP c f (.cel n)) g h'=_
 unfold M.bind
 rw [e1]
theorem zmD {n:Nat} {c:String} {m:Str} {fs:List (Str×D)} {h:Hh} {α:Type} {g:Unit->M α} (e:h[n]? = some (.ins c fs)) (l:fs.lookup m=none):(zqm c m (.cel n)>>=g) h=g () h:=by
 obtain ⟨d',h',e1,e2⟩:=zbi (P:=fun _ h'=>h'=h) e l rfl
 subst e2
 show M.bind (zqm c m (.cel n)) g h'=_
 unfold M.bind
 rw [e1]
theorem zeV {α β:Type} {a:M α} {g:α->M β} {h h1:Hh} {c:String} (e:a h= .exc c h1):(a>>=g) h= .exc c h1:=by
 show M.bind a g h=_
 unfold M.bind
 rw [e]
theorem zgB {names:List String} {gb:FS} {F:List D->M D} {sd:Sd} {i:Nat} {h h1:Hh} {c:String} {d:D} {P:Out->Hh->Prop} (e:gb sd h= .exc c h1) (hc:names.contains c=true) (ek:F [.exn c]=pure d) (q:P (.nx ((List.replicate sd.length none).set i (some d))) h1):wp (zjZ names gb i F sd) h P:=by
 refine ⟨_,h1,?_,q⟩
 unfold zjZ
 rw [e]
 show (if names.contains c=true then (do let d<-noX (F [.exn c]);pure (.nx ((List.replicate sd.length none).set i (some d))):M Out) h1 else .bad)=_
 rw [qa4 hc,ek]
 rfl
theorem ztI {x:D}:zpr (.tup [x]) (.int 13)=pure (.tup [x,x,x,x,x,x,x,x,x,x,x,x,x]):=by
 show (if [x]≠[]/\(2:Int)<=13/\(13:Int)<1000/\[x].length*(13:Int).toNat<=sizeLine then (pure (.tup (List.replicate (13:Int).toNat [x]).flatten):M D) else M.bad)=_
 rw [qa4 ⟨by simp,by decide,by decide,by show 13<=sizeLine;decide⟩]
 rfl
end
section
theorem zjg {a:FE} {g':FS} {sd:Sd} {h:Hh} {P:Out->Hh->Prop} (q:wp (a sd) h fun _ h'=>wp (g' sd) h' P):wp (zar (zdD a) g' sd) h P:=by
 rw [zaz,zai,zfI,zai]
 refine zey q fun d h' q=> ?_
 rw [zan]
 exact q
theorem zng {fi:FA} {g:D->Sd->M Sd} {gb g':FS} {sd:Sd} {h:Hh} {P:Out->Hh->Prop} (q:wp (fi sd) h fun ds h'=>wp (zbv (fun x sd=>do let sd1<-g x sd;gb sd1) ds sd) h' fun o h'=>wp (andThen o g') h' P):wp (zar (zkQ fi g gb) g' sd) h P:=by
 rw [zaz,zai,zgk,zai]
 exact q
theorem zq6 {c:String} {h:Hh} {α:Type} {g:D->M α}:(zjp c>>=g) h=g (.cel h.length) (h++[.ins c []]):=rfl
theorem zvK:dEq (.str "undo") (.str "come")=pure (.bl false):=by
 rw [zhp (a:= .str "undo") (b:= .str "come") rfl rfl (by decide +kernel)]
 rfl
theorem zvs:dEq (.str "come") (.str "come")=pure (.bl true):=by
 rw [zhp (a:= .str "come") (b:= .str "come") rfl rfl (by decide +kernel)]
 rfl
theorem zvL:dEq (.str "full") (.str "full")=pure (.bl true):=by
 rw [zhp (a:= .str "full") (b:= .str "full") rfl rfl (by decide +kernel)]
 rfl
theorem zqV:dNe (.str "stock") (.str "stock")=pure (.bl false):=by
 rw [zjA (a:= .str "stock") (b:= .str "stock") rfl rfl (by decide +kernel)]
 rfl
theorem zuH:dNe (.str "row") (.str "row")=pure (.bl false):=by
 rw [zjA (a:= .str "row") (b:= .str "row") rfl rfl (by decide +kernel)]
 rfl
theorem zqw:dNe (.str "thing") (.str "thing")=pure (.bl false):=by
 rw [zjA (a:= .str "thing") (b:= .str "thing") rfl rfl (by decide +kernel)]
 rfl
theorem zqT {n:Nat} {ds:List D} {h:Hh} {α:Type} {g:Bool->M α} (e:h[n]? = some (.lst ds)):(zpX (.cel n)>>=g) h=g (!ds.isEmpty) h:=by
 obtain ⟨b,h',e1,e2,e3⟩:=zi2 (P:=fun x h'=>x=(!ds.isEmpty)/\h'=h) e ⟨rfl,rfl⟩
 subst e2 e3
 show M.bind (zpX (.cel n)) g h'=_
 unfold M.bind
 rw [e1]
end
section
theorem zmP {z n:Int} {a b c:FE} {sd:Sd} (ea:a sd=pure (.int 0)) (eb:b sd=pure (.int z)) (ec:c sd=pure (.int n)):zfE dLe dLt a b c sd=pure (.bl (decide (0<=z) && decide (z<n))):=by
 unfold zfE
 rw [ea,eb]
 simp only [pure_bind,zu1,zbH]
 by_cases h:(0:Int)<=z
 ·simp [h,ec]
 ·simp [h]
end
section
theorem zjJ {t:FT} {g1 g':FS} {sd:Sd} {h:Hh} {P:Out->Hh->Prop} (q:wp (t sd) h fun c h'=>c=false/\wp (g' sd) h' P):wp (zar (sIf t g1 zeu) g' sd) h P:=by
 rw [zaz,zai,zeg,zai]
 refine zey q ?_
 rintro c h' ⟨rfl,q⟩
 rw [qa5 (by simp),zcR,zan]
 exact q
end
end L3
namespace K92
open PySem PySem.Spec PyProof.Rows L2 L3 LT
set_option hygiene false in
local macro_rules | `(tactic| ac_nf0)=> `(tactic| simp only [zaz,zb5,zo5,zbQ,zeg,zgk,zfI,zcR,za5,zaC,zaT,zdE,zhK,zfL,zaF,zaX,pure_bind,bind_assoc,zgW,zuJ,zgG,ztB,List.set,zei,zeF,zeL,zsS,zkK,zhX,ztO,zkA,zuk,zhV,zhZ,zhd,zbH,zdZ,zbJ,zk1,zfh,zqv,zpp,zn7,zpB,ziT,zkx,zoN,zr2,zrB,zsC,zjE,zdL,zkN,zjM,zlj,zoA,ztf,zai,zan,zjK,qaE,qaJ,qaH,Nat.zero_add,Nat.reduceAdd,Nat.reduceLeDiff,zax,zb2,tI,zlS,zqi,zn6,zsB,zn3,zjV,zmZ,zuI,zqf,zp0,zrv,zt3,ztR,zsF,zta,zoG,zrP,zt7,zuA,ztt,if_true,Bool.not_true,Bool.not_false,qax,if_false,qav,List.cons_append,List.nil_append,zsE,zrH,zp3,zqL,zre,zoz,zt8,zub,zs5,zlz,ztJ])
variable {m:Int} {os:List (List Int×Int)} {i:Nat}
theorem zbU {h:Hh} {b:Nat} {m:Int} {P:D->Hh->Prop} (q:Bx b h) (h0:0<m) (h1:m<2^100) (k: ∀ t h',0<=t->t<m->Ext b h h'->P (.int t) h'):wp (F_25 [.cel b,.int m]) h P:=by
 obtain ⟨z,e⟩:=id q
 rw [d_25]
 have e2:ixN ([D.int z]:List D).length 0=some 0:=rfl
 simp only [G_25,zaz,zo5,za5,zaC,zaT,zdE,zaF,zaX,pure_bind,bind_assoc,zfL,ztG,zai,zce e,zn7,ziT,zan,zjN h0 h1,zkN,zjM,zdL,zlj,zgW,List.set,zpv,zsH,e2,zic,zbQ,zgG]
 exact k _ _ (Int.emod_nonneg _ (by omega)) (Int.emod_lt_of_pos _ h0) q.set
theorem zpj {ns:List Int} {k:Int} (h0:0<=k) (h1:k<6) (hb: ∀ i∈ns,Builtin.Int.intBits i<=2^20): ∃ c:Int,F_22 [.scr (ns.map D.int),.int k]=pure (.int c)/\Builtin.Int.intBits c<=2^20:=by
 rw [d_22]
 simp only [G_22,zaz,zeg,zei,zaX,zaF,pure_bind,bind_assoc,za5,zaC,zaT,zoy,zry,zbH]
 by_cases hk:k<((ns.map D.int).length:Int)
 ·have hk':k.toNat<ns.length:=by simp at hk;omega
  have ea:atI (ns.map D.int) k=some (.int ns[k.toNat]):=by
   have:=zdN (xs:=ns.map D.int) (j:=k.toNat) (v:= .int ns[k.toNat]) (by simp [hk'])
   rw [<- this]
   congr 1
   omega
  simp only [hk,decide_true,if_true,zbQ,zdE,zaF,zaX,pure_bind,zui,ea,ziT,zuJ,zgG]
  exact ⟨_,rfl,hb _ (List.getElem_mem hk')⟩
 ·simp only [hk,decide_false,qax,if_false,zcR,pure_bind,zgW,zbQ,zdE,zfL,zaX,zaF,zs6 (show (-1000000000000000:Int)<6151 by decide) (show (6151:Int)<1000000000000000 by decide),zfh,zgG]
  exact ⟨_,rfl,qaS (intBits_le_64 (by omega) (by omega)) (by decide)⟩
theorem zrI {c k:Int} (hc:Builtin.Int.intBits c<=2^20) (k0:0<=k) (k1:k<24): ∃ r:Int,F_23 [.int c,.int k]=pure (.int r):=by
 rw [d_23]
 have hm:zhk ((c+1)*40692+104729*k) ((c+1)*40692+104729*k)=true:=by
  have:=znF hc k0 k1
  unfold zhk
  rw [qaD]
  have e1:(2:Nat)^20=1048576:=rfl
  have e2:(2:Nat)^26=67108864:=rfl
  rw [e1] at this
  rw [e2]
  omega
 have n0:=Int.emod_nonneg (((c+1)*40692+104729*k)*((c+1)*40692+104729*k)) (show (2147483399:Int)≠0 by decide)
 have n1:=Int.emod_lt_of_pos (((c+1)*40692+104729*k)*((c+1)*40692+104729*k)) (show (0:Int)<2147483399 by decide)
 simp only [G_23,zaz,zb5,zdE,zaF,zaX,zfL,zfh,pure_bind,bind_assoc,zkU (show (-1000000000000000:Int)<40692 by decide) (show (40692:Int)<1000000000000000 by decide),zlY (show (-1000000000000000:Int)<104729 by decide) (show (104729:Int)<1000000000000000 by decide),
   zgW,List.set,zg0 (show (zbd ((c+1)*40692+104729*k) || zbd ((c+1)*40692+104729*k) || zhk ((c+1)*40692+104729*k) ((c+1)*40692+104729*k))=true by rw [hm];simp),ziP (show (0:Int)<2147483399 by decide),zbQ]
 generalize hN:((c+1)*40692+104729*k)*((c+1)*40692+104729*k) % 2147483399=N at n0 n1
 simp only [zlY (i:=N+k) (show -1000000000000000<N+k by omega) (show N+k<1000000000000000 by omega),pure_bind,ziP (show (0:Int)<2147483563 by decide),zgG]
 exact ⟨_,rfl⟩
theorem zjd {s0 s1:Option D} {c:Int} (hc:Builtin.Int.intBits c<=2^20): ∀ (ds:List D) (n:Int) (x4:Option D),(∀ d∈ds, ∃ j:Int,d= .int j/\0<=j/\j<24)->
  ∃ (n':Int) (x4':Option D),zbv (fun x sd=>do let sd1<-zbC 4 x sd;zdi sd1) ds [s0,s1,some (.int c),some (.int n),x4]=pure (.nx [s0,s1,some (.int c),some (.int n'),x4'])
 | [],n,x4,_=>⟨n,x4,rfl⟩
 | d::r,n,x4,hd=>by
  obtain ⟨j,rfl,j0,j1⟩:=hd _ qau
  obtain ⟨mx,em⟩:=zrI hc j0 j1
  obtain ⟨n',x4',ih⟩:=zjd hc r (n*2147483647+mx) (some (.int j)) (fun y hy=>hd y (qan _ hy))
  refine ⟨n',x4',?_⟩
  rw [zde, <-ih]
  simp only [zdi,zdL,List.set,pure_bind,bind_assoc,zb5,zdE,zaX,zaF,zfL,zkU (i:=n) (show (-1000000000000000:Int)<2147483647 by decide) (show (2147483647:Int)<1000000000000000 by decide),za5,zaC,zaT,zbJ,em,zfh]
theorem zs1 {h:Hh} {ns:List Int} {k:Int} {P:D->Hh->Prop} (hb: ∀ i∈ns,Builtin.Int.intBits i<=2^20) (k0:0<=k) (k6:k<6) (q: ∀ z:Int,P (.cel h.length) (h++[.lst [.int z]])):wp (F_24 [.scr (ns.map D.int),.int k]) h P:=by
 obtain ⟨c,ec,hc⟩:=zpj k0 k6 hb
 rw [d_24]
 simp only [G_24,zaz,zb5,za5,zaC,zaT,zaF,zaX,pure_bind,bind_assoc,zbJ,ec,zgW,List.set,zeg,zei,zdE,zfL,ziP (show (0:Int)<2 by decide),ztW,zbH]
 by_cases hc2:(c % 2==0)=true
 ·simp only [hc2,if_true,zbQ,zhd,zaC,zaT,zdE,zaX,zaF,zfL,pure_bind,bind_assoc,zog (show (0:Int)<2 by decide) (show (2:Int)<2^64 by decide),qaE,qaJ,zax (show 0+1<=1000 by decide),zai,zjK,zan,zuJ,zgG]
  exact q _
 ·obtain ⟨n',x4',el⟩:=zjd (s0:=some (.scr (ns.map D.int))) (s1:=some (.int k)) hc (zf4 0 24) 0 none (fun d hd=>by
    obtain ⟨i,e,i0,i1⟩:=zkI hd
    exact ⟨i,e,i0,by omega⟩)
  have er:zmy [.int 24]=pure (zf4 0 24):=zen (by decide) (by decide)
  simp only [hc2,if_false,zcR,pure_bind,zgW,zaz,zb5,zfL,List.set,zaX,zaF,zgk,zjE,zaC,zaT,er,bind_assoc,el,zbQ,zhd,qaE,qaJ,zax (show 0+1<=1000 by decide),zai,zjK,zan,zgG,qax]
  exact q _
theorem ziv (xs:List Int):dEq (.lst (xs.map D.int)) (.lst [])=pure (.bl xs.isEmpty):=by
 have:=zpf xs []
 rw [List.map_nil] at this
 rw [this]
 cases xs<;>rfl
def Go (m:Int) (o:List Int×Int):Prop:=o.1.Pairwise (· < ·)/\(∀ x∈o.1,0<=x/\x<m)/\o.1≠[]/\0<o.2
theorem zj0 {b:Nat} {full:Int} (i:Int) {h:Hh} {Q:Option D->Hh->Prop} (q:Bx b h) (k: ∀ o h',Ext b h h'->(o=none\/o=some (.int i))->Q o h'):
  wp (zbw (zbC 0) zcB zcx [none,some (.cel b),some (.int full)] (.int i)) h Q:=by
 simp only [zbw,zdL,List.set,pure_bind,zcB,zei,za5,zaC,zaT,zaX,zaF,zfL,bind_assoc,zbJ,zai]
 refine zbU q (by decide) (by decide) fun t h2 t0 t1 x2=> ?_
 simp only [zu1,zan,zbH]
 rw [zmo]
 split
 ·simp only [zcx,zaF,pure_bind,zan]
  exact k _ _ x2 (.inr rfl)
 ·rw [zan]
  exact k _ _ x2 (.inl rfl)
theorem zgd {b n:Nat} {m kind full:Int} {s1 s2:Option D} {N:Nat} (hN:N<=12) (hnb:n≠b) (m0:1<=m) (m1:m<=10) (k0:0<kind) (k1:kind<2^100): ∀ (ds:List D) {h:Hh} {x7 x8:Option D} {os:List (List Int×Int)} {P:Out->Hh->Prop},Bx b h->h[n]? = some (.lst (os.map zb2))->(∀ o∈os,Go m o)->os.length+ds.length<=N->
  (∀ (x7' x8':Option D) (os':List (List Int×Int)) (h':Hh),Bx b h'->h'[n]? = some (.lst (os'.map zb2))->(∀ o∈os',Go m o)->os'.length<=N->P (.nx [some (.cel b),s1,s2,some (.int m),some (.int kind),some (.int full),some (.cel n),x7',x8']) h')->
  wp (zbv (fun x sd=>do let sd1<-zbC 7 x sd;zbx sd1) ds [some (.cel b),s1,s2,some (.int m),some (.int kind),some (.int full),some (.cel n),x7,x8]) h P
 | [],h,x7,x8,os,P,q,e,ho,hl,k=>by
  rw [zea,zan]
  exact k _ _ os h q e ho (by simpa using hl)
 | d::r,h,x7,x8,os,P,q,e,ho,hl,k=>by
  have ih: ∀ {h:Hh} {x7 x8:Option D} {os:List (List Int×Int)},Bx b h->h[n]? = some (.lst (os.map zb2))->(∀ o∈os,Go m o)->os.length+r.length<=N->
   wp (zbv (fun x sd=>do let sd1<-zbC 7 x sd;zbx sd1) r [some (.cel b),s1,s2,some (.int m),some (.int kind),some (.int full),some (.cel n),x7,x8]) h P:=fun q e ho hl=>zgd hN hnb m0 m1 k0 k1 r q e ho hl k
  rw [zde]
  generalize zbv (fun x sd=>do let sd1<-zbC 7 x sd;zbx sd1) r=rest at ih ⊢
  have eb:zao [none,some 0,some 5] [some (.cel b),s1,s2,some (.int m),some (.int kind),some (.int full),some (.cel n),some d,x8]=[none,some (D.cel b),some (.int full)]:=rfl
  simp only [zdL,List.set,pure_bind,zbx,zaz,zb5,zai]
  unfold zba
  simp only [zjE,zaC,zaT,zaX,zaF,pure_bind,zen (show 0<=m by omega) (show m<1000 by omega),zai,zi4,zax (show m.toNat<=1000 by omega),zan,eb]
  rw [zjB]
  refine zlR (fun i {h Q} q k=>zj0 i q k) _ q fun ys h2 x2 hys=> ?_
  have hyu:=(zhB m.toNat).sublist hys
  have hyb: ∀ x∈ys,0<=x/\x<m:=fun x hx=>by have:=zh0 x (hys.subset hx);omega
  have fin: ∀ (zs:List Int) (h3:Hh),(zs.Pairwise (· < ·)/\(∀ x∈zs,0<=x/\x<m)/\zs≠[])->Ext b h h3->wp ((zdT (zag 6) (zbg (zab (zaI zcM (zab (zag 8) zal)) (zab (cOp zex (cK (.int 1)) (zaI (zak 2 F_25) (zab (zag 0) (zab (zag 4) zal)))) zal)))) [some (.cel b),s1,s2,some (.int m),some (.int kind),some (.int full),some (.cel n),some d,some (.lst (zs.map D.int))]) h3
    fun _ h4=>wp (rest [some (.cel b),s1,s2,some (.int m),some (.int kind),some (.int full),some (.cel n),some d,some (.lst (zs.map D.int))]) h4 P:=fun zs h3 hz x3=>by
   have e3:=x3.2 n _ hnb e
   simp only [zdT,zdH,zaX,zaF,pure_bind,bind_assoc,zai,zce e3,zhV,zaC,zaT,za5,zoA,zdE,zfL,zbJ,zan]
   refine zbU x3.1 k0 k1 fun t h4 t0 t1 x4=> ?_
   have e4:=x4.2 n _ hnb e3
   simp only [zfh,pure_bind,zan,zai,qaE,qaJ,zax (show 0+1+1<=1000 by decide),zcX,zce e4,qaH,zax (show os.length+1<=1000 by simp at hl;omega),zic]
   have hlt:n<h4.length:=(qac.mp e4).1
   refine ih (os:=os++[(zs,1+t)]) ?_ (by rw [qai hlt];simp [zb2,tI]) ?_ ?_
   ·obtain ⟨y,ey⟩:=x4.1
    exact ⟨y,by rw [qao hnb];exact ey⟩
   ·intro o hmem
    rcases qaK.mp hmem with w | w
    ·exact ho o w
    ·simp at w
     subst w
     exact ⟨hz.1,hz.2.1,hz.2.2,by show (0:Int)<1+t;omega⟩
   ·simp at hl ⊢
    omega
  simp only [zan,zgW,List.set,zaz,zeg,zei,zaX,zaF,pure_bind,zhZ,zaT,qaJ,zax (show 0<=1000 by decide),ziv,zbH,bind_assoc,zai]
  rw [zmo]
  split
  ·simp only [zb5,zhZ,zaC,zaT,za5,zaX,zaF,pure_bind,bind_assoc,zbJ,zai]
   refine zbU x2.1 (by omega) (by omega) fun t h3 t0 t1 x3=> ?_
   simp only [zan,pure_bind,zai,qaE,qaJ,zax (show 0+1<=1000 by decide),List.set,zgW,zfI]
   exact zey (fin [t] h3 ⟨by simp,by simp;omega,by simp⟩ (x2.trans x3)) fun _ _ z=>z
  ·rename_i hne
   simp only [zcR,zan,zgW,zfI,zai]
   exact zey (fin ys h2 ⟨hyu,hyb,fun z=>hne (by rw [z];rfl)⟩ x2) fun _ _ z=>z
theorem znf {h:Hh} {b:Nat} {mt mo:Int} {P:D->Hh->Prop} (q:Bx b h) (t0:1<=mt) (t1:mt<=10) (o0:0<=mo) (o1:mo<=12) (k: ∀ (m:Int) (os:List (List Int×Int)) h',Bx b h'->1<=m->m<=mt->(os.length:Int)<=mo->(∀ o∈os,Go m o)->P (zc4 m os) h'):wp (F_26 [.cel b,.int mt,.int mo]) h P:=by
 rw [d_26]
 simp only [G_26,zaz,zb5,zdE,zfL,za5,zaC,zaT,zaF,zaX,pure_bind,bind_assoc,zbJ,zai]
 refine zbU q (by omega) (by omega) fun t h2 t0' t1' x2=> ?_
 simp only [zfh,pure_bind,zan,zgW,List.set,zaz,zb5,zdE,zhZ,zaC,zaT,zfL,zsr,bind_assoc,zai,qaE,qaJ,zax (show 0+1+1+1+1<=1000 by decide),za5,zaF,zaX,zbJ]
 refine zbU x2.1 (by decide) (by decide) fun f h3 f0 f1 x3=> ?_
 obtain ⟨kind,ef,g0,g1⟩: ∃ kind:Int,atI [D.int 1,.int 3,.int 20,.int 100000000000000000000] f=some (.int kind)/\0<kind/\kind<2^100:=by
  have:f=0\/f=1\/f=2\/f=3:=by omega
  rcases this with rfl | rfl | rfl | rfl
  ·exact ⟨1,rfl,by decide,by decide⟩
  ·exact ⟨3,rfl,by decide,by decide⟩
  ·exact ⟨20,rfl,by decide,by decide⟩
  ·exact ⟨100000000000000000000,rfl,by decide,by decide⟩
 simp only [zpp,ef,ziT,zan,zgW,List.set,zaz,zb5,za5,zaC,zaT,zaF,zfL,pure_bind,bind_assoc,zbJ,zai]
 refine zbU x3.1 (by decide) (by decide) fun full h4 u0 u1 x4=> ?_
 simp only [zan,zgW,List.set,zaz,zb5,zhd,zaT,pure_bind,qaJ,zax (show 0<=1000 by decide),zai,zjK,zgk,zjE,zaC,za5,zdE,zaX,zaF,zfL,zfh,bind_assoc,zbJ]
 have x5:=x4.1.push (c:= .lst [])
 have hnb:h4.length≠b:=fun z=>by
  obtain ⟨y,ey⟩:=x4.1
  have:=(qac.mp ey).1
  omega
 refine zbU x5.1 (by omega) (by omega) fun turns h6 v0 v1 x6=> ?_
 have e6:h6[h4.length]? = some (.lst []):=x6.2 _ _ hnb (by simp)
 simp only [zan,pure_bind,zen v0 (show turns<1000 by omega),zai]
 refine zgd (N:=mo.toNat) (by omega) hnb (by omega) (by omega) g0 g1 _ x6.1 (os:=[]) e6 (fun o ho=>by cases ho) (by rw [zi4];simp;omega) fun x7 x8 os h7 q7 e7 ho hl=> ?_
 simp only [zgW,zbQ,zhV,zaC,zaT,zaX,zaF,pure_bind,bind_assoc,za5,zsG,zai,zce e7,zan,qaE,qaJ,zax (show 0+1+1<=1000 by decide),zgG]
 exact k (1+t) os h7 q7 (by omega) (by omega) (by omega) ho
theorem zjs {n:Nat} {s0:Option D}: ∀ (os:List (List Int×Int)) {h:Hh} {xs:List Int} {x2:Option D} {P:Out->Hh->Prop},h[n]? = some (.lst (xs.map D.int))->xs.length+(os.flatMap (·.1)).length<=1000->
  (∀ x2' h',(∀ k,k≠n->h'[k]? = h[k]?)->h'.length=h.length->h'[n]? = some (.lst ((xs++os.flatMap (·.1)).map D.int))->P (.nx [s0,some (.cel n),x2']) h')->
  wp (zbv (fun x sd=>do let sd1<-zbC 2 x sd;za9 sd1) (os.map zb2) [s0,some (.cel n),x2]) h P
 | [],h,xs,x2,P,e,_,k=>by
  rw [List.map_nil,zea,zan]
  exact k x2 h (fun _ _=>rfl) rfl (by simpa using e)
 | o::os,h,xs,x2,P,e,hl,k=>by
  have hln:=(qac.mp e).1
  rw [List.flatMap_cons,qav] at hl
  have ih:=fun (x2':Option D)=>zjs (s0:=s0) (n:=n) os (h:=h.set n (.lst ((xs++o.1).map D.int))) (xs:=xs++o.1) (x2:=x2') (P:=P) (qai hln) (by rw [qav];omega) fun x2'' h' h1 h2 h3=>k x2'' h' (fun j hj=>(h1 j hj).trans (qao (Ne.symm hj))) (h2.trans (qaI ..)) (by rw [h3,List.flatMap_cons,List.append_assoc])
  rw [qaM,zde]
  generalize zbv (fun x sd=>do let sd1<-zbC 2 x sd;za9 sd1) (os.map zb2)=rest at ih ⊢
  have f:=zax (show (xs.map D.int).length+(o.1.map D.int).length<=1000 by rw [qaH,qaH];omega)
  simp only [qaH] at f
  simp only [za9]
  ac_nf0
  simp only [zai,zce e,zan,qaH,f,zic, <-List.map_append]
  exact ih _
theorem zr3 {d:D} {os:List (List Int×Int)} {m:Int} (hd:zgr d=pure (os.map zb2)) (m0:0<=m) (m1:m<=60) (hl:(os.flatMap (·.1)).length<=1000) (b: ∀ o∈os, ∀ x∈o.1,0<=x/\x<m):Ev (F_19 [d]) (tI (zda (os.flatMap (·.1)))):=by
 refine .of_wp fun h=> ?_
 rw [d_19]
 simp only [G_19]
 ac_nf0
 simp only [hd,zan]
 refine zjs os (xs:=[]) (by simp) (by simpa using hl) fun x2 h' h1 h2 h3=> ?_
 ac_nf0
 have bb: ∀ x∈os.flatMap (·.1),0<=x/\x<m:=fun x hx=>by
  obtain ⟨o,ho,hx⟩:=List.mem_flatMap.mp hx
  exact b o ho x hx
 refine zeK (by simpa using h3) (ze6 m0 m1 bb) (by omega) ?_
 ac_nf0
 refine ⟨trivial,⟨[.lst ((os.flatMap (·.1)).map D.int)],List.ext_getElem? fun j=> ?_⟩⟩
 by_cases hj:j=h.length
 ·subst hj
  rw [h3]
  simp
 ·rw [h1 j hj]
  by_cases hlt:j<h.length
  ·rw [qad hlt,qad hlt]
  ·rw [List.getElem?_eq_none (by simp;omega),List.getElem?_eq_none (by simp;omega)]
theorem znY {os:List (List Int×Int)} {n:Nat} (h: ∀ o∈os,o.1.length<=n):(os.flatMap (·.1)).length<=os.length*n:=by
 induction os with
 | nil=>simp
 | cons o r ih=>
  rw [List.flatMap_cons,qav,qaE,Nat.succ_mul]
  have a1:=h o qau
  have a2:=ih fun x hx=>h x (qan _ hx)
  omega
noncomputable def zjU (t:Int) (o:List Int×Int):Bool:=o.1.any (· == t)
noncomputable def zcG (m:Int) (os:List (List Int×Int)):List Int:=((List.range m.toNat).map fun (k:Nat)=>(k:Int)).filter fun t=>(os.filter (zjU t)).isEmpty
theorem zoW {m:Int} {os:List (List Int×Int)} (m0:1<=m) (m1:m<=10) (hl:os.length<=12) (h: ∀ o∈os,Go m o):Stk m os:=
 ⟨m0,m1,hl,fun o ho=>(h o ho).1,fun o ho=>(h o ho).2.1,fun o ho=>(h o ho).2.2.1,fun o ho=>(h o ho).2.2.2⟩
theorem zpt {fi:FA} {src:List (Option Nat)} {sd:Sd} {t:Int} (hi:fi sd=pure (os.map zb2)) (hl:os.length<=1000) (eb:zao src sd=[none,some (.int t)]):zba fi (zbC 0) zb9 zca src sd=pure (.lst ((os.filter (zjU t)).map zb2)):=by
 rw [<- zbZ]
 refine zcN hi hl fun o ho=> ?_
 rw [eb]
 simp only [zbw,zb9,zca]
 ac_nf0
 rw [zg4]
 ac_nf0
 unfold zjU
 split<;>rfl
theorem zkM {fi:FA} {tc:FT} {src:List (Option Nat)} {sd:Sd} {x:Option D} (hi:fi sd=pure (zf4 0 m.toNat)) (m1:m<=1000) (eb:zao src sd=[none,x]) (hc: ∀ t:Int,tc [some (.int t),x]=pure ((os.filter (zjU t)).isEmpty)):zba fi (zbC 0) tc (zag 0) src sd=pure (.lst ((zcG m os).map D.int)):=by
 unfold zcG
 rw [<- zbZ]
 refine zcN (by rw [hi,zjB]) (by simp;omega) fun t ht=> ?_
 rw [eb]
 simp only [zbw]
 ac_nf0
 rw [hc]
 ac_nf0
 split<;>rfl
theorem zvn:dIx (zc4 m os) (.int 1)=pure (.tup (os.map zb2)):=rfl
theorem zrt:dIx (zc4 m os) (.int 0)=pure (.int m):=rfl
theorem znr (s:Stk m os) {a:Nat} {p:Int}:(zcG m (os.take a++[(zcG m os,p)]++os.drop a)).isEmpty=true:=by
 rw [List.isEmpty_iff]
 unfold zcG
 rw [List.filter_eq_nil_iff]
 intro t ht
 rw [List.isEmpty_iff]
 intro z
 by_cases c:(os.filter (zjU t)).isEmpty=true
 ·have h1:t∈zcG m os:=List.mem_filter.mpr ⟨ht,c⟩
  have h2:(zcG m os,p)∈(os.take a++[(zcG m os,p)]++os.drop a).filter (zjU t):=List.mem_filter.mpr ⟨by simp,by simpa [zjU] using h1⟩
  unfold zcG at h2
  rw [z] at h2
  cases h2
 ·rw [List.isEmpty_iff] at c
  obtain ⟨o,ho⟩:=List.exists_mem_of_ne_nil _ c
  obtain ⟨h1,h2⟩:=List.mem_filter.mp ho
  have h3:o∈os.take a++os.drop a:=by rw [List.take_append_drop];exact h1
  have h4:o∈(os.take a++[(zcG m os,p)]++os.drop a).filter (zjU t):=List.mem_filter.mpr ⟨by
    rcases qaK.mp h3 with w | w
    · simp [w]
    · simp [w],h2⟩
  unfold zcG at h4
  rw [z] at h4
  cases h4
theorem zqH {h:Hh} {b:Nat} {mt mo:Int} {P:D->Hh->Prop} (q:Bx b h) (t0:1<=mt) (t1:mt<=10) (o0:1<=mo) (o1:mo<=12) (k: ∀ (m:Int) (os:List (List Int×Int)) h',Bx b h'->Stk m os->(zcG m os).isEmpty=true->(os.length:Int)<=mo->m<=mt->P (zc4 m os) h'):wp (F_27 [.cel b,.int mt,.int mo]) h P:=by
 rw [d_27]
 simp only [G_27]
 ac_nf0
 refine znf q t0 t1 (by omega) (by omega) fun m os h2 q2 m0 m1 ol ho=> ?_
 have s:=zoW m0 (by omega) (by omega) ho
 have ec:zba (zmN (zab (zag 3) zal)) (zbC 0) zcV zee [none,some 4] [some (.cel b),some (.int mt),some (.int mo),some (.int m),some (.tup (os.map zb2)),none,none]=pure (.lst ((zcG m os).map D.int)):=by
  refine zkM (x:=some (.tup (os.map zb2))) ?_ (by omega) rfl fun t=> ?_
  ·ac_nf0
   exact zen (by omega) (by omega)
  ·have eo:zba (iSq (zag 1)) (zbC 0) zb9 zca [none,some 0] [some (.int t),some (.tup (os.map zb2))]=pure (.lst ((os.filter (zjU t)).map zb2)):=zpt rfl (by omega) rfl
   simp only [zcV]
   ac_nf0
   rw [eo]
   ac_nf0
   rw [zm0]
   ac_nf0
 simp only [zc4]
 ac_nf0
 rw [ec]
 ac_nf0
 refine zbU q2 (by omega) (by omega) fun a h3 a0 a1 x3=> ?_
 have en:=znv (zcG m os)
 unfold tI at en
 ac_nf0
 rw [en]
 ac_nf0
 cases hf:(zcG m os).isEmpty with
 | true=>
  ac_nf0
  exact k m os h3 x3.1 s hf (by omega) m1
 | false=>
  ac_nf0
  refine zbU x3.1 (by decide) (by decide) fun t h4 u0 u1 x4=> ?_
  have f1:=zax (show (List.take a.toNat (os.map zb2)).length+1<=1000 by simp;omega)
  have f2:=zax (show (List.take a.toNat (os.map zb2)).length+1+(List.drop a.toNat (os.map zb2)).length<=1000 by simp;omega)
  ac_nf0
  simp only [zni _ a0,znO _ a0,f1,f2]
  ac_nf0
  have hs:Stk m (os.take a.toNat++[(zcG m os,1+t)]++os.drop a.toNat):=by
   refine zoW m0 (by omega) (by simp;omega) fun o hmem=> ?_
   have hm:o∈os\/o=(zcG m os,1+t):=by
    simp only [qaK,List.mem_singleton] at hmem
    rcases hmem with (w | w) | w
    ·exact .inl (List.mem_of_mem_take w)
    ·exact .inr w
    ·exact .inl (List.mem_of_mem_drop w)
   rcases hm with w | rfl
   ·exact ho o w
   ·refine ⟨(zhB _).filter _,fun x hx=> ?_,fun z=> ?_,by show (0:Int)<1+t;omega⟩
    ·have:=zh0 x (List.mem_filter.mp hx).1
     omega
    ·have z:zcG m os=[]:=z
     rw [z] at hf
     cases hf
  have hk:=k _ _ h4 x4.1 hs (znr s) (by simp;omega) m1
  simp only [zc4,List.map_append,qaM,List.map_nil,List.map_take,List.map_drop,zb2,tI] at hk
  simpa using hk
theorem zdy {d:D} (k:kn d=true):F_8 [d]=pure (.bl (isI d)):=by
 rw [d_8]
 simp only [G_8,zbQ,zhX,zhK,zaF,pure_bind,bind_assoc,zmv k,zpc k,zbH,zkA]
 cases d<;>simp [isI]
theorem zhJ {m:Int} {x0:Option D}: ∀ {ds:List D} {l:Int} {x3:Option D},(∀ d∈ds,kn d=true)->
  (zch m l ds=true-> ∃ sd',zbv (fun x sd=>do let sd1<-zbC 3 x sd;zbs sd1) ds [x0,some (.int m),some (.int l),x3]=pure (.nx sd'))/\
  (zch m l ds=false->zbv (fun x sd=>do let sd1<-zbC 3 x sd;zbs sd1) ds [x0,some (.int m),some (.int l),x3]=pure (.rt (.bl false)))
 | [],l,x3,_=>⟨fun _=>⟨_,rfl⟩,fun h=>by simp [zch] at h⟩
 | d::r,l,x3,hk=>by
  have kd:=hk d qau
  have step: ∀ {i:Int},d= .int i->(do let sd1<-zbC 3 d [x0,some (.int m),some (.int l),x3];zbs sd1)=if (decide (l<=i) && decide (i<m))=true then pure (.nx [x0,some (.int m),some (.int (i+1)),some (.int i)]) else pure (.rt (.bl false)):=by
   intro i e
   subst e
   simp only [zbs,zdL,List.set,pure_bind,bind_assoc,zaz,zeg,zkK,zeL,zeF,za5,zaC,zaT,zaX,zaF,zdZ,zdy (show kn (.int i)=true from rfl),zbH,isI,zei,zry,ztA,zbQ,zfL,zcR]
   by_cases h1:l<=i
   ·by_cases h2:i<m
    ·have h1': ¬i<l:=by omega
     have h2': ¬m<=i:=by omega
     simp [h1,h2,h1',h2']
    ·have h1': ¬i<l:=by omega
     have h2':m<=i:=by omega
     simp [h1,h2,h1',h2']
   ·have h1':i<l:=by omega
    simp [h1,h1']
  by_cases hi:isI d=true
  ·obtain ⟨i,e⟩: ∃ i,d= .int i:=by cases d<;>simp [isI] at hi;exact ⟨_,rfl⟩
   have s1:=step e
   subst e
   have ih:=zhJ (m:=m) (x0:=x0) (ds:=r) (l:=i+1) (x3:=some (.int i)) fun y hy=>hk y (qan _ hy)
   rw [zde,s1]
   by_cases c:(decide (l<=i) && decide (i<m))=true
   ·have er:zch m l (.int i::r)=zch m (i+1) r:=by rw [zch,c];simp
    rw [er]
    simp only [c,if_true,pure_bind]
    exact ih
   ·have er:zch m l (.int i::r)=false:=by rw [zch,Bool.eq_false_iff.mpr c];simp
    rw [er]
    simp only [Bool.eq_false_iff.mpr c,if_false,pure_bind,qax]
    simp
  ·have hi':isI d=false:=Bool.eq_false_iff.mpr hi
   have er:zch m l (d::r)=false:=by cases d<;>simp [isI] at hi'<;>rfl
   rw [er,zde]
   refine ⟨fun h=>(by cases h),fun _=> ?_⟩
   simp only [zbs,zdL,List.set,pure_bind,bind_assoc,zaz,zeg,zkK,zeL,zeF,za5,zaC,zaT,zaX,zaF,zdZ,zdy kd,zbH,hi',zbQ,zfL,zcR]
   simp
theorem zhx {d:D} {m:Int} (k:kn d=true) (hk: ∀ ds,d= .tup ds-> ∀ x∈ds,kn x=true):F_10 [d,.int m]=pure (.bl (match d with | .tup ds=>zch m 0 ds | _=>false)):=by
 rw [d_10]
 simp only [G_10,zaz,zeg,zeL,zeF,zhK,zaF,pure_bind,bind_assoc,zhQ k,zbH]
 cases d with
 | tup ds=>
  simp only [isT,Bool.not_true,qax,if_false,zcR,pure_bind,zgW,zaz,zb5,zfL,List.set,zgk,zsC,zaF,zr2,bind_assoc]
  have:=zhJ (m:=m) (x0:=some (.tup ds)) (ds:=ds) (l:=0) (x3:=none) (hk ds rfl)
  cases c:zch m 0 ds with
  | true=>
   obtain ⟨sd',e⟩:=this.1 c
   rw [e]
   simp
  | false=>
   rw [this.2 c]
   simp
 | _=>simp [isT]
theorem zro (s:Stk m os) {d:D} (g:gk d):F_13 [zc4 m os,d]=pure (.bl (ztr os.length d)):=by
 rw [d_13]
 simp only [G_13,zc4]
 ac_nf0
 rw [zhx g.1 fun ds e=>(g.2 ds e).2]
 ac_nf0
 cases d<;>rfl
theorem zqC (s:Stk m os) {d:D} (g:gk d) (hp:ztr os.length d=true):F_17 [zc4 m os,d]=pure .non:=by
 rw [d_17]
 simp only [G_17]
 ac_nf0
 rw [zro s g,hp]
 ac_nf0
theorem zhN (s:Stk m os) {ls:List Int} (hu:ls.Pairwise (· < ·)) (b: ∀ x∈ls,0<=x/\x<os.length):F_18 [zc4 m os,tI ls]=pure (.lst ((zc9 os ls).map zb2)):=by
 have hl:=zjq (m:=os.length) (by omega) hu b
 have hls:ls.length<=12:=by have:=s.len;omega
 have hp:ztr os.length (tI ls)=true:=zcQ.mpr ⟨hu,b⟩
 rw [d_18]
 simp only [G_18]
 ac_nf0
 have e:=zqC s (d:=tI ls) (ztS (by omega)) hp
 unfold tI at e
 rw [e]
 ac_nf0
 rw [zhO (ds:=ls.map D.int) (k:=fun d=>match d with | .int i=>zb2 (os.getD i.toNat ([],0)) | d=>d) rfl (by rw [qaH];omega) ?_]
 ·ac_nf0
  unfold zc9
  rw [qaT,qaT]
  rfl
 ·intro x hx
  obtain ⟨i,hi,rfl⟩:=qaU.mp hx
  have eb:zao [none,some 0] [some (zc4 m os),some (D.tup (ls.map D.int))]=[none,some (zc4 m os)]:=rfl
  rw [eb]
  simp only [zbw,zeb,zc4]
  ac_nf0
  rw [zlV (b i hi).1 (b i hi).2]
  ac_nf0
def Lt (os:List (List Int×Int)) (ls:List Int):Prop:=ls.Pairwise (· < ·)/\ ∀ x∈ls,0<=x/\x<os.length
theorem Lt.sub {ls ks:List Int} (h:Lt os ls) (s:ks.Sublist ls):Lt os ks:=⟨h.1.sublist s,fun x hx=>h.2 x (s.subset hx)⟩
theorem Lt.lot {ls:List Int} (h:Lt os ls):ztr os.length (tI ls)=true:=zcQ.mpr h
theorem Lt.len {ls:List Int} (h:Lt os ls) (s:Stk m os):ls.length<=12:=by
 have:=zjq (m:=os.length) (by omega) h.1 h.2
 have:=s.len
 omega
theorem zop (hf:(zcG m os).isEmpty=true) {t:Int} (t0:0<=t) (t1:t<m): ∃ o∈os,t∈o.1:=by
 rw [List.isEmpty_iff] at hf
 unfold zcG at hf
 rw [List.filter_eq_nil_iff] at hf
 have h1:=hf t (qaU.mpr ⟨t.toNat,List.mem_range.mpr (by omega),by omega⟩)
 rw [List.isEmpty_iff] at h1
 obtain ⟨o,ho⟩:=List.exists_mem_of_ne_nil _ h1
 obtain ⟨h2,h3⟩:=List.mem_filter.mp ho
 exact ⟨o,h2,by simpa [zjU] using h3⟩
theorem zok (s:Stk m os) {ls:List Int} (L:Lt os ls):F_15 [zc4 m os,tI ls]=pure (.int (pr os ls)):=by
 have ll:=L.len s
 have e2:=zhN s L.1 L.2
 have h3:(zc9 os ls).length=ls.length:=by unfold zc9;simp
 have ec:zba (iSq (zaI (zak 2 F_18) (zab (zag 0) (zab (zag 1) zal)))) (zbC 0) (fun _=>pure true) zdm [none] [some (zc4 m os),some (tI ls)]=pure (.lst (((zc9 os ls).map (·.2)).map D.int)):=by
  rw [show ((zc9 os ls).map (·.2)).map D.int=(zc9 os ls).filterMap fun o=>some (.int o.2) by simp]
  refine zcN (g':=zb2) ?_ (by omega) fun o _=> ?_
  ·simp only [tI] at e2
   ac_nf0
   rw [e2]
   ac_nf0
  ·have eb:zao [none] [some (zc4 m os),some (tI ls)]=[none]:=rfl
   rw [eb]
   simp only [zbw,zdm]
   ac_nf0
 rw [d_15]
 simp only [G_15,zbQ,za5,zaC,zaT]
 rw [ec]
 simp only [pure_bind]
 rw [zlb]
 unfold pr zc9
 rw [qaT]
 rfl
def Kq (m:Int) (os:List (List Int×Int)) (ts:List Int) (ss:List Sp4) (k tn sn:Nat) (h:Hh):Prop:=
 h[k]? = some (.ins "Keeper" (zil (zc4 m os) tn sn))/\h[tn]? = some (.lst (ts.map D.int))/\h[sn]? = some (.lst (ss.map zim))/\tn≠sn
variable {ts:List Int} {ss:List Sp4} {k tn sn:Nat} {h:Hh}
theorem Kq.gro {h':Hh} (K:Kq m os ts ss k tn sn h) (g:Gro h h'):Kq m os ts ss k tn sn h':=⟨g.get K.1,g.get K.2.1,g.get K.2.2.1,K.2.2.2⟩
theorem zfa {P:D->Hh->Prop} (K:Kq m os ts ss k tn sn h) (hl:ss.length<=1000) (q:P (.lst ((zc1 ss).map D.int)) h):wp (F_Keeper_in_order [.cel k]) h P:=by
 rw [d_Keeper_in_order]
 simp only [zay]
 ac_nf0
 refine zjf (n:=sn) (g':=zim) (xs:=ss) (k:=fun x=>some (.int x.2.2.2)) (fun {P} q=> ?_) K.2.2.1 hl (fun x _=> ?_) ?_
 ·ac_nf0
  exact zbj K.1 zbS q
 ·rw [show zao [none] [some (.cel k)]=[none] from rfl]
  simp only [zbw,zcj,zim]
  ac_nf0
 ·rw [za6]
  ac_nf0
  unfold zc1 at q
  rw [qaT] at q
  exact q
theorem zeY {P:D->Hh->Prop} (K:Kq m os ts ss k tn sn h) (hl:ss.length<64) (hn:(zc1 ss).Nodup) (q:P (tI (zda (zc1 ss))) h):wp (F_Keeper_taken [.cel k]) h P:=by
 have hl':(zc1 ss).length<64:=by unfold zc1;rw [qaH];exact hl
 rw [d_Keeper_taken]
 simp only [zat]
 ac_nf0
 refine zbi K.1 zfq ?_
 ac_nf0
 refine zfa K (by omega) ?_
 ac_nf0
 rw [ziL hl',zit hn fun k=>Iff.rfl]
 ac_nf0
 exact q
noncomputable def shs (m:Int) (ss:List Sp4):List Int:=(List.range m.toNat).map fun (t:Nat)=>sh ss (t:Int)
theorem zhv {P:D->Hh->Prop} (s:Stk m os) (K:Kq m os ts ss k tn sn h) (hl:ss.length<=1000) (q: ∀ h',Gro h h'->P (.lst ((shs m ss).map D.int)) h'):wp (F_Keeper_shares [.cel k]) h P:=by
 have m0:=s.m0
 have m1:=s.m1
 rw [d_Keeper_shares]
 simp only [zaH]
 ac_nf0
 refine zjf (n:=sn) (g':=zim) (xs:=ss) (k:=fun x=>some (.tup [.int x.2.1,.int x.2.2.1])) (fun {P} q=> ?_) K.2.2.1 hl (fun x _=> ?_) ?_
 ·ac_nf0
  exact zbj K.1 zbS q
 ·rw [show zao [none] [some (.cel k),none]=[none] from rfl]
  simp only [zbw,zcE,zim]
  ac_nf0
 rw [za6]
 ac_nf0
 have e1:zpg [.lst (ss.map fun x=> .tup [.int x.2.1,.int x.2.2.1])]=zju (zdU (ss.map fun x=>(x.2.1,D.int x.2.2.1))):=by
  show (ofO (prs (ss.map fun x=> .tup [.int x.2.1,.int x.2.2.1]))>>=fun ps=>zju (zdU ps))=_
  rw [zk0]
  rfl
 rw [e1]
 refine zlM ?_
 have K2:=K.gro (h':=h++[.dic (zdU (ss.map fun x=>(x.2.1,D.int x.2.2.1)))]) ⟨_,rfl⟩
 have g2:Gro h (h++[.dic (zdU (ss.map fun x=>(x.2.1,D.int x.2.2.1)))]):=⟨_,rfl⟩
 have ed:(h++[C.dic (zdU (ss.map fun x=>(x.2.1,D.int x.2.2.1)))])[h.length]? = some (.dic (zdU (ss.map fun x=>(x.2.1,D.int x.2.2.1)))):=by simp
 generalize h++[C.dic (zdU (ss.map fun x=>(x.2.1,D.int x.2.2.1)))]=h2 at K2 g2 ed ⊢
 generalize h.length=n at ed ⊢
 ac_nf0
 unfold zba
 ac_nf0
 refine zbj K2.1 zbb ?_
 rw [zrt]
 ac_nf0
 rw [zen (by omega) (by omega)]
 ac_nf0
 rw [zi4,zax (by omega)]
 ac_nf0
 have er:zf4 0 m.toNat=(List.range m.toNat).map fun (i:Nat)=>D.int (i:Int):=by
  unfold zf4
  exact List.map_congr_left fun k _=>by simp
 rw [er]
 refine znn (g':=fun (i:Nat)=> .int (i:Int)) (k:=fun i=>some (.int (sh ss (i:Int)))) (fun i _=> ?_) ?_
 ·rw [show zao [none,some 1] [some (.cel k),some (.cel n)]=[none,some (.cel n)] from rfl]
  simp only [zbw,zcJ]
  ac_nf0
  refine zlD ed ?_
  ac_nf0
  refine zsO ed ?_
  rw [ztU]
  ac_nf0
  exact ⟨trivial,trivial⟩
 ·rw [za6]
  ac_nf0
  unfold shs at q
  rw [qaT] at q
  exact q h2 g2
noncomputable def rm (os:List (List Int×Int)) (ss:List Sp4) (n:Int):Int:=(os.getD n.toNat ([],0)).2 - ((os.getD n.toNat ([],0)).1.map (sh ss)).sum
theorem zrZ {m t:Int} {ss:List Sp4} (t0:0<=t) (t1:t<m):atI ((shs m ss).map D.int) t=some (.int (sh ss t)):=by
 have:=zdN (xs:=(shs m ss).map D.int) (j:=t.toNat) (v:= .int (sh ss t)) (by
   unfold shs
   rw [qaT,List.getElem?_map,List.getElem?_range (by omega)]
   simp only [Option.map_some,Function.comp]
   rw [Int.toNat_of_nonneg t0])
 rwa [Int.toNat_of_nonneg t0] at this
theorem zpI (s:Stk m os) {n:Int} (n0:0<=n) (n1:n<os.length):os.getD n.toNat ([],0)∈os:=by
 rw [List.getD,qaf (by omega)]
 exact List.getElem_mem _
theorem zqn {P:D->Hh->Prop} (s:Stk m os) (K:Kq m os ts ss k tn sn h) (hl:ss.length<=1000) {n:Int} (n0:0<=n) (n1:n<os.length) (q: ∀ h',Gro h h'->P (.int (rm os ss n)) h'):wp (F_Keeper_room [.cel k,.int n]) h P:=by
 have ho:=zpI s n0 n1
 rw [d_Keeper_room]
 simp only [zbq]
 ac_nf0
 refine zbj K.1 zbb ?_
 rw [zvn]
 ac_nf0
 rw [zlV n0 n1]
 ac_nf0
 refine zbi K.1 zhu ?_
 ac_nf0
 refine zhv s K hl fun h2 g2=> ?_
 ac_nf0
 have ec:zba (iSq (cOp dIx (zag 2) (cK (.int 0)))) (zbC 0) (fun _=>pure true) zck [none,some 3] [some (.cel k),some (.int n),some (zb2 (os.getD n.toNat ([],0))),some (.lst ((shs m ss).map D.int))]=pure (.lst (((os.getD n.toNat ([],0)).1.map (sh ss)).map D.int)):=by
  rw [show ((os.getD n.toNat ([],0)).1.map (sh ss)).map D.int=(os.getD n.toNat ([],0)).1.filterMap fun t=>some (D.int (sh ss t)) by rw [za6,qaT];rfl]
  refine zcN (g':=D.int) (xs:=(os.getD n.toNat ([],0)).1) (by ac_nf0) (by have:=s.olen _ ho;omega) fun t ht=> ?_
  rw [show zao [none,some 3] [some (.cel k),some (.int n),some (zb2 (os.getD n.toNat ([],0))),some (.lst ((shs m ss).map D.int))]=[none,some (.lst ((shs m ss).map D.int))] from rfl]
  simp only [zbw,zck]
  have hb:=s.bd _ ho t ht
  ac_nf0
  rw [zrZ hb.1 hb.2]
  ac_nf0
 unfold zb2 tI at ec
 rw [ec]
 ac_nf0
 rw [zlb]
 ac_nf0
 exact q h2 g2
noncomputable def wI (os:List (List Int×Int)) (t:Int):List Int:=((List.range os.length).filter fun j=>zjU t (os.getD j ([],0))).map fun (j:Nat)=>(j:Int)
theorem zmx {fi:FA} {src:List (Option Nat)} {sd:Sd} {t:Int} (hi:fi sd=pure (zo9 (os.map zb2))) (hl:os.length<=1000) (eb:zao src sd=[none,none,some (.int t)]):zba fi (zfS 2 (zb6 (zbC 0) (zb6 (zbC 1) zf0))) zbL zbN src sd=pure (.lst ((wI os t).map D.int)):=by
 unfold wI
 rw [qaT, <-zbZ]
 refine zcN (g':=fun (i:Nat)=> .tup [.int i,(os.map zb2).getD i .non]) (by rw [hi];unfold zo9;rw [qaH]) (by simpa using hl) fun i hi'=> ?_
 have hi2:i<os.length:=List.mem_range.mp hi'
 have eo:(os.map zb2).getD i .non=zb2 (os.getD i ([],0)):=by simp [List.getD,hi2]
 rw [eb]
 simp only [zbw,zbL,zbN,eo]
 ac_nf0
 rw [zg4]
 ac_nf0
 unfold zjU
 split<;>rfl
theorem zlJ (s:Stk m os) {t:Int}:F_20 [zc4 m os,.int t]=pure (tI (wI os t)):=by
 have ol:=s.len
 have ec:zba (ztV (cOp dIx (zag 0) (cK (.int 1)))) (zfS 2 (zb6 (zbC 0) (zb6 (zbC 1) zf0))) zbL zbN [none,none,some 1] [some (zc4 m os),some (.int t)]=pure (.lst ((wI os t).map D.int)):=zmx rfl (by omega) rfl
 rw [d_20]
 simp only [G_20]
 ac_nf0
 rw [ec]
 ac_nf0
variable {ts:List Int} {ss:List Sp4} {k tn sn:Nat} {h:Hh}
noncomputable def zhh (os:List (List Int×Int)) (ls:List Int) (t:Int):Bool:=ls.any fun n=>(os.getD n.toNat ([],0)).1.any (· == t)
theorem zdv {ls:List Int} {t:Int}:zhh os ls t=true↔ ∃ n∈ls,t∈(os.getD n.toNat ([],0)).1:=by
 unfold zhh
 rw [List.any_eq_true]
 exact ⟨fun ⟨n,h1,h2⟩=>⟨n,h1,zd3.mp h2⟩,fun ⟨n,h1,h2⟩=>⟨n,h1,zd3.mpr h2⟩⟩
theorem zkJ {ls:List Int} {t:Int}:(zda ((zc9 os ls).flatMap (·.1))).any (· == t)=zhh os ls t:=by
 rw [Bool.eq_iff_iff,zd3,zcS,zdv,List.mem_flatMap]
 unfold zc9
 constructor
 ·rintro ⟨o,ho,ht⟩
  obtain ⟨n,hn,rfl⟩:=qaU.mp ho
  exact ⟨n,hn,ht⟩
 ·rintro ⟨n,hn,ht⟩
  exact ⟨_,qaU.mpr ⟨n,hn,rfl⟩,ht⟩
theorem znH {ls ks:List Int} {t:Int} (e: ∀ n,n∈ls↔n∈ks):zhh os ls t=zhh os ks t:=by
 rw [Bool.eq_iff_iff,zdv,zdv]
 exact ⟨fun ⟨n,h1,h2⟩=>⟨n,(e n).mp h1,h2⟩,fun ⟨n,h1,h2⟩=>⟨n,(e n).mpr h1,h2⟩⟩
theorem zhH (s:Stk m os) {ls:List Int} (L:Lt os ls):Ev (F_14 [zc4 m os,tI ls]) (tI (zda ((zc9 os ls).flatMap (·.1)))):=by
 have ll:=L.len s
 have hm:=zmj (os:=os) (ls:=ls) L.2
 have e:=zhN s L.1 L.2
 have hlen:(zc9 os ls).length<=12:=by unfold zc9;rw [qaH];exact ll
 have m0:=s.m0
 have m1:=s.m1
 have hf:=znY (os:=zc9 os ls) (n:=10) fun o ho=>s.olen o (hm o ho)
 refine .of_wp fun h=> ?_
 rw [d_14]
 simp only [G_14]
 unfold tI at e
 unfold tI
 ac_nf0
 rw [e]
 ac_nf0
 refine (zr3 (m:=m) (zrB (ds:=(zc9 os ls).map zb2)) (by omega) (by omega) (by omega) fun o ho=>s.bd o (hm o ho)).noX.wp fun h' g=> ?_
 unfold tI
 ac_nf0
 exact ⟨trivial,g⟩
theorem zd4 (s:Stk m os) {t:Int} (t0:0<=t) (t1:t<m):F_16 [zc4 m os,.int t]=pure .non:=by
 rw [d_16]
 simp only [G_16]
 ac_nf0
 rw [zdy (d:= .int t) rfl]
 ac_nf0
 rw [zrt]
 simp only [isI]
 ac_nf0
 simp only [zry,ztA]
 ac_nf0
 rw [decide_eq_false (by omega),decide_eq_false (by omega)]
 ac_nf0
theorem zl7 {t n:Int}:n∈wI os t↔0<=n/\n<os.length/\t∈(os.getD n.toNat ([],0)).1:=by
 unfold wI
 rw [qaU]
 constructor
 ·rintro ⟨i,hi,rfl⟩
  obtain ⟨h1,h2⟩:=List.mem_filter.mp hi
  have h1:=List.mem_range.mp h1
  refine ⟨by omega,by omega,?_⟩
  rw [qaB]
  exact zd3.mp h2
 ·rintro ⟨h0,h1,h2⟩
  refine ⟨n.toNat,List.mem_filter.mpr ⟨List.mem_range.mpr (by omega),zd3.mpr h2⟩,by omega⟩
noncomputable def rms (os:List (List Int×Int)) (ss:List Sp4) (t:Int):List (List Int):=(wI os t).map fun n=>[rm os ss n,n]
noncomputable def bst (os:List (List Int×Int)) (ss:List Sp4) (t:Int):List Int:=(rms os ss t).getD (zfC (rms os ss t)) []
theorem zoJ {t:Int} (hf:wI os t≠[]): ∃ n∈wI os t,bst os ss t=[rm os ss n,n]:=by
 have hne:rms os ss t≠[]:=fun z=>hf (List.map_eq_nil_iff.mp z)
 have hl:=zg1 hne
 unfold bst
 rw [List.getD,qaf hl]
 obtain ⟨n,h1,h2⟩:=qaU.mp (List.getElem_mem hl)
 exact ⟨n,h1,h2.symm⟩
noncomputable def zc8 (os:List (List Int×Int)) (ts:List Int) (ss:List Sp4) (t:Int):List Sp4:=if zhh os (zc1 ss) t=true then ss else ss++[((ts.length:Int),t,(bst os ss t).getD 0 0,(bst os ss t).getD 1 0)]
structure Iv (m:Int) (os:List (List Int×Int)) (ts:List Int) (ss:List Sp4):Prop where
 had: ∀ t∈ts,zhh os (zc1 ss) t=true
 bd: ∀ t∈ts,0<=t/\t<m
 stp: ∀ x∈ss,(0<=x.1/\x.1<ts.length)/\(0<=x.2.2.2/\x.2.2.2<os.length)/\x.2.1∈(os.getD x.2.2.2.toNat ([],0)).1
 nd:(zc1 ss).Nodup
theorem Iv.lt (v:Iv m os ts ss):Lt os (zda (zc1 ss)):=⟨zir _,fun n hn=>by
  obtain ⟨x,hx,rfl⟩:=qaU.mp (zcS.mp hn)
  exact (v.stp x hx).2.1⟩
theorem Iv.len (v:Iv m os ts ss) (s:Stk m os):ss.length<=12:=by
 have h1:(zc1 ss).length=ss.length:=qaH ..
 have h2:=zla (m:=os.length) (by omega) v.nd fun n hn=>by
  obtain ⟨x,hx,rfl⟩:=qaU.mp hn
  exact (v.stp x hx).2.1
 have:=s.len
 omega
theorem Iv.nil:Iv m os [] []:=⟨by simp,by simp,by simp,by simp [zc1]⟩
theorem Iv.come (s:Stk m os) (v:Iv m os ts ss) {t:Int} (t0:0<=t) (t1:t<m) (hf:wI os t≠[]):Iv m os (ts++[t]) (zc8 os ts ss t):=by
 unfold zc8
 have hlen:(ts++[t]).length=ts.length+1:=by simp
 split
 ·rename_i e
  refine ⟨fun x hx=> ?_,fun x hx=> ?_,fun x hx=> ?_,v.nd⟩
  ·rcases qaK.mp hx with z | z
   ·exact v.had x z
   ·rw [List.mem_singleton.mp z];exact e
  ·rcases qaK.mp hx with z | z
   ·exact v.bd x z
   ·rw [List.mem_singleton.mp z];exact ⟨t0,t1⟩
  ·have:=v.stp x hx
   exact ⟨⟨this.1.1,by omega⟩,this.2⟩
 ·rename_i e
  obtain ⟨n,hn,en⟩:=zoJ (ss:=ss) hf
  obtain ⟨n0,n1,nt⟩:=zl7.mp hn
  rw [en]
  have hnums:zc1 (ss++[((ts.length:Int),t,[rm os ss n,n].getD 0 0,[rm os ss n,n].getD 1 0)])=zc1 ss++[n]:=by
   unfold zc1
   rw [List.map_append]
   rfl
  refine ⟨fun x hx=> ?_,fun x hx=> ?_,fun x hx=> ?_,?_⟩
  ·rw [hnums,zdv]
   rcases qaK.mp hx with z | z
   ·obtain ⟨y,h1,h2⟩:=zdv.mp (v.had x z)
    exact ⟨y,List.mem_append_left _ h1,h2⟩
   ·rw [List.mem_singleton.mp z]
    exact ⟨n,by simp,nt⟩
  ·rcases qaK.mp hx with z | z
   ·exact v.bd x z
   ·rw [List.mem_singleton.mp z];exact ⟨t0,t1⟩
  ·rcases qaK.mp hx with z | z
   ·have:=v.stp x z
    exact ⟨⟨this.1.1,by omega⟩,this.2⟩
   ·rw [List.mem_singleton.mp z]
    exact ⟨⟨by show (0:Int)<=ts.length;omega,by show (ts.length:Int)<(ts++[t]).length;omega⟩,⟨n0,n1⟩,nt⟩
  ·rw [hnums,List.nodup_append]
   refine ⟨v.nd,by simp,fun a ha b hb=> ?_⟩
   rw [List.mem_singleton.mp hb]
   rintro rfl
   exact e (zdv.mpr ⟨a,ha,nt⟩)
variable {ts:List Int} {ss:List Sp4} {k tn sn:Nat} {h:Hh}
theorem Kq.ne (K:Kq m os ts ss k tn sn h):k≠tn/\k≠sn:=by
 obtain ⟨h1,h2,h3,_⟩:=K
 refine ⟨fun z=> ?_,fun z=> ?_⟩
 ·subst z;rw [h1] at h2;cases h2
 ·subst z;rw [h1] at h3;cases h3
theorem Kq.lts (K:Kq m os ts ss k tn sn h):tn<h.length/\sn<h.length:=⟨(qac.mp K.2.1).1,(qac.mp K.2.2.1).1⟩
theorem Kq.setT {ts':List Int} (K:Kq m os ts ss k tn sn h):Kq m os ts' ss k tn sn (h.set tn (.lst (ts'.map D.int))):=by
 obtain ⟨n1,n2⟩:=K.ne
 obtain ⟨l1,l2⟩:=K.lts
 obtain ⟨h1,h2,h3,h4⟩:=K
 exact ⟨by rw [qao (Ne.symm n1)];exact h1,by rw [qai l1],by rw [qao h4];exact h3,h4⟩
theorem Kq.setS {ss':List Sp4} (K:Kq m os ts ss k tn sn h):Kq m os ts ss' k tn sn (h.set sn (.lst (ss'.map zim))):=by
 obtain ⟨n1,n2⟩:=K.ne
 obtain ⟨l1,l2⟩:=K.lts
 obtain ⟨h1,h2,h3,h4⟩:=K
 exact ⟨by rw [qao (Ne.symm n2)];exact h1,by rw [qao (Ne.symm h4)];exact h2,by rw [qai l2],h4⟩
def Fr (tn sn:Nat) (h h':Hh):Prop:= ∀ j c,j≠tn->j≠sn->h[j]? = some c->h'[j]? = some c
theorem Fr.of_gro {h':Hh} (g:Gro h h'):Fr tn sn h h':=fun j c _ _ e=>g.get e
theorem Fr.trans {h1 h2:Hh} (a:Fr tn sn h h1) (b:Fr tn sn h1 h2):Fr tn sn h h2:=fun j c n1 n2 e=>b j c n1 n2 (a j c n1 n2 e)
theorem Fr.setT {c:C}:Fr tn sn h (h.set tn c):=fun j d n1 _ e=>by rw [qao (Ne.symm n1)];exact e
theorem Fr.setS {c:C}:Fr tn sn h (h.set sn c):=fun j d _ n2 e=>by rw [qao (Ne.symm n2)];exact e
theorem zpO {P:D->Hh->Prop} (s:Stk m os) (K:Kq m os ts ss k tn sn h) (v:Iv m os ts ss) (tl:ts.length<=500) {t:Int} (t0:0<=t) (t1:t<m) (hf:wI os t≠[])
  (q: ∀ h',Kq m os (ts++[t]) (zc8 os ts ss t) k tn sn h'->Fr tn sn h h'->P .non h'):wp (F_Keeper_come [.cel k,.int t]) h P:=by
 have sl:=v.len s
 have ol:=s.len
 have hwe:(wI os t).isEmpty=false:=by
  cases e:wI os t with
  | nil=>exact absurd e hf
  | cons=>rfl
 have hwl:(wI os t).length<=12:=by
  unfold wI
  rw [qaH]
  have:=List.length_filter_le (fun j=>zjU t (os.getD j ([],0))) (List.range os.length)
  rw [List.length_range] at this
  omega
 rw [d_Keeper_come]
 simp only [zaG]
 ac_nf0
 refine zbj K.1 zbb ?_
 ac_nf0
 rw [zd4 s t0 t1]
 ac_nf0
 refine zbj K.1 zbb ?_
 ac_nf0
 rw [zlJ s]
 ac_nf0
 rw [zuW,hwe]
 ac_nf0
 refine zbj K.1 zbb ?_
 ac_nf0
 refine zbi K.1 ze0 ?_
 ac_nf0
 refine zou (zeY K (by omega) v.nd ?_)
 ac_nf0
 refine (zhH s v.lt).wp fun h1 g1=> ?_
 ac_nf0
 rw [zhG,zkJ,znH (ks:=zc1 ss) fun n=>zcS]
 ac_nf0
 have K1:=K.gro g1
 have fin: ∀ {h2:Hh},Kq m os ts (zc8 os ts ss t) k tn sn h2->Fr tn sn h h2->wp (zeP "Keeper" "things" (.cel k)) h2 fun b h'=>wp (zdH b) h' fun _ h'=>wp (zcX b (.int t)) h' fun _ h'=>P .non h':=by
  intro h2 K2 f2
  refine zbj K2.1 za8 (zoc K2.2.1 (zox K2.2.1 (by rw [qaH];omega) ?_))
  have:=q _ (K2.setT (ts':=ts++[t])) (f2.trans Fr.setT)
  rw [List.map_append] at this
  exact this
 cases hb:zhh os (zc1 ss) t with
 | true=>
  ac_nf0
  have ec:zc8 os ts ss t=ss:=by unfold zc8;rw [qa4 hb]
  exact fin (h2:=h1) (by rw [ec];exact K1) (.of_gro g1)
 | false=>
  ac_nf0
  unfold zba
  ac_nf0
  rw [zax (by omega)]
  ac_nf0
  refine zth (g':=D.int) (xs:=wI os t) (k:=fun n=>some (.tup [.int (rm os ss n),.int n])) (fun n hn h2 g2=> ?_) fun h2 g2=> ?_
  ·rw [show zao [none,some 0] [some (.cel k),some (.int t),some (.tup ((wI os t).map D.int)),none]=[none,some (.cel k)] from rfl]
   simp only [zbw,zdd]
   obtain ⟨n0,n1,_⟩:=zl7.mp hn
   ac_nf0
   refine zbi (K1.gro g2).1 zqX ?_
   ac_nf0
   refine zou (zqn s (K1.gro g2) (by omega) n0 n1 fun h3 g3=> ?_)
   ac_nf0
   exact ⟨g3,trivial⟩
  ·rw [za6]
   obtain ⟨n,hn,en⟩:=zoJ (ss:=ss) hf
   have em:znN [.lst ((wI os t).map fun n=> .tup [.int (rm os ss n),.int n])]=pure (.tup [.int (rm os ss n),.int n]):=by
    have e1:=zm8 (ps:=rms os ss t) fun z=>hf (List.map_eq_nil_iff.mp z)
    rw [show (rms os ss t).getD (zfC (rms os ss t)) []=bst os ss t from rfl,en] at e1
    unfold rms at e1
    rw [qaT] at e1
    exact e1
   ac_nf0
   rw [em]
   ac_nf0
   have K2:=K1.gro g2
   refine zbj K2.1 zbS ?_
   ac_nf0
   rw [zce K2.2.2.1]
   refine zbj K2.1 za8 ?_
   ac_nf0
   refine zio K2.2.1 ?_
   ac_nf0
   refine zox K2.2.2.1 (by rw [qaH];omega) ?_
   ac_nf0
   have ec:zc8 os ts ss t=ss++[((ts.length:Int),t,rm os ss n,n)]:=by unfold zc8;rw [qa5 (by rw [hb];simp),en];rfl
   have:=fin (h2:=h2.set sn (.lst ((zc8 os ts ss t).map zim))) K2.setS ((Fr.of_gro (g1.trans g2)).trans Fr.setS)
   rw [ec,List.map_append] at this
   exact this
theorem zp2 {P:D->Hh->Prop} (s:Stk m os) (v:Iv m os ts ss) {t:Int} (K:Kq m os (ts++[t]) (zc8 os ts ss t) k tn sn h)
  (q: ∀ h',Kq m os ts ss k tn sn h'->Fr tn sn h h'->P .non h'):wp (F_Keeper_undo [.cel k]) h P:=by
 have e1:(ts++[t]).map D.int=ts.map D.int++[.int t]:=by simp
 have e2:(!((ts++[t]).map D.int).isEmpty)=true:=by simp
 have K1:Kq m os ts (zc8 os ts ss t) k tn sn (h.set tn (.lst (ts.map D.int))):=K.setT
 have f1:Fr tn sn h (h.set tn (.lst (ts.map D.int))):=Fr.setT
 rw [d_Keeper_undo]
 simp only [zaL]
 ac_nf0
 refine zbj K.1 za8 ?_
 refine zi2 K.2.1 ?_
 rw [e2]
 ac_nf0
 refine zbj K.1 za8 ?_
 refine zk7 (ds:=ts.map D.int) (d:= .int t) (by rw [<- e1];exact K.2.1) ?_
 generalize h.set tn (.lst (ts.map D.int))=h1 at K1 f1 ⊢
 ac_nf0
 refine zbj K1.1 zbS ?_
 refine zi2 K1.2.2.1 ?_
 cases hb:zhh os (zc1 ss) t with
 | true=>
  have ec:zc8 os ts ss t=ss:=by unfold zc8;rw [qa4 hb]
  rw [ec] at K1 ⊢
  by_cases hs:ss=[]
  ·subst hs
   have e3:(!(([]:List Sp4).map zim).isEmpty)=false:=rfl
   rw [e3]
   ac_nf0
   exact q h1 K1 f1
  ·obtain ⟨l,x,el⟩: ∃ l x,ss=l++[x]:=⟨ss.dropLast,ss.getLast hs,(List.dropLast_concat_getLast hs).symm⟩
   have e3:(!(ss.map zim).isEmpty)=true:=by rw [el];simp
   have hx:=(v.stp x (by rw [el];simp)).1.2
   rw [e3]
   ac_nf0
   refine zbj K1.1 zbS ?_
   ac_nf0
   refine zos K1.2.2.1 (d:=zim x) (by rw [el,List.map_append];exact zjG _ _) ?_
   simp only [zim]
   ac_nf0
   refine zbj K1.1 za8 ?_
   refine zio K1.2.1 ?_
   ac_nf0
   rw [zsx]
   rw [show decide (x.1=(ts.length:Int))=false from decide_eq_false (by omega)]
   ac_nf0
   exact q h1 K1 f1
 | false=>
  obtain ⟨y,ec⟩: ∃ y:Sp4,zc8 os ts ss t=ss++[y]/\y.1=(ts.length:Int):=⟨_,by unfold zc8;rw [qa5 (by rw [hb];simp)],rfl⟩
  obtain ⟨ec,ey⟩:=ec
  rw [ec] at K1 ⊢
  have e3:(!((ss++[y]).map zim).isEmpty)=true:=by simp
  rw [e3]
  ac_nf0
  refine zbj K1.1 zbS ?_
  ac_nf0
  refine zos K1.2.2.1 (d:=zim y) (by rw [List.map_append];exact zjG _ _) ?_
  simp only [zim]
  ac_nf0
  refine zbj K1.1 za8 ?_
  refine zio K1.2.1 ?_
  ac_nf0
  rw [zsx,ey]
  rw [show decide ((ts.length:Int)=(ts.length:Int))=true from decide_eq_true rfl]
  ac_nf0
  refine zbj K1.1 zbS ?_
  refine zk7 (ds:=ss.map zim) (d:=zim y) (by
    have:=K1.2.2.1
    rw [List.map_append] at this
    exact this) ?_
  ac_nf0
  exact q _ K1.setS (f1.trans Fr.setS)
variable {ts:List Int} {ss:List Sp4} {k tn sn:Nat} {h:Hh}
theorem zpx {P:D->Hh->Prop} (K:Kq m os ts ss k tn sn h) (q:P (.lst (ts.map D.int)) h):wp (F_Keeper_came [.cel k]) h P:=by
 rw [d_Keeper_came]
 simp only [zbu]
 ac_nf0
 refine zbj K.1 za8 ?_
 refine znk K.2.1 ?_
 ac_nf0
 exact q
theorem znx {P:D->Hh->Prop} (s:Stk m os) (K:Kq m os ts ss k tn sn h) (hl:ss.length<=1000) (q: ∀ h',Gro h h'->P (.tup ((shs m ss).map fun x=> .tup [.int x,.int 1])) h'):wp (F_Keeper_bears [.cel k]) h P:=by
 have m1:=s.m1
 have m0:=s.m0
 have sl:(shs m ss).length<=1000:=by unfold shs;rw [qaH,List.length_range];omega
 rw [d_Keeper_bears]
 simp only [zbc]
 unfold zba
 ac_nf0
 refine zbi K.1 zhu ?_
 ac_nf0
 refine zhv s K hl fun h1 g1=> ?_
 ac_nf0
 rw [zax sl]
 ac_nf0
 refine znn (g':=D.int) (k:=fun x=>some (.tup [.int x,.int 1])) (fun x _=> ?_) ?_
 ·rw [show zao [none] [some (.cel k)]=[none] from rfl]
  simp only [zbw,zc3]
  ac_nf0
  exact ⟨trivial,trivial⟩
 ·rw [za6]
  ac_nf0
  exact q h1 g1
theorem zpG {P:D->Hh->Prop} (s:Stk m os) (K:Kq m os ts ss k tn sn h) (v:Iv m os ts ss) (q:P (.int (pr os (zda (zc1 ss)))) h):wp (F_Keeper_paid [.cel k]) h P:=by
 have sl:=v.len s
 rw [d_Keeper_paid]
 simp only [zbr]
 ac_nf0
 refine zbj K.1 zbb ?_
 ac_nf0
 refine zbi K.1 ze0 ?_
 ac_nf0
 refine zeY K (by omega) v.nd ?_
 have e:=zok s v.lt
 unfold tI at e ⊢
 ac_nf0
 rw [e]
 ac_nf0
 exact q
theorem zkL {P:D->Hh->Prop} (s:Stk m os) (K:Kq m os ts ss k tn sn h) (v:Iv m os ts ss) (tl:ts.length<=500) {ls:List Int} (L:Lt os ls) (q: ∀ h',Gro h h'->P (.bl (ts.all (zhh os ls))) h'):wp (F_Keeper_is_enough [.cel k,tI ls]) h P:=by
 have m0:=s.m0
 have m1:=s.m1
 have hset:=zi9 (xs:=ts) (m:=m) (by omega) v.bd
 rw [d_Keeper_is_enough]
 simp only [zaJ]
 have te:=zhH s L
 generalize tI ls=dl at te
 ac_nf0
 refine zbj K.1 zbb ?_
 ac_nf0
 refine te.wp fun h1 g1=> ?_
 have K1:=K.gro g1
 unfold zba
 ac_nf0
 refine zbj K1.1 za8 ?_
 refine zeK K1.2.1 (ze6 (m:=m) (by omega) (by omega) v.bd) (by omega) ?_
 ac_nf0
 rw [zax (by omega)]
 ac_nf0
 refine znn (g':=D.int) (k:=fun x=>some (.bl (zhh os ls x))) (fun x _=> ?_) ?_
 ·rw [show zao [none,some 2] [some (.cel k),some dl,some (.tup ((zda ((zc9 os ls).flatMap (·.1))).map D.int))]=[none,some (.tup ((zda ((zc9 os ls).flatMap (·.1))).map D.int))] from rfl]
  simp only [zbw,zb4]
  ac_nf0
  rw [zg4,zkJ]
  ac_nf0
  exact ⟨trivial,trivial⟩
 ·rw [za6,show (zda ts).map (fun x=>D.bl (zhh os ls x))=((zda ts).map (zhh os ls)).map D.bl by rw [qaT];rfl]
  ac_nf0
  rw [zlF]
  ac_nf0
  have ea:((zda ts).map (zhh os ls)).all id=ts.all (zhh os ls):=by
   rw [Bool.eq_iff_iff,List.all_eq_true,List.all_eq_true]
   constructor
   ·intro z t ht
    exact z _ (qaU.mpr ⟨t,zcS.mpr ht,rfl⟩)
   ·intro z b hb
    obtain ⟨t,ht,rfl⟩:=qaU.mp hb
    exact z t (zcS.mp ht)
  rw [ea]
  exact q h1 g1
noncomputable def lkp (os:List (List Int×Int)) (ts:List Int):List Int->List Int->List Int
 | [],ks=>ks
 | n::r,ks=>lkp os ts r (if ts.all (zhh os (ks.filter (· != n)))=true then ks.filter (· != n) else ks)
theorem zez (s:Stk m os) (v:Iv m os ts ss) (tl:ts.length<=500): ∀ (ns ks:List Int) {h:Hh} {x2 x3:Option D} {P:Out->Hh->Prop},Kq m os ts ss k tn sn h->Lt os ks->
  (∀ y2 y3 h',Gro h h'->P (.nx [some (.cel k),some (tI (lkp os ts ns ks)),y2,y3]) h')->wp (zbv (fun x sd=>do let sd1<-zbC 2 x sd;zaU sd1) (ns.map D.int) [some (.cel k),some (tI ks),x2,x3]) h P
 | [],ks,h,x2,x3,P,K,L,q=>by rw [List.map_nil,zea,zan];exact q x2 x3 h .refl
 | n::r,ks,h,x2,x3,P,K,L,q=>by
  have kl:=L.len s
  have L2:Lt os (ks.filter (· != n)):=L.sub List.filter_sublist
  rw [qaM,zde]
  have ih1:=fun (h:Hh) (x2 x3:Option D)=>zez s v tl r (ks.filter (· != n)) (h:=h) (x2:=x2) (x3:=x3) (P:=P)
  have ih2:=fun (h:Hh) (x2 x3:Option D)=>zez s v tl r ks (h:=h) (x2:=x2) (x3:=x3) (P:=P)
  generalize zbv (fun x sd=>do let sd1<-zbC 2 x sd;zaU sd1) (r.map D.int)=rest at ih1 ih2 ⊢
  simp only [zaU]
  have ec: ∀ x3:Option D,zba (iSq (zag 1)) (zbC 0) zbk zbo [none,some 2] [some (.cel k),some (tI ks),some (.int n),x3]=pure (.lst ((ks.filter (· != n)).map D.int)):=fun x3=>by
   rw [<- zbZ]
   refine zcN (g':=D.int) (xs:=ks) rfl (by omega) fun y _=> ?_
   rw [show zao [none,some 2] [some (.cel k),some (tI ks),some (.int n),x3]=[none,some (.int n)] from rfl]
   simp only [zbw,zbk,zbo]
   ac_nf0
   rw [ztQ]
   ac_nf0
   split<;>rfl
  have ew:=fun (P:D->Hh->Prop)=>zkL (P:=P) s K v tl L2
  have q': ∀ y2 y3 h',Gro h h'->P (.nx [some (.cel k),some (tI (lkp os ts r (if ts.all (zhh os (ks.filter (· != n)))=true then ks.filter (· != n) else ks))),y2,y3]) h':=q
  generalize hk:tI ks=dk at ec ih2 ⊢
  generalize hf:tI (ks.filter (· != n))=df at ew ih1
  have hft:D.tup ((ks.filter (· != n)).map D.int)=df:=hf
  ac_nf0
  rw [ec]
  ac_nf0
  rw [hft]
  refine zbi K.1 zhy ?_
  ac_nf0
  refine ew _ fun h1 g1=> ?_
  ac_nf0
  cases hb:ts.all (zhh os (ks.filter (· != n))) with
  | true=>
   rw [hb] at q'
   ac_nf0
   exact ih1 h1 _ _ (K.gro g1) L2 fun y2 y3 h' g=>q' y2 y3 h' (g1.trans g)
  | false=>
   rw [hb] at q'
   ac_nf0
   exact ih2 h1 _ _ (K.gro g1) L fun y2 y3 h' g=>q' y2 y3 h' (g1.trans g)
theorem zoo {P:D->Hh->Prop} (s:Stk m os) (K:Kq m os ts ss k tn sn h) (v:Iv m os ts ss) (tl:ts.length<=500) (q: ∀ h',Gro h h'->P (tI (lkp os ts (zc1 ss).reverse (zda (zc1 ss)))) h'):wp (F_Keeper_least_kept [.cel k]) h P:=by
 have sl:=v.len s
 rw [d_Keeper_least_kept]
 simp only [zaE]
 have ll:=fun (h:Hh) (P:Out->Hh->Prop)=>zez s v tl (zc1 ss).reverse (zda (zc1 ss)) (k:=k) (tn:=tn) (sn:=sn) (h:=h) (x2:=none) (x3:=none) (P:=P)
 generalize hd:tI (zda (zc1 ss))=d0 at ll
 ac_nf0
 refine zbi K.1 ze0 ?_
 ac_nf0
 refine zeY K (by omega) v.nd ?_
 rw [hd]
 ac_nf0
 refine zbi K.1 zfq ?_
 ac_nf0
 refine zfa K (by omega) ?_
 ac_nf0
 rw [show zqS (.lst ((zc1 ss).map D.int))=pure (.lst ((zc1 ss).reverse.map D.int)) by rw [List.map_reverse];rfl]
 ac_nf0
 refine ll h _ K v.lt fun y2 y3 h1 g1=> ?_
 have q:=q h1 g1
 generalize tI (lkp os ts (zc1 ss).reverse (zda (zc1 ss)))=d1 at q ⊢
 ac_nf0
 exact q
noncomputable def zrf (m:Int) (os:List (List Int×Int)) (ts:List Int) (ss:List Sp4):D:=
 .lst [.lst (ts.map D.int),tI (zda (zc1 ss)),.tup ((shs m ss).map fun x=> .tup [.int x,.int 1]),.int (pr os (zda (zc1 ss))),tI (lkp os ts (zc1 ss).reverse (zda (zc1 ss)))]
theorem zlg {P:D->Hh->Prop} (s:Stk m os) (K:Kq m os ts ss k tn sn h) (v:Iv m os ts ss) (tl:ts.length<=500) (q: ∀ h',Gro h h'->P (zrf m os ts ss) h'):wp (F_30 [.cel k]) h P:=by
 have sl:=v.len s
 rw [d_30]
 simp only [G_30]
 have tw:=fun (P:D->Hh->Prop)=>zeY (P:=P) K (by omega) v.nd
 have lw:=fun (h:Hh) (K:Kq m os ts ss k tn sn h) (P:D->Hh->Prop)=>zoo (P:=P) s K v tl
 unfold zrf at q
 generalize tI (zda (zc1 ss))=d1 at tw q
 generalize tI (lkp os ts (zc1 ss).reverse (zda (zc1 ss)))=d2 at lw q
 ac_nf0
 refine zbi K.1 zra ?_
 ac_nf0
 refine zpx K ?_
 ac_nf0
 refine zbi K.1 ze0 ?_
 ac_nf0
 refine tw _ ?_
 ac_nf0
 refine zbi K.1 znC ?_
 ac_nf0
 refine znx s K (by omega) fun h1 g1=> ?_
 have K1:=K.gro g1
 ac_nf0
 refine zbi K1.1 zrh ?_
 ac_nf0
 refine zpG s K1 v ?_
 ac_nf0
 refine zbi K1.1 zgP ?_
 ac_nf0
 refine lw h1 K1 _ fun h2 g2=> ?_
 ac_nf0
 exact q h2 (g1.trans g2)
noncomputable def zdP:D->Bool
 | .tup ds=>(ds.length:Int)==2
 | _=>false
theorem ziS {d:D} (k:kn d=true):F_9 [d]=pure (.bl (zdP d)):=by
 rw [d_9]
 simp only [G_9,zbQ,zhX,zhK,zaF,pure_bind,bind_assoc,zhQ k,zbH]
 cases d<;>simp [isT,zdP,ztW]
noncomputable def zb0 (m:Int):D->Bool
 | .tup [.tup ts,.int p]=>zch m 0 ts && decide (0<(ts.length:Int)) && decide (0<p)
 | _=>false
theorem zmW {d:D} {m:Int} (g:zg5 d=true):F_12 [d,.int m]=pure (.bl (zb0 m d)):=by
 rw [d_12]
 simp only [G_12,zaz,zeg,zeL,zeF,za5,zaC,zaT,zaF,zaX,pure_bind,bind_assoc,zdZ,ziS (ze4 g),zbH]
 by_cases hp:zdP d=true
 ·obtain ⟨x,y,rfl⟩: ∃ x y,d= .tup [x,y]:=by
   cases d<;>simp [zdP] at hp
   rename_i ds
   match ds,hp with
   | [x,y],_=>exact ⟨x,y,rfl⟩
   | [],hp=>simp at hp
   | [_],hp=>simp at hp
   | _::_::_::_,hp=>simp at hp;omega
  obtain ⟨_,gd⟩:=zmh.mp g
  have gx:=gd x (by simp)
  have gy:=gd y (by simp)
  have hx: ∀ ds,x= .tup ds-> ∀ z∈ds,kn z=true:=fun ds e z hz=>by
   subst e
   exact ze4 ((zmh.mp gx).2 z hz)
  simp only [hp,Bool.not_true,qax,if_false,zcR,pure_bind,zgW,zaz,zb5,zdE,zaF,zaX,zfL,zqv,zn7,zpB,ziT,bind_assoc,List.set,zbQ,zhX,za5,zaC,zaT,zbJ,zdZ,zhx (ze4 gx) hx,zdy (ze4 gy),zbH]
  cases x with
  | tup ts=>
   cases c:zch m 0 ts with
   | false=>cases y<;>simp [zb0,c]
   | true=>
    simp only [if_true,zkx,pure_bind,ztt,zbH]
    cases y<;>simp [zb0,c,isI] 
    all_goals (by_cases hl:ts=[]<;>simp [hl,List.length_pos_iff])
  | _=>simp [zb0]
 ·have hp':zdP d=false:=Bool.eq_false_iff.mpr hp
  have ef:zb0 m d=false:=by
   cases d<;>try rfl
   rename_i ds
   match ds,hp' with
   | [x,y],hp'=>simp [zdP] at hp'
   | [],_=>rfl
   | [_],_=>simp [zb0]
   | _::_::_::_,_=>simp [zb0]
  simp [hp',ef]
noncomputable def zct:D->Bool
 | .tup [.int m,.tup os]=>decide (1<=m) && decide (m<=10) && decide ((os.length:Int)<=12) && os.all (zb0 m)
 | _=>false
def gd (d:D):Prop:=d= .dct\/zg5 d=true
theorem zqr {d:D} (g:gd d):kn d=true:=by
 rcases g with rfl | g
 ·rfl
 ·exact ze4 g
theorem zom {d:D} (hp:zdP d=true): ∃ x y,d= .tup [x,y]:=by
 cases d<;>simp [zdP] at hp
 rename_i ds
 match ds,hp with
 | [x,y],_=>exact ⟨x,y,rfl⟩
 | [],hp=>simp at hp
 | [_],hp=>simp at hp
 | _::_::_::_,hp=>simp at hp;omega
theorem zeD {d:D} (hp:zdP d=false):zct d=false:=by
 cases d<;>try rfl
 rename_i ds
 match ds,hp with
 | [x,y],hp'=>simp [zdP] at hp'
 | [],_=>rfl
 | [_],_=>simp [zct]
 | _::_::_::_,_=>simp [zct]
theorem znT {d:D} {m:Int} (g:gd d):F_12 [d,.int m]=pure (.bl (zb0 m d)):=by
 rcases g with rfl | g
 ·rw [d_12]
  simp only [G_12]
  ac_nf0
  rw [ziS (d:= .dct) rfl]
  simp only [zdP]
  ac_nf0
  rfl
 ·exact zmW g
theorem ziH {sd:Sd} {m:Int} {os:List D} (ho: ∀ o∈os,gd o) (hi:iSq (zag 2) sd=pure os) (hm:zao [none,some 1] sd=[none,some (.int m)]) (hl:os.length<=12):
  zba (iSq (zag 2)) (zbC 0) (fun _=>pure true) zdn [none,some 1] sd=pure (.lst (os.map fun o=>D.bl (zb0 m o))):=by
 refine zhO hi (by omega) fun x hx=> ?_
 rw [hm]
 simp only [zbw,zdL,List.set,pure_bind,if_true,zdn,za5,zaC,zaT,zaF,zaX,zbJ,znT (ho x hx)]
theorem zbz {d:D} (k0:kn d=true) (g: ∀ x y,d= .tup [x,y]->kn x=true/\kn y=true/\ ∀ os,y= .tup os-> ∀ o∈os,gd o):F_11 [d]=pure (.bl (zct d)):=by
 rw [d_11]
 simp only [G_11,zaz,zeg,zeL,zeF,za5,zaC,zaT,zaF,zaX,pure_bind,bind_assoc,zdZ,ziS k0,zbH]
 by_cases hp:zdP d=true
 ·obtain ⟨x,y,rfl⟩:=zom hp
  obtain ⟨kx,ky,go⟩:=g x y rfl
  simp only [hp,Bool.not_true,qax,if_false,zcR,pure_bind,zgW,zaz,zb5,zdE,zaF,zaX,zfL,zqv,zn7,zpB,ziT,bind_assoc,List.set,zeg,zkK,zeL,zeF,za5,zaC,zaT,zdZ,zdy kx,zbH,zei,zhK,zhQ ky]
  cases x with
  | int m=>
   simp only [isI,Bool.not_true,qax,if_false,zry,ztt,pure_bind,zbH]
   by_cases h1:m<1
   ·have: ¬1<=m:=by omega
    cases y<;>simp [h1,zct,this]
   ·by_cases h2:10<m
    ·have: ¬m<=10:=by omega
     cases y<;>simp [h1,h2,zct,this]
    ·have h1':1<=m:=by omega
     have h2':m<=10:=by omega
     simp only [h1,h2,decide_false,qax,if_false,pure_bind,zgW]
     cases y with
     | tup os=>
      simp only [zaz,zeg,zkK,zeL,zeF,zhK,zei,za5,zaC,zaT,zaX,zaF,zfL,bind_assoc,zhQ ky,isT,zbH,pure_bind,Bool.not_true,qax,if_false,zkx,ztt]
      by_cases h3:12<(os.length:Int)
      ·have: ¬(os.length:Int)<=12:=by omega
       simp [h3,zct,this]
      ·have h3':os.length<=12:=by omega
       simp only [h3,decide_false,qax,if_false,pure_bind,zgW,zcR,zbQ,za5,zaC,zaT,bind_assoc]
       rw [ziH (m:=m) (go os rfl) (by simp) rfl h3']
       simp only [pure_bind]
       have e:(os.map fun o=>D.bl (zb0 m o))=(os.map (zb0 m)).map D.bl:=by simp
       rw [e,zlF]
       have h3i:(os.length:Int)<=12:=by omega
       simp [zct,h1',h2',h3i]
     | _=>simp [zhQ ky,isT,zct]
  | _=>simp [isI,zct]
 ·have hp':zdP d=false:=Bool.eq_false_iff.mpr hp
  simp [hp',zeD hp']
variable {ts:List Int} {ss:List Sp4} {k tn sn:Nat} {h:Hh}
theorem zrb:dNe (zrf m os ts ss) (zrf m os ts ss)=pure (.bl false):=by
 have:=zq1 ts (zda (zc1 ss)) (lkp os ts (zc1 ss).reverse (zda (zc1 ss))) [] ((shs m ss).map fun x=>[x,1]) (pr os (zda (zc1 ss)))
 rw [qaT] at this
 exact this
theorem zoS (s:Stk m os): ∀ o∈os.map zb2,gd o:=fun d hd=>by
 obtain ⟨o,ho,rfl⟩:=qaU.mp hd
 have:=s.olen o ho
 refine .inr (zmh.mpr ⟨by simp,fun x hx=> ?_⟩)
 simp only [qaP,qaF,or_false] at hx
 rcases hx with rfl | rfl
 ·exact zmh.mpr ⟨by rw [qaH];omega,fun y hy=>by obtain ⟨i,_,rfl⟩:=qaU.mp hy;rfl⟩
 ·rfl
theorem zuq (s:Stk m os):(os.map zb2).all (zb0 m)=true:=by
 rw [List.all_eq_true]
 intro d hd
 obtain ⟨o,ho,rfl⟩:=qaU.mp hd
 have hl:0<o.1.length:=List.length_pos_iff.mpr (s.ne o ho)
 show (zch m 0 (o.1.map D.int) && decide (0<((o.1.map D.int).length:Int)) && decide (0<o.2))=true
 rw [zcQ.mpr ⟨s.up o ho,s.bd o ho⟩,qaH,decide_eq_true (s.pos o ho),decide_eq_true (by omega)]
 rfl
theorem zs3 (s:Stk m os):F_11 [zc4 m os]=pure (.bl true):=by
 rw [zbz rfl fun x y e=>by cases e;exact ⟨rfl,rfl,fun os' e=>by cases e;exact zoS s⟩]
 have ol:=s.len
 have m0:=s.m0
 have m1:=s.m1
 show pure (D.bl (decide (1<=m) && decide (m<=10) && decide (((os.map zb2).length:Int)<=12) && (os.map zb2).all (zb0 m)))=_
 rw [zuq s,qaH,decide_eq_true m0,decide_eq_true m1,decide_eq_true (by omega)]
 rfl
theorem zmz {P:D->Hh->Prop} (s:Stk m os) (q: ∀ h',Gro h h'->h'.length=h.length+3->Kq m os [] [] h.length (h.length+1) (h.length+2) h'->P (.cel h.length) h'):wp (ziC "Keeper" (zak 2 F_Keeper___init__) [zc4 m os]) h P:=by
 have eo:=zs3 s
 unfold Kq at q
 generalize zc4 m os=st at eo q
 ac_nf0
 refine zlB ?_
 ac_nf0
 rw [d_Keeper___init__]
 simp only [zas]
 ac_nf0
 rw [eo]
 ac_nf0
 refine ziD (fs:=[]) (by simp) (by decide) ?_
 rw [zm6]
 ac_nf0
 refine ziD (fs:=[("stock",st)]) (by simp;rfl) (by show 1<1000;decide) ?_
 ac_nf0
 refine ziD (fs:=[("stock",st),("things",.cel (h.length+1))]) (by simp;rfl) (by show 2<1000;decide) ?_
 ac_nf0
 simp only [zts]
 ac_nf0
 have this:P (.cel h.length) (h++[.ins "Keeper" (zil st (h.length+1) (h.length+2)),.lst [],.lst []]):=q _ ⟨_,rfl⟩ (by simp) ⟨by simp,by simp,by simp,by omega⟩
 rw [zvy,zvg,show (h++[C.ins "Keeper" (zeT "things" (.cel (h.length+1)) [("stock",st)]),C.lst []]).length=h.length+2 by simp]
 exact this
noncomputable def zmI:List D:=[.non,.bl true,.bl false,.int (-1),.int 0,.int 1,.int 2,.str "",.str "0",.tup [],.tup [.int 0],.tup [.int 0,.int 1],.tup [.int 1,.int 0],.tup [.int 0,.int 0],.tup [.bl true],.lst [.int 0],.dct,.tup [.tup [.int 0]],
  .tup [.non],.int 1000000000000000000000000000000000000000,.tup [.int 12],.tup [.int (-1)],.tup [.int 0,.str "1"],.lst [.int 0,.int 1],.tup [.int 0,.int 1,.int 2]]
theorem zot {h:Hh} {b:Nat} {P:D->Hh->Prop} (q:Bx b h) (k: ∀ d h',d∈zmI->Ext b h h'->P d h'):wp (F_29 [.cel b]) h P:=by
 rw [d_29]
 have f0:=zax (show 0<=1000 by decide)
 have f1:=zax (show 0+1<=1000 by decide)
 have f2:=zax (show 0+1+1<=1000 by decide)
 have f3:=zax (show 0+1+1+1<=1000 by decide)
 have f18:=zax (show 0+1+1+1+1+1+1+1+1+1+1+1+1+1+1+1+1+1+1<=1000 by decide)
 have f7:=zax (show 0+1+1+1+1+1+1+1<=1000 by decide)
 have f25:=zax (show 0+1+1+1+1+1+1+1+1+1+1+1+1+1+1+1+1+1+1+(0+1+1+1+1+1+1+1)<=1000 by decide)
 have e:G_29 [some (.cel b),none]=(do let t<-F_25 [.cel b,.int (zmI.length:Int)];let d<-dIx (.lst zmI) t;pure (.rt d)):=by
  simp only [G_29,zaz,zb5,zhZ,zhV,zaC,zaT,zfL,zhK,zsF,zdE,zrp,zoG,pure_bind,bind_assoc,qaE,qaJ,f0,f1,f2,f3,f18,f7,f25,zgW,List.set,zbQ,zaX,zaF,za5,zoN,zbJ,List.cons_append,List.nil_append]
  rfl
 rw [e]
 simp only [bind_assoc,zai]
 refine zbU q (by decide) (by decide) fun t h2 t0 t1 x2=> ?_
 obtain ⟨d,ed,hd⟩:=ziK t0 t1
 simp only [zpp,ed,ziT,zan,zgG]
 exact k _ _ hd x2
theorem zlk: ∀ d∈zmI,gd d:=by
 intro d hd
 unfold zmI at hd
 simp only [qaP,qaF,or_false] at hd
 rcases hd with rfl | rfl | rfl | rfl | rfl | rfl | rfl | rfl | rfl | rfl | rfl | rfl | rfl | rfl | rfl | rfl | rfl | rfl | rfl | rfl | rfl | rfl | rfl | rfl | rfl<;>first
  | exact .inl rfl
  | exact .inr (by decide)
  | exact .inr (by decide +kernel)
theorem zqK {m:Int}: ∀ d∈zmI,zb0 m d=false:=by
 intro d hd
 unfold zmI at hd
 simp only [qaP,qaF,or_false] at hd
 rcases hd with rfl | rfl | rfl | rfl | rfl | rfl | rfl | rfl | rfl | rfl | rfl | rfl | rfl | rfl | rfl | rfl | rfl | rfl | rfl | rfl | rfl | rfl | rfl | rfl | rfl<;>rfl
noncomputable def zjX (m:Int):List D:=[.tup [.tup [.int 0],.int 0],.tup [.tup [.int 0],.bl true],.tup [.tup [],.int 1],.tup [.tup [.int m],.int 1],.tup [.tup [.int 0,.int 0],.int 1],.tup [.lst [.int 0],.int 1],.tup [.tup [.int 0],.str "1"],.tup [.tup [.int 0]],.tup [.tup [.bl true],.int 1],.non]
theorem zpF {m:Int}: ∀ d∈zjX m,gd d/\zb0 m d=false:=by
 intro d hd
 unfold zjX at hd
 simp only [qaP,qaF,or_false] at hd
 rcases hd with rfl | rfl | rfl | rfl | rfl | rfl | rfl | rfl | rfl | rfl
 all_goals refine ⟨?_,?_⟩
 all_goals first
  | exact .inr rfl
  | exact .inr (by decide +kernel)
  | rfl
  | (simp [zb0,zch])
variable {ts:List Int} {ss:List Sp4} {k b:Nat} {h:Hh}
noncomputable def zmd (m:Int) (os:List (List Int×Int)) (row odd:D):List D:=[.tup [.int 0,.tup []],.tup [.int 11,.tup []],.tup [.bl true,.tup []],.tup [.int m,.lst (os.map zb2)],.lst [.int m,.tup (os.map zb2)],.tup [.int m],
  .tup [.int m,.tup (List.replicate 13 (.tup [.tup [.int 0],.int 1]))],.tup [.int m,.tup (L3.zgc (os.map zb2) none (some 11)++[row])],.tup [.int m,.tup (row::L3.zgc (os.map zb2) none (some 11))],.non,.tup [.int m,.tup (os.map zb2),.int 0],.tup [.str "1",.tup (os.map zb2)],.tup [.int m,.tup [odd]],.tup [odd,odd]]
theorem zgY {d:D} (k0:kn d=true) (h:zdP d=false):F_11 [d]=pure (.bl false):=by
 rw [zbz k0 fun x y e=>by rw [e] at h;simp [zdP] at h,zeD h]
theorem znZ (s:Stk m os) {row odd:D} (hr:row∈zjX m) (ho:odd∈zmI): ∀ d∈zmd m os row odd,F_11 [d]=pure (.bl false):=by
 obtain ⟨gr,pr0⟩:=zpF row hr
 have go:=zlk odd ho
 have og:=zoS s
 intro d hd
 unfold zmd at hd
 simp only [qaP,qaF,or_false] at hd
 have sub: ∀ o∈L3.zgc (os.map zb2) none (some 11),gd o:=fun o hz=>og o (zpU hz)
 rcases hd with rfl | rfl | rfl | rfl | rfl | rfl | rfl | rfl | rfl | rfl | rfl | rfl | rfl | rfl
 ·rw [zbz rfl fun x y e=>by cases e;exact ⟨rfl,rfl,fun os e=>by cases e;simp⟩];rfl
 ·rw [zbz rfl fun x y e=>by cases e;exact ⟨rfl,rfl,fun os e=>by cases e;simp⟩];rfl
 ·rw [zbz rfl fun x y e=>by cases e;exact ⟨rfl,rfl,fun os e=>by cases e;simp⟩];rfl
 ·rw [zbz rfl fun x y e=>by cases e;exact ⟨rfl,rfl,fun os e=>by cases e⟩];rfl
 ·exact zgY rfl rfl
 ·exact zgY rfl rfl
 ·rw [zbz rfl fun x y e=>by cases e;exact ⟨rfl,rfl,fun os e=>by cases e;intro o hz;rw [List.eq_of_mem_replicate hz];exact .inr (by decide)⟩]
  simp [zct]
 ·rw [zbz rfl fun x y e=>by cases e;exact ⟨rfl,rfl,fun os e=>by cases e;intro o hz;rcases qaK.mp hz with z | z;exact sub o z;rw [List.mem_singleton.mp z];exact gr⟩]
  simp [zct,pr0]
 ·rw [zbz rfl fun x y e=>by cases e;exact ⟨rfl,rfl,fun os e=>by cases e;intro o hz;rcases qaP.mp hz with z | z;rw [z];exact gr;exact sub o z⟩]
  simp [zct,pr0]
 ·exact zgY rfl rfl
 ·exact zgY rfl rfl
 ·rw [zbz rfl fun x y e=>by cases e;exact ⟨rfl,rfl,fun os e=>by cases e;exact og⟩];rfl
 ·rw [zbz rfl fun x y e=>by cases e;exact ⟨rfl,rfl,fun os e=>by cases e;intro o hz;rw [List.mem_singleton.mp hz];exact go⟩]
  simp [zct,zqK odd ho]
 ·rw [zbz rfl fun x y e=>by cases e;exact ⟨zqr go,zqr go,fun os e=>by
    subst e
    intro o hz
    rcases go with z | z
    · cases z
    · exact .inr ((zmh.mp z).2 o hz)⟩]
  unfold zmI at ho
  simp only [qaP,qaF,or_false] at ho
  rcases ho with rfl | rfl | rfl | rfl | rfl | rfl | rfl | rfl | rfl | rfl | rfl | rfl | rfl | rfl | rfl | rfl | rfl | rfl | rfl | rfl | rfl | rfl | rfl | rfl | rfl<;>rfl
theorem ziy (s:Stk m os) {P:D->Hh->Prop} (q:Bx b h) (k: ∀ d h',F_11 [d]=pure (.bl false)->Ext b h h'->P d h'):wp (F_34 [.cel b,zc4 m os]) h P:=by
 have ol:=s.len
 have cl:=zpH (os.map zb2) none (some 11)
 rw [qaH] at cl
 rw [d_34]
 simp only [G_34]
 unfold zc4
 have so:=fun (row odd:D) (hr:row∈zjX m) (ho:odd∈zmI)=>znZ s hr ho
 unfold zmd at so
 generalize os.map zb2=offs at cl so ⊢
 ac_nf0
 refine zot q fun odd h1 ho x1=> ?_
 ac_nf0
 refine zbU x1.1 (by decide) (by decide) fun t h2 t0 t1 x2=> ?_
 ac_nf0
 obtain ⟨row,er,hr⟩:=ziK (xs:=zjX m) t0 t1
 unfold zjX at er
 rw [er]
 ac_nf0
 rw [ztI]
 ac_nf0
 rw [zax (by omega)]
 ac_nf0
 refine zbU x2.1 (by decide) (by decide) fun u h3 u0 u1 x3=> ?_
 ac_nf0
 obtain ⟨d,ed,hd⟩:=ziK (t:=u) (xs:=[.tup [.int 0,.tup []],.tup [.int 11,.tup []],.tup [.bl true,.tup []],.tup [.int m,.lst offs],.lst [.int m,.tup offs],.tup [.int m],
 .tup [.int m,.tup (List.replicate 13 (.tup [.tup [.int 0],.int 1]))],.tup [.int m,.tup (L3.zgc offs none (some 11)++[row])],.tup [.int m,.tup (row::L3.zgc offs none (some 11))],.non,.tup [.int m,.tup offs,.int 0],.tup [.str "1",.tup offs],.tup [.int m,.tup [odd]],.tup [odd,odd]]) u0 u1
 rw [show List.replicate 13 (D.tup [.tup [.int 0],.int 1])=[.tup [.tup [.int 0],.int 1],.tup [.tup [.int 0],.int 1],.tup [.tup [.int 0],.int 1],.tup [.tup [.int 0],.int 1],.tup [.tup [.int 0],.int 1],.tup [.tup [.int 0],.int 1],.tup [.tup [.int 0],.int 1],.tup [.tup [.int 0],.int 1],.tup [.tup [.int 0],.int 1],.tup [.tup [.int 0],.int 1],.tup [.tup [.int 0],.int 1],.tup [.tup [.int 0],.int 1],.tup [.tup [.int 0],.int 1]] from rfl] at ed
 rw [ed]
 ac_nf0
 exact k d h3 (so row odd hr ho d hd) ((x1.trans x2).trans x3)
theorem zpT (s:Stk m os) {tn sn:Nat} (K:Kq m os ts ss k tn sn h) {t:Int} (t0:0<=t) (t1:t<m) (hf:wI os t=[]):F_Keeper_come [.cel k,.int t] h= .exc "NotFull" h:=by
 rw [d_Keeper_come]
 simp only [zaG]
 ac_nf0
 rw [zg9 K.1 zbb,zd4 s t0 t1]
 ac_nf0
 rw [zg9 K.1 zbb,zlJ s,hf]
 ac_nf0
 rw [zuW]
 ac_nf0
 rfl
theorem zl8 {d:D} (k:kn d=true):F_28 [d]=pure (.bl (isI d)):=by
 rw [d_28]
 simp only [G_28,zbQ,zhX,zhK,zaF,pure_bind,bind_assoc,zmv k,zpc k,zbH,zkA]
 cases d<;>simp [isI]
variable {ts:List Int} {ss:List Sp4} {k b tn sn:Nat} {h:Hh}
theorem ztP:F_31 [.exn "NoStock"]=pure (.str "stock"):=by funext h;rfl
theorem zuj:F_31 [.exn "NoRow"]=pure (.str "row"):=by funext h;rfl
theorem zua:F_31 [.exn "NoThing"]=pure (.str "thing"):=by funext h;rfl
theorem zuu:F_31 [.exn "NotFull"]=pure (.str "full"):=by funext h;rfl
theorem zpA {x d:D} (hs:F_11 [d]=pure (.bl false)):F_Keeper___init__ [x,d] h= .exc "NoStock" h:=by
 rw [d_Keeper___init__]
 simp only [zas]
 ac_nf0
 rw [hs]
 ac_nf0
 rfl
theorem zqO {d:D} (hs:F_11 [d]=pure (.bl false)) {P:D->Hh->Prop} (q: ∀ h',Gro h h'->P (.str "stock") h'):wp (F_32 [d]) h P:=by
 rw [d_32]
 simp only [G_32]
 rw [zai]
 refine zgv (d:= .str "told") rfl ?_
 rw [zaz,zai]
 refine zgB (c:="NoStock") (h1:=h++[.ins "Keeper" []]) (d:= .str "stock") ?_ rfl ztP ?_
 ·rw [zfI]
  refine zeV ?_
  rw [show List.set [some d,none,none] 1 (some (D.str "told"))=[some d,some (.str "told"),none] from rfl]
  simp only [za5,zaC,zaT,zaF,pure_bind,bind_assoc,zoz]
  rw [zq6,zbJ]
  exact zeV (zpA hs)
 ·show wp (zb1 (zag 1) [none,some (.str "stock"),none]) _ _
  ac_nf0
  exact q _ ⟨_,rfl⟩
theorem zqk (K:Kq m os [] [] k tn sn h):F_Keeper_undo [.cel k] h= .exc "NoRow" h:=by
 rw [d_Keeper_undo]
 simp only [zaL]
 ac_nf0
 rw [zg9 K.1 za8,zqT K.2.1]
 ac_nf0
 rfl
theorem znJ (K:Kq m os [] [] k tn sn h) {P:D->Hh->Prop} (q:P (.str "row") h):wp (F_33 [.cel k,.str "undo",.non]) h P:=by
 rw [d_33]
 simp only [G_33]
 rw [zai]
 refine zgv (d:= .str "told") rfl ?_
 rw [zaz,zai]
 refine zgB (c:="NoRow") (h1:=h) (d:= .str "row") ?_ rfl zuj ?_
 ·rw [show List.set [some (D.cel k),some (.str "undo"),some .non,none,none] 3 (some (.str "told"))=[some (.cel k),some (.str "undo"),some .non,some (.str "told"),none] from rfl]
  ac_nf0
  rw [zvK]
  ac_nf0
  rw [zmD K.1 zkP]
  exact zeV (zqk K)
 ·show wp (zb1 (zag 3) [none,none,none,some (.str "row"),none]) h _
  ac_nf0
  exact q
theorem zgA (s:Stk m os) {d:D} (kd:kn d=true) (hd: ∀ t,d= .int t-> ¬(0<=t/\t<m)):F_16 [zc4 m os,d]=zgs "NoThing":=by
 rw [d_16]
 simp only [G_16]
 ac_nf0
 rw [zdy kd]
 ac_nf0
 cases d with
 | int t=>
  have:=hd t rfl
  rw [zrt]
  simp only [isI]
  ac_nf0
  simp only [zry,ztA]
  ac_nf0
  by_cases c:t<0
  ·rw [decide_eq_true c]
   ac_nf0
  ·rw [decide_eq_false c,decide_eq_true (show m<=t by omega)]
   ac_nf0
 | _=>
  simp only [isI]
  ac_nf0
theorem zqF (s:Stk m os) (K:Kq m os ts ss k tn sn h) {d:D} (kd:kn d=true) (hd: ∀ t,d= .int t-> ¬(0<=t/\t<m)):F_Keeper_come [.cel k,d] h= .exc "NoThing" h:=by
 rw [d_Keeper_come]
 simp only [zaG]
 ac_nf0
 rw [zg9 K.1 zbb,zgA s kd hd]
 ac_nf0
 rfl
theorem zje {c:String} {d w:D} (K:Kq m os ts ss k tn sn h) (hn:zdf.contains c=true) (ek:F_31 [.exn c]=pure w) (e:F_Keeper_come [.cel k,d] h= .exc c h) {P:D->Hh->Prop} (q:P w h):wp (F_33 [.cel k,.str "come",d]) h P:=by
 rw [d_33]
 simp only [G_33]
 rw [zai]
 refine zgv (d:= .str "told") rfl ?_
 rw [zaz,zai]
 refine zgB (c:=c) (h1:=h) (d:=w) ?_ hn ek ?_
 ·rw [show List.set [some (D.cel k),some (.str "come"),some d,none,none] 3 (some (.str "told"))=[some (.cel k),some (.str "come"),some d,some (.str "told"),none] from rfl]
  ac_nf0
  rw [zvs]
  ac_nf0
  rw [zmD K.1 zl9]
  exact zeV e
 ·show wp (zb1 (zag 3) [none,none,none,some w,none]) h _
  ac_nf0
  exact q
variable {ts:List Int} {ss:List Sp4} {k b:Nat} {h:Hh}
noncomputable def inB (m:Int):D->Bool
 | .int t=>decide (0<=t) && decide (t<m)
 | _=>false
theorem zlI (s:Stk m os) (v:Iv m os ts ss) (tl:ts.length<=300) {s0 s1 s2:Option D}: ∀ (ds:List D) {h:Hh} {x6:Option D} {P:Out->Hh->Prop},(∀ d∈ds,gd d)->Kq m os ts ss k (k+1) (k+2) h->
  (∀ y6 h',Gro h h'->P (.nx [s0,s1,s2,some (zc4 m os),some (.cel k),some (zrf m os ts ss),y6]) h')->
  wp (zbv (fun x sd=>do let sd1<-zbC 6 x sd;zgZ sd1) ds [s0,s1,s2,some (zc4 m os),some (.cel k),some (zrf m os ts ss),x6]) h P
 | [],h,x6,P,_,K,q=>by rw [zea,zan];exact q x6 h .refl
 | d::r,h,x6,P,hg,K,q=>by
  have gd0:=hg d qau
  have kd:=zqr gd0
  have ih:=fun (h1:Hh) (x6:Option D) (g1:Gro h h1)=>zlI s v tl (s0:=s0) (s1:=s1) (s2:=s2) r (h:=h1) (x6:=x6) (P:=P) (fun y hy=>hg y (qan _ hy)) (K.gro g1) fun y6 h' g=>q y6 h' (g1.trans g)
  rw [zde]
  generalize zbv (fun x sd=>do let sd1<-zbC 6 x sd;zgZ sd1) r=rest at ih ⊢
  have tw:=fun (P:D->Hh->Prop)=>zlg (P:=P) s K v (by omega)
  have nt:=zrb (m:=m) (os:=os) (ts:=ts) (ss:=ss)
  generalize zrf m os ts ss=td at tw nt ih ⊢
  have body:(∀ t,d= .int t-> ¬(0<=t/\t<m))->wp (sIf (tOr (zd0 dNe (zaI (zak 3 F_33) (zab (zag 4) (zab (cK (.str "come")) (zab (zag 6) zal)))) (cK (.str "thing"))) (zd0 dNe (zaI (zak 1 F_30) (zab (zag 4) zal)) (zag 5))) (zb1 (cK (.bl false))) zeu [s0,s1,s2,some (zc4 m os),some (.cel k),some td,some d]) h fun o h'=>wp (match o with | .nx sd'=>rest sd' | .ct sd'=>rest sd' | .bk sd'=>pure (.nx sd') | .rt d=>pure (.rt d)) h' P:=by
   intro hd
   ac_nf0
   refine zje K rfl zua (zqF s K kd hd) ?_
   rw [zqw]
   ac_nf0
   refine tw _ fun h1 g1=> ?_
   rw [nt]
   ac_nf0
   exact ih h1 _ g1
  unfold zgZ
  rw [zai,zdL,pure_bind,show List.set [s0,s1,s2,some (zc4 m os),some (.cel k),some td,x6] 6 (some d)=[s0,s1,s2,some (zc4 m os),some (.cel k),some td,some d] from rfl,zeg,zai]
  have test: ∀ {Q:Bool->Hh->Prop},Q (!inB m d) h->wp (tOr (zgO (zih (zaI (zak 1 F_28) (zab (zag 6) zal)))) (zgO (zih (zfE dLe dLt (cK (.int 0)) (zag 6) (cOp dIx (zag 3) (cK (.int 0)))))) [s0,s1,s2,some (zc4 m os),some (.cel k),some td,some d]) h Q:=by
   intro Q q
   ac_nf0
   rw [zl8 kd]
   ac_nf0
   cases d with
   | int t=>
    simp only [isI,inB] at q ⊢
    ac_nf0
    rw [zmP (z:=t) (n:=m) rfl rfl rfl]
    ac_nf0
    exact q
   | _=>
    simp only [isI,inB] at q ⊢
    ac_nf0
    exact q
  refine test ?_
  cases hc:(!inB m d) with
  | true=>
   rw [qa4 rfl]
   refine body fun t e=> ?_
   subst e
   simp only [inB,Bool.not_eq_true',Bool.and_eq_false_iff,decide_eq_false_iff_not] at hc
   omega
  | false=>
   rw [qa5 (by simp),zcR,zan]
   exact ih h _ .refl
theorem zrz {k:Nat} {h:Hh} {sd:Sd} {Q:Bool->Hh->Prop} (e4:zag 4 sd=pure (.cel k)) (K:Kq m os [] [] k (k+1) (k+2) h) (q:Q false h):wp (zd0 dNe (zaI (zak 3 F_33) (zab (zag 4) (zab (cK (.str "undo")) (zab (cK .non) zal)))) (cK (.str "row")) sd) h Q:=by
 rw [zei]
 ac_nf0
 rw [e4]
 ac_nf0
 refine znJ K ?_
 rw [zuH]
 ac_nf0
 exact q
theorem znW {ns:List Int} (hb: ∀ i∈ns,Builtin.Int.intBits i<=2^20) {i:Int} (i0:0<=i) (i6:i<6) {h:Hh} {x2 x3 x4 x5 x6:Option D} {P:Out->Hh->Prop}
  (q: ∀ y2 y3 y4 y5 y6 h',P (.nx [some (.scr (ns.map D.int)),some (.int i),y2,y3,y4,y5,y6]) h'):wp (zfy [some (.scr (ns.map D.int)),some (.int i),x2,x3,x4,x5,x6]) h P:=by
 unfold zfy
 refine zd5 ?_
 rw [show zaI (zak 2 F_24) (zab (zag 0) (zab (zag 1) zal)) [some (.scr (ns.map D.int)),some (.int i),x2,x3,x4,x5,x6]=F_24 [.scr (ns.map D.int),.int i] from rfl]
 refine zs1 hb i0 i6 fun z=> ?_
 have qb:Bx h.length (h++[.lst [.int z]]):=⟨z,by simp⟩
 generalize h.length=b at qb ⊢
 generalize h++[.lst [.int z]]=h1 at qb ⊢
 refine zd5 ?_
 refine zqH (mt:=9) (mo:=12) qb (by decide) (by decide) (by decide) (by decide) fun m os h2 q2 s hl ol mm=> ?_
 have m0:=s.m0
 have m1:=s.m1
 have hf: ∀ t,0<=t->t<m->wI os t≠[]:=fun t t0 t1 z=>by
  obtain ⟨o,ho,ht⟩:=zop hl t0 t1
  obtain ⟨j,hj,ej⟩:=List.getElem_of_mem ho
  have:(j:Int)∈wI os t:=zl7.mpr ⟨by omega,by omega,by
    rw [qaB,List.getD,qaf hj,ej]
    exact ht⟩
  rw [z] at this
  cases this
 refine zjJ ?_
 have t1: ∀ {x4 x5 x6:Option D} {Q:Bool->Hh->Prop},(∀ h',Bx b h'->Q false h')->wp (zd0 dNe (zaI (zak 1 F_32) (zab (zaI (zak 2 F_34) (zab (zag 2) (zab (zag 3) zal))) zal)) (cK (.str "stock")) [some (.scr (ns.map D.int)),some (.int i),some (.cel b),some (zc4 m os),x4,x5,x6]) h2 Q:=by
  intro x4 x5 x6 Q q
  ac_nf0
  refine ziy s q2 fun d h3 hs x3=> ?_
  refine zqO hs fun h4 g4=> ?_
  rw [zqV]
  ac_nf0
  exact q h4 (Gro.ext x3.1 g4).1
 refine t1 fun h3 q3=>⟨rfl,?_⟩
 have bl3:b<h3.length:=by
  obtain ⟨z,e⟩:=q3
  exact (qac.mp e).1
 refine zd5 ?_
 refine zmz s fun h4 g4 l4 K4=> ?_
 have q4:Bx b h4:=(Gro.ext q3 g4).1
 generalize h3.length=k at bl3 K4 ⊢
 refine zjJ (zrz rfl K4 ⟨rfl,?_⟩)
 refine zjg ?_
 have tc: ∀ {x5 x6:Option D} {Q:D->Hh->Prop},(∀ t h',0<=t->t<m->Bx b h'->Kq m os [t] (zc8 os [] [] t) k (k+1) (k+2) h'->Q .non h')->wp (zbT "Keeper" "come" (zak 2 F_Keeper_come) (zag 4) (zab (zaI (zak 2 F_25) (zab (zag 2) (zab (cOp dIx (zag 3) (cK (.int 0))) zal))) zal) [some (.scr (ns.map D.int)),some (.int i),some (.cel b),some (zc4 m os),some (.cel k),x5,x6]) h4 Q:=by
  intro x5 x6 Q q
  ac_nf0
  refine zbi K4.1 zl9 ?_
  ac_nf0
  rw [zrt]
  ac_nf0
  refine zbU q4 (by omega) (by omega) fun t h5 t0 t1 x5=> ?_
  ac_nf0
  have K5:Kq m os [] [] k (k+1) (k+2) h5:=⟨x5.2 _ _ (by omega) K4.1,x5.2 _ _ (by omega) K4.2.1,x5.2 _ _ (by omega) K4.2.2.1,K4.2.2.2⟩
  refine zpO s K5 .nil (by simp) t0 t1 (hf t t0 t1) fun h6 K7 f6=> ?_
  obtain ⟨z,ez⟩:=x5.1
  exact q t h6 t0 t1 ⟨z,f6 _ _ (by omega) (by omega) ez⟩ K7
 refine tc fun t h5 t0 t1 q5 K5=> ?_
 have v:Iv m os [t] (zc8 os [] [] t):=Iv.come (ts:=[]) (ss:=[]) s .nil t0 t1 (hf t t0 t1)
 refine zd5 ?_
 refine zlg s K5 v (by simp) fun h6 g6=> ?_
 have K6:=K5.gro g6
 have q6:Bx b h6:=(Gro.ext q5 g6).1
 refine zng ?_
 have ei: ∀ {td:D} {x6:Option D} {Q:List D->Hh->Prop},(∀ d h',gd d->Ext b h6 h'->Q [.int m,.int (-1),.bl true,.non,.str "0",.tup [.int 0],d] h')->wp (iSq (zfH (zab (cOp dIx (zag 3) (cK (.int 0))) (zab (cUn zov (cK (.int 1))) (zab (cK (.bl true)) (zab (cK .non) (zab (cK (.str "0")) (zab (zbg (zab (cK (.int 0)) zal)) (zab (zaI (zak 1 F_29) (zab (zag 2) zal)) zal)))))))) [some (.scr (ns.map D.int)),some (.int i),some (.cel b),some (zc4 m os),some (.cel k),some td,x6]) h6 Q:=by
  intro td x6 Q q
  ac_nf0
  rw [zrt]
  ac_nf0
  refine zot q6 fun d h7 hd x7=> ?_
  ac_nf0
  exact q d h7 (zlk d hd) x7
 refine ei fun d h7 hd x7=> ?_
 have K7:Kq m os [t] (zc8 os [] [] t) k (k+1) (k+2) h7:=⟨x7.2 _ _ (by omega) K6.1,x7.2 _ _ (by omega) K6.2.1,x7.2 _ _ (by omega) K6.2.2.1,K6.2.2.2⟩
 refine zlI s v (by simp) _ (fun y hy=> ?_) K7 fun y6 h8 g8=> ?_
 ·simp only [qaP,qaF,or_false] at hy
  rcases hy with rfl | rfl | rfl | rfl | rfl | rfl | rfl
  ·exact .inr rfl
  ·exact .inr rfl
  ·exact .inr rfl
  ·exact .inr rfl
  ·exact .inr (by decide +kernel)
  ·exact .inr (by decide)
  ·exact hd
 have K8:=K7.gro g8
 refine zjg ?_
 have tu: ∀ {td:D} {x6:Option D} {Q:D->Hh->Prop},(∀ h',Kq m os [] [] k (k+1) (k+2) h'->Q .non h')->wp (zbT "Keeper" "undo" (zak 1 F_Keeper_undo) (zag 4) zal [some (.scr (ns.map D.int)),some (.int i),some (.cel b),some (zc4 m os),some (.cel k),some td,x6]) h8 Q:=by
  intro td x6 Q q
  ac_nf0
  refine zbi K8.1 zkP ?_
  ac_nf0
  exact zp2 (ts:=[]) (ss:=[]) s .nil K8 fun h9 K9 f9=>q h9 K9
 refine tu fun h9 K9=> ?_
 rw [zeg,zai]
 refine zrz rfl K9 ?_
 rw [qa5 (by simp),zcR,zan]
 exact q _ _ _ _ _ _
theorem zjb {ns:List Int} (hb: ∀ i∈ns,Builtin.Int.intBits i<=2^20): ∀ (ds:List D) {h:Hh} {x1 x2 x3 x4 x5 x6:Option D} {P:Out->Hh->Prop},(∀ d∈ds, ∃ i:Int,d= .int i/\0<=i/\i<6)->(∀ y1 y2 y3 y4 y5 y6 h',P (.nx [some (.scr (ns.map D.int)),y1,y2,y3,y4,y5,y6]) h')->
  wp (zbv (fun x sd=>do let sd1<-zbC 1 x sd;zfy sd1) ds [some (.scr (ns.map D.int)),x1,x2,x3,x4,x5,x6]) h P
 | [],h,x1,x2,x3,x4,x5,x6,P,_,k=>by
  rw [zea,zan]
  exact k _ _ _ _ _ _ _
 | d::r,h,x1,x2,x3,x4,x5,x6,P,hd,k=>by
  obtain ⟨i,rfl,i0,i1⟩:=hd _ qau
  have ih:=fun (h:Hh) (x1 x2 x3 x4 x5 x6:Option D)=>zjb hb r (h:=h) (x1:=x1) (x2:=x2) (x3:=x3) (x4:=x4) (x5:=x5) (x6:=x6) (P:=P) (fun y hy=>hd y (qan _ hy)) k
  rw [zde]
  generalize zbv (fun x sd=>do let sd1<-zbC 1 x sd;zfy sd1) r=rest at ih ⊢
  rw [zai,zdL,pure_bind]
  exact znW hb i0 i1 fun y2 y3 y4 y5 y6 h'=>ih _ _ _ _ _ _ _
theorem zu2:Stk 2 [([0],1)]:=⟨by decide,by decide,by simp,by simp,by simp,by simp,by simp⟩
theorem zpE {sd:Sd} {h:Hh}:wp (zb1 (cOp dEq (zaI (zak 3 F_33) (zab (zaI (ziC "Keeper" (zak 2 F_Keeper___init__)) (zab (zbg (zab (cK (.int 2)) (zab (zbg (zab (zbg (zab (zbg (zab (cK (.int 0)) zal)) (zab (cK (.int 1)) zal))) zal)) zal))) zal)) (zab (cK (.str "come")) (zab (cK (.int 1)) zal)))) (cK (.str "full"))) sd) h fun o h'=>wp (zcC o) h' fun d _=>d= .bl true:=by
 simp only [zbQ,zdE,za5,zaC,zaT,zhV,zfL,pure_bind,bind_assoc,zai,qaE,qaJ,Nat.zero_add,Nat.reduceAdd,Nat.reduceLeDiff,zax,zk1,zan]
 rw [show D.tup [.int 2,.tup [.tup [.tup [.int 0],.int 1]]]=zc4 2 [([0],1)] from rfl]
 refine zmz zu2 fun h1 g1 l1 K1=> ?_
 refine zje K1 rfl zuu (zpT zu2 K1 (by decide) (by decide) rfl) ?_
 rw [zvL]
 ac_nf0
theorem zmQ: ∀ ns:List Int,ns.length<=63->(∀ i∈ns,Builtin.Int.intBits i<=2^20)-> ∃ h',F_35 [.scr (ns.map D.int)] []= .ok (.bl true) h':=by
 intro ns _ hb
 have key:wp (F_35 [.scr (ns.map D.int)]) [] fun d _=>d= .bl true:=by
  rw [d_35,zai]
  unfold G_35
  generalize hn:(if (if (6:Int)<(ns.length:Int) then (6:Int) else (ns.length:Int))>1 then (if (6:Int)<(ns.length:Int) then (6:Int) else (ns.length:Int)) else (1:Int))=n
  have n0:0<=n/\n<=6:=by
   rw [<- hn]
   split<;>split<;>omega
  refine zqo (ds:=zf4 0 n.toNat) ?_ ?_
  ·ac_nf0
   simp only [zoy,qaH]
   ac_nf0
   simp only [zuF]
   ac_nf0
   rw [hn]
   exact zen n0.1 (by omega)
  refine zjb hb _ (fun d hd=> ?_) fun y1 y2 y3 y4 y5 y6 h'=> ?_
  ·obtain ⟨i,e,i0,i1⟩:=zkI hd
   exact ⟨i,e,i0,by omega⟩
  exact zpE
 obtain ⟨d,h',e,rfl⟩:=key
 exact ⟨h',e⟩
end K92
namespace K92
open PySem PySem.Spec PyProof.Rows L2 L3
theorem zr6 {l:W.OpenLaw} {w:World} {K:W.Frag} {h:Heap} {mg:Str->Option Value} {fa a_0 a_1 a_2 a_3 a_4 a_5 a_6 a_7 a_21 a_22 a_23 a_24 a_25 a_26 a_27 a_31 a_9 a_8 a_10 a_12 a_11 a_Keeper___init__ a_32 a_29 a_34 a_16 a_20 a_19 a_13 a_17 a_18 a_14 a_Keeper_in_order a_Keeper_taken a_Keeper_shares a_Keeper_room a_Keeper_come a_Keeper_undo a_33 a_Keeper_came a_Keeper_bears a_15 a_Keeper_paid a_Keeper_is_enough a_Keeper_least_kept a_30 a_28 a_35:Addr} (X:K.In h) (G:h.Ns mainGlobals mg) (hfa:mg "law"=some (.ref fa))
  {od_35 an_35:Option Addr} {sl_35:Array (Option Value)} {oc_35 kV_35 dc_35 pm_35 cd_35 ct_35:Value}
  {d_22 d_23 d_24 d_25 d_26 d_27 d_31 d_9 d_8 d_10 d_12 d_11 d_Keeper___init__ d_32 d_29 d_34 d_16 d_20 d_19 d_13 d_17 d_18 d_14 d_Keeper_in_order d_Keeper_taken d_Keeper_shares d_Keeper_room d_Keeper_come d_Keeper_undo d_33 d_Keeper_came d_Keeper_bears d_15 d_Keeper_paid d_Keeper_is_enough d_Keeper_least_kept d_30 d_28:FuncData}
  {tk_MOST_OFFERS tk_MOST_THINGS:Tok}
  (e_21:W.nsIn K mainGlobals "Keeper"=some (some (.ref a_21))) (pg_21:W.plainGet K a_21 Str.empty=true) (hd_21:W.hasDictIn K a_21=true) (po_21:W.plainOver K a_21=true) (sa_21:W.findIn K (.ref a_21) "__setattr__"=some (some (.builtin "object.__setattr__"))) (mk_21:W.makesIn K a_21=true) (kc_21:W.keepIn K (.ref a_21)=true)
  (nf_stock:W.findIn K (.ref a_21) "stock"=some none)
  (nf_things:W.findIn K (.ref a_21) "things"=some none)
  (nf_steps:W.findIn K (.ref a_21) "steps"=some none)
  (f_22:Fd K "_law_cell" s_22 a_22 d_22)
  (f_23:Fd K "_law_mix" s_23 a_23 d_23)
  (f_24:Fd K "_law_box" s_24 a_24 d_24)
  (f_25:Fd K "_law_take" s_25 a_25 d_25)
  (f_26:Fd K "_law_stock" s_26 a_26 d_26)
  (f_27:Fd K "_law_full" s_27 a_27 d_27)
  (f_31:Fd K "_law_kind" s_31 a_31 d_31)
  (f_9:Fd K "is_pair" s_9 a_9 d_9)
  (f_8:Fd K "is_whole" s_8 a_8 d_8)
  (f_10:Fd K "is_rising" s_10 a_10 d_10)
  (f_12:Fd K "is_offer" s_12 a_12 d_12)
  (f_11:Fd K "is_stock" s_11 a_11 d_11)
  (f_Keeper___init__:Fm K a_21 "__init__" "Keeper.__init__" zbt a_Keeper___init__ d_Keeper___init__)
  (f_32:Fd K "_law_made" s_32 a_32 d_32)
  (f_29:Fd K "_law_odd" s_29 a_29 d_29)
  (f_34:Fd K "_law_no_stock" s_34 a_34 d_34)
  (f_16:Fd K "need_thing" s_16 a_16 d_16)
  (f_20:Fd K "offers_with" s_20 a_20 d_20)
  (f_19:Fd K "things_together" s_19 a_19 d_19)
  (f_13:Fd K "is_lot" s_13 a_13 d_13)
  (f_17:Fd K "need_lot" s_17 a_17 d_17)
  (f_18:Fd K "offers_of" s_18 a_18 d_18)
  (f_14:Fd K "things_of" s_14 a_14 d_14)
  (f_Keeper_in_order:Fm K a_21 "in_order" "Keeper.in_order" za0 a_Keeper_in_order d_Keeper_in_order)
  (f_Keeper_taken:Fm K a_21 "taken" "Keeper.taken" zbV a_Keeper_taken d_Keeper_taken)
  (f_Keeper_shares:Fm K a_21 "shares" "Keeper.shares" za1 a_Keeper_shares d_Keeper_shares)
  (f_Keeper_room:Fm K a_21 "room" "Keeper.room" zbK a_Keeper_room d_Keeper_room)
  (f_Keeper_come:Fm K a_21 "come" "Keeper.come" zbG a_Keeper_come d_Keeper_come)
  (f_Keeper_undo:Fm K a_21 "undo" "Keeper.undo" zb7 a_Keeper_undo d_Keeper_undo)
  (f_33:Fd K "_law_said" s_33 a_33 d_33)
  (f_Keeper_came:Fm K a_21 "came" "Keeper.came" zcb a_Keeper_came d_Keeper_came)
  (f_Keeper_bears:Fm K a_21 "bears" "Keeper.bears" zby a_Keeper_bears d_Keeper_bears)
  (f_15:Fd K "price_of" s_15 a_15 d_15)
  (f_Keeper_paid:Fm K a_21 "paid" "Keeper.paid" zb8 a_Keeper_paid d_Keeper_paid)
  (f_Keeper_is_enough:Fm K a_21 "is_enough" "Keeper.is_enough" zaV a_Keeper_is_enough d_Keeper_is_enough)
  (f_Keeper_least_kept:Fm K a_21 "least_kept" "Keeper.least_kept" zaP a_Keeper_least_kept d_Keeper_least_kept)
  (f_30:Fd K "_law_told" s_30 a_30 d_30)
  (f_28:Fd K "_law_whole" s_28 a_28 d_28)
  (e_35:W.nsIn K mainGlobals "law"=some (some (.ref a_35))) (l_35:K.lookup a_35=some ⟨oc_35,od_35,.func (W.fnOf "law" "law" (zeq s_35) (zcw s_35) (zae s_35) .none kV_35 dc_35 pm_35 an_35 cd_35 ct_35),sl_35⟩) (c_35:W.codeIn K cd_35 "law"=true) (k_35:W.keepIn K (.ref a_35)=true)
  (e_0:W.nsIn K mainGlobals "CoverError"=some (some (.ref a_0)))
  (e_1:W.nsIn K mainGlobals "NoStock"=some (some (.ref a_1)))
  (e_2:W.nsIn K mainGlobals "NoOffer"=some (some (.ref a_2)))
  (e_3:W.nsIn K mainGlobals "NoThing"=some (some (.ref a_3)))
  (e_4:W.nsIn K mainGlobals "NoCover"=some (some (.ref a_4)))
  (e_5:W.nsIn K mainGlobals "NoNumber"=some (some (.ref a_5)))
  (e_6:W.nsIn K mainGlobals "NotFull"=some (some (.ref a_6)))
  (e_7:W.nsIn K mainGlobals "NoRow"=some (some (.ref a_7)))
  (z_all:W.nsIn K mainGlobals "all"=some none)
  (z_bool:W.nsIn K mainGlobals "bool"=some none)
  (z_dict:W.nsIn K mainGlobals "dict"=some none)
  (z_divmod:W.nsIn K mainGlobals "divmod"=some none)
  (z_enumerate:W.nsIn K mainGlobals "enumerate"=some none)
  (z_int:W.nsIn K mainGlobals "int"=some none)
  (z_isinstance:W.nsIn K mainGlobals "isinstance"=some none)
  (z_len:W.nsIn K mainGlobals "len"=some none)
  (z_list:W.nsIn K mainGlobals "list"=some none)
  (z_max:W.nsIn K mainGlobals "max"=some none)
  (z_min:W.nsIn K mainGlobals "min"=some none)
  (z_range:W.nsIn K mainGlobals "range"=some none)
  (z_set:W.nsIn K mainGlobals "set"=some none)
  (z_sorted:W.nsIn K mainGlobals "sorted"=some none)
  (z_sum:W.nsIn K mainGlobals "sum"=some none)
  (z_tuple:W.nsIn K mainGlobals "tuple"=some none)
  (y_MOST_OFFERS:W.nsIn K mainGlobals "MOST_OFFERS"=some (some (.int 12 tk_MOST_OFFERS)))
  (y_MOST_THINGS:W.nsIn K mainGlobals "MOST_THINGS"=some (some (.int 10 tk_MOST_THINGS)))
  (x_tab:zlu K a_0 [("NoStock",a_1),("NoOffer",a_2),("NoThing",a_3),("NoCover",a_4),("NoNumber",a_5),("NotFull",a_6),("NoRow",a_7)]=true)
  : ∃ fd:FuncData,(∀ (s:Shared) (v:Value),BindsTo s fd ⟨[v],[]⟩ [("script",v)])/\ ∀ base:Heap,K.In base->base.Ns mainGlobals mg->zbh l.prog w K mg base CX0 10 fa fd ["script"] (zbO K 1 F_35):=by
 have e:=hfa.symm.trans (W.mg_of X G e_35)
 cases e
 have F_35:=zaA (st:=s_35) l_35 c_35 k_35
 have b_35:=F_35.binds (ps:=["script"]) fun _ _ _ _ _ _ us hl=>match us,hl with | [_],_=>rfl
 have T:Tx K mg ⟨a_0,a_1,a_2,a_3,a_4,a_5,a_6,a_7,a_21,a_22,_,a_23,_,a_24,_,a_25,_,a_26,_,a_27,_,a_31,_,a_9,_,a_8,_,a_10,_,a_12,_,a_11,_,a_Keeper___init__,_,a_32,_,a_29,_,a_34,_,a_16,_,a_20,_,a_19,_,a_13,_,a_17,_,a_18,_,a_14,_,a_Keeper_in_order,_,a_Keeper_taken,_,a_Keeper_shares,_,a_Keeper_room,_,a_Keeper_come,_,a_Keeper_undo,_,a_33,_,a_Keeper_came,_,a_Keeper_bears,_,a_15,_,a_Keeper_paid,_,a_Keeper_is_enough,_,a_Keeper_least_kept,_,a_30,_,a_28,_,fa,_⟩:=
  {g_0:=W.mg_of X G e_0,
    g_1:=W.mg_of X G e_1,
    g_2:=W.mg_of X G e_2,
    g_3:=W.mg_of X G e_3,
    g_4:=W.mg_of X G e_4,
    g_5:=W.mg_of X G e_5,
    g_6:=W.mg_of X G e_6,
    g_7:=W.mg_of X G e_7,
    k_1:=e_1,
    k_2:=e_2,
    k_3:=e_3,
    k_4:=e_4,
    k_5:=e_5,
    k_6:=e_6,
    k_7:=e_7,
    x_exc:=zn0.of x_tab,
    n_all:=W.mg_none_of X G z_all,
    n_bool:=W.mg_none_of X G z_bool,
    n_dict:=W.mg_none_of X G z_dict,
    n_divmod:=W.mg_none_of X G z_divmod,
    n_enumerate:=W.mg_none_of X G z_enumerate,
    n_int:=W.mg_none_of X G z_int,
    n_isinstance:=W.mg_none_of X G z_isinstance,
    n_len:=W.mg_none_of X G z_len,
    n_list:=W.mg_none_of X G z_list,
    n_max:=W.mg_none_of X G z_max,
    n_min:=W.mg_none_of X G z_min,
    n_range:=W.mg_none_of X G z_range,
    n_set:=W.mg_none_of X G z_set,
    n_sorted:=W.mg_none_of X G z_sorted,
    n_sum:=W.mg_none_of X G z_sum,
    n_tuple:=W.mg_none_of X G z_tuple,
    c_MOST_OFFERS:=⟨tk_MOST_OFFERS,W.mg_of X G y_MOST_OFFERS⟩,
    c_MOST_THINGS:=⟨tk_MOST_THINGS,W.mg_of X G y_MOST_THINGS⟩,
    g_21:=W.mg_of X G e_21,
    I_21:=⟨e_21,⟨pg_21,hd_21,po_21,sa_21⟩,fun f hf=>by rcases qaP.mp hf with rfl | hf;exact nf_stock;rcases qaP.mp hf with rfl | hf;exact nf_things;rcases qaP.mp hf with rfl | hf;exact nf_steps;cases hf⟩,
    Y_21:=⟨mk_21,f_Keeper___init__.at_,f_Keeper___init__.fn,kc_21⟩,
    m_22:=W.mg_of X G f_22.e,
    F_22:=f_22.F,
    b_22:=f_22.F.binds (ps:=["script","k"]) fun _ _ _ _ _ _ us hl=>match us,hl with | [_,_],_=>rfl,
    m_23:=W.mg_of X G f_23.e,
    F_23:=f_23.F,
    b_23:=f_23.F.binds (ps:=["cell","k"]) fun _ _ _ _ _ _ us hl=>match us,hl with | [_,_],_=>rfl,
    m_24:=W.mg_of X G f_24.e,
    F_24:=f_24.F,
    b_24:=f_24.F.binds (ps:=["script","k"]) fun _ _ _ _ _ _ us hl=>match us,hl with | [_,_],_=>rfl,
    m_25:=W.mg_of X G f_25.e,
    F_25:=f_25.F,
    b_25:=f_25.F.binds (ps:=["box","many"]) fun _ _ _ _ _ _ us hl=>match us,hl with | [_,_],_=>rfl,
    m_26:=W.mg_of X G f_26.e,
    F_26:=f_26.F,
    b_26:=f_26.F.binds (ps:=["box","most_things","most_offers"]) fun _ _ _ _ _ _ us hl=>match us,hl with | [_,_,_],_=>rfl,
    m_27:=W.mg_of X G f_27.e,
    F_27:=f_27.F,
    b_27:=f_27.F.binds (ps:=["box","most_things","most_offers"]) fun _ _ _ _ _ _ us hl=>match us,hl with | [_,_,_],_=>rfl,
    m_31:=W.mg_of X G f_31.e,
    F_31:=f_31.F,
    b_31:=f_31.F.binds (ps:=["e"]) fun _ _ _ _ _ _ us hl=>match us,hl with | [_],_=>rfl,
    m_9:=W.mg_of X G f_9.e,
    F_9:=f_9.F,
    b_9:=f_9.F.binds (ps:=["thing"]) fun _ _ _ _ _ _ us hl=>match us,hl with | [_],_=>rfl,
    m_8:=W.mg_of X G f_8.e,
    F_8:=f_8.F,
    b_8:=f_8.F.binds (ps:=["thing"]) fun _ _ _ _ _ _ us hl=>match us,hl with | [_],_=>rfl,
    m_10:=W.mg_of X G f_10.e,
    F_10:=f_10.F,
    b_10:=f_10.F.binds (ps:=["thing","bound"]) fun _ _ _ _ _ _ us hl=>match us,hl with | [_,_],_=>rfl,
    m_12:=W.mg_of X G f_12.e,
    F_12:=f_12.F,
    b_12:=f_12.F.binds (ps:=["thing","many"]) fun _ _ _ _ _ _ us hl=>match us,hl with | [_,_],_=>rfl,
    m_11:=W.mg_of X G f_11.e,
    F_11:=f_11.F,
    b_11:=f_11.F.binds (ps:=["thing"]) fun _ _ _ _ _ _ us hl=>match us,hl with | [_],_=>rfl,
    M_Keeper___init__:=⟨f_Keeper___init__.at_,f_Keeper___init__.fn,f_Keeper___init__.F.kp⟩,
    F_Keeper___init__:=f_Keeper___init__.F,
    b_Keeper___init__:=f_Keeper___init__.F.binds (ps:=["self","stock"]) fun _ _ _ _ _ _ us hl=>match us,hl with | [_,_],_=>rfl,
    m_32:=W.mg_of X G f_32.e,
    F_32:=f_32.F,
    b_32:=f_32.F.binds (ps:=["thing"]) fun _ _ _ _ _ _ us hl=>match us,hl with | [_],_=>rfl,
    m_29:=W.mg_of X G f_29.e,
    F_29:=f_29.F,
    b_29:=f_29.F.binds (ps:=["box"]) fun _ _ _ _ _ _ us hl=>match us,hl with | [_],_=>rfl,
    m_34:=W.mg_of X G f_34.e,
    F_34:=f_34.F,
    b_34:=f_34.F.binds (ps:=["box","stock"]) fun _ _ _ _ _ _ us hl=>match us,hl with | [_,_],_=>rfl,
    m_16:=W.mg_of X G f_16.e,
    F_16:=f_16.F,
    b_16:=f_16.F.binds (ps:=["stock","thing"]) fun _ _ _ _ _ _ us hl=>match us,hl with | [_,_],_=>rfl,
    m_20:=W.mg_of X G f_20.e,
    F_20:=f_20.F,
    b_20:=f_20.F.binds (ps:=["stock","thing"]) fun _ _ _ _ _ _ us hl=>match us,hl with | [_,_],_=>rfl,
    m_19:=W.mg_of X G f_19.e,
    F_19:=f_19.F,
    b_19:=f_19.F.binds (ps:=["offers"]) fun _ _ _ _ _ _ us hl=>match us,hl with | [_],_=>rfl,
    m_13:=W.mg_of X G f_13.e,
    F_13:=f_13.F,
    b_13:=f_13.F.binds (ps:=["stock","thing"]) fun _ _ _ _ _ _ us hl=>match us,hl with | [_,_],_=>rfl,
    m_17:=W.mg_of X G f_17.e,
    F_17:=f_17.F,
    b_17:=f_17.F.binds (ps:=["stock","lot"]) fun _ _ _ _ _ _ us hl=>match us,hl with | [_,_],_=>rfl,
    m_18:=W.mg_of X G f_18.e,
    F_18:=f_18.F,
    b_18:=f_18.F.binds (ps:=["stock","lot"]) fun _ _ _ _ _ _ us hl=>match us,hl with | [_,_],_=>rfl,
    m_14:=W.mg_of X G f_14.e,
    F_14:=f_14.F,
    b_14:=f_14.F.binds (ps:=["stock","lot"]) fun _ _ _ _ _ _ us hl=>match us,hl with | [_,_],_=>rfl,
    M_Keeper_in_order:=⟨f_Keeper_in_order.at_,f_Keeper_in_order.fn,f_Keeper_in_order.F.kp⟩,
    F_Keeper_in_order:=f_Keeper_in_order.F,
    b_Keeper_in_order:=f_Keeper_in_order.F.binds (ps:=["self"]) fun _ _ _ _ _ _ us hl=>match us,hl with | [_],_=>rfl,
    M_Keeper_taken:=⟨f_Keeper_taken.at_,f_Keeper_taken.fn,f_Keeper_taken.F.kp⟩,
    F_Keeper_taken:=f_Keeper_taken.F,
    b_Keeper_taken:=f_Keeper_taken.F.binds (ps:=["self"]) fun _ _ _ _ _ _ us hl=>match us,hl with | [_],_=>rfl,
    M_Keeper_shares:=⟨f_Keeper_shares.at_,f_Keeper_shares.fn,f_Keeper_shares.F.kp⟩,
    F_Keeper_shares:=f_Keeper_shares.F,
    b_Keeper_shares:=f_Keeper_shares.F.binds (ps:=["self"]) fun _ _ _ _ _ _ us hl=>match us,hl with | [_],_=>rfl,
    M_Keeper_room:=⟨f_Keeper_room.at_,f_Keeper_room.fn,f_Keeper_room.F.kp⟩,
    F_Keeper_room:=f_Keeper_room.F,
    b_Keeper_room:=f_Keeper_room.F.binds (ps:=["self","number"]) fun _ _ _ _ _ _ us hl=>match us,hl with | [_,_],_=>rfl,
    M_Keeper_come:=⟨f_Keeper_come.at_,f_Keeper_come.fn,f_Keeper_come.F.kp⟩,
    F_Keeper_come:=f_Keeper_come.F,
    b_Keeper_come:=f_Keeper_come.F.binds (ps:=["self","thing"]) fun _ _ _ _ _ _ us hl=>match us,hl with | [_,_],_=>rfl,
    M_Keeper_undo:=⟨f_Keeper_undo.at_,f_Keeper_undo.fn,f_Keeper_undo.F.kp⟩,
    F_Keeper_undo:=f_Keeper_undo.F,
    b_Keeper_undo:=f_Keeper_undo.F.binds (ps:=["self"]) fun _ _ _ _ _ _ us hl=>match us,hl with | [_],_=>rfl,
    m_33:=W.mg_of X G f_33.e,
    F_33:=f_33.F,
    b_33:=f_33.F.binds (ps:=["keeper","deed","thing"]) fun _ _ _ _ _ _ us hl=>match us,hl with | [_,_,_],_=>rfl,
    M_Keeper_came:=⟨f_Keeper_came.at_,f_Keeper_came.fn,f_Keeper_came.F.kp⟩,
    F_Keeper_came:=f_Keeper_came.F,
    b_Keeper_came:=f_Keeper_came.F.binds (ps:=["self"]) fun _ _ _ _ _ _ us hl=>match us,hl with | [_],_=>rfl,
    M_Keeper_bears:=⟨f_Keeper_bears.at_,f_Keeper_bears.fn,f_Keeper_bears.F.kp⟩,
    F_Keeper_bears:=f_Keeper_bears.F,
    b_Keeper_bears:=f_Keeper_bears.F.binds (ps:=["self"]) fun _ _ _ _ _ _ us hl=>match us,hl with | [_],_=>rfl,
    m_15:=W.mg_of X G f_15.e,
    F_15:=f_15.F,
    b_15:=f_15.F.binds (ps:=["stock","lot"]) fun _ _ _ _ _ _ us hl=>match us,hl with | [_,_],_=>rfl,
    M_Keeper_paid:=⟨f_Keeper_paid.at_,f_Keeper_paid.fn,f_Keeper_paid.F.kp⟩,
    F_Keeper_paid:=f_Keeper_paid.F,
    b_Keeper_paid:=f_Keeper_paid.F.binds (ps:=["self"]) fun _ _ _ _ _ _ us hl=>match us,hl with | [_],_=>rfl,
    M_Keeper_is_enough:=⟨f_Keeper_is_enough.at_,f_Keeper_is_enough.fn,f_Keeper_is_enough.F.kp⟩,
    F_Keeper_is_enough:=f_Keeper_is_enough.F,
    b_Keeper_is_enough:=f_Keeper_is_enough.F.binds (ps:=["self","lot"]) fun _ _ _ _ _ _ us hl=>match us,hl with | [_,_],_=>rfl,
    M_Keeper_least_kept:=⟨f_Keeper_least_kept.at_,f_Keeper_least_kept.fn,f_Keeper_least_kept.F.kp⟩,
    F_Keeper_least_kept:=f_Keeper_least_kept.F,
    b_Keeper_least_kept:=f_Keeper_least_kept.F.binds (ps:=["self"]) fun _ _ _ _ _ _ us hl=>match us,hl with | [_],_=>rfl,
    m_30:=W.mg_of X G f_30.e,
    F_30:=f_30.F,
    b_30:=f_30.F.binds (ps:=["keeper"]) fun _ _ _ _ _ _ us hl=>match us,hl with | [_],_=>rfl,
    m_28:=W.mg_of X G f_28.e,
    F_28:=f_28.F,
    b_28:=f_28.F.binds (ps:=["found"]) fun _ _ _ _ _ _ us hl=>match us,hl with | [_],_=>rfl,
    m_35:=W.mg_of X G e_35,
    F_35:=F_35,
    b_35:=b_35}
 exact ⟨W.fnOf "law" "law" (zeq s_35) (zcw s_35) (zae s_35) .none kV_35 dc_35 pm_35 an_35 cd_35 ct_35,fun s v=> .of_eq rfl,fun base _ _=>ok_35 T⟩
theorem zvB {l:W.OpenLaw} {q:Program} {loose:List Str} {XP:(Str->Option Value)->Heap->Prop} {YP:World->Heap->Prop} {d:DefRec} {K:Params->W.Frag} (hn:l.most=some 63) (hdf:d.params.defaults=[])
  (hY: ∀ (w:World) (h:Heap),YP w h->(K w.params).In h)
  (F: ∀ (w:World) (mg:Str->Option Value) (fa:Addr) (h:Heap),(K w.params).In h->h.Ns mainGlobals mg->mg d.name=some (.ref fa)->
    ∃ fd:FuncData,(∀ (s:Shared) (u:Value),BindsTo s fd ⟨[u],[]⟩ [("script",u)])/\ ∀ base:Heap,(K w.params).In base->base.Ns mainGlobals mg->zbh l.prog w (K w.params) mg base CX0 10 fa fd ["script"] (zbO (K w.params) 1 F_35))
  (hm: ∀ ns:List Int,ns.length<=63->(∀ i∈ns,Builtin.Int.intBits i<=2^20)-> ∃ h',F_35 [.scr (ns.map D.int)] []= .ok (.bl true) h'):
  W.WalkO q loose XP YP l.row.toRowW d [] (fun f vs=>PySem.call f vs):=
 L2.zm4 (n:=63) (k:=10) (x:="script") (CX:=fun _=>CX0) (sp:=fun w=>zbO (K w.params) 1 F_35) hn (by decide) hdf ⟨rfl,by decide,by decide⟩ hY F (fun w H a ns hl hw hS=>zuB hS (hm ns hl hw)) fun _ _ _ _ _ z=>z
end K92
open PySem PySem.W PyProof.Rows
set_option maxRecDepth 100000 in
set_option maxHeartbeats 0 in
theorem PySem.Challenge.cw_cheapcovers_k92_keepers_refused_holds : PySem.Challenge.rw_cheapcovers_k92_keepers_refused.Holds := by
 w_on; o_law; k_head; (case hw => w_witness2)
 k_fill
 refine K92.zvB (l := PySem.Challenge.rw_cheapcovers_k92_keepers_refused) rfl rfl (fun w h Y => W.kIn_of Y) ?F K92.zmQ
 case F =>
  intro w mg fa h KX G hmg
  refine' K92.zr6 KX G hmg ?e_Keeper ?pg_Keeper ?hd_Keeper ?po_Keeper ?sa_Keeper ?mk_Keeper ?kc_Keeper ?nf_stock ?nf_things ?nf_steps (L3.Fd.mk ?e__law_cell (L2.zaA ?l__law_cell ?c__law_cell ?k__law_cell)) (L3.Fd.mk ?e__law_mix (L2.zaA ?l__law_mix ?c__law_mix ?k__law_mix)) (L3.Fd.mk ?e__law_box (L2.zaA ?l__law_box ?c__law_box ?k__law_box)) (L3.Fd.mk ?e__law_take (L2.zaA ?l__law_take ?c__law_take ?k__law_take)) (L3.Fd.mk ?e__law_stock (L2.zaA ?l__law_stock ?c__law_stock ?k__law_stock)) (L3.Fd.mk ?e__law_full (L2.zaA ?l__law_full ?c__law_full ?k__law_full)) (L3.Fd.mk ?e__law_kind (L2.zaA ?l__law_kind ?c__law_kind ?k__law_kind)) (L3.Fd.mk ?e_is_pair (L2.zaA ?l_is_pair ?c_is_pair ?k_is_pair)) (L3.Fd.mk ?e_is_whole (L2.zaA ?l_is_whole ?c_is_whole ?k_is_whole)) (L3.Fd.mk ?e_is_rising (L2.zaA ?l_is_rising ?c_is_rising ?k_is_rising)) (L3.Fd.mk ?e_is_offer (L2.zaA ?l_is_offer ?c_is_offer ?k_is_offer)) (L3.Fd.mk ?e_is_stock (L2.zaA ?l_is_stock ?c_is_stock ?k_is_stock)) (L3.Fm.mk ?e_Keeper___init__ ?i_Keeper___init__ (L2.zaA ?l_Keeper___init__ ?c_Keeper___init__ ?k_Keeper___init__)) (L3.Fd.mk ?e__law_made (L2.zaA ?l__law_made ?c__law_made ?k__law_made)) (L3.Fd.mk ?e__law_odd (L2.zaA ?l__law_odd ?c__law_odd ?k__law_odd)) (L3.Fd.mk ?e__law_no_stock (L2.zaA ?l__law_no_stock ?c__law_no_stock ?k__law_no_stock)) (L3.Fd.mk ?e_need_thing (L2.zaA ?l_need_thing ?c_need_thing ?k_need_thing)) (L3.Fd.mk ?e_offers_with (L2.zaA ?l_offers_with ?c_offers_with ?k_offers_with)) (L3.Fd.mk ?e_things_together (L2.zaA ?l_things_together ?c_things_together ?k_things_together)) (L3.Fd.mk ?e_is_lot (L2.zaA ?l_is_lot ?c_is_lot ?k_is_lot)) (L3.Fd.mk ?e_need_lot (L2.zaA ?l_need_lot ?c_need_lot ?k_need_lot)) (L3.Fd.mk ?e_offers_of (L2.zaA ?l_offers_of ?c_offers_of ?k_offers_of)) (L3.Fd.mk ?e_things_of (L2.zaA ?l_things_of ?c_things_of ?k_things_of)) (L3.Fm.mk ?e_Keeper_in_order ?i_Keeper_in_order (L2.zaA ?l_Keeper_in_order ?c_Keeper_in_order ?k_Keeper_in_order)) (L3.Fm.mk ?e_Keeper_taken ?i_Keeper_taken (L2.zaA ?l_Keeper_taken ?c_Keeper_taken ?k_Keeper_taken)) (L3.Fm.mk ?e_Keeper_shares ?i_Keeper_shares (L2.zaA ?l_Keeper_shares ?c_Keeper_shares ?k_Keeper_shares)) (L3.Fm.mk ?e_Keeper_room ?i_Keeper_room (L2.zaA ?l_Keeper_room ?c_Keeper_room ?k_Keeper_room)) (L3.Fm.mk ?e_Keeper_come ?i_Keeper_come (L2.zaA ?l_Keeper_come ?c_Keeper_come ?k_Keeper_come)) (L3.Fm.mk ?e_Keeper_undo ?i_Keeper_undo (L2.zaA ?l_Keeper_undo ?c_Keeper_undo ?k_Keeper_undo)) (L3.Fd.mk ?e__law_said (L2.zaA ?l__law_said ?c__law_said ?k__law_said)) (L3.Fm.mk ?e_Keeper_came ?i_Keeper_came (L2.zaA ?l_Keeper_came ?c_Keeper_came ?k_Keeper_came)) (L3.Fm.mk ?e_Keeper_bears ?i_Keeper_bears (L2.zaA ?l_Keeper_bears ?c_Keeper_bears ?k_Keeper_bears)) (L3.Fd.mk ?e_price_of (L2.zaA ?l_price_of ?c_price_of ?k_price_of)) (L3.Fm.mk ?e_Keeper_paid ?i_Keeper_paid (L2.zaA ?l_Keeper_paid ?c_Keeper_paid ?k_Keeper_paid)) (L3.Fm.mk ?e_Keeper_is_enough ?i_Keeper_is_enough (L2.zaA ?l_Keeper_is_enough ?c_Keeper_is_enough ?k_Keeper_is_enough)) (L3.Fm.mk ?e_Keeper_least_kept ?i_Keeper_least_kept (L2.zaA ?l_Keeper_least_kept ?c_Keeper_least_kept ?k_Keeper_least_kept)) (L3.Fd.mk ?e__law_told (L2.zaA ?l__law_told ?c__law_told ?k__law_told)) (L3.Fd.mk ?e__law_whole (L2.zaA ?l__law_whole ?c__law_whole ?k__law_whole)) ?e_law ?l_law ?c_law ?k_law ?e_CoverError ?e_NoStock ?e_NoOffer ?e_NoThing ?e_NoCover ?e_NoNumber ?e_NotFull ?e_NoRow ?z_all ?z_bool ?z_dict ?z_divmod ?z_enumerate ?z_int ?z_isinstance ?z_len ?z_list ?z_max ?z_min ?z_range ?z_set ?z_sorted ?z_sum ?z_tuple ?y_MOST_OFFERS ?y_MOST_THINGS ?x_tab
  (case e_Keeper => k_is)
  (case pg_Keeper => k_is)
  (case hd_Keeper => k_is)
  (case po_Keeper => k_is)
  (case sa_Keeper => k_is)
  (case mk_Keeper => k_is)
  (case kc_Keeper => k_is)
  (case nf_stock => k_is)
  (case nf_things => k_is)
  (case nf_steps => k_is)
  (case e__law_cell => k_is)
  (case l__law_cell => k_is)
  (case c__law_cell => k_is)
  (case k__law_cell => k_is)
  (case e__law_mix => k_is)
  (case l__law_mix => k_is)
  (case c__law_mix => k_is)
  (case k__law_mix => k_is)
  (case e__law_box => k_is)
  (case l__law_box => k_is)
  (case c__law_box => k_is)
  (case k__law_box => k_is)
  (case e__law_take => k_is)
  (case l__law_take => k_is)
  (case c__law_take => k_is)
  (case k__law_take => k_is)
  (case e__law_stock => k_is)
  (case l__law_stock => k_is)
  (case c__law_stock => k_is)
  (case k__law_stock => k_is)
  (case e__law_full => k_is)
  (case l__law_full => k_is)
  (case c__law_full => k_is)
  (case k__law_full => k_is)
  (case e__law_kind => k_is)
  (case l__law_kind => k_is)
  (case c__law_kind => k_is)
  (case k__law_kind => k_is)
  (case e_is_pair => k_is)
  (case l_is_pair => k_is)
  (case c_is_pair => k_is)
  (case k_is_pair => k_is)
  (case e_is_whole => k_is)
  (case l_is_whole => k_is)
  (case c_is_whole => k_is)
  (case k_is_whole => k_is)
  (case e_is_rising => k_is)
  (case l_is_rising => k_is)
  (case c_is_rising => k_is)
  (case k_is_rising => k_is)
  (case e_is_offer => k_is)
  (case l_is_offer => k_is)
  (case c_is_offer => k_is)
  (case k_is_offer => k_is)
  (case e_is_stock => k_is)
  (case l_is_stock => k_is)
  (case c_is_stock => k_is)
  (case k_is_stock => k_is)
  (case e_Keeper___init__ => k_is)
  (case i_Keeper___init__ => k_is)
  (case l_Keeper___init__ => k_is)
  (case c_Keeper___init__ => k_is)
  (case k_Keeper___init__ => k_is)
  (case e__law_made => k_is)
  (case l__law_made => k_is)
  (case c__law_made => k_is)
  (case k__law_made => k_is)
  (case e__law_odd => k_is)
  (case l__law_odd => k_is)
  (case c__law_odd => k_is)
  (case k__law_odd => k_is)
  (case e__law_no_stock => k_is)
  (case l__law_no_stock => k_is)
  (case c__law_no_stock => k_is)
  (case k__law_no_stock => k_is)
  (case e_need_thing => k_is)
  (case l_need_thing => k_is)
  (case c_need_thing => k_is)
  (case k_need_thing => k_is)
  (case e_offers_with => k_is)
  (case l_offers_with => k_is)
  (case c_offers_with => k_is)
  (case k_offers_with => k_is)
  (case e_things_together => k_is)
  (case l_things_together => k_is)
  (case c_things_together => k_is)
  (case k_things_together => k_is)
  (case e_is_lot => k_is)
  (case l_is_lot => k_is)
  (case c_is_lot => k_is)
  (case k_is_lot => k_is)
  (case e_need_lot => k_is)
  (case l_need_lot => k_is)
  (case c_need_lot => k_is)
  (case k_need_lot => k_is)
  (case e_offers_of => k_is)
  (case l_offers_of => k_is)
  (case c_offers_of => k_is)
  (case k_offers_of => k_is)
  (case e_things_of => k_is)
  (case l_things_of => k_is)
  (case c_things_of => k_is)
  (case k_things_of => k_is)
  (case e_Keeper_in_order => k_is)
  (case i_Keeper_in_order => k_is)
  (case l_Keeper_in_order => k_is)
  (case c_Keeper_in_order => k_is)
  (case k_Keeper_in_order => k_is)
  (case e_Keeper_taken => k_is)
  (case i_Keeper_taken => k_is)
  (case l_Keeper_taken => k_is)
  (case c_Keeper_taken => k_is)
  (case k_Keeper_taken => k_is)
  (case e_Keeper_shares => k_is)
  (case i_Keeper_shares => k_is)
  (case l_Keeper_shares => k_is)
  (case c_Keeper_shares => k_is)
  (case k_Keeper_shares => k_is)
  (case e_Keeper_room => k_is)
  (case i_Keeper_room => k_is)
  (case l_Keeper_room => k_is)
  (case c_Keeper_room => k_is)
  (case k_Keeper_room => k_is)
  (case e_Keeper_come => k_is)
  (case i_Keeper_come => k_is)
  (case l_Keeper_come => k_is)
  (case c_Keeper_come => k_is)
  (case k_Keeper_come => k_is)
  (case e_Keeper_undo => k_is)
  (case i_Keeper_undo => k_is)
  (case l_Keeper_undo => k_is)
  (case c_Keeper_undo => k_is)
  (case k_Keeper_undo => k_is)
  (case e__law_said => k_is)
  (case l__law_said => k_is)
  (case c__law_said => k_is)
  (case k__law_said => k_is)
  (case e_Keeper_came => k_is)
  (case i_Keeper_came => k_is)
  (case l_Keeper_came => k_is)
  (case c_Keeper_came => k_is)
  (case k_Keeper_came => k_is)
  (case e_Keeper_bears => k_is)
  (case i_Keeper_bears => k_is)
  (case l_Keeper_bears => k_is)
  (case c_Keeper_bears => k_is)
  (case k_Keeper_bears => k_is)
  (case e_price_of => k_is)
  (case l_price_of => k_is)
  (case c_price_of => k_is)
  (case k_price_of => k_is)
  (case e_Keeper_paid => k_is)
  (case i_Keeper_paid => k_is)
  (case l_Keeper_paid => k_is)
  (case c_Keeper_paid => k_is)
  (case k_Keeper_paid => k_is)
  (case e_Keeper_is_enough => k_is)
  (case i_Keeper_is_enough => k_is)
  (case l_Keeper_is_enough => k_is)
  (case c_Keeper_is_enough => k_is)
  (case k_Keeper_is_enough => k_is)
  (case e_Keeper_least_kept => k_is)
  (case i_Keeper_least_kept => k_is)
  (case l_Keeper_least_kept => k_is)
  (case c_Keeper_least_kept => k_is)
  (case k_Keeper_least_kept => k_is)
  (case e__law_told => k_is)
  (case l__law_told => k_is)
  (case c__law_told => k_is)
  (case k__law_told => k_is)
  (case e__law_whole => k_is)
  (case l__law_whole => k_is)
  (case c__law_whole => k_is)
  (case k__law_whole => k_is)
  (case e_law => k_is)
  (case l_law => k_is)
  (case c_law => k_is)
  (case k_law => k_is)
  (case e_CoverError => k_is)
  (case e_NoStock => k_is)
  (case e_NoOffer => k_is)
  (case e_NoThing => k_is)
  (case e_NoCover => k_is)
  (case e_NoNumber => k_is)
  (case e_NotFull => k_is)
  (case e_NoRow => k_is)
  (case z_all => k_is)
  (case z_bool => k_is)
  (case z_dict => k_is)
  (case z_divmod => k_is)
  (case z_enumerate => k_is)
  (case z_int => k_is)
  (case z_isinstance => k_is)
  (case z_len => k_is)
  (case z_list => k_is)
  (case z_max => k_is)
  (case z_min => k_is)
  (case z_range => k_is)
  (case z_set => k_is)
  (case z_sorted => k_is)
  (case z_sum => k_is)
  (case z_tuple => k_is)
  (case y_MOST_OFFERS => k_is)
  (case y_MOST_THINGS => k_is)
  (case x_tab => kernel_rfl)
