import PyProof.Rows.All
import Wide.All
import OpenK.AllK
import Wide.FinOn
import PyProof.EqAt
import PyProof.EqKinds
import PyProof.TupleCall
import PyProof.StationsW
import PyProof.ExcArgs
import PyProof.Seq
import PyProof.TupleIter
import PyProof.RangeIter
import PyProof.WalkInts
import PyProof.SumWalkG
import PyProof.ListRange
import PyProof.Rows.Range3
import OpenK.KDescr
import PyProof.ExcAttrAll.ValueError
import PyProof.Draws
import PyProof.EnumFor
import PyProof.EnumMake
import PyProof.LayNew
import PyProof.Rows.EnumRows
import PyProof.MinMaxWalk
import Lean
import PySem.Challenge.RW_cheapcovers_k72_covers_of_rows
set_option Elab.async false
set_option linter.all false
set_option maxRecDepth 100000
set_option maxHeartbeats 8000000
set_option compiler.extract_closed false
set_option bootstrap.genMatcherCode false
set_option genSizeOfSpec false
open PySem PySem.Spec PyProof.Rows
noncomputable section
local macro_rules | `(term| ⋯) => `(term| by first | omega | decide +kernel)
section
open PyProof
abbrev qaa := @List.getElem?_append_right
abbrev qab := @Array.getElem?_eq_some_iff
abbrev qac := @List.getElem?_eq_some_iff
abbrev qad := @List.getElem?_append_left
abbrev qae := @List.drop_eq_getElem_cons
abbrev qaf := @List.getElem?_eq_getElem
abbrev qag := @Heap.get?_push_of_some
abbrev qah := @Heap.get?_update_other
abbrev qai := @List.getElem?_set_self
abbrev qaj := @Array.getElem?_toList
abbrev qak := @List.mem_append_right
abbrev qal := @Heap.get?_update_self
abbrev qam := @List.take_append_drop
abbrev qan := @List.mem_cons_of_mem
abbrev qao := @List.getElem?_set_ne
abbrev qap := @Around.under_plainId
abbrev qaq := @List.pairwise_append
abbrev qar := @Heap.get?_push_size
abbrev qas := @Array.length_toList
abbrev qat := @List.filterMap_cons
abbrev qau := @List.mem_cons_self
abbrev qav := @List.length_append
abbrev qaw := @Nat.lt_of_lt_of_le
abbrev qax := @Bool.false_eq_true
abbrev qay := @List.pairwise_cons
abbrev qaz := @Array.size_extract
abbrev qaA := @List.size_toArray
abbrev qaB := @Int.toNat_natCast
abbrev qaC := @wpAny_newObj_type
abbrev qaD := @decide_eq_true_eq
abbrev qaE := @List.length_cons
abbrev qaF := @List.not_mem_nil
abbrev qaG := @Bool.and_eq_true
abbrev qaH := @List.length_map
abbrev qaI := @List.length_set
abbrev qaJ := @List.length_nil
abbrev qaK := @List.mem_append
abbrev qaL := @Heap.size_push
abbrev qaM := @List.map_cons
abbrev qaN := @Nat.lt_irrefl
abbrev qaO := @wpAny_holding
abbrev qaP := @List.mem_cons
abbrev qaQ := @Heap.lt_size
abbrev qaR := @Nat.ne_of_lt
abbrev qaS := @Nat.le_trans
abbrev qaT := @List.map_map
abbrev qaU := @List.mem_map
abbrev qaV := @Nat.le_refl
abbrev qaW := @wpAny_bind
abbrev qaX := @wpAny_pure
abbrev qaZ := @wpAny_mono
abbrev qa0 := @False.elim
abbrev qa2 := @wpS_bind
abbrev qa3 := @wpS_pure
abbrev qa4 := @if_pos
abbrev qa5 := @if_neg
end
def PySem.W.Fast.tw10881061216308520632:Nat:=0
def PySem.W.Fast.tw7051018459087626371:Nat:=0
def PySem.W.Fast.tw17260774392382527562:Nat:=0
def PySem.W.Fast.tw2354309961843036674:Nat:=0
def PySem.W.Fast.tw13865351022433132542:Nat:=0
def PySem.W.Fast.tw807315846335620926:Nat:=0
def PySem.W.Fast.tw7012154315702815232:Nat:=0
def PySem.W.Fast.tw12969979878489146990:Nat:=0
def PySem.W.Fast.tw14214255515949919016:Nat:=0
def PySem.W.Fast.tw7496259752318317299:Nat:=0
def PySem.W.Fast.tw17991197593167251721:Nat:=0
def PySem.W.Fast.tw15340232162987091960:Nat:=0
def PySem.W.Fast.tw5842004771316362201:Nat:=0
def PySem.W.Fast.tw8160037748494089125:Nat:=0
def PySem.W.Fast.tw4184888512868273141:Nat:=0
def PySem.W.Fast.tw8004064265265747285:Nat:=0
def PySem.W.Fast.tw11434201741938592850:Nat:=0
def PySem.W.Fast.tw14407744156912761191:Nat:=0
def PySem.W.Fast.tw14991299121242860634:Nat:=0
def PySem.W.Fast.tw4854309524852691162:Nat:=0
def PySem.W.Fast.tw5865715764471645225:Nat:=0
def PySem.W.Fast.tw14919105359952923133:Nat:=0
def PySem.W.Fast.tw6908605319687450459:Nat:=0
def PySem.W.Fast.tw18390915781530172510:Nat:=0
def PySem.W.Fast.tw3198460331961956422:Nat:=0
def PySem.W.Fast.tw9653505160154799108:Nat:=0
namespace L3
def ziy (h:Heap) (e:Addr) (cls head:Value):Prop:= ∃ ob vs,h.get? e=some ob/\ob.cls=cls/\ob.dict=none/\ob.data= .fields vs/\vs[2]? = some .none/\vs[1]? = some head
def zvH (h B:Heap) (e:Addr) (head fl:Value):Prop:= ∃ T ot ts,head= .ref T/\B.get? T=none/\T≠e/\h.get? T=some ot/\ot.data= .fields ts/\ts[3]? = some fl
structure Fly (B:Heap) (l:List Env) (e:Addr) (cls fl:Value) (h:Heap):Prop where
 stays:B.StaysIn h
 new:B.get? e=none
 frames:h.FunFrames B l
 exc: ∃ head,ziy h e cls head/\zvH h B e head fl
theorem znW (o:Obj) (f):(o.mapFields f).dict=o.dict:=by
 obtain ⟨c,d,t,z⟩:=o
 cases t<;>rfl
section
variable {M:Model} {A:Around} {E:Value->Shared->Prop} {s:Shared} {B:Heap} {env:Env} {outer l:List Env} {L e:Addr} {cls head fl:Value}
theorem ziQ {hd0:Value} {hadNext:Bool} {Q:Unit->Shared->Prop} (hfr:A.frames=some (env::outer)) (hl:s.heap.FunFrames B (env::outer)) (hf:env.frame=some L) (hx:ziy s.heap e cls head)
  (hkb:B.StaysIn s.heap) (hen:B.get? e=none) (q: ∀ h',Fly B (env::outer) e cls (rawInt L) h'->s.heap.UpToSlots h'->Q () {s with heap:=h'}):
  wpAny M A (do let a<-frameOf env;let pl<-entryPlaceOf L hadNext;let b<-EntryCells.newEntry hd0 a .none (rawInt L) .none pl;setField (.ref e) 1 b) Q E s:=by
 obtain ⟨ob,vs,h1,h2,h3,h4,h5,h6⟩:=hx
 have hsz:1<vs.size:=(qab.mp h6).1
 have nfr:e∉(env::outer).filterMap (·.frame):=fun z=>by
  obtain ⟨_,o,ho,hn⟩:=hl.mem z
  rw [h1] at ho
  cases ho
  exact hn vs h4
 refine qaW (wpAny_frameOf_fun hfr hl hf fun g sg=> ?_)
 refine qaW (wpAny_entryPlaceOf fun pl hpl=> ?_)
 unfold EntryCells.newEntry newFields
 refine qaW (qaC ?_ (hpl.sizeOk5 _ _ _ _ _))
 have e1:g.get? e=some ob:=(sg.2.1 e nfr).trans h1
 have kb:B.StaysIn g:=fun b o z=>(sg.2.1 b fun w=>by rw [(hl.mem w).1] at z;cases z).trans (hkb b o z)
 generalize hob:({cls:= .type "traceback",dict:=none,data:= .fields ([hd0,.ref L,.none,rawInt L,.none]++(if pl.isEmpty then List.replicate 6 Value.none else pl)).toArray}:Obj)=tb
 have e2:(g.push tb).get? e=some ob:=qag _ e1
 have ne:g.objs.size≠e:=Nat.ne_of_gt (qaQ e1)
 have d3:=Obj.data_mapFields h4 (·.setIfInBounds 1 (Value.ref g.objs.size))
 have e3:=qal (Obj.mapFields (·.setIfInBounds 1 (Value.ref g.objs.size))) e2 (Obj.isFreed_of_fields d3)
 have ft:tb.isFreed=false:=by rw [<- hob];rfl
 have t3:((g.push tb).update e (Obj.mapFields (·.setIfInBounds 1 (Value.ref g.objs.size)))).get? g.objs.size=some tb:=(qah _ _ (Ne.symm ne)).trans (qar g ft)
 have stay: ∀ b o,b≠e->g.get? b=some o->((g.push tb).update e (Obj.mapFields (·.setIfInBounds 1 (Value.ref g.objs.size)))).get? b=some o:=fun b o hb z=>by
  rw [qah _ _ (Ne.symm hb)]
  exact qag _ z
 have nrec: ∀ b o,s.heap.get? b=some o->(∀ ws,o.data≠ .fields ws)->b≠e:=fun b o z hn w=>by
  rw [w,h1] at z
  cases z
  exact hn vs h4
 have ht: ∃ ts,tb.data= .fields ts/\ts[3]? = some (rawInt L):=⟨_,by rw [<- hob],by rcases hpl with rfl | ⟨_,_,_,_,_,_,_,rfl⟩<;>simp⟩
 obtain ⟨ts,ht1,ht2⟩:=ht
 refine wpAny_setField e2 h4 hsz (q _ ⟨fun b o z=>stay b o (fun w=>by rw [w,hen] at z;cases z) (kb b o z),hen,hl.of_keeps fun b o z hn=> ?_,.ref g.objs.size,⟨_,_,e3,(Obj.cls_mapFields _ _).trans h2,(znW _ _).trans h3,d3,?_,?_⟩,g.objs.size,tb,ts,rfl,kb.fresh,ne,t3,ht1,ht2⟩ fun b o z hn=> ?_)
 ·obtain ⟨sl,hs⟩:=sg.2.2 b o z
  exact ⟨_,stay b _ (nrec b o z hn) hs,rfl⟩
 ·rw [Array.getElem?_setIfInBounds_ne (by decide)]
  exact h5
 ·simp [hsz]
 ·obtain ⟨sl,hs⟩:=sg.2.2 b o z
  exact ⟨sl,stay b _ (nrec b o z hn) hs⟩
theorem zkf {Q:Unit->Shared->Prop} (hfr:A.frames=some (env::outer)) (hl:s.heap.FunFrames B (env::outer)) (hf:env.frame=some L) (hx:ziy s.heap e cls .none)
  (hkb:B.StaysIn s.heap) (hen:B.get? e=none) (q: ∀ h',Fly B (env::outer) e cls (rawInt L) h'->s.heap.UpToSlots h'->Q () {s with heap:=h'}):wpAny M A (noteFrame (.ref e) env) Q E s:=by
 obtain ⟨ob,vs,h1,h2,h3,h4,h5,h6⟩:=id hx
 unfold noteFrame
 simp only [hf]
 refine qaW (wpAny_field h1 h4 h6 ?_)
 rw [qa5 (by decide)]
 exact ziQ hfr hl hf hx hkb hen q
theorem zly {Q:Unit->Shared->Prop} (hfr:A.frames=some (env::outer)) (hf:env.frame=some L) (y:Fly B (env::outer) e cls .none s.heap)
  (q: ∀ h',Fly B (env::outer) e cls (rawInt L) h'->s.heap.UpToSlots h'->Q () {s with heap:=h'}):wpAny M A (noteFrame (.ref e) env) Q E s:=by
 obtain ⟨hkb,hen,hl,hd,⟨ob,vs,h1,h2,h3,h4,h5,h6⟩,T,ot,ts,rfl,t1,t2,t3,t4,t5⟩:=y
 unfold noteFrame
 simp only [hf]
 refine qaW (wpAny_field h1 h4 h6 ?_)
 rw [qa4 (show (Value.ref T != Value.none)=true by simp)]
 refine qaW (wpAny_field t3 t4 t5 ?_)
 rw [qa5 (show ¬(Value.none==rawInt L)=true by simp [rawInt])]
 refine qaW (wpAny_setField t3 t4 (qab.mp t5).1 ?_)
 have oth: ∀ b,b≠T->(s.heap.update T (Obj.mapFields (·.setIfInBounds 3 Value.none))).get? b=s.heap.get? b:=fun b hb=>qah _ _ (Ne.symm hb)
 have nrec: ∀ b o,s.heap.get? b=some o->(∀ ws,o.data≠ .fields ws)->b≠T:=fun b o z hn w=>by
  rw [w,t3] at z
  cases z
  exact hn ts t4
 refine ziQ hfr (hl.of_keeps fun b o z hn=>⟨o,(oth b (nrec b o z hn)).trans z,rfl⟩) hf ⟨ob,vs,(oth e (Ne.symm t2)).trans h1,h2,h3,h4,h5,h6⟩ (fun b o z=>(oth b fun w=>by rw [w,t1] at z;cases z).trans (hkb b o z)) hen fun h' y u=> ?_
 exact q h' y fun b o z hn=>u b o ((oth b (nrec b o z hn)).trans z) hn
theorem zei {Q:Unit->Shared->Prop} (y:Fly B l e cls fl s.heap) (q: ∀ h',Fly B l e cls .none h'->(∀ b o,s.heap.get? b=some o->(∀ ws,o.data≠ .fields ws)->h'.get? b=some o)->Q () {s with heap:=h'}):
  wpAny M A (setFlight (.ref e) none) Q E s:=by
 obtain ⟨hkb,hen,hl,hd,⟨ob,vs,h1,h2,h3,h4,h5,h6⟩,T,ot,ts,rfl,t1,t2,t3,t4,t5⟩:=y
 have hsz:=(qab.mp t5).1
 have oth: ∀ b,b≠T->(s.heap.update T (Obj.mapFields (·.setIfInBounds 3 ((none:Option Addr).elim Value.none fun f=>rawInt f)))).get? b=s.heap.get? b:=fun b hb=>qah _ _ (Ne.symm hb)
 have nrec: ∀ b o,s.heap.get? b=some o->(∀ ws,o.data≠ .fields ws)->b≠T:=fun b o z hn w=>by
  rw [w,t3] at z
  cases z
  exact hn ts t4
 unfold setFlight
 refine qaW (wpAny_field h1 h4 h6 ?_)
 rw [qa4 (show (Value.ref T != Value.none)=true by simp)]
 refine wpAny_setField t3 t4 hsz (q _ ⟨fun b o z=>(oth b fun w=>by rw [w,t1] at z;cases z).trans (hkb b o z),hen,hl.of_keeps fun b o z hn=>⟨o,(oth b (nrec b o z hn)).trans z,rfl⟩,
   .ref T,⟨ob,vs,(oth e (Ne.symm t2)).trans h1,h2,h3,h4,h5,h6⟩,T,_,_,rfl,t1,t2,qal _ t3 (Obj.isFreed_of_fields (Obj.data_mapFields t4 _)),Obj.data_mapFields t4 _,by simp [hsz]⟩ fun b o z hn=>(oth b (nrec b o z hn)).trans z)
theorem Fly.tail {h:Heap} (y:Fly B (env::outer) e cls fl h):Fly B outer e cls fl h:=⟨y.stays,y.new,y.frames.2.2,y.exc⟩
theorem zis {Q:Unit->Shared->Prop} (hfr:A.frames=some (env::outer)) (hl:s.heap.FunFrames B (env::outer)) (hf:env.frame=some L) (hx:ziy s.heap e cls .none)
  (hkb:B.StaysIn s.heap) (hen:B.get? e=none) (q: ∀ h',Fly B outer e cls .none h'->s.heap.UpToSlots h'->Q () {s with heap:=h'}):wpAny M A (leaving env (.ref e)) Q E s:=by
 unfold leaving
 refine qaW (zkf hfr hl hf hx hkb hen fun h1 y1 u1=> ?_)
 refine zei (s:={s with heap:=h1}) y1 fun h2 y2 k2=>q h2 y2.tail (u1.trans fun b o z hn=>⟨o.slots,k2 b o z hn⟩)
theorem znw {Q:Unit->Shared->Prop} (hfr:A.frames=some (env::outer)) (hf:env.frame=some L) (y:Fly B (env::outer) e cls .none s.heap)
  (q: ∀ h',Fly B outer e cls .none h'->s.heap.UpToSlots h'->Q () {s with heap:=h'}):wpAny M A (leaving env (.ref e)) Q E s:=by
 unfold leaving
 refine qaW (zly hfr hf y fun h1 y1 u1=> ?_)
 refine zei (s:={s with heap:=h1}) y1 fun h2 y2 k2=>q h2 y2.tail (u1.trans fun b o z hn=>⟨o.slots,k2 b o z hn⟩)
theorem zm1 {h h':Heap} {args:List Value} (x:Heap.MadeExcOf h h' e cls args):ziy h' e cls .none:=by
 obtain ⟨t,h1,_,_⟩:=x.there
 exact ⟨_,_,h1,rfl,rfl,rfl,rfl,rfl⟩
end
theorem zf4:entryFor table "proto.unchain"=some Builtin.«proto.unchain» := entryFor_of_tree (by kernel_rfl)
section
variable {prog:Program} {w:World} {A:Around} {E:Value->Shared->Prop} {s:Shared}
theorem zeq {α:Type} {a h:Addr} {o:Obj} {us:Array Value} {cls head:Value} {Q:α->Shared->Prop} (hh:A.handled=some (.ref h)) (hx:ziy s.heap h cls head) (ho:s.heap.get? a=some o) (hd:o.data= .fields us) (hz:2<us.size) (hne:h≠a)
  (q:E (.ref a) {s with heap:=s.heap.update a (Obj.mapFields (·.setIfInBounds 2 (.ref h)))}):wpAny (model prog w) A (raiseNew (.ref a):Sem α) Q E s:=by
 obtain ⟨ob,vs,h1,h2,h3,h4,h5,h6⟩:=hx
 unfold raiseNew
 refine qaW (wpAny_handled ?_)
 rw [hh]
 dsimp only
 rw [qa4 (show (Value.ref h != Value.ref a)=true by simp [hne])]
 refine qaW (qaO (wpAny_runValue (codeAny_builtin zf4 ?_)))
 unfold Builtin.«proto.unchain»
 refine qaW (wpAny_field h1 h4 h5 ?_)
 rw [qa4 (show (Value.none==Value.none)=true from rfl)]
 refine qaW (qaX (qaX ?_))
 refine qaW ?_
 obtain ⟨c,d,dt,sl⟩:=o
 dsimp only at hd
 subst hd
 unfold updateField
 refine qaW (wpAny_load ho ?_)
 dsimp only
 rw [qa4 hz]
 exact wpAny_update ho (wpAny_throw q)
def zqN (A:Around) (h:Heap):Prop:=A.handled=none\/ ∃ a cls head,A.handled=some (.ref a)/\ziy h a cls head
theorem zjt {it l:Addr} {i:Nat} {items:Array Value} {Q:Option Value->Shared->Prop} (hh:zqN A s.heap) (hit:s.heap.IsListIter it l i) (hl:s.heap.IsList l items) (hx:items[i]? = none)
  (k: ∀ h',Heap.ExtBut it s.heap h'->Q none {s with heap:=h'}):wpAny (model prog w) A (pyNext (.ref it)) Q E s:=by
 rcases hh with hh | ⟨ha,cls,head,hh,hX⟩
 ·exact wpAny_pyNext_list_end hh hit hl hx k
 obtain ⟨o,h1,h2,h3⟩:=id hit
 obtain ⟨ol,l1,_,nl,l2⟩:=hl
 unfold pyNext
 refine qaW (wpAny_attempt (wpAny_callSpecial?_slot (name:=Str.ofString "__next__") hit.typeIs slot_listiter_next (wpAny_call_entry slot_listiter_next hit.typeIs entry_listiter_next ?_ (args_listiter_next _))))
 show wpAny _ _ (field (.ref it) 0>>=_) _ _ s
 refine qaW (wpAny_field h1 h3 (x:= .ref l) rfl ?_)
 show wpAny _ _ (if (Value.ref l==Value.none)=true then _ else _) _ _ s
 rw [qa5 (show ¬(Value.ref l==Value.none)=true from nofun)]
 show wpAny _ _ (field (.ref it) 1>>=_) _ _ s
 refine qaW (wpAny_field h1 h3 (x:= .int i 0) rfl ?_)
 show wpAny _ _ (seqItems? (.ref l)>>=_) _ _ s
 refine qaW (wpAny_seqItems l1 l2 ?_)
 simp only [qaB,hx]
 refine qaW (wpAny_rule (qaW (wpAny_setField h1 h3 (by simp) ?_)))
 have nit:ha≠it:=fun z=>by
  subst z
  obtain ⟨ob,vs,x1,_,_,x4,x5,x6⟩:=hX
  rw [h1] at x1
  cases x1
  rw [h3] at x4
  cases x4
  simp at x5
 have hX1:ziy (s.heap.update it (Obj.mapFields (·.setIfInBounds 0 Value.none))) ha cls head:=by
  obtain ⟨ob,vs,x1,x2⟩:=hX
  exact ⟨ob,vs,(qah _ _ (Ne.symm nit)).trans x1,x2⟩
 show wpAny _ _ (newExc (.type "StopIteration") []>>=_) _ _ _
 refine qaW ?_
 simp only [newExc,newTuple]
 refine qaW (qaC ?_ (by size_fits))
 refine qaW (m:=firstArgMember _ _) (wpAny_of_eq (a:=Value.none) (by first | rfl | (simp only [firstArgMember];rfl)) ?_)
 refine qaC ?_ (by size_fits)
 obtain ⟨ob,vs,x1,x2⟩:=hX1
 have y1:=qag {cls:= .type "tuple",dict:=none,data:= .seq [].toArray} x1
 refine zeq (h:=ha) (cls:=cls) (head:=head) hh ⟨ob,vs,qag _ y1,x2⟩ (qar _ rfl) rfl (by simp;omega) (qaR (qaQ y1)) ?_
 refine qaW (wpAny_isInstance (T:="StopIteration") (b:=true) ⟨_,qal _ (qar _ rfl) rfl,rfl⟩ isSubtype_stop ?_)
 refine qaX (k _ fun b o hb z=> ?_)
 have z1:(s.heap.update it (Obj.mapFields (·.setIfInBounds 0 Value.none))).get? b=some o:=(qah _ _ (Ne.symm hb)).trans z
 have z2:=qag {cls:= .type "tuple",dict:=none,data:= .seq [].toArray} z1
 rw [qah _ _ (Nat.ne_of_gt (qaQ z2))]
 exact qag _ z2
theorem zmv {it l:Addr} {i:Nat} {items:Array Value} {Q:Option Value->Shared->Prop} (hh:zqN A s.heap) (hit:s.heap.IsTupleIter it l i) (hl:s.heap.IsTuple l items) (hx:items[i]? = none)
  (k: ∀ h',Heap.ExtBut it s.heap h'->Q none {s with heap:=h'}):wpAny (model prog w) A (pyNext (.ref it)) Q E s:=by
 rcases hh with hh | ⟨ha,cls,head,hh,hX⟩
 ·exact wpAny_pyNext_tuple_end hh hit hl hx k
 obtain ⟨o,h1,h2,h3⟩:=id hit
 obtain ⟨ol,l1,_,nl,l2⟩:=hl
 unfold pyNext
 refine qaW (wpAny_attempt (wpAny_callSpecial?_slot (name:=Str.ofString "__next__") hit.typeIs F.slot_tuple_iterator_next (wpAny_call_entry F.slot_tuple_iterator_next hit.typeIs F.entry_tuple_iterator_next ?_ (F.args_tuple_iterator_next_1 _))))
 show wpAny _ _ (field (.ref it) 0>>=_) _ _ s
 refine qaW (wpAny_field h1 h3 (x:= .ref l) rfl ?_)
 show wpAny _ _ (if (Value.ref l==Value.none)=true then _ else _) _ _ s
 rw [qa5 (show ¬(Value.ref l==Value.none)=true from nofun)]
 show wpAny _ _ (field (.ref it) 1>>=_) _ _ s
 refine qaW (wpAny_field h1 h3 (x:= .int i 0) rfl ?_)
 show wpAny _ _ (seqItems? (.ref l)>>=_) _ _ s
 refine qaW (wpAny_seqItems l1 l2 ?_)
 simp only [qaB,hx]
 refine qaW (wpAny_rule (qaW (wpAny_setField h1 h3 (by simp) ?_)))
 have nit:ha≠it:=fun z=>by
  subst z
  obtain ⟨ob,vs,x1,_,_,x4,x5,x6⟩:=hX
  rw [h1] at x1
  cases x1
  rw [h3] at x4
  cases x4
  simp at x5
 have hX1:ziy (s.heap.update it (Obj.mapFields (·.setIfInBounds 0 Value.none))) ha cls head:=by
  obtain ⟨ob,vs,x1,x2⟩:=hX
  exact ⟨ob,vs,(qah _ _ (Ne.symm nit)).trans x1,x2⟩
 show wpAny _ _ (newExc (.type "StopIteration") []>>=_) _ _ _
 refine qaW ?_
 simp only [newExc,newTuple]
 refine qaW (qaC ?_ (by size_fits))
 refine qaW (m:=firstArgMember _ _) (wpAny_of_eq (a:=Value.none) (by first | rfl | (simp only [firstArgMember];rfl)) ?_)
 refine qaC ?_ (by size_fits)
 obtain ⟨ob,vs,x1,x2⟩:=hX1
 have y1:=qag {cls:= .type "tuple",dict:=none,data:= .seq [].toArray} x1
 refine zeq (h:=ha) (cls:=cls) (head:=head) hh ⟨ob,vs,qag _ y1,x2⟩ (qar _ rfl) rfl (by simp;omega) (qaR (qaQ y1)) ?_
 refine qaW (wpAny_isInstance (T:="StopIteration") (b:=true) ⟨_,qal _ (qar _ rfl) rfl,rfl⟩ isSubtype_stop ?_)
 refine qaX (k _ fun b o hb z=> ?_)
 have z1:(s.heap.update it (Obj.mapFields (·.setIfInBounds 0 Value.none))).get? b=some o:=(qah _ _ (Ne.symm hb)).trans z
 have z2:=qag {cls:= .type "tuple",dict:=none,data:= .seq [].toArray} z1
 rw [qah _ _ (Nat.ne_of_gt (qaQ z2))]
 exact qag _ z2
theorem zhZ {it:Addr} {x left step:Int} {Q:Option Value->Shared->Prop} (hh:zqN A s.heap) (hit:IsRangeIter s.heap it x left step) (hleft:left<=0)
  (k: ∀ h',Heap.ExtBut it s.heap h'->Q none {s with heap:=h'}):wpAny (model prog w) A (pyNext (.ref it)) Q E s:=by
 rcases hh with hh | ⟨ha,cls,head,hh,hX⟩
 ·exact wpAny_pyNext_range_end hh hit hleft k
 have hT:s.TypeIs (.ref it) "range_iterator":=⟨_,hit,rfl⟩
 unfold pyNext
 refine qaW (wpAny_attempt (wpAny_callSpecial?_slot (name:=Str.ofString "__next__") hT F.slot_range_iterator_next (wpAny_call_entry F.slot_range_iterator_next hT F.entry_range_iterator_next ?_ (F.args_range_iterator_next_1 _))))
 show wpAny _ _ (field (.ref it) 0>>=_) _ _ s
 refine qaW (wpAny_field hit rfl (x:=rawInt x) rfl ?_)
 show wpAny _ _ (field (.ref it) 1>>=_) _ _ s
 refine qaW (wpAny_field hit rfl (x:=rawInt left) rfl ?_)
 show wpAny _ _ (field (.ref it) 2>>=_) _ _ s
 refine qaW (wpAny_field hit rfl (x:=rawInt step) rfl ?_)
 show wpAny _ _ (if left<=0 then _ else _) _ _ s
 rw [qa4 hleft]
 refine qaW (wpAny_rule (qaW ?_))
 show wpAny _ _ (newExc (.type "StopIteration") []>>=_) _ _ _
 refine qaW ?_
 simp only [newExc,newTuple]
 refine qaW (qaC ?_ (by size_fits))
 refine qaW (m:=firstArgMember _ _) (wpAny_of_eq (a:=Value.none) (by first | rfl | (simp only [firstArgMember];rfl)) ?_)
 refine qaC ?_ (by size_fits)
 obtain ⟨ob,vs,x1,x2⟩:=hX
 have y1:=qag {cls:= .type "tuple",dict:=none,data:= .seq [].toArray} x1
 refine zeq (h:=ha) (cls:=cls) (head:=head) hh ⟨ob,vs,qag _ y1,x2⟩ (qar _ rfl) rfl (by simp;omega) (qaR (qaQ y1)) ?_
 refine qaW (wpAny_isInstance (T:="StopIteration") (b:=true) ⟨_,qal _ (qar _ rfl) rfl,rfl⟩ isSubtype_stop ?_)
 refine qaX (k _ fun b o hb z=> ?_)
 have z2:=qag {cls:= .type "tuple",dict:=none,data:= .seq [].toArray} z
 rw [qah _ _ (Nat.ne_of_gt (qaQ z2))]
 exact qag _ z2
theorem ziy.keep {h h':Heap} {a:Addr} {cls head:Value} (x:ziy h a cls head) (k: ∀ o,h.get? a=some o->h'.get? a=some o):ziy h' a cls head:=by
 obtain ⟨ob,vs,x1,x2⟩:=x
 exact ⟨ob,vs,k _ x1,x2⟩
theorem zf0 {ha:Addr} {cls head:Value} (hh:A.handled=some (.ref ha)) (I ax:Addr) (hne:ax≠I) (hn2:ha≠I) (items:Array Value):
  Walks prog w A I [I,ax,ha] [I] items.size (fun i v=>items[i]? = some v) (fun i h=>h.IsListIter I ax i/\h.IsList ax items/\ziy h ha cls head) where
 sub:=fun b hb=>by simp at hb;simp [hb]
 frame:=fun _ _ _ st hk=>⟨st.1.at fun o e=>hk I (by simp) o e,st.2.1.at fun o e=>hk ax (by simp) o e,st.2.2.keep fun o e=>hk ha (by simp) o e⟩
 item:=fun i s Q E hi st hQ=>by
  refine wpAny_pyNext_list_item st.1 st.2.1 (x:=items[i]) (by simp [hi]) fun h' hit' hs'=> ?_
  exact hQ _ h' s.toks (by simp [hi]) ⟨hit',st.2.1.extBut hs'.extBut hne,st.2.2.keep fun o e=>hs'.extBut ha o hn2 e⟩ fun b o hb e=>hs'.extBut b o (fun h=>hb (by simp [h])) e
 done:=fun s Q E st hQ=>zjt (.inr ⟨ha,cls,head,hh,st.2.2⟩) st.1 st.2.1 (by simp) fun h' he'=>hQ h' s.toks fun b o hb e=>he' b o (fun h=>hb (by simp [h])) e
 self:=fun _ _ _ _ st hQ=>wpAny_pyIter_listiter st.1 hQ
end
end L3
namespace L2
abbrev Key:=Sum Int Str
def zr4:Key->Value->Bool
 | .inl k,v=>Value.isInt k v
 | .inr x,v=>Value.isStrOf x v
def zvm (w:World):Key->Int
 | .inl k=>hashInt k
 | .inr x=>hashStr w x
theorem za5: ∀ {k:Key} {v:Value},zr4 k v=true->(∃ i t,k=Sum.inl i/\v=Value.int i t)\/(∃ x t,k=Sum.inr x/\v=Value.str x t)
 | .inl i,v,h=>by
  obtain ⟨t,e⟩:=Value.isInt_shape (k:=i) (v:=v) h
  exact .inl ⟨i,t,rfl,e⟩
 | .inr x,v,h=>by
  obtain ⟨t,e⟩:=Value.isStrOf_shape (x:=x) (v:=v) h
  exact .inr ⟨x,t,rfl,e⟩
theorem zrr (a b:Int):decide ((Sum.inl a:Key)=Sum.inl b)=(a==b):=by
 by_cases e:a=b
 ·subst e;simp
 ·have h: ¬(Sum.inl a:Key)=Sum.inl b:=fun q=>e (Sum.inl.inj q)
  rw [decide_eq_false h]
  exact (beq_eq_false_iff_ne.mpr e).symm
theorem zsa (a b:Str):decide ((Sum.inr a:Key)=Sum.inr b)=decide (a=b):=by
 by_cases e:a=b
 ·subst e;simp
 ·have h: ¬(Sum.inr a:Key)=Sum.inr b:=fun q=>e (Sum.inr.inj q)
  rw [decide_eq_false h,decide_eq_false e]
theorem zsx (a:Int) (b:Str):decide ((Sum.inl a:Key)=Sum.inr b)=false:=decide_eq_false (fun q=>nomatch q)
theorem zrV (a:Str) (b:Int):decide ((Sum.inr a:Key)=Sum.inl b)=false:=decide_eq_false (fun q=>nomatch q)
def zk6 (prog:Program) (w:World):PySem.KeyKind prog w Key where
 is:=zr4
 hash:=zvm w
 inj:=fun v a b ha hb=>by
  rcases za5 ha with ⟨i,t,rfl,rfl⟩ | ⟨x,t,rfl,rfl⟩
  ·rcases za5 hb with ⟨j,u,rfl,e⟩ | ⟨y,u,rfl,e⟩
   ·injection e with e1 _;rw [e1]
   ·exact nomatch e
  ·rcases za5 hb with ⟨j,u,rfl,e⟩ | ⟨y,u,rfl,e⟩
   ·exact nomatch e
   ·injection e with e1 _;rw [e1]
 byValue:=fun k v h=>by
  rcases za5 h with ⟨i,t,rfl,rfl⟩ | ⟨x,t,rfl,rfl⟩<;>rfl
 pyHash:=fun hv h=>by
  rcases za5 hv with ⟨i,t,rfl,rfl⟩ | ⟨x,t,rfl,rfl⟩
  ·exact wpAny_pyHash_int h
  ·exact wpAny_pyHash_str h
 eqBool:=fun hu hv h=>by
  rcases za5 hu with ⟨i,t,rfl,rfl⟩ | ⟨x,t,rfl,rfl⟩
  ·rcases za5 hv with ⟨j,u,rfl,rfl⟩ | ⟨y,u,rfl,rfl⟩
   ·rw [zrr] at h;exact wpAny_eqBool_int h
   ·rw [zsx] at h;exact SeqAt.EqAt.int_str i t y u _ _ _ _ h
  ·rcases za5 hv with ⟨j,u,rfl,rfl⟩ | ⟨y,u,rfl,rfl⟩
   ·rw [zrV] at h;exact SeqAt.EqAt.str_int x t j u _ _ _ _ h
   ·rw [zsa] at h;exact wpAny_eqBool_str h
 «strs» := fun k x t v h=>by
  rcases za5 h with ⟨i,u,rfl,e⟩ | ⟨y,u,rfl,e⟩
  ·exact nomatch e
  ·injection e with e1 _
   subst e1
   cases v<;>rfl
inductive V where
 | non | bl (b:Bool) | int (i:Int) | str (x:Str) | byt (b:Array UInt8) | flt (b:UInt64) | ref (a:Addr) | ty (n:String)
 deriving DecidableEq
def zbB:V->Value->Prop
 | .non,u=>u=Value.none
 | .bl b,u=>u=Value.bool b
 | .int i,u=> ∃ t,u=Value.int i t
 | .str x,u=> ∃ t,u=Value.str x t
 | .byt b,u=> ∃ t,u=Value.bytes b t
 | .flt b,u=> ∃ t,u=Value.float b t
 | .ref a,u=>u=Value.ref a
 | .ty n,u=>u=Value.type n
abbrev zba:List V->List Value->Prop:=Paired zbB
theorem zba.length {xs:List V} {us:List Value} (r:zba xs us):xs.length=us.length:=Paired.length r
theorem zba.get: ∀ {xs:List V} {us:List Value} {i:Nat} {x:V},zba xs us->xs[i]? = some x-> ∃ u,us[i]? = some u/\zbB x u
 | _,_,_,_,.nil,e=>by simp at e
 | _,_,0,_,.cons r _,e=>by simp at e;subst e;exact ⟨_,rfl,r⟩
 | _,_,i+1,x,.cons _ t,e=>by
  obtain ⟨u,h1,h2⟩:=zba.get (i:=i) (x:=x) t (by simpa using e)
  exact ⟨u,by simpa using h1,h2⟩
theorem zba.set {x:V} {u:Value} (r:zbB x u): ∀ {xs:List V} {us:List Value} (i:Nat),zba xs us->zba (xs.set i x) (us.set i u)
 | _,_,_,.nil=> .nil
 | _,_,0,.cons _ t=> .cons r t
 | _,_,i+1,.cons q t=> .cons q (zba.set r i t)
theorem zba.append: ∀ {xs ys:List V} {us ws:List Value},zba xs us->zba ys ws->zba (xs++ys) (us++ws)
 | _,_,_,_,.nil,s=>s
 | _,_,_,_,.cons r t,s=> .cons r (zba.append t s)
theorem zba.take: ∀ {xs:List V} {us:List Value} (n:Nat),zba xs us->zba (xs.take n) (us.take n)
 | _,_,0,_=> .nil
 | _,_,_+1,.nil=> .nil
 | _,_,n+1,.cons r t=> .cons r (zba.take n t)
theorem zba.drop: ∀ {xs:List V} {us:List Value} (n:Nat),zba xs us->zba (xs.drop n) (us.drop n)
 | _,_,0,r=>r
 | _,_,_+1,.nil=> .nil
 | _,_,n+1,.cons _ t=>zba.drop n t
def ztM:Option V->Option Value->Prop
 | some v,some u=>zbB v u
 | none,none=>True
 | _,_=>False
def KV {κ:Type}:List (κ×V)->List (κ×Value)->Prop:=Paired fun (p:κ×V) (q:κ×Value)=>p.1=q.1/\zbB p.2 q.2
def kV:Key->V
 | .inl i=> .int i
 | .inr x=> .str x
inductive HO where
 | lst (xs:List V)
 | tup (xs:List V)
 | dK (kvs:List (Key×V)) | dT (kvs:List (List Key×V))
 | set (S:Int->Bool) (n:Nat)
 | ins (C dx:Addr) (fs:List (Str×V))
 | own (x:Addr)
 | xd (fs:List (Str×V))
 | met (f x:Addr)
 | rng (lo hi:Int)
 | frz (o:Obj) (u:HO)
 | tbl (ps:Array Value)
 | ext (φ:Heap->Prop)
abbrev Hp:=Addr->Option HO
def upd (H:Hp) (a:Addr) (o:HO):Hp:=fun b=>if b=a then some o else H b
theorem zaR {H:Hp} {a:Addr} {o:HO}:upd H a o a=some o:=by unfold upd;rw [qa4 rfl]
theorem zax {H:Hp} {a b:Addr} {o:HO} (h:b≠a):upd H a o b=H b:=by unfold upd;rw [qa5 h]
theorem zaM {H:Hp} {a b:Addr} {o:HO} (h:H a=some o) (h':H b=none):a≠b:=by
 intro e;subst e;rw [h] at h';cases h'
def zkr (h:Heap) (a:Addr) (items:Array Value):Prop:= ∃ o,h.get? a=some o/\o.cls= .type "tuple"/\ ∃ n,o.data= .seq items n/\o.dict=none
theorem zkr.is {h:Heap} {a:Addr} {items:Array Value} (x:zkr h a items):IsTup h a items:=by
 obtain ⟨o,h1,h2,n,h3,_⟩:=x
 exact ⟨o,h1,h2,n,h3⟩
theorem zkr.new (h:Heap) (items:Array Value):zkr (h.push {cls:= .type "tuple",data:= .seq items}) h.objs.size items:=⟨_,qar _ rfl,rfl,_,rfl,rfl⟩
section
variable (P:Program) (w:World)
def zbG (H:Hp) (h:Heap) (a:Addr):HO->Prop
 | .lst xs=>xs.length<=sizeLine/\ ∃ (its:List Value) (n:Nat),zba xs its/\h.get? a=some {cls:= .type "list",data:= .seq its.toArray n}
 | .tup xs=>xs.length<=sizeLine/\ ∃ its:List Value,zba xs its/\zkr h a its.toArray
 | .dK kvs=>kvs.length<=sizeLine/\(a==sysModules)=false/\ ∃ vs,KV kvs vs/\h.DictOf (zk6 P w) a vs
 | .dT kvs=>kvs.length<=sizeLine/\(a==sysModules)=false/\ ∃ xs:List (List Key×Addr×Value),
   Paired (fun (p:List Key×V) (q:List Key×Addr×Value)=>p.1=q.1/\H q.2.1=some (.tup (p.1.map kV))/\zbB p.2 q.2.2) kvs xs/\
   ∃ o es ep,h.get? a=some o/\o.ExactDict/\o.data= .dict es ep/\es.toList=xs.map (entryOfKey (tupleKind (zk6 P w)))/\(xs.map (·.1)).Nodup
 | .set S n=>h.SetOf (intKind P w) a S n
 | .ins C dx fs=>H dx=some (.own a)/\fs.length<=1000/\dx≠a/\h.get? a=some (W.instObj C dx)/\
   ∃ mA,h.Ns1 dx mA/\(∀ f,ztM (fs.lookup f) (mA f))/\PySem.Within mA (fs.map (·.1))
 | .own _=> ∃ o,h.get? a=some o
 | .xd fs=> ∃ mA,h.Ns1 a mA/\ ∀ f,ztM (fs.lookup f) (mA f)
 | .rng lo hi=> ∃ t u v,h.get? a=some {cls:= .type "range",data:= .fields #[.int lo t,.int hi u,.int 1 v]}
 | .frz o u=>h.get? a=some o/\zbG H h a u
 | .tbl ps=>h.get? a=some {cls:= .none,data:= .fields ps}
 | .met f x=>h.get? a=some (W.methodObj (.ref f) (.ref x))
 | .ext φ=>φ h/\(∃ o,h.get? a=some o)/\ ∀ h1 h2:Heap,φ h1->(∀ o,h1.get? a=some o->h2.get? a=some o)->φ h2
def HOk (H:Hp) (h:Heap):Prop:= ∀ a o,H a=some o->zbG P w H h a o
end
section
variable {P:Program} {w:World} {H H':Hp} {h h':Heap} {a:Addr} {o:HO}
theorem zbG.lt (x:zbG P w H h a o):a<h.objs.size:=by
 cases o with
 | lst xs=>obtain ⟨_,_,_,_,e⟩:=x;exact qaQ e
 | tup xs=>obtain ⟨_,_,_,p⟩:=x;exact p.is.lt
 | dK kvs=>obtain ⟨_,_,_,_,o,_,_,e,_⟩:=x;exact qaQ e
 | dT kvs=>obtain ⟨_,_,_,_,o,_,_,e,_⟩:=x;exact qaQ e
 | set S n=>obtain ⟨o,_,_,_,e,_⟩:=x;exact qaQ e
 | ins C dx fs=>obtain ⟨_,_,_,e,_⟩:=x;exact qaQ e
 | own y=>obtain ⟨_,e⟩:=x;exact qaQ e
 | xd fs=>obtain ⟨_,⟨_,_,_,e,_⟩,_⟩:=x;exact qaQ e
 | rng lo hi=>obtain ⟨_,_,_,e⟩:=x;exact qaQ e
 | frz ob u=>obtain ⟨e,_⟩:=x;exact qaQ e
 | tbl ps=>exact qaQ (show h.get? a=some _ from x)
 | met f y=>exact qaQ (show h.get? a=some _ from x)
 | ext φ=>obtain ⟨_,⟨_,e⟩,_⟩:=x;exact qaQ e
theorem Paired.mapP {α β:Type} {F G:α->β->Prop}: ∀ {l₁:List α} {l₂:List β},Paired F l₁ l₂->(∀ a b,F a b->G a b)->Paired G l₁ l₂
 | _,_,.nil,_=> .nil
 | _,_,.cons r t,f=> .cons (f _ _ r) (Paired.mapP t f)
theorem zbG.stay (x:zbG P w H h a o) (k: ∀ b u,(b=a\/H b=some (.own a))->h.get? b=some u->h'.get? b=some u)
  (ho: ∀ b,H b=some (.own a)->H' b=some (.own a)) (ht: ∀ b xs,H b=some (.tup xs)->H' b=some (.tup xs)):zbG P w H' h' a o:=by
 induction o with
 | lst xs=>obtain ⟨z,its,n,r,e⟩:=x;exact ⟨z,its,n,r,k _ _ (.inl rfl) e⟩
 | tup xs=>obtain ⟨z,its,r,ob,e,c⟩:=x;exact ⟨z,its,r,ob,k _ _ (.inl rfl) e,c⟩
 | dK kvs=>obtain ⟨z,y,vs,r,ob,es,ep,e,c⟩:=x;exact ⟨z,y,vs,r,ob,es,ep,k _ _ (.inl rfl) e,c⟩
 | dT kvs=>
  obtain ⟨z,y,xs,r,ob,es,ep,e,c⟩:=x
  exact ⟨z,y,xs,Paired.mapP r fun p q z=>⟨z.1,ht _ _ z.2.1,z.2.2⟩,ob,es,ep,k _ _ (.inl rfl) e,c⟩
 | set S n=>obtain ⟨ob,es,ep,t,e,c⟩:=x;exact ⟨ob,es,ep,t,k _ _ (.inl rfl) e,c⟩
 | ins C dx fs=>
  obtain ⟨d,z,ne,e,mA,⟨od,es,ep,e2,c⟩,r⟩:=x
  exact ⟨ho _ d,z,ne,k _ _ (.inl rfl) e,mA,⟨od,es,ep,k _ _ (.inr d) e2,c⟩,r⟩
 | own y=>obtain ⟨ob,e⟩:=x;exact ⟨ob,k _ _ (.inl rfl) e⟩
 | xd fs=>obtain ⟨mA,⟨od,es,ep,e,c⟩,r⟩:=x;exact ⟨mA,⟨od,es,ep,k _ _ (.inl rfl) e,c⟩,r⟩
 | rng lo hi=>obtain ⟨t,u,v,e⟩:=x;exact ⟨t,u,v,k _ _ (.inl rfl) e⟩
 | frz ob u ih=>obtain ⟨e,q⟩:=x;exact ⟨k _ _ (.inl rfl) e,ih q⟩
 | tbl ps=>
  have e:h.get? a=some {cls:= .none,data:= .fields ps}:=x
  show h'.get? a=some {cls:= .none,data:= .fields ps}
  exact k a _ (.inl rfl) e
 | met f y=>
  have e:h.get? a=some (W.methodObj (.ref f) (.ref y)):=x
  show h'.get? a=some (W.methodObj (.ref f) (.ref y))
  exact k a _ (.inl rfl) e
 | ext φ=>obtain ⟨p,⟨o,e⟩,st⟩:=x;exact ⟨st _ _ p fun o q=>k _ _ (.inl rfl) q,⟨o,k _ _ (.inl rfl) e⟩,st⟩
theorem HOk.lt (x:HOk P w H h) (e:H a=some o):a<h.objs.size:=(x a o e).lt
theorem HOk.fresh (x:HOk P w H h) (e:h.objs.size<=a):H a=none:=by
 cases q:H a with
 | none=>rfl
 | some u=>exact absurd (qaw (x.lt q) e) (qaN _)
theorem HOk.kept (x:HOk P w H h) (k: ∀ b u,h.get? b=some u->h'.get? b=some u):HOk P w H h':=fun a o e=>
 (x a o e).stay (fun b u _ q=>k b u q) (fun _ q=>q) fun _ _ q=>q
theorem HOk.laid (x:HOk P w H h) (k: ∀ b u,h.get? b=some u->h'.get? b=some u) (hp:h.objs.size<=a) (new:zbG P w (upd H a o) h' a o):HOk P w (upd H a o) h':=fun b u e=>by
 have hn:=x.fresh hp
 by_cases hb:b=a
 ·subst hb;rw [zaR] at e;cases e;exact new
 ·rw [zax hb] at e
  exact (x b u e).stay (fun c v _ q=>k c v q) (fun c q=>by rw [zax (zaM q hn)];exact q) fun c xs q=>by rw [zax (zaM q hn)];exact q
end
def Rd (H:Hp) (a:Addr) (u:HO):Prop:=H a=some u\/ ∃ o,H a=some (.frz o u)
theorem Rd.ok {P:Program} {w:World} {H:Hp} {h:Heap} {a:Addr} {u:HO} (r:Rd H a u) (x:HOk P w H h):zbG P w H h a u:=by
 rcases r with r | ⟨o,r⟩
 ·exact x a u r
 ·obtain ⟨_,q⟩:=x a _ r
  exact q
def Mut:Option HO->Prop
 | some (.lst _)=>True
 | some (.dK _)=>True
 | some (.dT _)=>True
 | some (.set _ _)=>True
 | some (.ins _ _ _)=>True
 | some (.ext _)=>True
 | _=>False
section
variable {P:Program} {w:World} {H:Hp} {h h':Heap} {x e:Addr} {o':HO}
theorem HOk.write (ok:HOk P w H h) (mu:Mut (H x)) (he:e=x\/H e=some (.own x)) (k: ∀ b u,b≠e->h.get? b=some u->h'.get? b=some u) (heo: ∃ u,h'.get? e=some u)
  (new:zbG P w (upd H x o') h' x o'):HOk P w (upd H x o') h':=fun b u q=>by
 have nown: ∀ c y,H c=some (.own y)->c≠x:=fun c y r z=>by subst z;rw [r] at mu;exact mu
 have ntup: ∀ c xs,H c=some (.tup xs)->c≠x:=fun c xs r z=>by subst z;rw [r] at mu;exact mu
 by_cases hb:b=x
 ·subst hb;rw [zaR] at q;cases q;exact new
 ·rw [zax hb] at q
  by_cases hbe:b=e
  ·have q':H b=some (.own x):=by
    rcases he with z | z
    ·exact absurd (hbe.trans z) hb
    ·rw [hbe];exact z
   rw [q] at q';cases q'
   obtain ⟨v,hv⟩:=heo
   exact ⟨v,by rw [hbe];exact hv⟩
  ·refine (ok b u q).stay (fun c v hc r=>k c v ?_ r) (fun c r=>by rw [zax (nown c b r)];exact r) fun c xs r=>by rw [zax (ntup c xs r)];exact r
   rcases hc with rfl | hc
   ·exact hbe
   ·rintro rfl
    rcases he with z | z
    ·exact nown c b hc z
    ·rw [hc] at z;cases z;exact hb rfl
end
structure Un (fs ex:List Addr) (H H':Hp) (h h':Heap):Prop where
 keep: ∀ b o,h.get? b=some o->H b=none->b∉fs->b∉ex->h'.get? b=some o
 slot: ∀ b o,h.get? b=some o->H b=none->b∈fs->b∉ex-> ∃ sl,h'.get? b=some {o with slots:=sl}
 free: ∀ b o,h.get? b=some o->H b=none->b∉ex->H' b=none
 there: ∀ b o,h.get? b=some o->b∉ex-> ∃ o',h'.get? b=some o'
 tups: ∀ b xs,H b=some (.tup xs)->H' b=some (.tup xs)
 frzs: ∀ b o u,H b=some (.frz o u)->H' b=some (.frz o u)
 tbls: ∀ b ps,H b=some (.tbl ps)-> ∃ more,H' b=some (.tbl (ps++more))
section
variable {fs fs' ex ex':List Addr} {H H1 H2:Hp} {h h1 h2 h':Heap} {a x e:Addr} {o:HO}
theorem Un.any (u:Un fs ex H H1 h h1) {b:Addr} {ob:Obj} (q:h.get? b=some ob) (n:H b=none) (hx:b∉ex): ∃ sl,h1.get? b=some {ob with slots:=sl}:=by
 by_cases hb:b∈fs
 ·exact u.slot b ob q n hb hx
 ·exact ⟨ob.slots,u.keep b ob q n hb hx⟩
theorem Un.trans (a:Un fs ex H H1 h h1) (b:Un fs ex H1 H2 h1 h2):Un fs ex H H2 h h2 where
 keep:=fun c ob q n hc hx=>b.keep c ob (a.keep c ob q n hc hx) (a.free c ob q n hx) hc hx
 slot:=fun c ob q n hc hx=>by
  obtain ⟨sl,e1⟩:=a.slot c ob q n hc hx
  obtain ⟨sl',e2⟩:=b.slot c _ e1 (a.free c ob q n hx) hc hx
  exact ⟨sl',e2⟩
 free:=fun c ob q n hx=>by
  obtain ⟨o',e1⟩:=a.there c ob q hx
  exact b.free c o' e1 (a.free c ob q n hx) hx
 there:=fun c ob q hx=>by
  obtain ⟨o',e1⟩:=a.there c ob q hx
  exact b.there c o' e1 hx
 tups:=fun c xs q=>b.tups c xs (a.tups c xs q)
 frzs:=fun c ob xs q=>b.frzs c ob xs (a.frzs c ob xs q)
 tbls:=fun c ps q=>by
  obtain ⟨m1,e1⟩:=a.tbls c ps q
  obtain ⟨m2,e2⟩:=b.tbls c _ e1
  exact ⟨m1++m2,by rw [e2,Array.append_assoc]⟩
theorem Un.kept (k: ∀ b u,h.get? b=some u->h'.get? b=some u):Un fs ex H H h h':=
 ⟨fun b ob q _ _ _=>k b ob q,fun b ob q _ _ _=>⟨ob.slots,k b ob q⟩,fun _ _ _ n _=>n,fun b ob q _=>⟨ob,k b ob q⟩,fun _ _ q=>q,fun _ _ _ q=>q,fun _ ps q=>⟨#[],by rw [q];simp⟩⟩
theorem Un.refl:Un fs ex H H h h:=Un.kept fun _ _ q=>q
theorem Un.laid (k: ∀ b u,h.get? b=some u->h'.get? b=some u) (hp:h.objs.size<=a) (hn:H a=none):Un fs ex H (upd H a o) h h' where
 keep:=fun b u q _ _ _=>k b u q
 slot:=fun b u q _ _ _=>⟨u.slots,k b u q⟩
 free:=fun b u q n _=>by rw [zax (qaR (qaw (qaQ q) hp))];exact n
 there:=fun b u q _=>⟨u,k b u q⟩
 tups:=fun b xs q=>by rw [zax (zaM q hn)];exact q
 frzs:=fun b u xs q=>by rw [zax (zaM q hn)];exact q
 tbls:=fun b ps q=>⟨#[],by rw [zax (zaM q hn),q];simp⟩
theorem Un.write (mu:Mut (H x)) (he:e=x\/H e=some (.own x)) (k: ∀ b u,b≠e->h.get? b=some u->h'.get? b=some u) (heo: ∃ u,h'.get? e=some u):Un fs ex H (upd H x o) h h':=by
 have hx: ∀ b,H b=none->b≠x:=fun b n z=>by subst z;rw [n] at mu;exact mu
 have hb: ∀ b,H b=none->b≠e:=fun b n z=>by
  subst z
  rcases he with r | r
  ·exact hx b n r
  ·rw [n] at r;cases r
 have hm: ∀ b u,H b=some u-> ¬Mut (some u)->b≠x:=fun b u q nm z=>by subst z;rw [q] at mu;exact nm mu
 refine ⟨fun b u q n _ _=>k b u (hb b n) q,fun b u q n _ _=>⟨u.slots,k b u (hb b n) q⟩,fun b u q n _=>by rw [zax (hx b n)];exact n,fun b u q _=> ?_,
   fun b xs q=>by rw [zax (hm b _ q fun z=>z)];exact q,fun b u xs q=>by rw [zax (hm b _ q fun z=>z)];exact q,fun b ps q=>⟨#[],by rw [zax (hm b _ q fun z=>z),q];simp⟩⟩
 by_cases hbe:b=e
 ·subst hbe;exact heo
 ·exact ⟨u,k b u hbe q⟩
end
def trk (h:Heap) (H:Hp):List Addr:=(List.range h.objs.size).filter fun a=>(H a).isSome
def znQ (h:Heap) (H:Hp):Heap:=W.hideAll h (trk h H)
theorem zk2 (h:Heap) (H:Hp):(znQ h H).objs.size=h.objs.size:=W.hideAll_size _ _
theorem znX {h:Heap} {H:Hp} {b:Addr} {o:Obj} (e:h.get? b=some o) (n:H b=none):(znQ h H).get? b=some o:=
 W.hideAll_get _ e fun hm=>by
  have q:(H b).isSome=true:=(List.mem_filter.mp hm).2
  rw [n] at q;simp at q
theorem zqG {h:Heap} {H:Hp} {b:Addr} {o:Obj} (e:(znQ h H).get? b=some o):h.get? b=some o/\H b=none:=by
 have e':h.get? b=some o:=W.of_hideAll (trk h H) e
 refine ⟨e',?_⟩
 cases q:H b with
 | none=>rfl
 | some x=>
  have hm:b∈trk h H:=List.mem_filter.mpr ⟨List.mem_range.mpr (qaQ e'),by simp [q]⟩
  have z:(znQ h H).get? b=none:=W.hideAll_none (trk h H) hm
  rw [z] at e;cases e
def zqf (g h:Heap) (L:Addr):List (Addr×Obj):=(List.range h.objs.size).filterMap fun a=>if a=L\/(g.get? a).isSome=true then none else (h.get? a).map fun o=>(a,o)
def rest (g h:Heap) (L d:Addr):List (Addr×Obj):=(zqf g h L).filter fun p=>decide (p.1≠d)
structure Mod (K:W.Frag) (mg:Str->Option Value) (base:Heap):Prop where
 kin:K.In base
 glob:base.Ns mainGlobals mg
 blt: ∃ mb,base.Ns builtinsNs mb/\ ∀ x:Str,x≠"__name__"->mb x=bootBuiltins x
 nolimit:base.NoLimit
structure Cx where
 prog:Program
 w:World
 K:W.Frag
 mg:Str->Option Value
 base:Heap
 A:Around
 N:List Str
 s₀:Shared
 H₀:Hp
 env:Env
 outer:List Env
 stack:List Env
 ex:List Addr
 fn:Str->Bool
 calm:Bool
 pn:List (Addr×Obj)
 xe:Value->Shared->Prop
def frs (l:List Env):List Addr:=l.filterMap (·.frame)
abbrev Cx.fs (X:Cx):List Addr:=frs X.outer
def Vis (sc:Scope) (x:Str):Prop:=sc.names.lookup x=some .local\/sc.names.lookup x=some .cell\/sc.names.lookup x=some .free
def Loc (sc:Scope) (x:Str):Prop:=sc.names.lookup x=some .local\/sc.names.lookup x=some .cell
def zvs (env:Env) (h:Heap) (m:Str->Option Value) (x:Str) (u:Value):Prop:=
 (env.kindOf x=some .local/\m x=some u)\/((env.kindOf x=some .cell\/env.kindOf x=some .free)/\ ∃ c,env.cells.lookup x=some c/\h.IsCell c (some u))
def zg6 (A:Around) (H:Hp):Prop:=A.handled=none\/ ∃ a o cls head vs,A.handled=some (.ref a)/\H a=some (.frz o (.own 0))/\o.cls=cls/\o.dict=none/\o.data= .fields vs/\vs[2]? = some .none/\vs[1]? = some head
structure Cx.Ok (X:Cx):Prop where
 mod:Mod X.K X.mg X.base
 kind:X.env.scope.kind= .function
 glob:X.env.globals=mainGlobals
 blt:X.env.builtins=builtinsNs
 above:X.s₀.heap.objs.size<=X.env.locals
 inj: ∀ x y c,X.env.cells.lookup x=some c->X.env.cells.lookup y=some c->x=y
 has: ∀ x,(X.env.kindOf x=some .cell\/X.env.kindOf x=some .free)-> ∃ c,X.env.cells.lookup x=some c
 cab: ∀ x c,X.fn x=true->X.env.cells.lookup x=some c->X.s₀.heap.objs.size<=c
 hd:X.calm=true->X.A.handled=none
 hx:zg6 X.A X.H₀
 frames:X.A.frames=some X.stack
 stk:X.stack=X.outer\/(X.stack=X.env::X.outer/\X.env.frame=some X.env.locals)
 exf: ∀ b∈X.ex,b≠X.env.locals/\ ∀ x c,X.env.cells.lookup x=some c->c≠b
 bs: ∀ b o,X.base.get? b=some o->X.s₀.heap.get? b=some o/\X.H₀ b=none
 bsz:X.base.objs.size<=X.s₀.heap.objs.size
 noex: ∀ b o,X.base.get? b=some o->b∉X.ex
 exfs: ∀ b∈X.ex,b∉X.fs
 funs:X.s₀.heap.FunFrames X.base X.outer
 frf: ∀ b∈X.fs,X.H₀ b=none
structure Inv (X:Cx) (pins:List (Addr×Obj)) (σ:List (Option V)) (H:Hp) (s:Shared):Prop where
 ok:X.Ok
 os:s.os=X.s₀.os
 bare:AllBare s.gens
 base:Un X.fs X.ex X.H₀ H X.s₀.heap s.heap
 loc: ∃ m,s.heap.Ns X.env.locals m/\ ∀ (i:Nat) (x:Str) (v:V),X.N[i]? = some x->σ[i]? = some (some v)->Vis X.env.scope x-> ∃ u,zbB v u/\zvs X.env s.heap m x u
 cell: ∀ x c,X.env.cells.lookup x=some c-> ∃ v,s.heap.IsCell c v
 free:H X.env.locals=none
 freeC: ∀ x c,X.env.cells.lookup x=some c->H c=none
 pin: ∀ p∈X.pn++pins,s.heap.get? p.1=some p.2/\H p.1=none/\p.1≠X.env.locals/\p.1∉X.fs/\ ∀ v,p.2.data≠ .cell v
 hok:HOk X.prog X.w H s.heap
 len:σ.length=X.N.length
section
variable {X:Cx} {pins:List (Addr×Obj)} {σ:List (Option V)} {H H':Hp} {s:Shared} {h':Heap}
theorem Cx.Ok.nofr (ok:X.Ok) {b:Addr} {o:Obj} (e:X.base.get? b=some o):b∉X.fs:=fun hb=>by
 have:=(ok.funs.mem hb).1
 rw [e] at this;cases this
theorem Inv.bs (I:Inv X pins σ H s): ∀ b o,X.base.get? b=some o->s.heap.get? b=some o/\H b=none:=fun b o e=>
 ⟨I.base.keep b o (I.ok.bs b o e).1 (I.ok.bs b o e).2 (I.ok.nofr e) (I.ok.noex b o e),I.base.free b o (I.ok.bs b o e).1 (I.ok.bs b o e).2 (I.ok.noex b o e)⟩
theorem Inv.bk (I:Inv X pins σ H s): ∀ b o,X.base.get? b=some o->s.heap.get? b=some o:=fun b o e=>(I.bs b o e).1
theorem Inv.mod (I:Inv X pins σ H s):Mod X.K X.mg X.base:=I.ok.mod
theorem Inv.kIn (I:Inv X pins σ H s):X.K.In s.heap:=I.ok.mod.kin.keeps I.bk
theorem Inv.lt (I:Inv X pins σ H s):X.env.locals<s.heap.objs.size:=let ⟨_,hn,_⟩:=I.loc;hn.lt
theorem Inv.sz (I:Inv X pins σ H s):X.s₀.heap.objs.size<=s.heap.objs.size:=qaS I.ok.above (Nat.le_of_lt I.lt)
theorem Inv.nofs (I:Inv X pins σ H s) {a:Addr} (h:s.heap.objs.size<=a):a∉X.fs:=fun hb=>by
 obtain ⟨_,o,ho,_⟩:=I.ok.funs.mem hb
 exact absurd (qaw (qaQ ho) (qaS I.sz h)) (qaN _)
theorem Inv.cne (I:Inv X pins σ H s): ∀ x c,X.env.cells.lookup x=some c->c≠X.env.locals:=fun x c e z=>by
 obtain ⟨v,o,ho,hd⟩:=I.cell x c e
 obtain ⟨m,⟨o',es,ep,ho',hd',_⟩,_⟩:=I.loc
 rw [z,ho'] at ho;cases ho;rw [hd'] at hd;cases hd
theorem Inv.funs (I:Inv X pins σ H s):s.heap.FunFrames X.base X.outer:=by
 have all: ∀ (l:List Env),(∀ b∈frs l,b∈X.fs)->X.s₀.heap.FunFrames X.base l->s.heap.FunFrames X.base l:=by
  intro l
  induction l with
  | nil=>intro _ _;trivial
  | cons env r ih=>
   intro hs hl
   obtain ⟨hk,⟨L,o,hf,hn,ho,hd⟩,hr⟩:=hl
   have hL:L∈X.fs:=hs L (by unfold frs;rw [qat,hf];exact qau)
   obtain ⟨sl,e⟩:=I.base.slot L o ho (I.ok.frf L hL) hL fun z=>I.ok.exfs L z hL
   exact ⟨hk,⟨L,_,hf,hn,e,hd⟩,ih (fun b hb=>hs b (by unfold frs;rw [qat,hf];exact qan _ hb)) hr⟩
 exact all X.outer (fun _ hb=>hb) I.ok.funs
theorem Inv.stack (I:Inv X pins σ H s):s.heap.FunFrames X.base X.stack:=by
 rcases I.ok.stk with e | ⟨e,hf⟩
 ·rw [e];exact I.funs
 ·rw [e]
  obtain ⟨m,hn,_⟩:=I.loc
  refine .cons (by rw [I.ok.kind];decide) hf hn ?_ I.funs
  exact Heap.get?_none_of_le (qaS I.ok.bsz I.ok.above)
theorem Inv.stkSub (I:Inv X pins σ H s): ∀ b∈frs X.stack,b∈X.env.locals::X.fs:=fun b hb=>by
 rcases I.ok.stk with e | ⟨e,hf⟩
 ·rw [e] at hb;exact qan _ hb
 ·rw [e] at hb
  unfold frs at hb
  rw [qat,hf] at hb
  exact hb
theorem Inv.stkFree (I:Inv X pins σ H s): ∀ b∈frs X.stack,H b=none:=fun b hb=>by
 rcases qaP.mp (I.stkSub b hb) with e | hb
 ·rw [e];exact I.free
 ·obtain ⟨_,o,ho,_⟩:=I.ok.funs.mem hb
  exact I.base.free b o ho (I.ok.frf b hb) fun z=>I.ok.exfs b z hb
theorem Inv.step {g':Array GenState} {t':Nat} {d':Drawn} {ch:List Addr} (I:Inv X pins σ H s)
  (hch: ∀ b∈ch,(b∈X.ex\/X.s₀.heap.objs.size<=b)/\b≠X.env.locals/\(∀ x c,X.env.cells.lookup x=some c->c≠b)/\ ∀ p∈X.pn++pins,p.1≠b)
  (keep: ∀ b o,b≠X.env.locals->b∉X.fs->b∉ch->s.heap.get? b=some o->H b=none->h'.get? b=some o)
  (slot: ∀ b o,b≠X.env.locals->b∈X.fs->b∉ch->s.heap.get? b=some o->H b=none-> ∃ sl,h'.get? b=some {o with slots:=sl}) (free: ∀ b o,b∉ch->s.heap.get? b=some o->H b=none->H' b=none)
  (there: ∀ b o,b∉ch->s.heap.get? b=some o-> ∃ o',h'.get? b=some o')
  (tups: ∀ b xs,H b=some (.tup xs)->H' b=some (.tup xs)) (frzs: ∀ b o u,H b=some (.frz o u)->H' b=some (.frz o u)) (tbls: ∀ b ps,H b=some (.tbl ps)-> ∃ more,H' b=some (.tbl (ps++more)))
  (ns: ∀ m,s.heap.Ns X.env.locals m->h'.Ns X.env.locals m) (hok:HOk X.prog X.w H' h') (hg:AllBare g'):
  Inv X pins σ H' {s with heap:=h',gens:=g',drawn:=d',toks:=t'}:=by
 have neL: ∀ b o,X.s₀.heap.get? b=some o->b≠X.env.locals:=fun b o e=>qaR (qaw (qaQ e) I.ok.above)
 have neC: ∀ b o,X.s₀.heap.get? b=some o->b∉X.ex->b∉ch:=fun b o e hx hb=>by
  rcases (hch b hb).1 with z | z
  ·exact hx z
  ·exact absurd (qaw (qaQ e) z) (qaN _)
 have cellK: ∀ x c,X.env.cells.lookup x=some c-> ∀ v,s.heap.IsCell c v->h'.IsCell c v:=fun x c e v ⟨o,ho,hd⟩=>by
  have nch:c∉ch:=fun z=>(hch c z).2.2.1 x c e rfl
  by_cases hc:c∈X.fs
  ·obtain ⟨sl,q⟩:=slot c o (I.cne x c e) hc nch ho (I.freeC x c e)
   exact ⟨_,q,hd⟩
  ·exact ⟨o,keep c o (I.cne x c e) hc nch ho (I.freeC x c e),hd⟩
 refine ⟨I.ok,I.os,hg,⟨fun b o e n hb hx=> ?_,fun b o e n hb hx=> ?_,fun b o e n hx=> ?_,fun b o e hx=> ?_,fun b xs e=>tups b xs (I.base.tups b xs e),fun b o xs e=>frzs b o xs (I.base.frzs b o xs e),fun b ps e=> ?_⟩,?_,fun x c e=> ?_,?_,fun x c e=> ?_,fun p hp=> ?_,hok,I.len⟩
 ·exact keep b o (neL b o e) hb (neC b o e hx) (I.base.keep b o e n hb hx) (I.base.free b o e n hx)
 ·obtain ⟨sl,e1⟩:=I.base.slot b o e n hb hx
  obtain ⟨sl',e2⟩:=slot b _ (neL b o e) hb (neC b o e hx) e1 (I.base.free b o e n hx)
  exact ⟨sl',e2⟩
 ·obtain ⟨o',e1⟩:=I.base.there b o e hx
  exact free b o' (neC b o e hx) e1 (I.base.free b o e n hx)
 ·obtain ⟨o',e1⟩:=I.base.there b o e hx
  exact there b o' (neC b o e hx) e1
 ·obtain ⟨m1,e1⟩:=I.base.tbls b ps e
  obtain ⟨m2,e2⟩:=tbls b _ e1
  exact ⟨m1++m2,by rw [e2,Array.append_assoc]⟩
 ·obtain ⟨m,hn,hl⟩:=I.loc
  refine ⟨m,ns m hn,fun i x v e1 e2 e3=> ?_⟩
  obtain ⟨u,r,l⟩:=hl i x v e1 e2 e3
  refine ⟨u,r,?_⟩
  rcases l with l | ⟨k,c,e,z⟩
  ·exact .inl l
  ·exact .inr ⟨k,c,e,cellK x c e _ z⟩
 ·obtain ⟨v,z⟩:=I.cell x c e
  exact ⟨v,cellK x c e v z⟩
 ·obtain ⟨m,⟨o,_,_,ho,_⟩,_⟩:=I.loc
  exact free _ o (fun z=>(hch _ z).2.1 rfl) ho I.free
 ·obtain ⟨v,o,ho,hd⟩:=I.cell x c e
  exact free c o (fun z=>(hch c z).2.2.1 x c e rfl) ho (I.freeC x c e)
 ·obtain ⟨e,n,ne,nf,d⟩:=I.pin p hp
  have nch:p.1∉ch:=fun z=>(hch p.1 z).2.2.2 p hp rfl
  exact ⟨keep p.1 p.2 ne nf nch e n,free p.1 p.2 nch e n,ne,nf,d⟩
theorem Inv.un {t':Nat} (I:Inv X pins σ H s) (u:Un X.fs [] H H' s.heap h') (hok:HOk X.prog X.w H' h'):Inv X pins σ H' {s with heap:=h',toks:=t'}:=by
 obtain ⟨m,⟨o,es,ep,ho,r⟩,_⟩:=id I.loc
 obtain ⟨sl,hL⟩:=u.any ho I.free (by simp)
 exact I.step (g':=s.gens) (d':=s.drawn) (ch:=[]) (fun _ z=>nomatch z) (fun b o _ hb _ e n=>u.keep b o e n hb (by simp)) (fun b o _ hb _ e n=>u.slot b o e n hb (by simp)) (fun b o _ e n=>u.free b o e n (by simp)) (fun b o _ e=>u.there b o e (by simp)) u.tups u.frzs u.tbls (fun m' hm=>by
   obtain ⟨o',es',ep',ho',r'⟩:=hm
   rw [ho] at ho';cases ho'
   exact ⟨_,es',ep',hL,r'⟩) hok I.bare
theorem Inv.call {g':Array GenState} {t':Nat} {d':Drawn} {ch:List Addr} (I:Inv X pins σ H s) (u:Un (frs X.stack) ch H H' s.heap h') (hok:HOk X.prog X.w H' h') (hg:AllBare g')
  (hch: ∀ b∈ch,(b∈X.ex\/X.s₀.heap.objs.size<=b)/\b≠X.env.locals/\(∀ x c,X.env.cells.lookup x=some c->c≠b)/\ ∀ p∈X.pn++pins,p.1≠b):
  Inv X pins σ H' {s with heap:=h',gens:=g',drawn:=d',toks:=t'}:=by
 obtain ⟨m,⟨o,es,ep,ho,r⟩,_⟩:=id I.loc
 obtain ⟨sl,hL⟩:=u.any ho I.free fun z=>(hch _ z).2.1 rfl
 exact I.step (ch:=ch) hch (fun b o hL hb hc e n=>u.keep b o e n (fun z=>(qaP.mp (I.stkSub b z)).elim hL hb) hc) (fun b o _ _ hc e n=>u.any e n hc) (fun b o hc e n=>u.free b o e n hc) (fun b o hc e=>u.there b o e hc) u.tups u.frzs u.tbls (fun m' hm=>by
   obtain ⟨o',es',ep',ho',r'⟩:=hm
   rw [ho] at ho';cases ho'
   exact ⟨_,es',ep',hL,r'⟩) hok hg
theorem Inv.turned {t':Nat} {it:Addr} (I:Inv X pins σ H s) (k: ∀ b o,b≠it->s.heap.get? b=some o->h'.get? b=some o) (hn:H it=none) (hL:it≠X.env.locals)
  (h1:it∈X.ex\/X.s₀.heap.objs.size<=it) (h2: ∀ x c,X.env.cells.lookup x=some c->c≠it) (h3: ∀ p∈X.pn++pins,p.1≠it):Inv X pins σ H {s with heap:=h',toks:=t'}:=by
 have nit: ∀ b u,H b=some u->b≠it:=fun b u e z=>by rw [z,hn] at e;cases e
 refine I.step (g':=s.gens) (d':=s.drawn) (ch:=[it]) (fun b hb=> ?_) (fun b o _ _ hc e _=>k b o (fun z=>hc (by simp [z])) e) (fun b o _ _ hc e _=>⟨o.slots,k b o (fun z=>hc (by simp [z])) e⟩) (fun _ _ _ _ n=>n)
  (fun b o hc e=>⟨o,k b o (fun z=>hc (by simp [z])) e⟩) (fun _ _ e=>e) (fun _ _ _ e=>e) (fun b ps e=>⟨#[],by rw [e];simp⟩) (fun m hm=> ?_) (fun b u e=> ?_) I.bare
 ·have e:b=it:=by simpa using hb
  subst e
  exact ⟨h1,hL,h2,h3⟩
 ·obtain ⟨o,es,ep,ho,r⟩:=hm
  exact ⟨o,es,ep,k _ o (Ne.symm hL) ho,r⟩
 ·refine (I.hok b u e).stay (fun c v hc q=>k c v ?_ q) (fun _ q=>q) fun _ _ q=>q
  rcases hc with z | z
  ·rw [z];exact nit b u e
  ·exact nit c _ z
theorem Inv.tok (I:Inv X pins σ H s) (t:Nat):Inv X pins σ H {s with toks:=t}:=I.un (h':=s.heap) (t':=t) Un.refl I.hok
theorem Inv.kept {t':Nat} (I:Inv X pins σ H s) (k: ∀ b u,s.heap.get? b=some u->h'.get? b=some u):Inv X pins σ H {s with heap:=h',toks:=t'}:=I.un (Un.kept k) (I.hok.kept k)
theorem Inv.laid {a:Addr} {o:HO} {t':Nat} (I:Inv X pins σ H s) (k: ∀ b u,s.heap.get? b=some u->h'.get? b=some u) (hp:s.heap.objs.size<=a) (new:zbG X.prog X.w (upd H a o) h' a o):
  Inv X pins σ (upd H a o) {s with heap:=h',toks:=t'}:=I.un (Un.laid k hp (I.hok.fresh hp)) (I.hok.laid k hp new)
theorem Inv.write {x e:Addr} {o:HO} {t':Nat} (I:Inv X pins σ H s) (mu:Mut (H x)) (he:e=x\/H e=some (.own x)) (k: ∀ b u,b≠e->s.heap.get? b=some u->h'.get? b=some u) (heo: ∃ u,h'.get? e=some u)
  (new:zbG X.prog X.w (upd H x o) h' x o):Inv X pins σ (upd H x o) {s with heap:=h',toks:=t'}:=I.un (Un.write mu he k heo) (I.hok.write mu he k heo new)
theorem Inv.pins_of {pins':List (Addr×Obj)} (I:Inv X pins σ H s) (h: ∀ p∈pins',s.heap.get? p.1=some p.2/\H p.1=none/\p.1≠X.env.locals/\p.1∉X.fs/\ ∀ v,p.2.data≠ .cell v):Inv X pins' σ H s:=
 ⟨I.ok,I.os,I.bare,I.base,I.loc,I.cell,I.free,I.freeC,fun p hp=>(qaK.mp hp).elim (fun z=>I.pin p (List.mem_append_left _ z)) (h p),I.hok,I.len⟩
theorem zgr {N:List Str} (hN:N.Nodup) {i j:Nat} {x:Str} (a:N[i]? = some x) (b:N[j]? = some x):i=j:=by
 obtain ⟨h1,e1⟩:=qac.mp a
 obtain ⟨h2,e2⟩:=qac.mp b
 exact (List.getElem_inj hN).mp (e1.trans e2.symm)
theorem zhL {M:Model} {A:Around} {E:Value->Shared->Prop} {i:Nat} {x:Str} {v:V} {u:Value} {Q:Unit->Shared->Prop} (I:Inv X pins σ H s) (hN:X.N.Nodup) (hi:X.N[i]? = some x) (hx:Loc X.env.scope x) (r:zbB v u)
  (h: ∀ s',Inv X pins (σ.set i (some v)) H s'->(∃ a,Heap.SameBut a s.heap s'.heap/\(a=X.env.locals\/X.env.cells.lookup x=some a))->Q () s') (hf:X.fn x=true\/X.env.scope.names.lookup x=some .local:=by first | exact .inl rfl | exact .inr rfl | assumption):wpAny M A (storeName X.env x u) Q E s:=by
 obtain ⟨m,hn,hl⟩:=id I.loc
 have hcls:(X.env.scope.kind== .class || (X.env.scope.kind== .module && X.env.locals != X.env.globals))=false:=by rw [I.ok.kind];rfl
 have hiσ:i<σ.length:=by rw [I.len];exact (qac.mp hi).1
 have cne:=I.cne
 have tracked: ∀ {a:Addr} {h':Heap},(∃ o,s.heap.get? a=some o/\H a=none)->Heap.SameBut a s.heap h'->HOk X.prog X.w H h':=fun {a h'} ha hs b ob e=>by
  obtain ⟨_,_,hfree⟩:=ha
  refine (I.hok b ob e).stay (fun c w' hc q=>(hs.2 c ?_).trans q) (fun _ q=>q) fun _ _ q=>q
  rintro rfl
  rcases hc with rfl | hc
  ·rw [hfree] at e;cases e
  ·rw [hfree] at hc;cases hc
 rcases hx with hk | hk
 ·refine wpAny_storeName_local hk hn (fun h' hn' hs=> ?_) hcls
  obtain ⟨oL,_,_,hoL,_⟩:=id hn
  refine h _ ⟨I.ok,I.os,I.bare,⟨fun b o e n hb hx=> ?_,fun b o e n hb hx=> ?_,I.base.free,fun b o e hx=> ?_,I.base.tups,I.base.frzs,I.base.tbls⟩,⟨_,hn',fun j y v' e1 e2 e3=> ?_⟩,fun y c e=> ?_,I.free,I.freeC,fun p hp=> ?_,tracked ⟨oL,hoL,I.free⟩ hs,by simpa using I.len⟩ ⟨_,hs,.inl rfl⟩
  ·exact (hs.2 b (qaR (qaw (qaQ e) I.ok.above))).trans (I.base.keep b o e n hb hx)
  ·obtain ⟨sl,e1⟩:=I.base.slot b o e n hb hx
   exact ⟨sl,(hs.2 b (qaR (qaw (qaQ e) I.ok.above))).trans e1⟩
  ·obtain ⟨o',e1⟩:=I.base.there b o e hx
   exact ⟨o',(hs.2 b (qaR (qaw (qaQ e) I.ok.above))).trans e1⟩
  ·by_cases hj:j=i
   ·subst hj
    rw [hi] at e1;cases e1
    rw [qai hiσ] at e2
    cases e2
    exact ⟨u,r,.inl ⟨hk,by simp⟩⟩
   ·rw [qao (Ne.symm hj)] at e2
    obtain ⟨u',r',q⟩:=hl j y v' e1 e2 e3
    refine ⟨u',r',?_⟩
    rcases q with ⟨k,e⟩ | ⟨k,c,e,z⟩
    ·refine .inl ⟨k,?_⟩
     have:y≠x:=fun e=>hj (zgr hN e1 (e▸hi))
     simp [this,e]
    ·exact .inr ⟨k,c,e,z.sameBut hs (cne y c e)⟩
  ·obtain ⟨w',z⟩:=I.cell y c e
   exact ⟨w',z.sameBut hs (cne y c e)⟩
  ·obtain ⟨e,n,ne,nf,d⟩:=I.pin p hp
   exact ⟨(hs.2 p.1 ne).trans e,n,ne,nf,d⟩
 ·have hfn:X.fn x=true:=by
   rcases hf with z | z
   ·exact z
   ·rw [z] at hk;cases hk
  obtain ⟨c,hc⟩:=I.ok.has x (.inl hk)
  obtain ⟨w',z⟩:=I.cell x c hc
  refine wpAny_storeName_cell I.ok.kind hk hc z (fun h' hc' hs=> ?_)
  obtain ⟨oc,hoc,hocd⟩:=id z
  refine h {s with heap:=h'} ⟨I.ok,I.os,I.bare,⟨fun b o e n hb hx=> ?_,fun b o e n hb hx=> ?_,I.base.free,fun b o e hx=> ?_,I.base.tups,I.base.frzs,I.base.tbls⟩,⟨m,hn.sameBut hs (Ne.symm (cne x c hc)),fun j y v' e1 e2 e3=> ?_⟩,fun y c' e=> ?_,I.free,I.freeC,fun p hp=> ?_,tracked ⟨oc,hoc,I.freeC x c hc⟩ hs,by simpa using I.len⟩ ⟨c,hs,.inr hc⟩
  ·exact (hs.2 b (qaR (qaw (qaQ e) (I.ok.cab x c hfn hc)))).trans (I.base.keep b o e n hb hx)
  ·obtain ⟨sl,e1⟩:=I.base.slot b o e n hb hx
   exact ⟨sl,(hs.2 b (qaR (qaw (qaQ e) (I.ok.cab x c hfn hc)))).trans e1⟩
  ·obtain ⟨o',e1⟩:=I.base.there b o e hx
   exact ⟨o',(hs.2 b (qaR (qaw (qaQ e) (I.ok.cab x c hfn hc)))).trans e1⟩
  ·by_cases hj:j=i
   ·subst hj
    rw [hi] at e1;cases e1
    rw [qai hiσ] at e2
    cases e2
    exact ⟨u,r,.inr ⟨.inl hk,c,hc,hc'⟩⟩
   ·rw [qao (Ne.symm hj)] at e2
    obtain ⟨u',r',q⟩:=hl j y v' e1 e2 e3
    refine ⟨u',r',?_⟩
    rcases q with q | ⟨k,c',e,z'⟩
    ·exact .inl q
    ·refine .inr ⟨k,c',e,z'.sameBut hs ?_⟩
     rintro rfl
     exact hj (zgr hN e1 (I.ok.inj _ _ _ e hc▸hi))
  ·by_cases hcc:c'=c
   ·subst hcc;exact ⟨_,hc'⟩
   ·obtain ⟨w2,z2⟩:=I.cell y c' e
    exact ⟨w2,z2.sameBut hs hcc⟩
  ·obtain ⟨e,n,ne,nf,d⟩:=I.pin p hp
   refine ⟨(hs.2 p.1 ?_).trans e,n,ne,nf,d⟩
   intro q
   rw [q,hoc] at e
   have q':oc=p.2:=Option.some.inj e
   exact d w' (by rw [<- q'];exact hocd)
theorem zdS {M:Model} {A:Around} {E:Value->Shared->Prop} {i:Nat} {x:Str} {v:V} {u:Value} {Q:Unit->Shared->Prop} (I:Inv X pins σ H s) (hN:X.N.Nodup) (hi:X.N[i]? = some x) (hx:Loc X.env.scope x) (r:zbB v u)
  (h: ∀ s',Inv X pins (σ.set i (some v)) H s'->Q () s') (hf:X.fn x=true\/X.env.scope.names.lookup x=some .local:=by first | exact .inl rfl | exact .inr rfl | assumption):wpAny M A (storeName X.env x u) Q E s:=
 zhL I hN hi hx r (fun s' I' _=>h s' I') hf
theorem Inv.call' {s':Shared} {ch:List Addr} (I:Inv X pins σ H s) (ho:s'.os=s.os) (u:Un (frs X.stack) ch H H' s.heap s'.heap) (hok:HOk X.prog X.w H' s'.heap) (hg:AllBare s'.gens)
  (hch: ∀ b∈ch,(b∈X.ex\/X.s₀.heap.objs.size<=b)/\b≠X.env.locals/\(∀ x c,X.env.cells.lookup x=some c->c≠b)/\ ∀ p∈X.pn++pins,p.1≠b):Inv X pins σ H' s':=by
 obtain ⟨h',g',d',t',o'⟩:=s'
 have e:o'=s.os:=ho
 subst e
 exact I.call (g':=g') (t':=t') (d':=d') u hok hg hch
end
abbrev XK:=Value->Option Addr->Hp->Prop
abbrev St:=List (Option V)
abbrev VK:=V->Hp->Prop
abbrev TE:=St->Hp->VK->Prop
abbrev TT:=St->Hp->(Bool->Hp->Prop)->Prop
abbrev TA:=St->Hp->(List V->Hp->Prop)->Prop
structure zoX where
 nx:St->Hp->Prop
 rt:VK
 bk:St->Hp->Prop:=fun _ _=>False
 ct:St->Hp->Prop:=fun _ _=>False
abbrev TS:=zoX->St->Hp->Prop
def EP (X:Cx) (pins:List (Addr×Obj)) (σ:St) (Q:VK) (u:Value) (s':Shared):Prop:= ∃ v H',Inv X pins σ H' s'/\zbB v u/\Q v H'
def TP (X:Cx) (pins:List (Addr×Obj)) (σ:St) (Q:Bool->Hp->Prop) (b:Bool) (s':Shared):Prop:= ∃ H',Inv X pins σ H' s'/\Q b H'
def AP (X:Cx) (pins:List (Addr×Obj)) (σ:St) (Q:List V->Hp->Prop) (us:List Value) (s':Shared):Prop:= ∃ vs H',Inv X pins σ H' s'/\zba vs us/\Q vs H'
def SP (X:Cx) (pins:List (Addr×Obj)) (D:zoX) (f:Flow) (s':Shared):Prop:=
 match f with
 | .next=> ∃ σ' H',Inv X pins σ' H' s'/\D.nx σ' H'
 | .brk=> ∃ σ' H',Inv X pins σ' H' s'/\D.bk σ' H'
 | .cont=> ∃ σ' H',Inv X pins σ' H' s'/\D.ct σ' H'
 | .ret u=> ∃ v σ' H',Inv X pins σ' H' s'/\zbB v u/\D.rt v H'
def PE (X:Cx) (e:Expr) (t:TE):Prop:=
 ∀ (pins:List (Addr×Obj)) (s:Shared) (σ:St) (H:Hp) (Q:VK),Inv X pins σ H s->t σ H Q->wpAny (model X.prog X.w) X.A (eval e X.env) (EP X pins σ Q) X.xe s
def PT (X:Cx) (e:Expr) (t:TT):Prop:=
 ∀ (pins:List (Addr×Obj)) (s:Shared) (σ:St) (H:Hp) (Q:Bool->Hp->Prop),Inv X pins σ H s->t σ H Q->wpAny (model X.prog X.w) X.A (isTrue e X.env (eval e X.env)) (TP X pins σ Q) X.xe s
def PW (X:Cx) (e:Expr) (t:TT):Prop:=
 ∀ (whole:Sem Value) (pins:List (Addr×Obj)) (s:Shared) (σ:St) (H:Hp) (Q:Bool->Hp->Prop),Inv X pins σ H s->t σ H Q->wpAny (model X.prog X.w) X.A (isTrue e X.env whole) (TP X pins σ Q) X.xe s
theorem PW.pt {X:Cx} {e:Expr} {t:TT} (h:PW X e t):PT X e t:=h _
def PA (X:Cx) (es:List Expr) (t:TA):Prop:=
 ∀ (pos:Pos) (pins:List (Addr×Obj)) (s:Shared) (σ:St) (H:Hp) (Q:List V->Hp->Prop),Inv X pins σ H s->t σ H Q->wpAny (model X.prog X.w) X.A (spliced (backTo pos (starEach es X.env))) (AP X pins σ Q) X.xe s
def PS (X:Cx) (st:Stmt) (t:TS):Prop:=
 ∀ (pins:List (Addr×Obj)) (s:Shared) (σ:St) (H:Hp) (D:zoX),Inv X pins σ H s->t D σ H->wpAny (model X.prog X.w) X.A (exec st X.env) (SP X pins D) X.xe s
def PSs (X:Cx) (st:List Stmt) (t:TS):Prop:=
 ∀ (pins:List (Addr×Obj)) (s:Shared) (σ:St) (H:Hp) (D:zoX),Inv X pins σ H s->t D σ H->wpAny (model X.prog X.w) X.A (execs st X.env) (SP X pins D) X.xe s
theorem thn {α:Type} {t:Sem α} {Q Q':α->Shared->Prop} {M:Model} {A:Around} {E:Value->Shared->Prop} {s:Shared} (h:wpAny M A t Q E s) (hQ: ∀ a s,Q a s->Q' a s):wpAny M A t Q' E s:=qaZ h hQ fun _ _ x=>x
section
variable {X:Cx}
def zve (i:Nat):TE:=fun σ H Q=> ∃ v,σ[i]? = some (some v)/\Q v H
def tC (v:V):TE:=fun _ H Q=>Q v H
theorem zpg {i:Nat} {x:Str} {pos:Pos} (hN:X.N[i]? = some x) (hv:Vis X.env.scope x) (hd:(x==("__debug__":Str))=false:=by decide) (hcd:(x==("__classdict__":Str))=false:=by decide):PE X (.Name x pos) (zve i):=by
 intro pins s σ H Q I h
 obtain ⟨v,e,h⟩:=h
 obtain ⟨m,hn,hl⟩:=I.loc
 obtain ⟨u,r,l⟩:=hl i x v hN e hv
 have fin:EP X pins σ Q u s:=⟨v,H,I,r,h⟩
 rcases l with ⟨hk,hm⟩ | ⟨hk,c,hc,hcell⟩
 ·exact wpAny_Name (wpAny_loadName_local I.ok.kind hk hn hm fin) hd
 ·rcases hk with hk | hk
  ·exact wpAny_Name (wpAny_loadName_cell I.ok.kind hk hc hcell fin) hd
  ·exact wpAny_Name (wpAny_loadName_free I.ok.kind hk hc hcell fin hcd) hd
theorem zts {i j pos}:PE X (.Constant (.int i) j pos) (tC (.int i)):=fun _ _ _ H _ I h=>wpAny_Constant_int ⟨.int i,H,I.tok _,⟨_,rfl⟩,h⟩
theorem zs2 {b j pos}:PE X (.Constant (.bool b) j pos) (tC (.bl b)):=fun _ _ _ H _ I h=>Constant_bool ⟨.bl b,H,I,rfl,h⟩
theorem zoL {x j pos}:PE X (.Constant (.str x) j pos) (tC (.str x)):=fun _ _ _ H _ I h=>Calls.Constant_str ⟨.str x,H,I.tok _,⟨_,rfl⟩,h⟩
def Gl (X:Cx) (x:Str):Prop:=X.env.kindOf x=some .globalImplicit
theorem zif {E:Value->Shared->Prop} {pins:List (Addr×Obj)} {s:Shared} {σ:St} {H:Hp} {x:Str} {u:Value} {pos:Pos} {Q:Value->Shared->Prop} (I:Inv X pins σ H s) (hg:Gl X x) (hm:X.mg x=some u) (h:Q u s)
  (hd:(x==("__debug__":Str))=false:=by decide):wpAny (model X.prog X.w) X.A (eval (.Name x pos) X.env) Q E s:=
 Calls.Name_function_global I.ok.kind hg (Calls.loadGlobal_global (by rw [I.ok.glob];exact I.mod.glob.keeps I.bk) hm h) hd
theorem zh7 {E:Value->Shared->Prop} {pins:List (Addr×Obj)} {s:Shared} {σ:St} {H:Hp} {x:Str} {u:Value} {pos:Pos} {Q:Value->Shared->Prop} (I:Inv X pins σ H s) (hg:Gl X x) (hm:X.mg x=none) (hv:bootBuiltins x=some u) (h:Q u s)
  (hn:x≠"__name__":=by decide) (hd:(x==("__debug__":Str))=false:=by decide):wpAny (model X.prog X.w) X.A (eval (.Name x pos) X.env) Q E s:=by
 obtain ⟨mb,h1,h2⟩:=I.mod.blt
 exact Calls.Name_function_global I.ok.kind hg (Calls.loadGlobal_builtin (by rw [I.ok.glob];exact I.mod.glob.keeps I.bk) hm (by rw [I.ok.blt];exact h1.keeps I.bk) ((h2 x hn).trans hv) h) hd
theorem zqE {x:Str} {v:V} {u:Value} {pos:Pos} (hg:Gl X x) (hm:X.mg x=some u) (r:zbB v u) (hd:(x==("__debug__":Str))=false:=by decide):PE X (.Name x pos) (tC v):=
 fun _ _ _ H _ I h=>zif I hg hm ⟨v,H,I,r,h⟩ hd
theorem zls {x:Str} {v:V} {u:Value} {pos:Pos} (hg:Gl X x) (hm:X.mg x=none) (hv:bootBuiltins x=some u) (r:zbB v u) (hn:x≠"__name__":=by decide) (hd:(x==("__debug__":Str))=false:=by decide):PE X (.Name x pos) (tC v):=
 fun _ _ _ H _ I h=>zh7 I hg hm hv ⟨v,H,I,r,h⟩ hn hd
def t2I (ta tb:TE) (k:Int->Int->Hp->Prop):St->Hp->Prop:=fun σ H=>ta σ H fun x H1=>tb σ H1 fun y H2=> ∃ i j,x= .int i/\y= .int j/\k i j H2
variable {a b:Expr} {ta tb:TE} {pos:Pos}
def zdK (p:Int->Int->Bool) (ta tb:TE):TE:=fun σ H Q=>t2I ta tb (fun i j H2=>Q (.bl (p i j)) H2) σ H
def tB (t:TE):TT:=fun σ H Q=>t σ H fun x H1=> ∃ c,x= .bl c/\Q c H1
theorem zrO {e:Expr} {t:TE} (h:PE X e t) (he: ∀ whole,isTrue e X.env whole=(do let v<-whole;standAt e.pos;holding [v] (truthy v)):=by intro _;rfl):PT X e (tB t):=by
 intro pins s σ H Q I hw
 refine isTrue_plain (thn (h pins s σ H _ I hw) fun v s1 ⟨x,H1,I1,r1,q1⟩=> ?_) (he _)
 obtain ⟨d,rfl,q⟩:=q1
 cases r1
 exact wpAny_truthy_bool ⟨H1,I1,q⟩
variable {tA tB':TT} {rest:List Expr}
def tOr (t u:TT):TT:=fun σ H Q=>t σ H fun c H1=>if c=true then Q true H1 else u σ H1 Q
def zgJ (t:TT):TT:=fun σ H Q=>t σ H fun c H1=>Q (!c) H1
theorem pw_or1 (ha:PT X a tA):PW X (.BoolOp .Or [a] pos) tA:=by
 intro wh pins s σ H Q I h
 refine isTrue_or (thn (ha pins s σ H Q I h) fun c s1 e=> ?_)
 cases c with
 | false=>exact isTrue_or_nil e
 | true=>exact e
theorem pw_or (ha:PT X a tA) (hb:PW X (.BoolOp .Or (b::rest) pos) tB'):PW X (.BoolOp .Or (a::b::rest) pos) (tOr tA tB'):=by
 intro wh pins s σ H Q I h
 refine isTrue_or (thn (ha pins s σ H _ I h) fun c s1 ⟨H1,I1,q1⟩=> ?_)
 cases c with
 | true=>exact ⟨H1,I1,q1⟩
 | false=>exact hb wh pins s1 σ H1 Q I1 q1
theorem zrl (ha:PT X a tA):PT X (.UnaryOp .Not a pos) (zgJ tA):=by
 intro pins s σ H Q I h
 exact isTrue_not (ha pins s σ H (fun c H1=>Q (!c) H1) I h)
def zuv (ta tb:TE):TE:=fun σ H Q=>ta σ H fun x H1=> ∃ c,x= .bl c/\if c=true then tb σ H1 Q else Q (.bl false) H1
def zuU (ta:TE):TE:=fun σ H Q=>ta σ H fun x H1=> ∃ c,x= .bl c/\Q (.bl (!c)) H1
theorem zrq {op} {t:TE} (h:PE X a t):PE X (.BoolOp op [a] pos) t:=fun pins s σ H Q I hw=>BoolOp_one (h pins s σ H Q I hw)
theorem zta (ha:PE X a ta) (hb:PE X (.BoolOp .And (b::rest) pos) tb):PE X (.BoolOp .And (a::b::rest) pos) (zuv ta tb):=by
 intro pins s σ H Q I h
 refine BoolOp_and (thn (ha pins s σ H _ I h) fun v s1 ⟨x,H1,I1,r1,q1⟩=> ?_)
 obtain ⟨c,rfl,q1⟩:=q1
 cases r1
 refine wpAny_truthy_bool ?_
 cases c with
 | true=>exact hb pins s1 σ H1 Q I1 q1
 | false=>exact ⟨.bl false,H1,I1,rfl,q1⟩
theorem zr7 (ha:PE X a ta):PE X (.UnaryOp .Not a pos) (zuU ta):=by
 intro pins s σ H Q I h
 refine UnaryOp_ (thn (ha pins s σ H _ I h) fun v s1 ⟨x,H1,I1,r1,q1⟩=> ?_)
 obtain ⟨c,rfl,q1⟩:=q1
 cases r1
 exact not_of (wpAny_truthy_bool ⟨.bl (!c),H1,I1,rfl,q1⟩)
end
def SqL (K:W.Frag) (H:Hp) (a:Addr) (xs:List V):Prop:=
 Rd H a (.lst xs)\/
  ∃ (o:Obj) (its:Array Value) (n:Nat),K.lookup a=some o/\o.cls= .type "list"/\o.dict=none/\o.data= .seq its n/\its.size<=sizeLine/\zba xs its.toList
def SqT (K:W.Frag) (H:Hp) (a:Addr) (xs:List V):Prop:=
 Rd H a (.tup xs)\/
  ∃ (o:Obj) (its:Array Value) (n:Nat),K.lookup a=some o/\o.cls= .type "tuple"/\o.dict=none/\o.data= .seq its n/\its.size<=sizeLine/\zba xs its.toList
def zvM:Value->Option V
 | .none=>some .non
 | .bool b=>some (.bl b)
 | .int i _=>some (.int i)
 | .str x _=>some (.str x)
 | .bytes b _=>some (.byt b)
 | .float b _=>some (.flt b)
 | .ref a=>some (.ref a)
 | .type n=>some (.ty n)
 | _=>none
theorem zbB.abs {x:V} {u:Value} (r:zbB x u):zvM u=some x:=by
 cases x with
 | non=>cases r;rfl
 | bl _=>cases r;rfl
 | int _=>obtain ⟨t,rfl⟩:=r;rfl
 | str _=>obtain ⟨t,rfl⟩:=r;rfl
 | byt _=>obtain ⟨t,rfl⟩:=r;rfl
 | flt _=>obtain ⟨t,rfl⟩:=r;rfl
 | ref _=>cases r;rfl
 | ty _=>cases r;rfl
theorem zbB.inj {x y:V} {u:Value} (r:zbB x u) (q:zbB y u):x=y:=Option.some.inj (r.abs.symm.trans q.abs)
theorem zba.inj: ∀ {xs ys:List V} {us:List Value},zba xs us->zba ys us->xs=ys
 | _,_,_,.nil,.nil=>rfl
 | _,_,_,.cons r t,.cons r' t'=>by rw [r.inj r',zba.inj t t']
section
variable {X:Cx} {pins:List (Addr×Obj)} {σ:St} {H:Hp} {s:Shared} {a:Addr} {xs ys:List V}
theorem SqL.of {K:W.Frag} (h:H a=some (.lst xs)):SqL K H a xs:= .inl (.inl h)
theorem Inv.list (I:Inv X pins σ H s) (h:SqL X.K H a xs): ∃ its:List Value,zba xs its/\PlainL s.heap a its.toArray/\xs.length<=sizeLine:=by
 rcases h with h | ⟨o,its,n,hk,hc,hd,hs,hz,r⟩
 ·obtain ⟨z,its,n,r,e⟩:=h.ok I.hok
  exact ⟨its,r,⟨_,n,e,rfl,rfl,rfl⟩,z⟩
 ·refine ⟨its.toList,r,⟨o,n,I.kIn a o hk,hc,hd,by simpa using hs⟩,?_⟩
  have e:=r.length
  simp only [qas] at e
  omega
theorem Inv.tupleD (I:Inv X pins σ H s) (h:SqT X.K H a xs): ∃ its:List Value,zba xs its/\zkr s.heap a its.toArray/\xs.length<=sizeLine:=by
 rcases h with h | ⟨o,its,n,hk,hc,hd,hs,hz,r⟩
 ·obtain ⟨z,its,r,p⟩:=h.ok I.hok
  exact ⟨its,r,p,z⟩
 ·refine ⟨its.toList,r,⟨o,I.kIn a o hk,hc,n,by simpa using hs,hd⟩,?_⟩
  have e:=r.length
  simp only [qas] at e
  omega
theorem Inv.tuple (I:Inv X pins σ H s) (h:SqT X.K H a xs): ∃ its:List Value,zba xs its/\IsTup s.heap a its.toArray/\xs.length<=sizeLine:=by
 obtain ⟨its,r,p,z⟩:=I.tupleD h
 exact ⟨its,r,p.is,z⟩
theorem Inv.list_inj (I:Inv X pins σ H s) (h:SqL X.K H a xs) (h':SqL X.K H a ys):xs=ys:=by
 obtain ⟨its,r,⟨o,n,e,_,_,d⟩,_⟩:=I.list h
 obtain ⟨its',r',⟨o',n',e',_,_,d'⟩,_⟩:=I.list h'
 rw [e] at e';cases e'
 rw [d] at d'
 injection d' with d1 _
 have:its=its':=by simpa using congrArg Array.toList d1
 subst this
 exact r.inj r'
theorem Inv.tuple_inj (I:Inv X pins σ H s) (h:SqT X.K H a xs) (h':SqT X.K H a ys):xs=ys:=by
 obtain ⟨its,r,⟨o,e,_,n,d⟩,_⟩:=I.tuple h
 obtain ⟨its',r',⟨o',e',_,n',d'⟩,_⟩:=I.tuple h'
 rw [e] at e';cases e'
 rw [d] at d'
 injection d' with d1 _
 have:its=its':=by simpa using congrArg Array.toList d1
 subst this
 exact r.inj r'
end
abbrev Cx.wish (X:Cx) (E:Value->Shared->Prop):Cx:={X with xe:=E}
abbrev Cx.nox (X:Cx):Cx:=X.wish fun _ _=>False
theorem Cx.Ok.wish {X:Cx} (ok:X.Ok) (E:Value->Shared->Prop):(X.wish E).Ok:=
 ⟨ok.mod,ok.kind,ok.glob,ok.blt,ok.above,ok.inj,ok.has,ok.cab,ok.hd,ok.hx,ok.frames,ok.stk,ok.exf,ok.bs,ok.bsz,ok.noex,ok.exfs,ok.funs,ok.frf⟩
theorem Cx.Ok.unwish {X:Cx} {E:Value->Shared->Prop} (ok:(X.wish E).Ok):X.Ok:=
 ⟨ok.mod,ok.kind,ok.glob,ok.blt,ok.above,ok.inj,ok.has,ok.cab,ok.hd,ok.hx,ok.frames,ok.stk,ok.exf,ok.bs,ok.bsz,ok.noex,ok.exfs,ok.funs,ok.frf⟩
section
variable {X:Cx} {pins:List (Addr×Obj)} {σ:St} {H:Hp} {s:Shared} {E:Value->Shared->Prop}
theorem Inv.wish (I:Inv X pins σ H s) (E:Value->Shared->Prop):Inv (X.wish E) pins σ H s:=⟨I.ok.wish E,I.os,I.bare,I.base,I.loc,I.cell,I.free,I.freeC,I.pin,I.hok,I.len⟩
theorem Inv.unwish (I:Inv (X.wish E) pins σ H s):Inv X pins σ H s:=⟨I.ok.unwish,I.os,I.bare,I.base,I.loc,I.cell,I.free,I.freeC,I.pin,I.hok,I.len⟩
theorem SP.unwish {D:zoX} {f:Flow} {s':Shared} (h:SP (X.wish E) pins D f s'):SP X pins D f s':=by
 cases f with
 | next=>obtain ⟨σ',H',I,q⟩:=h;exact ⟨σ',H',I.unwish,q⟩
 | brk=>obtain ⟨σ',H',I,q⟩:=h;exact ⟨σ',H',I.unwish,q⟩
 | cont=>obtain ⟨σ',H',I,q⟩:=h;exact ⟨σ',H',I.unwish,q⟩
 | ret u=>obtain ⟨v,σ',H',I,r,q⟩:=h;exact ⟨v,σ',H',I.unwish,r,q⟩
theorem PSs.nox {st:List Stmt} {t:TS} (h:PSs X.nox st t):PSs X st t:=fun pins s σ H D I hw=>
 qaZ (h pins s σ H D (I.wish _) hw) (fun _ _ q=>q.unwish) fun _ _ z=>qa0 z
end
section
variable {X:Cx} {st:Stmt} {rest:List Stmt} {t u:TS} {e:Expr} {te:TE} {pos:Pos}
def zus:TS:=fun D σ H=>D.nx σ H
def zvN (t u:TS):TS:=fun D σ H=>t {D with nx:=u D} σ H
theorem zpL:PSs X [] zus:=fun _ _ σ H _ I h=>wpAny_execs_nil ⟨σ,H,I,h⟩
theorem zof (h1:PS X st t) (h2:PSs X rest u):PSs X (st::rest) (zvN t u):=by
 intro pins s σ H D I h
 refine wpAny_execs_cons (thn (h1 pins s σ H {D with nx:=u D} I h) fun f s1 q=> ?_)
 cases f with
 | next=>
  obtain ⟨σ',H',I',q⟩:=q
  exact h2 pins s1 σ' H' D I' q
 | ret v=>exact q
 | brk=>exact q
 | cont=>exact q
theorem zpI (h1:PS X st t):PSs X [st] t:=by
 intro pins s σ H D I h
 refine wpAny_execs_cons (thn (h1 pins s σ H D I h) fun f s1 q=> ?_)
 cases f with
 | next=>exact wpAny_execs_nil q
 | ret v=>exact q
 | brk=>exact q
 | cont=>exact q
theorem Inv.quiet {pins:List (Addr×Obj)} {σ:St} {H:Hp} {s:Shared} (I:Inv X pins σ H s):interactive X.env=false:=by simp [interactive,I.ok.kind]
def ztN (te:TE):TS:=fun D σ H=>te σ H fun _ H1=>D.nx σ H1
theorem zq0 (he:PE X e te) (hs:swapsWith e none pos.line X.env=pure false:=by rfl):PS X (.Expr e pos) (ztN te):=by
 intro pins s σ H D I h
 exact wpAny_Expr_any (thn (he pins s σ H _ I h) fun v s1 ⟨x,H1,I1,r1,q1⟩=>⟨σ,H1,I1,q1⟩) I.quiet hs
def zvh (te:TE):TS:=fun D σ H=>te σ H D.rt
theorem zsD (he:PE X e te):PS X (.Return (some e) pos) (zvh te):=by
 intro pins s σ H D I h
 exact wpAny_Return_some (thn (he pins s σ H _ I h) fun v s1 ⟨x,H1,I1,r1,q1⟩=>⟨x,σ,H1,I1,r1,q1⟩)
def zvz (c:TT) (t u:TS):TS:=fun D σ H=>c σ H fun b H1=>if b=true then t D σ H1 else u D σ H1
theorem zuR {c:Expr} {a b:List Stmt} {tc:TT} (hc:PT X c tc) (ha:PSs X a t) (hb:PSs X b u):PS X (.If c a b pos) (zvz tc t u):=by
 intro pins s σ H D I h
 refine wpAny_If (thn (hc pins s σ H _ I h) fun d s1 ⟨H1,I1,q1⟩=> ?_)
 cases d with
 | true=>exact ha pins s1 σ H1 D I1 q1
 | false=>exact hb pins s1 σ H1 D I1 q1
end
abbrev TG:=V->St->Hp->(St->Hp->Prop)->Prop
abbrev TGs:=List V->St->Hp->(St->Hp->Prop)->Prop
def PG (X:Cx) (target:Expr) (t:TG):Prop:=
 ∀ (pins:List (Addr×Obj)) (s:Shared) (σ:St) (H:Hp) (v:V) (u:Value) (Q:St->Hp->Prop),Inv X pins σ H s->zbB v u->t v σ H Q->
  wpAny (model X.prog X.w) X.A (assign target X.env u) (fun _ s'=> ∃ σ' H',Inv X pins σ' H' s'/\Q σ' H') X.xe s
def PGs (X:Cx) (ts:List Expr) (t:TGs):Prop:=
 ∀ (pins:List (Addr×Obj)) (s:Shared) (σ:St) (H:Hp) (vs:List V) (us:List Value) (Q:St->Hp->Prop),Inv X pins σ H s->zba vs us->t vs σ H Q->
  wpAny (model X.prog X.w) X.A (assignInOrder ((assignEach ts X.env).map (·.2)) us) (fun _ s'=> ∃ σ' H',Inv X pins σ' H' s'/\Q σ' H') X.xe s
abbrev ztB:=V->V->V->Hp->(Hp->Prop)->Prop
def ztF (X:Cx) (t:ztB):Prop:=
 ∀ (pins:List (Addr×Obj)) (s:Shared) (σ:St) (H:Hp) (o i v:V) (ov iv u:Value) (Q:Hp->Prop),Inv X pins σ H s->zbB o ov->zbB i iv->zbB v u->t o i v H Q->
  wpAny (model X.prog X.w) X.A (setItem ov iv u) (fun _ s'=> ∃ H',Inv X pins σ H' s'/\Q H') X.xe s
section
variable {X:Cx} {pos:Pos}
def zp4 (i:Nat):TG:=fun v σ H Q=>Q (σ.set i (some v)) H
theorem zqA {i:Nat} {x:Str} (hN:X.N.Nodup) (hi:X.N[i]? = some x) (hx:Loc X.env.scope x) (hf:X.fn x=true\/X.env.scope.names.lookup x=some .local:=by first | exact .inl rfl | exact .inr rfl | assumption):PG X (.Name x pos) (zp4 i):=by
 intro pins s σ H v u Q I r h
 exact wpAny_assign_Name (zdS I hN hi hx r (fun s' I'=>⟨_,H,I',h⟩) hf)
def zvw:TGs:=fun vs σ H Q=>vs=[]/\Q σ H
def zuB (t:TG) (u:TGs):TGs:=fun vs σ H Q=> ∃ v r,vs=v::r/\t v σ H fun σ' H'=>u r σ' H' Q
theorem zpR:PGs X [] zvw:=by
 intro pins s σ H vs us Q I r h
 obtain ⟨e,h⟩:=h
 subst e
 cases r
 exact assignInOrder_nil ⟨σ,H,I,h⟩
theorem znf {e:Expr} {es:List Expr} {t:TG} {u:TGs} (h1:PG X e t) (h2:PGs X es u)
  (hs:(assignEach (e::es) X.env).map (·.2)=assign e X.env::(assignEach es X.env).map (·.2):=by rfl):PGs X (e::es) (zuB t u):=by
 intro pins s σ H vs us Q I r h
 obtain ⟨v,vr,e1,h⟩:=h
 subst e1
 cases r with
 | cons r rr=>
  rw [hs]
  refine assignInOrder_cons (thn (h1 pins s σ H _ _ _ I r h) fun _ s1 ⟨σ1,H1,I1,q1⟩=> ?_)
  exact h2 pins s1 σ1 H1 _ _ Q I1 rr q1
def zvp (K:W.Frag) (n:Nat) (t:TGs):TG:=fun v σ H Q=> ∃ a xs,v= .ref a/\SqT K H a xs/\xs.length=n/\t xs σ H Q
theorem zsw {es:List Expr} {k:Nat} {t:TGs} {n:Nat} (hc:X.calm=true) (h:PGs X es t)
  (hn:(assignEach es X.env).length=n:=by rfl) (hst:(assignEach es X.env).findIdx? (·.1)=none:=by rfl):PG X (.Tuple es k pos) (zvp X.K n t):=by
 intro pins s σ H v u Q I r hw
 obtain ⟨a,xs,e1,hq,hl,hw⟩:=hw
 subst e1
 cases r
 obtain ⟨its,rv,ht,hz⟩:=I.tuple hq
 refine assign_Tuple_tuple (I.ok.hd hc) ht (by simp [hn, <-hl,rv.length]) hst fun h' hx=> ?_
 have I1:Inv X pins σ H {s with heap:=h'}:=I.kept (t':=s.toks) fun b o e=>hx b o (qaR (qaQ e)) e
 exact h pins _ σ H xs _ Q I1 (by simpa using rv) hw
def zu4 (to ti:TE) (t:ztB):TG:=fun v σ H Q=>to σ H fun o H1=>ti σ H1 fun i H2=>t o i v H2 fun H3=>Q σ H3
theorem zrv {o i:Expr} {to ti:TE} {t:ztB} (ho:PE X o to) (hi:PE X i ti) (hs:ztF X t)
  (ha: ∀ v,assign (.Subscript o i pos) X.env v=(do
    let ov<-holding [v] (eval o X.env)
    let iv<-holding [v,ov] (eval i X.env)
    standAt pos
    holding [v,ov,iv] (setItem ov iv v)
    release [v,ov,iv] []):=by intro _;rfl):PG X (.Subscript o i pos) (zu4 to ti t):=by
 intro pins s σ H v u Q I r h
 rw [ha]
 refine qaW (qaO (thn (ho pins s σ H _ I h) fun ov s1 ⟨x,H1,I1,r1,q1⟩=> ?_))
 refine qaW (qaO (thn (hi pins s1 σ H1 _ I1 q1) fun iv s2 ⟨y,H2,I2,r2,q2⟩=> ?_))
 refine qaW (wpAny_standAt (qaW (qaO (thn (hs pins s2 σ H2 x y v ov iv u _ I2 r1 r2 r q2) fun _ s3 ⟨H3,I3,q3⟩=> ?_))))
 exact wpAny_release ⟨σ,H3,I3,q3⟩
def zuA (te:TE) (g:TG):TS:=fun D σ H=>te σ H fun x H1=>g x σ H1 D.nx
theorem zr3 {tg e:Expr} {te:TE} {g:TG} (he:PE X e te) (hg:PG X tg g) (hs:swapsWithSole [tg] e pos.line X.env=pure false:=by rfl) (hw:swappedStores [tg] e X.env=pure none:=by rfl)
  (h1:(assignEach [tg] X.env).map (·.2)=[assign tg X.env]:=by rfl):PS X (.Assign [tg] e pos) (zuA te g):=by
 intro pins s σ H D I h
 refine wpAny_Assign_stores (thn (he pins s σ H _ I h) fun v s1 ⟨x,H1,I1,r1,q1⟩=> ?_) hs hw
 rw [h1]
 exact thn (hg pins s1 σ H1 x v _ I1 r1 q1) fun _ s2 q=>q
theorem zs4 {i:Nat} {x:Str} {e:Expr} {te:TE} {pos':Pos} (hN:X.N.Nodup) (hi:X.N[i]? = some x) (hx:Loc X.env.scope x) (he:PE X e te) (hs:swapsWith e (some (.Name x pos')) pos.line X.env=pure false:=by rfl) (hf:X.fn x=true\/X.env.scope.names.lookup x=some .local:=by first | exact .inl rfl | exact .inr rfl | assumption):
  PS X (.Assign [.Name x pos'] e pos) (zuA te (zp4 i)):=by
 intro pins s σ H D I h
 refine wpAny_Assign_Name (thn (he pins s σ H _ I h) fun v s1 ⟨y,H1,I1,r1,q1⟩=> ?_) hs
 exact zdS I1 hN hi hx r1 (fun s2 I2=>⟨_,H1,I2,q1⟩) hf
def zu5 (i j:Nat) (ta:TA):TS:=fun D σ H=>ta σ H fun vs H1=> ∃ v w,vs=[v,w]/\D.nx ((σ.set i (some v)).set j (some w)) H1
theorem zsu {i j:Nat} {x y:Str} {a b:Expr} {ta:TA} {px py pt:Pos} {kt k2 pt2} (hc:X.calm=true) (hN:X.N.Nodup) (hi:X.N[i]? = some x) (hj:X.N[j]? = some y) (hij:i≠j)
  (hx:X.env.scope.names.lookup x=some .local) (hy:X.env.scope.names.lookup y=some .local) (ha:PA X [a,b] ta)
  (hw:swappedStores [.Tuple [.Name x px,.Name y py] kt pt] (.Tuple [a,b] k2 pt2) X.env=pure (some [x,y]))
  (hs:swapsWithSole [.Tuple [.Name x px,.Name y py] kt pt] (.Tuple [a,b] k2 pt2) pos.line X.env=pure false:=by rfl):
  PS X (.Assign [.Tuple [.Name x px,.Name y py] kt pt] (.Tuple [a,b] k2 pt2) pos) (zu5 i j ta):=by
 intro pins s σ H D I h
 rw [exec_Assign_arm]
 refine qaW (wpAny_standAt ?_)
 rw [hs]
 refine qaW (qaX ?_)
 rw [qa5 (by decide)]
 refine qaW (Tuple_ (thn (ha _ pins s σ H _ I h) fun us s1 ⟨vs,H1,I1,r1,q1⟩=> ?_))
 obtain ⟨v,w,e1,q1⟩:=q1
 subst e1
 obtain ⟨u1,u2,rfl,rv,rw'⟩: ∃ u1 u2,us=[u1,u2]/\zbB v u1/\zbB w u2:=by
  cases r1 with
  | cons p q=>
   cases q with
   | cons p' q'=>
    cases q'
    exact ⟨_,_,rfl,p,p'⟩
 refine qaC ?_ (by show 2<=sizeLine;decide)
 have I2:Inv X pins σ H1 {s1 with heap:=s1.heap.push {cls:= .type "tuple",data:= .seq [u1,u2].toArray}}:=I1.kept (t':=s1.toks) fun b o e=>qag _ e
 rw [hw]
 refine qaW (qaX ?_)
 show wpAny (model X.prog X.w) X.A (do rule "assign.swapped-stores";let items<-unpackItems (.ref s1.heap.objs.size) 2 none;assignInOrder [fun v=>bindName X.env y v,fun v=>bindName X.env x v] items.reverse;pure Flow.next) _ _ _
 refine qaW (wpAny_rule (qaW (unpackItems_tuple (items:= #[u1,u2]) (I.ok.hd hc) (IsTup.new s1.heap _) fun h' hx'=> ?_)))
 have I3:=I2.kept (h':=h') (t':=s1.toks) fun b o e=>hx' b o (qaR (qaQ e)) e
 show wpAny _ _ (assignInOrder [fun v=>bindName X.env y v,fun v=>bindName X.env x v] [u2,u1]>>=fun _=>pure Flow.next) _ _ _
 refine qaW (assignInOrder_cons (wpAny_bindName (zdS I3 hN hj (.inl hy) rw' (fun s2 I4=> ?_) (.inr hy))))
 refine assignInOrder_cons (wpAny_bindName (zdS I4 hN hi (.inl hx) rv (fun s3 I5=>assignInOrder_nil (qaX ?_)) (.inr hx)))
 rw [List.set_comm _ _ (Ne.symm hij)] at I5
 exact ⟨_,H1,I5,q1⟩
end
section
variable {X:Cx} {pos:Pos}
def zrk (c:TT) (tb:TS):TS:=fun D σ H=> ∃ W:Nat->St->Hp->Prop,(∃ m,W m σ H)/\ ∀ m σ H,W m σ H->
 c σ H fun b H1=>if b=true then ∃ N:St->Hp->Prop,(∀ σ' H',N σ' H'-> ∃ m',m'<m/\W m' σ' H')/\tb {D with nx:=N,ct:=N,bk:=D.nx} σ H1 else D.nx σ H1
theorem znn {c:Expr} {body:List Stmt} {tc:TT} {tb:TS} (hp:PassesOwn (model X.prog X.w) X.A X.env X.xe) (hc:PT X c tc) (hb:PSs X body tb):PS X (.While c body [] pos) (zrk tc tb):=by
 intro pins s σ H D I h
 obtain ⟨W,⟨m0,w0⟩,turn⟩:=h
 refine wpAny_While (codeAny_whileLoop (fun n s'=> ∃ σ' H',Inv X pins σ' H' s'/\W n σ' H') ?_ m0 ⟨σ,H,I,w0⟩)
 rintro n s1 ⟨σ1,H1,I1,w1⟩
 refine wpAny_passesOwn hp (thn (hc pins s1 σ1 H1 _ I1 (turn n σ1 H1 w1)) fun b s2 ⟨H2,I2,q2⟩=> ?_)
 cases b with
 | true=>
  obtain ⟨N,hN,q2⟩:=q2
  rw [qa4 rfl]
  refine wpAny_passesOwn hp (thn (hb pins s2 σ1 H2 _ I2 q2) fun f s3 q3=> ?_)
  cases f with
  | next=>
   obtain ⟨σ3,H3,I3,n3⟩:=q3
   obtain ⟨m',hm,w3⟩:=hN σ3 H3 n3
   exact ⟨m',hm,σ3,H3,I3,w3⟩
  | cont=>
   obtain ⟨σ3,H3,I3,n3⟩:=q3
   obtain ⟨m',hm,w3⟩:=hN σ3 H3 n3
   exact ⟨m',hm,σ3,H3,I3,w3⟩
  | brk=>exact q3
  | ret v=>exact q3
 | false=>
  rw [qa5 Bool.false_ne_true]
  exact wpAny_execs_nil ⟨σ1,H2,I2,q2⟩
end
structure It where
 go:Nat->Hp->Prop
 yld:Nat->Hp->V->Hp->Prop
 stop:Nat->Hp->Prop
def zmQ (X:Cx) (pins:List (Addr×Obj)) (H:Hp) (b:Addr):Prop:=
 H b=none/\b≠X.env.locals/\b∉X.fs/\(b∈X.ex\/X.s₀.heap.objs.size<=b)/\(∀ x c,X.env.cells.lookup x=some c->c≠b)/\ ∀ p∈X.pn++pins,p.1≠b
theorem Inv.fpOk {X:Cx} {pins:List (Addr×Obj)} {σ:St} {H H':Hp} {s:Shared} {b:Addr} (I:Inv X pins σ H s) (hb:s.heap.objs.size<=b) (hn:H' b=none):zmQ X pins H' b:=by
 refine ⟨hn,Nat.ne_of_gt (qaw I.lt hb),I.nofs hb,.inr (qaS I.sz hb),fun x c e z=> ?_,fun p hp z=> ?_⟩
 ·obtain ⟨v,q⟩:=I.cell x c e
  exact absurd (qaw q.lt (by rw [z];exact hb)) (qaN _)
 ·exact absurd (qaw (qaQ (I.pin p hp).1) (by rw [z];exact hb)) (qaN _)
structure zq8 (P:Program) (w:World) (K:W.Frag) (tg:Expr) (J:It) (fp:List Addr) (it:Addr) (tn:Nat->Heap->Prop):Prop where
 mem:it∈fp
 obj: ∀ i h,tn i h-> ∀ b∈fp, ∃ o,h.get? b=some o/\ ∀ v,o.data≠ .cell v
 keep: ∀ i h h',tn i h->(∀ b∈fp, ∀ o,h.get? b=some o->h'.get? b=some o)->tn i h'
 item: ∀ (X:Cx),X.prog=P->X.w=w->X.K=K-> ∀ (i:Nat) (pins:List (Addr×Obj)) (s:Shared) (σ:St) (H:Hp) (E:Value->Shared->Prop),Inv X pins σ H s->(∀ b∈fp,zmQ X pins H b)->tn i s.heap->J.go i H->
  wpAny (model P w) X.A (pyNext (.ref it)) (fun r s1=> ∃ u,r=some u/\
    wpAny (model P w) X.A (letOwnedTupleGo tg (.ref it) u) (fun _ s2=> ∃ x H',Inv X pins σ H' s2/\zbB x u/\J.yld i H x H'/\tn (i+1) s2.heap/\ ∀ b∈fp,H' b=none) E s1) E s
 done: ∀ (X:Cx),X.prog=P->X.w=w->X.K=K-> ∀ (i:Nat) (pins:List (Addr×Obj)) (s:Shared) (σ:St) (H:Hp) (E:Value->Shared->Prop),Inv X pins σ H s->(∀ b∈fp,zmQ X pins H b)->tn i s.heap->J.stop i H->
  wpAny (model P w) X.A (pyNext (.ref it)) (fun r s1=>r=none/\Inv X pins σ H s1) E s
 self: ∀ (A:Around) (i:Nat) (s:Shared) (Q:Value->Shared->Prop) (E:Value->Shared->Prop),tn i s.heap->Q (.ref it) s->wpAny (model P w) A (pyIter (.ref it)) Q E s
abbrev TI:=St->Hp->(It->Hp->Prop)->Prop
def PIE (X:Cx) (pins:List (Addr×Obj)) (σ:St) (tg:Expr) (R:It->Hp->Prop) (itv:Value) (s2:Shared):Prop:=
 ∃ (it:Addr) (fp:List Addr) (tn:Nat->Heap->Prop) (J:It) (H':Hp),itv= .ref it/\Inv X pins σ H' s2/\zq8 X.prog X.w X.K tg J fp it tn/\tn 0 s2.heap/\(∀ b∈fp,zmQ X pins H' b)/\R J H'
def PI (X:Cx) (tg iter:Expr) (wi:TI):Prop:=
 ∀ (pins:List (Addr×Obj)) (s:Shared) (σ:St) (H:Hp) (R:It->Hp->Prop),Inv X pins σ H s->wi σ H R->
  wpAny (model X.prog X.w) X.A (eval iter X.env) (fun v s1=>wpAny (model X.prog X.w) X.A (pyIter v) (PIE X pins σ tg R) X.xe s1) X.xe s
theorem znK {M:Model} {A:Around} {E:Value->Shared->Prop} {s:Shared} {tg:Expr} {it:Addr} {u:Value} {o:Obj} {n:String} {vs:Array Value} {Q:Unit->Shared->Prop} (ho:s.heap.get? it=some o) (hc:o.cls= .type n) (hd:o.data= .fields vs)
  (hn:["enumerate","zip","dict_itemiterator","dict_reverseitemiterator","odict_iterator","itertools.zip_longest","itertools.pairwise"].contains n=false) (hQ:Q () s):wpAny M A (letOwnedTupleGo tg (.ref it) u) Q E s:=by
 unfold letOwnedTupleGo
 cases tg<;>first
  | exact qaX hQ
  | (cases u<;>first
      | exact qaX hQ
      | (refine qaW (wpAny_load ho ?_)
         rw [hc,hd]
         show wpAny M A (if (["enumerate","zip","dict_itemiterator","dict_reverseitemiterator","odict_iterator","itertools.zip_longest","itertools.pairwise"].contains n && vs[0]? == some (rawInt _))=true then _ else _) Q E s
         rw [qa5 (by intro h;rw [hn,Bool.false_and] at h;cases h)]
         exact qaX hQ))
def Itl (K:W.Frag) (a:Addr):It:=
 ⟨fun i H=> ∃ xs x,SqL K H a xs/\xs[i]? = some x,fun i H x H'=>H'=H/\ ∀ xs,SqL K H a xs->xs[i]? = some x,fun i H=> ∃ xs,SqL K H a xs/\xs.length<=i⟩
def Itt (K:W.Frag) (a:Addr):It:=
 ⟨fun i H=> ∃ xs x,SqT K H a xs/\xs[i]? = some x,fun i H x H'=>H'=H/\ ∀ xs,SqT K H a xs->xs[i]? = some x,fun i H=> ∃ xs,SqT K H a xs/\xs.length<=i⟩
def Itr (lo:Int) (n:Nat):It:=⟨fun i _=>i<n,fun i H x H'=>H'=H/\x= .int (lo+i),fun i _=>n<=i⟩
theorem zg6.keep {A:Around} {H H':Hp} (x:zg6 A H) (k: ∀ b o u,H b=some (.frz o u)->H' b=some (.frz o u)):zg6 A H':=by
 rcases x with x | ⟨a,o,cls,head,vs,x1,x2,x3⟩
 ·exact .inl x
 ·exact .inr ⟨a,o,cls,head,vs,x1,k _ _ _ x2,x3⟩
theorem zg6.at_ {A:Around} {P:Program} {w:World} {H:Hp} {h:Heap} (x:zg6 A H) (ok:HOk P w H h):L3.zqN A h:=by
 rcases x with x | ⟨a,o,cls,head,vs,x1,x2,x3⟩
 ·exact .inl x
 ·exact .inr ⟨a,cls,head,x1,o,vs,(ok a _ x2).1,x3⟩
theorem Inv.handA {X:Cx} {pins:List (Addr×Obj)} {σ:St} {H:Hp} {s:Shared} (I:Inv X pins σ H s):zg6 X.A H:=I.ok.hx.keep I.base.frzs
theorem Inv.hand {X:Cx} {pins:List (Addr×Obj)} {σ:St} {H:Hp} {s:Shared} (I:Inv X pins σ H s):L3.zqN X.A s.heap:=I.handA.at_ I.hok
theorem zl2 {P:Program} {w:World} {K:W.Frag} {tg:Expr} (a it:Addr):zq8 P w K tg (Itl K a) [it] it (fun i h=>h.IsListIter it a i) where
 mem:=by simp
 obj:=fun i h st b hb=>by
  have e:b=it:=by simpa using hb
  subst e
  obtain ⟨o,e,c,d⟩:=st
  exact ⟨o,e,fun v z=>by rw [d] at z;cases z⟩
 keep:=fun i h h' st k=>st.at fun o e=>k it (by simp) o e
 item:=by
  intro X hP hw hK i pins s σ H E I hf st hg
  subst hP hw hK
  obtain ⟨xs,x,hq,hx⟩:=hg
  obtain ⟨its,rv,p,hz⟩:=I.list hq
  obtain ⟨u,hu,ru⟩:=rv.get hx
  obtain ⟨f0,f1,f2,f3,f4,f5⟩:=hf it (by simp)
  refine wpAny_pyNext_list_item st p.isList (x:=u) (by simpa using hu) fun h' st' sb=> ?_
  have I1:Inv X pins σ H {s with heap:=h'}:=I.turned (t':=s.toks) (fun b o hb e=>(sb.2 b hb).trans e) f0 f1 f3 f4 f5
  obtain ⟨o,e,c,d⟩:=id st'
  exact ⟨u,rfl,znK (s:={s with heap:=h'}) e c d (by decide) ⟨x,H,I1,ru,⟨rfl,fun ys hy=>by rw [I.list_inj hy hq];exact hx⟩,st',fun b hb=>(hf b hb).1⟩⟩
 done:=by
  intro X hP hw hK i pins s σ H E I hf st hg
  subst hP hw hK
  obtain ⟨xs,hq,hx⟩:=hg
  obtain ⟨its,rv,p,hz⟩:=I.list hq
  obtain ⟨f0,f1,f2,f3,f4,f5⟩:=hf it (by simp)
  have hl:=rv.length
  exact L3.zjt I.hand st p.isList (by simp;omega) fun h' eb=>⟨rfl,I.turned (t':=s.toks) (fun b o hb e=>eb b o hb e) f0 f1 f3 f4 f5⟩
 self:=fun _ _ _ _ _ st h=>wpAny_pyIter_listiter st h
theorem zkj {P:Program} {w:World} {K:W.Frag} {tg:Expr} (a it:Addr):zq8 P w K tg (Itt K a) [it] it (fun i h=>h.IsTupleIter it a i) where
 mem:=by simp
 obj:=fun i h st b hb=>by
  have e:b=it:=by simpa using hb
  subst e
  obtain ⟨o,e,c,d⟩:=st
  exact ⟨o,e,fun v z=>by rw [d] at z;cases z⟩
 keep:=fun i h h' st k=>st.at fun o e=>k it (by simp) o e
 item:=by
  intro X hP hw hK i pins s σ H E I hf st hg
  subst hP hw hK
  obtain ⟨xs,x,hq,hx⟩:=hg
  obtain ⟨its,rv,p,hz⟩:=I.tuple hq
  obtain ⟨u,hu,ru⟩:=rv.get hx
  obtain ⟨f0,f1,f2,f3,f4,f5⟩:=hf it (by simp)
  refine wpAny_pyNext_tuple_item st (show s.heap.IsTuple a its.toArray from p) (x:=u) (by simpa using hu) fun h' st' sb=> ?_
  have I1:Inv X pins σ H {s with heap:=h'}:=I.turned (t':=s.toks) (fun b o hb e=>(sb.2 b hb).trans e) f0 f1 f3 f4 f5
  obtain ⟨o,e,c,d⟩:=id st'
  exact ⟨u,rfl,znK (s:={s with heap:=h'}) e c d (by decide) ⟨x,H,I1,ru,⟨rfl,fun ys hy=>by rw [I.tuple_inj hy hq];exact hx⟩,st',fun b hb=>(hf b hb).1⟩⟩
 done:=by
  intro X hP hw hK i pins s σ H E I hf st hg
  subst hP hw hK
  obtain ⟨xs,hq,hx⟩:=hg
  obtain ⟨its,rv,p,hz⟩:=I.tuple hq
  obtain ⟨f0,f1,f2,f3,f4,f5⟩:=hf it (by simp)
  have hl:=rv.length
  exact L3.zmv I.hand st (show s.heap.IsTuple a its.toArray from p) (by simp;omega) fun h' eb=>⟨rfl,I.turned (t':=s.toks) (fun b o hb e=>eb b o hb e) f0 f1 f3 f4 f5⟩
 self:=fun _ _ _ _ _ st h=>wpAny_pyIter_tupleiter st h
theorem zkq {P:Program} {w:World} {K:W.Frag} {tg:Expr} (it:Addr) (lo:Int) (n:Nat):zq8 P w K tg (Itr lo n) [it] it (fun i h=>IsRangeIter h it (lo+(i:Nat)*1) ((n:Int) - (i:Nat)) 1) where
 mem:=by simp
 obj:=fun i h st b hb=>by
  have e:b=it:=by simpa using hb
  subst e
  exact ⟨_,st,fun v z=>by
    have z':Data.fields _=Data.cell v:=z
    cases z'⟩
 keep:=fun i h h' st k=>k it (by simp) _ st
 item:=by
  intro X hP hw hK i pins s σ H E I hf st hg
  subst hP hw hK
  obtain ⟨f0,f1,f2,f3,f4,f5⟩:=hf it (by simp)
  refine wpAny_pyNext_range_item st (by have:i<n:=hg;omega) fun h' st' kk=> ?_
  have e1:lo+(i:Nat)*1+1=lo+((i+1:Nat):Int)*1:=by omega
  have e2:(n:Int) - (i:Nat) - 1=(n:Int) - ((i+1:Nat):Int):=by omega
  rw [e1,e2] at st'
  have I1:Inv X pins σ H {s with heap:=h',toks:=s.toks+1}:=I.turned (fun b o hb e=>(kk.2 b hb).trans e) f0 f1 f3 f4 f5
  refine ⟨_,rfl,znK (s:={s with heap:=h',toks:=s.toks+1}) (n:="range_iterator") st' rfl rfl (by decide) ⟨.int (lo+i),H,I1,⟨s.toks,?_⟩,⟨rfl,rfl⟩,st',fun b hb=>(hf b hb).1⟩⟩
  rw [Int.mul_one]
 done:=by
  intro X hP hw hK i pins s σ H E I hf st hg
  subst hP hw hK
  obtain ⟨f0,f1,f2,f3,f4,f5⟩:=hf it (by simp)
  exact L3.zhZ I.hand st (by have:n<=i:=hg;omega) fun h' eb=>⟨rfl,I.turned (t':=s.toks) (fun b o hb e=>eb b o hb e) f0 f1 f3 f4 f5⟩
 self:=fun _ _ _ _ _ st h=>wpAny_pyIter_rangeiter st h
section
variable {X:Cx} {tg:Expr}
theorem zog {pins:List (Addr×Obj)} {σ:St} {H:Hp} {s:Shared} {R:It->Hp->Prop} {E:Value->Shared->Prop} {lo hi:Int} {t u v:Tok} {tk:Nat} (I:Inv X pins σ H s) (h1: -(2^62)<=lo) (h2:lo<2^62) (h3: -(2^62)<=hi) (h4:hi<2^62)
  (q:R (Itr lo (hi - lo).toNat) H):wpAny (model X.prog X.w) X.A (pyIter (.ref s.heap.objs.size)) (PIE X pins σ tg R) E {s with heap:=s.heap.push {cls:= .type "range",data:= .fields #[.int lo t,.int hi u,.int 1 v]},toks:=tk}:=by
 refine wpAny_pyIter_range (IsRange.new ..) (small_one h1 h2 h3 h4) ?_
 have I1:Inv X pins σ H {s with heap:=s.heap.push {cls:= .type "range",data:= .fields #[.int lo t,.int hi u,.int 1 v]},toks:=tk}:=I.kept fun b o e=>qag _ e
 refine ⟨(s.heap.push {cls:= .type "range",data:= .fields #[.int lo t,.int hi u,.int 1 v]}).objs.size,[(s.heap.push {cls:= .type "range",data:= .fields #[.int lo t,.int hi u,.int 1 v]}).objs.size],_,_,H,rfl,
   I1.kept (t':=tk) fun b o e=>qag _ e,zkq _ lo (hi - lo).toNat,?_,fun b hb=> ?_,q⟩
 ·have e1:lo+((0:Nat):Int)*1=lo:=by simp
  have e2:(((hi - lo).toNat:Nat):Int) - ((0:Nat):Int)=Builtin.Range.rangeSize lo hi 1:=by rw [rangeSize_one];split<;>omega
  show IsRangeIter _ _ (lo+((0:Nat):Int)*1) ((((hi - lo).toNat:Nat):Int) - ((0:Nat):Int)) 1
  rw [e1,e2]
  exact qar _ rfl
 ·have e:b=(s.heap.push {cls:= .type "range",data:= .fields #[.int lo t,.int hi u,.int 1 v]}).objs.size:=by simpa using hb
  subst e
  exact I1.fpOk (qaV _) (I1.hok.fresh (qaV _))
def zug (ta:TA):TI:=fun σ H R=>ta σ H fun vs H1=> ∃ j:Int,vs=[.int j]/\ -(2^62)<=j/\j<2^62/\R (Itr 0 j.toNat) H1
theorem zld {a:Expr} {ta:TA} {p pos:Pos} (hg:Gl X "range") (hm:X.mg "range"=none) (ha:PA X [a] ta) (hs:starEach [a] X.env=[(false,eval a X.env)]:=by rfl):PI X tg (.Call (.Name "range" p) [a] [] pos) (zug ta):=by
 intro pins s σ H R I h
 refine Call_ (zh7 I hg hm boot_range (PyProof.Rows.callWith_type1 (thn (ha pos pins s σ H _ I h) fun us s1 ⟨vs,H1,I1,r1,q1⟩=> ?_) hs rfl))
 obtain ⟨j,e,q1,q2,q⟩:=q1
 subst e
 cases r1 with
 | cons r rr=>
  cases rr
  obtain ⟨t,rfl⟩:=r
  exact call_range_1 (zog I1 ⋯ ⋯ q1 q2 (by simpa using q))
def zvO (wi:TI) (g:TG) (tb:TS):TS:=fun D σ H=>wi σ H fun J H1=> ∃ W:Nat->Nat->St->Hp->Prop,(∃ m,W 0 m σ H1)/\ ∀ i m σ H,W i m σ H->
 (J.stop i H/\D.nx σ H)\/(J.go i H/\ ∃ N:St->Hp->Prop,(∀ σ' H',N σ' H'-> ∃ m',m'<m/\W (i+1) m' σ' H')/\ ∀ x H',J.yld i H x H'->g x σ H' fun σ2 H2=>tb {D with nx:=N,ct:=N,bk:=D.nx} σ2 H2)
def zhw (fp:List Addr) (h:Heap):List (Addr×Obj):=fp.filterMap fun b=>(h.get? b).map fun o=>(b,o)
theorem zdr {fp:List Addr} {h:Heap} {b:Addr} {o:Obj} (hb:b∈fp) (e:h.get? b=some o):(b,o)∈zhw fp h:=List.mem_filterMap.mpr ⟨b,hb,by rw [e];rfl⟩
theorem zl5 {fp:List Addr} {h:Heap} {p:Addr×Obj} (hp:p∈zhw fp h):p.1∈fp/\h.get? p.1=some p.2:=by
 obtain ⟨b,hb,e⟩:=List.mem_filterMap.mp hp
 cases q:h.get? b with
 | none=>rw [q] at e;cases e
 | some o=>
  rw [q] at e
  have e':(b,o)=p:=Option.some.inj e
  subst e'
  exact ⟨hb,q⟩
theorem Inv.pinned {pins:List (Addr×Obj)} {σ:St} {H:Hp} {s:Shared} {fp:List Addr} (I:Inv X pins σ H s) (hf: ∀ b∈fp,zmQ X pins H b) (ho: ∀ b∈fp, ∃ o,s.heap.get? b=some o/\ ∀ v,o.data≠ .cell v):Inv X (pins++zhw fp s.heap) σ H s:=
 I.pins_of fun p hp=>(qaK.mp hp).elim (fun z=>I.pin p (qak _ z)) fun z=>by
  obtain ⟨hb,e⟩:=zl5 z
  obtain ⟨f0,f1,f2,_⟩:=hf p.1 hb
  obtain ⟨o,e',d⟩:=ho p.1 hb
  rw [e] at e';cases e'
  exact ⟨e,f0,f1,f2,d⟩
theorem Inv.unpinned {pins pl:List (Addr×Obj)} {σ:St} {H:Hp} {s:Shared} (I:Inv X (pins++pl) σ H s):Inv X pins σ H s:=I.pins_of fun p hp=>I.pin p (qak _ (List.mem_append_left _ hp))
theorem zoE {iter:Expr} {body:List Stmt} {wi:TI} {g:TG} {tb:TS} {pos:Pos} (hp:PassesOwn (model X.prog X.w) X.A X.env X.xe) (hc:X.calm=true) (hi:PI X tg iter wi) (hg:PG X tg g) (hb:PSs X body tb)
  (hs: ∀ x,foldedSetIterable iter X.env x=pure x:=by intro _;rfl):PS X (.For tg iter body [] pos) (zvO wi g tb):=by
 intro pins s σ H D I h
 refine wpAny_For (thn (hi pins s σ H _ I h) fun v s1 h1=>thn h1 fun itv s2 h2=> ?_) hs
 obtain ⟨it,fp,tn,J,H2,e,I2,T,st2,f2,W,⟨m0,w0⟩,turn⟩:=h2
 subst e
 have stat: ∀ {H':Hp},(∀ b∈fp,H' b=none)-> ∀ b∈fp,zmQ X pins H' b:=fun hn b hb=>⟨hn b hb,(f2 b hb).2⟩
 refine codeAny_forLoop_any (fun n s'=> ∃ i σ' H',Inv X pins σ' H' s'/\tn i s'.heap/\(∀ b∈fp,H' b=none)/\W i n σ' H') ?_ m0 ⟨0,σ,H2,I2,st2,fun b hb=>(f2 b hb).1,w0⟩
 rintro n s3 ⟨i,σ3,H3,I3,st3,fr3,w3⟩
 rcases turn i n σ3 H3 w3 with ⟨stop,qn⟩ | ⟨go,N,hN,step⟩
 ·refine wpAny_passesOwn hp (thn (T.done X rfl rfl rfl i pins s3 σ3 H3 X.xe I3 (stat fr3) st3 stop) fun r s4 ⟨hr,I4⟩=> ?_)
  subst hr
  exact wpAny_execs_nil ⟨σ3,H3,I4,qn⟩
 ·refine wpAny_passesOwn hp (thn (T.item X rfl rfl rfl i pins s3 σ3 H3 X.xe I3 (stat fr3) st3 go) fun r s4 ⟨u,hr,h4⟩=> ?_)
  subst hr
  refine wpAny_passesOwn hp (thn h4 fun _ s5 ⟨x,H5,I5,r5,y5,st5,fr5⟩=> ?_)
  have I5':=I5.pinned (stat fr5) (T.obj _ _ st5)
  refine wpAny_passesOwn hp (thn (hg _ s5 σ3 H5 x u _ I5' r5 (step x H5 y5)) fun _ s6 ⟨σ6,H6,I6,q6⟩=> ?_)
  refine wpAny_passesOwn hp (thn (hb _ s6 σ6 H6 _ I6 q6) fun f s7 q7=> ?_)
  have again: ∀ {σ7:St} {H7:Hp},Inv X (pins++zhw fp s5.heap) σ7 H7 s7->N σ7 H7-> ∃ m,m<n/\ ∃ i σ' H',Inv X pins σ' H' s7/\tn i s7.heap/\(∀ b∈fp,H' b=none)/\W i m σ' H':=fun {σ7 H7} I7 n7=>by
   obtain ⟨m',hm,w7⟩:=hN σ7 H7 n7
   refine ⟨m',hm,i+1,σ7,H7,I7.unpinned,T.keep _ _ _ st5 fun b hb o e=>(I7.pin (b,o) (qak _ (qak _ (zdr hb e)))).1,fun b hb=> ?_,w7⟩
   obtain ⟨o,e,d⟩:=T.obj _ _ st5 b hb
   exact (I7.pin (b,o) (qak _ (qak _ (zdr hb e)))).2.1
  cases f with
  | next=>obtain ⟨σ7,H7,I7,n7⟩:=q7;exact again I7 n7
  | cont=>obtain ⟨σ7,H7,I7,n7⟩:=q7;exact again I7 n7
  | brk=>obtain ⟨σ7,H7,I7,q7⟩:=q7;exact ⟨σ7,H7,I7.unpinned,q7⟩
  | ret v=>obtain ⟨x7,σ7,H7,I7,r7,q7⟩:=q7;exact ⟨x7,σ7,H7,I7.unpinned,r7,q7⟩
end
abbrev R2:=V->V->Hp->VK->Prop
def OpR (X:Cx) (f:Value->Value->Sem Value) (r:R2):Prop:=
 ∀ (pins:List (Addr×Obj)) (s:Shared) (σ:St) (H:Hp) (x y:V) (v u:Value) (Q:VK),Inv X pins σ H s->zbB x v->zbB y u->r x y H Q->
  wpAny (model X.prog X.w) X.A (f v u) (EP X pins σ Q) X.xe s
def UnR (X:Cx) (f:Value->Sem Value) (r:V->Hp->VK->Prop):Prop:=
 ∀ (pins:List (Addr×Obj)) (s:Shared) (σ:St) (H:Hp) (x:V) (v:Value) (Q:VK),Inv X pins σ H s->zbB x v->r x H Q->
  wpAny (model X.prog X.w) X.A (f v) (EP X pins σ Q) X.xe s
def zaz (X:Cx) (f:Value) (r:List V->Hp->VK->Prop):Prop:=
 ∀ (pins:List (Addr×Obj)) (s:Shared) (σ:St) (H:Hp) (xs:List V) (us:List Value) (Q:VK),Inv X pins σ H s->zba xs us->r xs H Q->
  wpAny (model X.prog X.w) X.A (call f us) (EP X pins σ Q) X.xe s
def tOp (r:R2) (ta tb:TE):TE:=fun σ H Q=>ta σ H fun x H1=>tb σ H1 fun y H2=>r x y H2 Q
def tUn (r:V->Hp->VK->Prop) (ta:TE):TE:=fun σ H Q=>ta σ H fun x H1=>r x H1 Q
def rI (C:Int->Int->Prop) (g:Int->Int->V):R2:=fun x y H Q=> ∃ i j,x= .int i/\y= .int j/\C i j/\Q (g i j) H
def rI0 (g:Int->Int->V):R2:=fun x y H Q=> ∃ i j,x= .int i/\y= .int j/\Q (g i j) H
def rU (g:Int->V):V->Hp->VK->Prop:=fun x H Q=> ∃ i,x= .int i/\Q (g i) H
section
variable {X:Cx} {a b c:Expr} {ta tb tc:TE} {pos:Pos}
theorem zuF (ha:PE X a ta) (hb:PE X b tb) {pins:List (Addr×Obj)} {s:Shared} {σ:St} {H:Hp} {R:V->V->Hp->Prop} (I:Inv X pins σ H s)
  (h:ta σ H fun x H1=>tb σ H1 fun y H2=>R x y H2) {Q:Value->Shared->Prop} {f:Value->Value->Sem Value}
  (hf: ∀ v u s2 x y H2,Inv X pins σ H2 s2->zbB x v->zbB y u->R x y H2->wpAny (model X.prog X.w) X.A (f v u) Q X.xe s2):
  wpAny (model X.prog X.w) X.A (eval a X.env) (fun v s₁=>wpAny (model X.prog X.w) X.A (eval b X.env) (fun u s₂=>wpAny (model X.prog X.w) X.A (f v u) Q X.xe s₂) X.xe s₁) X.xe s:=by
 refine thn (ha pins s σ H _ I h) fun v s1 ⟨x,H1,I1,r1,q1⟩=> ?_
 refine thn (hb pins s1 σ H1 _ I1 q1) fun u s2 ⟨y,H2,I2,r2,q2⟩=> ?_
 exact hf v u s2 x y H2 I2 r1 r2 q2
theorem zt3 {op:Operator} {r:R2} (ho:OpR X (binaryOp op) r) (ha:PE X a ta) (hb:PE X b tb):PE X (.BinOp a op b pos) (tOp r ta tb):=by
 intro pins s σ H Q I h
 exact wpAny_BinOp (zuF ha hb I h fun v u s2 x y H2 I2 rx ry q=>ho pins s2 σ H2 x y v u Q I2 rx ry q)
theorem zuf {op:UnaryOp} {r:V->Hp->VK->Prop} (ho:UnR X (unaryOp op) r) (ha:PE X a ta):PE X (.UnaryOp op a pos) (tUn r ta):=by
 intro pins s σ H Q I h
 exact UnaryOp_ (thn (ha pins s σ H _ I h) fun v s1 ⟨x,H1,I1,r1,q1⟩=>ho pins s1 σ H1 x v Q I1 r1 q1)
theorem opI {f:Value->Value->Sem Value} {C:Int->Int->Prop} {g:Int->Int->Int}
  (rule: ∀ (i j:Int) (t u:Tok) (s:Shared) (Q:Value->Shared->Prop) (E:Value->Shared->Prop),C i j->Q (.int (g i j) s.toks) {s with toks:=s.toks+1}->wpAny (model X.prog X.w) X.A (f (.int i t) (.int j u)) Q E s):
  OpR X f (rI C fun i j=> .int (g i j)):=by
 intro pins s σ H x y v u Q I rx ry h
 obtain ⟨i,j,rfl,rfl,hc,q⟩:=h
 obtain ⟨t,rfl⟩:=rx
 obtain ⟨t',rfl⟩:=ry
 exact rule i j t t' s _ _ hc ⟨.int (g i j),H,I.tok _,⟨_,rfl⟩,q⟩
theorem ztv {f:Value->Value->Sem Value} {g:Int->Int->Int}
  (rule: ∀ (i j:Int) (t u:Tok) (s:Shared) (Q:Value->Shared->Prop) (E:Value->Shared->Prop),Q (.int (g i j) s.toks) {s with toks:=s.toks+1}->wpAny (model X.prog X.w) X.A (f (.int i t) (.int j u)) Q E s):
  OpR X f (rI0 fun i j=> .int (g i j)):=by
 intro pins s σ H x y v u Q I rx ry h
 obtain ⟨i,j,rfl,rfl,q⟩:=h
 obtain ⟨t,rfl⟩:=rx
 obtain ⟨t',rfl⟩:=ry
 exact rule i j t t' s _ _ ⟨.int (g i j),H,I.tok _,⟨_,rfl⟩,q⟩
theorem ztQ {f:Value->Value->Sem Value} {g:Int->Int->Bool}
  (rule: ∀ (i j:Int) (t u:Tok) (s:Shared) (Q:Value->Shared->Prop) (E:Value->Shared->Prop),Q (.bool (g i j)) s->wpAny (model X.prog X.w) X.A (f (.int i t) (.int j u)) Q E s):
  OpR X f (rI0 fun i j=> .bl (g i j)):=by
 intro pins s σ H x y v u Q I rx ry h
 obtain ⟨i,j,rfl,rfl,q⟩:=h
 obtain ⟨t,rfl⟩:=rx
 obtain ⟨t',rfl⟩:=ry
 exact rule i j t t' s _ _ ⟨.bl (g i j),H,I,rfl,q⟩
def ztz (i j:Int):Prop:=0<=j/\j<=1000000/\i.natAbs<2^64
def zu1 (i j:Int):Prop:=(-(2^64)<i/\i<2^64)\/(-(2^64)<j/\j<2^64)
theorem zu1.ok {i j:Int} (h:zu1 i j):IntMulOk i j:=by
 rcases h with ⟨h1,h2⟩ | ⟨h1,h2⟩
 ·exact .of_left (intBits_le_64 h1 h2)
 ·exact .of_right (intBits_le_64 h1 h2)
theorem two_pow_nn (k:Nat):(0:Int)<=2^k:=by
 rw [two_pow_cast]
 exact Int.natCast_nonneg _
theorem zrB:OpR X (binaryOp .Add) (rI0 fun i j=> .int (i+j)):=ztv fun _ _ _ _ _ _ _ q=>add_int q
theorem ztm:OpR X (binaryOp .Sub) (rI0 fun i j=> .int (i - j)):=ztv fun _ _ _ _ _ _ _ q=>sub_int q
theorem zrW:OpR X (binaryOp .Mult) (rI zu1 fun i j=> .int (i*j)):=opI fun _ _ _ _ _ _ _ hc q=>mul_int q hc.ok
theorem zsi:OpR X (binaryOp .Mod) (rI (fun _ j=>0<j) fun i j=> .int (i % j)):=opI fun i j _ _ _ _ _ hc q=>by
 have h1:(0:Int)<j:=hc
 exact mod_int' ⋯ (by rw [Int.fmod_eq_emod_of_nonneg i ⋯];exact q)
theorem zrM:OpR X (binaryOp .Pow) (rI ztz fun i j=> .int (i^j.toNat)):=opI fun _ _ _ _ _ _ _ hc q=>pow_int_small hc.1 hc.2.1 hc.2.2 q
theorem zrK:OpR X (binaryOp .LShift) (rI ztz fun i j=> .int (i*2^j.toNat)):=opI fun _ _ _ _ _ _ _ hc q=>lshift_int_small hc.1 hc.2.1 hc.2.2 q
theorem zry:OpR X (binaryOp .RShift) (rI (fun _ j=>0<=j) fun i j=> .int (i / 2^j.toNat)):=opI fun i j _ _ _ _ _ hc q=>
 rshift_int hc (by rw [Int.fdiv_eq_ediv_of_nonneg i (two_pow_nn _)];exact q)
theorem zrw:OpR X (binaryOp .BitAnd) (rI0 fun i j=> .int (Builtin.bitAnd i j)):=ztv fun _ _ _ _ _ _ _ q=>and_int q
theorem zun:OpR X (binaryOp .BitOr) (rI0 fun i j=> .int (Builtin.bitOr i j)):=ztv fun _ _ _ _ _ _ _ q=>or_int q
theorem unI {f:Value->Sem Value} {g:Int->Int}
  (rule: ∀ (i:Int) (t:Tok) (s:Shared) (Q:Value->Shared->Prop) (E:Value->Shared->Prop),Q (.int (g i) s.toks) {s with toks:=s.toks+1}->wpAny (model X.prog X.w) X.A (f (.int i t)) Q E s):
  UnR X f (rU fun i=> .int (g i)):=by
 intro pins s σ H x v Q I rx h
 obtain ⟨i,rfl,q⟩:=h
 obtain ⟨t,rfl⟩:=rx
 exact rule i t s _ _ ⟨.int (g i),H,I.tok _,⟨_,rfl⟩,q⟩
theorem zrA:UnR X (unaryOp .USub) (rU fun i=> .int (-i)):=unI fun _ _ _ _ _ q=>neg_int q
end
section
variable {X:Cx} {a b c:Expr} {ta tb tc:TE} {pos:Pos}
theorem ztK:OpR X (compareOp .Lt) (rI0 fun i j=> .bl (decide (i<j))):=ztQ fun _ _ _ _ _ _ _ q=>lt_int q
theorem zub:OpR X (compareOp .Gt) (rI0 fun i j=> .bl (decide (j<i))):=ztQ fun _ _ _ _ _ _ _ q=>gt_int q
theorem zuo:OpR X (compareOp .GtE) (rI0 fun i j=> .bl (decide (j<=i))):=ztQ fun _ _ _ _ _ _ _ q=>ge_int q
theorem OpR.or {f:Value->Value->Sem Value} {r r':R2} (h:OpR X f r) (h':OpR X f r'):OpR X f (fun x y H Q=>r x y H Q\/r' x y H Q):=by
 intro pins s σ H x y v u Q I rx ry q
 rcases q with q | q
 ·exact h pins s σ H x y v u Q I rx ry q
 ·exact h' pins s σ H x y v u Q I rx ry q
theorem zqs {op:CmpOp} {r:R2} (ho:OpR X (compareOp op) r) (ha:PE X a ta) (hb:PE X b tb) (hm:behindInMarks op b=false):PE X (.Compare a [op] [b] pos) (tOp r ta tb):=by
 intro pins s σ H Q I h
 exact wpAny_Compare1 (zuF ha hb I h fun v u s2 x y H2 I2 rx ry q=>ho pins s2 σ H2 x y v u Q I2 rx ry q) hm
def zui (t:TE):TT:=fun σ H Q=>t σ H fun x H'=> ∃ k,x= .bl k/\Q k H'
theorem zpH {op:CmpOp} {r:R2} (ho:OpR X (compareOp op) r) (ha:PE X a ta) (hb:PE X b tb) (hm:behindInMarks op b=false):PT X (.Compare a [op] [b] pos) (zui (tOp r ta tb)):=by
 intro pins s σ H Q I h
 refine wpAny_isTrue_Compare1 (thn (ha pins s σ H _ I h) fun v s1 ⟨x,H1,I1,r1,q1⟩=>thn (hb pins s1 σ H1 _ I1 q1) fun u s2 ⟨y,H2,I2,r2,q2⟩=>
   thn (ho pins s2 σ H2 x y v u _ I2 r1 r2 q2) fun c s3 ⟨z,H3,I3,r3,k,e,q3⟩=> ?_) hm
 subst e
 cases r3
 exact wpAny_truthy_bool ⟨H3,I3,q3⟩
theorem zjx:(sizeLine:Nat)<2^63:=by rw [sizeLine_eq];decide
theorem zj9:OpR X (binaryOp .Add) (fun x y H Q=> ∃ i j,x= .str i/\y= .str j/\i.length+j.length<=sizeLine/\Q (.str (i++j)) H):=by
 intro pins s σ H x y v u Q I rx ry h
 obtain ⟨i,j,rfl,rfl,hz,q⟩:=h
 obtain ⟨t,rfl⟩:=rx
 obtain ⟨t',rfl⟩:=ry
 exact add_str (fun t' tk=>⟨.str (i++j),H,I.tok _,⟨_,rfl⟩,q⟩) hz
theorem zcX {x:V} {us:List Value} (r:zba [x] us): ∃ u,us=[u]/\zbB x u:=by
 cases r with
 | cons r1 r2=>cases r2;exact ⟨_,rfl,r1⟩
theorem zmN {x y:V} {us:List Value} (r:zba [x,y] us): ∃ u w',us=[u,w']/\zbB x u/\zbB y w':=by
 cases r with
 | cons r1 r2=>
  cases r2 with
  | cons r3 r4=>cases r4;exact ⟨_,_,rfl,r1,r3⟩
theorem zkH (hc:X.calm=true):zaz X (.builtin "max") (fun xs H Q=> ∃ i j,xs=[.int i,.int j]/\Q (.int (if j>i then j else i)) H):=by
 intro pins s σ H xs us Q I r h
 obtain ⟨i,j,rfl,q⟩:=h
 obtain ⟨u,w',rfl,⟨t,rfl⟩,⟨t',rfl⟩⟩:=zmN r
 refine max_two_ints (I.ok.hd hc) fun h' tk k=>⟨_,H,I.kept k,?_,q⟩
 by_cases hj:j>i
 ·rw [qa4 hj,qa4 hj];exact ⟨_,rfl⟩
 ·rw [qa5 hj,qa5 hj];exact ⟨_,rfl⟩
theorem zlx (hc:X.calm=true):zaz X (.builtin "min") (fun xs H Q=> ∃ i j,xs=[.int i,.int j]/\Q (.int (if j<i then j else i)) H):=by
 intro pins s σ H xs us Q I r h
 obtain ⟨i,j,rfl,q⟩:=h
 obtain ⟨u,w',rfl,⟨t,rfl⟩,⟨t',rfl⟩⟩:=zmN r
 refine min_two_ints (I.ok.hd hc) fun h' tk k=>⟨_,H,I.kept k,?_,q⟩
 by_cases hj:j<i
 ·rw [qa4 hj,qa4 hj];exact ⟨_,rfl⟩
 ·rw [qa5 hj,qa5 hj];exact ⟨_,rfl⟩
theorem zkW:zaz X (.type "int") (fun xs H Q=>(∃ i,xs=[.int i]/\Q (.int i) H)\/ ∃ k,xs=[.bl k]/\Q (.int (if k then 1 else 0)) H):=by
 intro pins s σ H xs us Q I r h
 rcases h with ⟨i,rfl,q⟩ | ⟨k,rfl,q⟩
 ·obtain ⟨u,rfl,t,rfl⟩:=zcX r
  exact call_int_int ⟨.int i,H,I,⟨_,rfl⟩,q⟩
 ·obtain ⟨u,rfl,r1⟩:=zcX r
  cases r1
  exact call_int_bool ⟨.int (if k then 1 else 0),H,I.tok _,⟨_,rfl⟩,q⟩
end
structure zuw (h:Heap) (x dx C:Addr) (mA:Str->Option Value):Prop where
 obj:h.get? x=some (W.instObj C dx)
 ns:h.Ns1 dx mA
 ne:dx≠x
theorem zmF {h:Heap} {dx:Addr} {mA:Str->Option Value} (n:h.Ns1 dx mA): ∃ od,h.get? dx=some od/\ ∀ name,W.lookIn name od=some (mA name):=by
 obtain ⟨o,es,ep,ho,hd,hk,_,hm⟩:=n
 refine ⟨o,ho,fun name=> ?_⟩
 have e:=hm name
 unfold nsFind findBy at e
 rw [<- Array.find?_toList] at e
 unfold W.lookIn
 rw [hd]
 dsimp only
 split
 ·rename_i y q
  rw [q] at e
  exact congrArg some e
 ·rename_i q
  rw [q] at e
  have a:es.toList.any (·.refKey)=false:=by
   rw [List.any_eq_false]
   intro y hy
   obtain ⟨z,t,hkey⟩:=hk y (Array.mem_toList_iff.mp hy)
   simp [DictEntry.refKey,hkey]
  have a': ¬es.toList.any (·.refKey)=true:=by rw [a];exact Bool.false_ne_true
  rw [qa5 a']
  exact congrArg some e
theorem zuw.look {h:Heap} {x dx C:Addr} {mA:Str->Option Value} (I:zuw h x dx C mA): ∃ od,W.InstAt h x (W.instObj C dx) C (some od)/\ ∀ name,W.lookIn name od=some (mA name):=
 let ⟨od,ho,hl⟩:=zmF I.ns
 ⟨od,⟨I.obj,rfl,rfl,ho⟩,hl⟩
section
variable {prog:Program} {w:World} {A:Around} {E:Value->Shared->Prop} {s:Shared} {K:W.Frag} {x dx C f:Addr} {mA:Str->Option Value} {name:Str} {v:Value}
end
section
variable {P:Program} {w:World} {H H':Hp} {h h':Heap} {a C dx:Addr} {fs fs':List (Str×V)}
theorem zpl (hok:HOk P w H h) (e:H a=some (.ins C dx fs)): ∃ mA,zuw h a dx C mA/\(∀ f,ztM (fs.lookup f) (mA f))/\PySem.Within mA (fs.map (·.1))/\fs.length<=1000/\H dx=some (.own a):=by
 obtain ⟨d,z,ne,ob,mA,n,r,q⟩:=(show zbG P w H h a (.ins C dx fs) from hok a _ e)
 exact ⟨mA,⟨ob,n,ne⟩,r,q,z,d⟩
end
structure Cls (K:W.Frag) (C:Addr):Prop where
 pg:W.plainGet K C Str.empty=true
 hd:W.hasDictIn K C=true
 po:W.plainOver K C=true
 sa:W.findIn K (.ref C) "__setattr__"=some (some (.builtin "object.__setattr__"))
theorem Cls.get {K:W.Frag} {C:Addr} (c:Cls K C) (f:Str):W.plainGet K C f=true:=c.pg
def zrS (K:W.Frag) (C:Addr) (f:Str):Prop:=W.findIn K (.ref C) f=some none
structure Con (K:W.Frag) (C:Addr) (f:Str) (v:V) (u:Value):Prop where
 at_:W.findIn K (.ref C) f=some (some u)
 rel:zbB v u
 get:W.specialIn K u "__get__"=some none
 cp:W.copiedNames.contains f=false
structure zvP (K:W.Frag) (C:Addr) (m:Str) (f:Addr):Prop where
 at_:W.findIn K (.ref C) m=some (some (.ref f))
 fn:W.isFn K (.ref f)=true
 kp:W.keepIn K (.ref f)=true
section
variable {X:Cx} {pins:List (Addr×Obj)} {σ:St} {H:Hp} {s:Shared} {a C dx:Addr} {fs:List (Str×V)} {f:Str} {v:V} {A:Around} {E:Value->Shared->Prop}
end
section
variable {X:Cx} {o e value:Expr} {f:Str} {pos pos' tpos:Pos} {ta tv:TE}
end
section
variable {X:Cx} {pins:List (Addr×Obj)} {σ:St} {H:Hp} {s:Shared} {A:Around} {E:Value->Shared->Prop} {Q:Value->Shared->Prop} {c:Value} {b:Bool}
inductive zjo (K:W.Frag) (H:Hp):V->Value->Prop where
 | non:zjo K H .non (.type "NoneType")
 | bl (x:Bool):zjo K H (.bl x) (.type "bool")
 | int (i:Int):zjo K H (.int i) (.type "int")
 | str (x:Str):zjo K H (.str x) (.type "str")
 | flt (x:UInt64):zjo K H (.flt x) (.type "float")
 | lst {a:Addr} {xs:List V} (e:H a=some (.lst xs)):zjo K H (.ref a) (.type "list")
 | frz {a:Addr} {o:Obj} {xs:List V} (e:H a=some (.frz o (.lst xs))):zjo K H (.ref a) (.type "list")
 | tup {a:Addr} {xs:List V} (e:H a=some (.tup xs)):zjo K H (.ref a) (.type "tuple")
 | dK {a:Addr} {kvs:List (Key×V)} (e:H a=some (.dK kvs)):zjo K H (.ref a) (.type "dict")
 | dT {a:Addr} {kvs:List (List Key×V)} (e:H a=some (.dT kvs)):zjo K H (.ref a) (.type "dict")
 | ins {a C dx:Addr} {fs:List (Str×V)} (e:H a=some (.ins C dx fs)) (cl:Cls K C) (ha:W.findIn K (.ref C) "__class__"=some (some (.builtin "object.__class__")))
   (hn:W.specialIn K (.builtin "object.__class__") "__get__"=some (some (.builtin "getset_descriptor.__get__"))) (htk:W.takesIn K (.builtin "object.__class__")=some true)
   (hm:W.mroIn K C (.type "object")=some true):zjo K H (.ref a) (.ref C)
theorem zkN {x:V} {u t:Value} (I:Inv X pins σ H s) (rx:zbB x u) (ty:zjo X.K H x t) (e:W.kitOne X.K t c=some b) (h: ∀ tk,Q (.bool b) {s with toks:=tk}):
  wpAny (model X.prog X.w) A (call (.builtin "isinstance") [u,c]) Q E s:=by
 cases ty with
 | non=>cases (show u=Value.none from rx);exact W.kia_one W.kitx_none I.kIn True.intro e (fun z=>nomatch z) h
 | bl y=>cases (show u=Value.bool y from rx);exact W.kia_one W.kitx_bool I.kIn True.intro e (fun z=>nomatch z) h
 | int i=>obtain ⟨t,q⟩:=(show ∃ t,u=Value.int i t from rx);cases q;exact W.kia_one W.kitx_int I.kIn True.intro e (fun z=>nomatch z) h
 | str y=>obtain ⟨t,q⟩:=(show ∃ t,u=Value.str y t from rx);cases q;exact W.kia_one W.kitx_str I.kIn True.intro e (fun z=>nomatch z) h
 | flt y=>obtain ⟨t,q⟩:=(show ∃ t,u=Value.float y t from rx);cases q;exact W.kia_one W.kitx_float I.kIn True.intro e (fun z=>nomatch z) h
 | @lst a xs ea=>
  cases (show u=Value.ref a from rx)
  obtain ⟨_,_,n,_,h1⟩:=(show zbG X.prog X.w H s.heap a (.lst xs) from I.hok a _ ea)
  exact W.kia_one W.kitx_list I.kIn ⟨_,h1,rfl⟩ e (fun z=>nomatch z) h
 | @frz a ob xs ea=>
  cases (show u=Value.ref a from rx)
  obtain ⟨_,_,_,n,_,h1⟩:=(show zbG X.prog X.w H s.heap a (.frz ob (.lst xs)) from I.hok a _ ea)
  exact W.kia_one W.kitx_list I.kIn ⟨_,h1,rfl⟩ e (fun z=>nomatch z) h
 | @tup a xs ea=>
  cases (show u=Value.ref a from rx)
  obtain ⟨_,_,_,p⟩:=(show zbG X.prog X.w H s.heap a (.tup xs) from I.hok a _ ea)
  obtain ⟨o,h1,h2,_⟩:=p
  exact W.kia_one W.kitx_tuple I.kIn ⟨o,h1,h2⟩ e (fun z=>nomatch z) h
 | @dK a kvs ea=>
  cases (show u=Value.ref a from rx)
  obtain ⟨_,_,vs,_,p⟩:=(show zbG X.prog X.w H s.heap a (.dK kvs) from I.hok a _ ea)
  obtain ⟨o,es,ep,h1,h2,_⟩:=p
  exact W.kia_one W.kitx_dict I.kIn ⟨o,h1,h2.1⟩ e (fun z=>nomatch z) h
 | @dT a kvs ea=>
  cases (show u=Value.ref a from rx)
  obtain ⟨_,_,xs,_,o,es,ep,h1,h2,_⟩:=(show zbG X.prog X.w H s.heap a (.dT kvs) from I.hok a _ ea)
  exact W.kia_one W.kitx_dict I.kIn ⟨o,h1,h2.1⟩ e (fun z=>nomatch z) h
 | @ins a C dx fs ea cl ha hn htk hm=>
  cases (show u=Value.ref a from rx)
  obtain ⟨mA,O,_⟩:=zpl I.hok ea
  obtain ⟨od,J,_⟩:=O.look
  exact W.kia_one (W.kitx_own (cl.get _) cl.hd ha hn htk hm) I.kIn J e (fun z=>nomatch z) h
end
structure zd9 (k:Nat) (A:Around):Prop where
 hd:A.handled=none
 dp:A.depth+3*k+5<recursionLimit
 un:A.units+16*k+200<cLine
theorem zd9.mono {j k:Nat} {A:Around} (r:zd9 k A) (h:j<=k):zd9 j A:=⟨r.hd,by have:=r.dp;omega,by have:=r.un;omega⟩
theorem zd9.deeper {k:Nat} {A:Around} (r:zd9 (k+1) A) (env:Env):zd9 k (A.deeper env):=
 ⟨r.hd,by have:=r.dp;show A.depth+1+3*k+5<_;omega,by have:=r.un;show A.units+3+16*k+200<_;omega⟩
theorem zd9.depth {k:Nat} {A:Around} (r:zd9 k A):A.depth<recursionLimit:=by have:=r.dp;omega
theorem zd9.units {k:Nat} {A:Around} (r:zd9 k A):A.units+64<cLine:=by have:=r.un;omega
def zvy:TA:=fun _ H Q=>Q [] H
def ztY (ta:TE) (tr:TA):TA:=fun σ H Q=>ta σ H fun x H1=>tr σ H1 fun xs H2=>Q (x::xs) H2
section
variable {X:Cx} {e:Expr} {es:List Expr} {te:TE} {t:TA} {pos:Pos}
theorem zb5:PA X [] zvy:=fun _ _ _ _ H Q I h=>Calls.spliced_nil ⟨[],H,I,.nil,h⟩
theorem zaU (ha:PE X e te) (hr:PA X es t) (hs:starEach (e::es) X.env=(false,eval e X.env)::starEach es X.env:=by rfl):PA X (e::es) (ztY te t):=by
 intro pos pins s σ H Q I h
 rw [hs]
 show wpAny _ _ (spliced ((false,eval e X.env)::backTo pos (starEach es X.env))) _ _ s
 refine Calls.spliced_cons (thn (ha pins s σ H _ I h) fun u s1 ⟨x,H1,I1,r1,q1⟩=> ?_)
 exact thn (hr pos pins s1 σ H1 _ I1 q1) fun us s2 ⟨xs,H2,I2,r2,q2⟩=>⟨x::xs,H2,I2,.cons r1 r2,q2⟩
def zvC (t:TA):TE:=fun σ H Q=>t σ H fun xs H1=>xs.length<=sizeLine/\ ∀ p,H1 p=none->Q (.ref p) (upd H1 p (.tup xs))
def zvb (t:TA):TE:=fun σ H Q=>t σ H fun xs H1=>xs.length<=sizeLine/\ ∀ p,H1 p=none->Q (.ref p) (upd H1 p (.lst xs))
theorem zsE {x1} (h:PA X es t):PE X (.Tuple es x1 pos) (zvC t):=by
 intro pins s σ H Q I hq
 refine wpAny_Tuple_spliced (thn (h pos pins s σ H _ I hq) fun us s1 ⟨xs,H1,I1,r,z,q⟩=>⟨by rw [<- r.length];exact z,?_⟩)
 have hf:H1 s1.heap.objs.size=none:=I1.hok.fresh (qaV _)
 refine ⟨.ref s1.heap.objs.size,upd H1 s1.heap.objs.size (.tup xs),I1.laid (t':=s1.toks) (fun b u e=>qag _ e) (qaV _) ?_,rfl,q _ hf⟩
 exact ⟨z,us,r,⟨_,qar _ rfl,rfl,_,rfl,rfl⟩⟩
theorem zoR (h:PA X es t):PE X (.List es pos) (zvb t):=by
 intro pins s σ H Q I hq
 refine wpAny_List_spliced (thn (h pos pins s σ H _ I hq) fun us s1 ⟨xs,H1,I1,r,z,q⟩=>⟨by rw [<- r.length];exact z,?_⟩)
 have hf:H1 s1.heap.objs.size=none:=I1.hok.fresh (qaV _)
 refine ⟨.ref s1.heap.objs.size,upd H1 s1.heap.objs.size (.lst xs),I1.laid (t':=s1.toks) (fun b u e=>qag _ e) (qaV _) ?_,rfl,q _ hf⟩
 exact ⟨z,us,0,r,qar _ rfl⟩
end
abbrev Sp:=List V->Hp->VK->XK->Prop
abbrev CXT:=List Env->Hp->Shared->XK->Value->Shared->Prop
structure zrc (P:Program) (w:World) (K:W.Frag) (mg:Str->Option Value) (base:Heap) (A:Around) (outer:List Env) (s:Shared) (H:Hp):Prop where
 frames:A.frames=some outer
 mod:Mod K mg base
 bs: ∀ b o,base.get? b=some o->s.heap.get? b=some o/\H b=none
 bsz:base.objs.size<=s.heap.objs.size
 funs:s.heap.FunFrames base outer
 frf: ∀ b∈frs outer,H b=none
 hok:HOk P w H s.heap
 bare:AllBare s.gens
 hand:zg6 A H
def CE (outer:List Env) (P:Program) (w:World) (H:Hp) (s:Shared) (Q:VK) (u:Value) (s':Shared):Prop:=
 ∃ v H',s'.os=s.os/\AllBare s'.gens/\Un (frs outer) [] H H' s.heap s'.heap/\HOk P w H' s'.heap/\zbB v u/\Q v H'
def CR (CX:CXT) (outer:List Env) (P:Program) (w:World) (H:Hp) (s:Shared) (Q:VK) (E:XK) (r:Result) (s':Shared):Prop:=
 match r with
 | .ok (.ret u)=>CE outer P w H s Q u s'
 | .ok _=>False
 | .error e=>CX outer H s E e s'
structure zb8 (P:Program) (w:World) (K:W.Frag) (mg:Str->Option Value) (base:Heap) (CX:CXT) (k:Nat) (f:Addr) (fd:FuncData) (ps:List Str) (sp:Sp):Prop where
 len: ∀ vs H Q E,sp vs H Q E->vs.length=ps.length
 run: ∀ (A:Around) (outer:List Env) (s:Shared) (H:Hp) (args:Args) (us:List Value) (vs:List V) (Q:VK) (E:XK),zd9 k A->zrc P w K mg base A outer s H->BindsTo s fd args (ps.zip us)->zba vs us->sp vs H Q E->
  codeAny (model P w) A (.call (.ref f) args) (CR CX outer P w H s Q E) s
section
variable {X:Cx} {pins:List (Addr×Obj)} {σ:St} {H:Hp} {s s':Shared}
theorem Inv.env0 (I:Inv X pins σ H s):zrc X.prog X.w X.K X.mg X.base X.A X.stack s H:=
 ⟨I.ok.frames,I.ok.mod,I.bs,qaS I.ok.bsz I.sz,I.stack,I.stkFree,I.hok,I.bare,I.handA⟩
theorem Inv.after {Q:VK} {u:Value} (I:Inv X pins σ H s) (h:CE X.stack X.prog X.w H s Q u s'):EP X pins σ Q u s':=by
 obtain ⟨v,H',os,bare,un,hok,r,q⟩:=h
 obtain ⟨hh,g,d,t,os'⟩:=s'
 obtain rfl:os'=s.os:=os
 exact ⟨v,H',I.call (h':=hh) (g':=g) (d':=d) (t':=t) (ch:=[]) un hok bare (fun b z=>absurd z (by simp)),r,q⟩
end
def zuJ (sp:Sp) (dvs:List V) (E:XK) (t:TA):TE:=fun σ H Q=>t σ H fun vs H1=>sp (vs++dvs) H1 Q E
def zaL (K:W.Frag) (fd:FuncData) (ps:List Str) (ds:List Value):Prop:=
 ∀ (s:Shared) (us:List Value),K.In s.heap->(us++ds).length=ps.length->BindsTo s fd ⟨us,[]⟩ (ps.zip (us++ds))
theorem zaL.all {K:W.Frag} {fd:FuncData} {ps:List Str} (h: ∀ us:List Value,us.length=ps.length->bindArgs fd ⟨us,[]⟩=pure (ps.zip us)):zaL K fd ps []:=fun s us _ hl=>by
 rw [List.append_nil] at hl ⊢
 exact .of_eq (h us hl)
def zdM (CX:CXT) (X:Cx) (E:XK):Prop:= ∀ (pins:List (Addr×Obj)) (σ:St) (H:Hp) (s:Shared) (e:Value) (s':Shared),Inv X pins σ H s->CX X.stack H s E e s'->X.xe e s'
section
variable {X:Cx} {CX:CXT} {k:Nat} {f C:Addr} {fd:FuncData} {ps:List Str} {sp:Sp} {dvs:List V} {ds:List Value} {E:XK} {x m:Str} {p pos apos:Pos} {e o:Expr} {es:List Expr} {ta:TE} {t:TA}
theorem ztk {pins:List (Addr×Obj)} {σ:St} {H:Hp} {s:Shared} {Q:VK} {us:List Value} {vs:List V} (F:zb8 X.prog X.w X.K X.mg X.base CX k f fd ps sp) (hr:zd9 k X.A) (hb:zaL X.K fd ps ds) (hd:zba dvs ds) (hx:zdM CX X E)
  (I:Inv X pins σ H s) (r:zba vs us) (h:sp (vs++dvs) H Q E):wpAny (model X.prog X.w) X.A (call (.ref f) us) (EP X pins σ Q) X.xe s:=by
 have r2:zba (vs++dvs) (us++ds):=r.append hd
 have hl:(us++ds).length=ps.length:=by rw [<- r2.length];exact F.len _ _ _ _ h
 refine wpAny_call (codeAny_mono (F.run X.A X.stack s H ⟨us,[]⟩ (us++ds) (vs++dvs) Q E hr I.env0 (hb s us I.kIn hl) r2 h) fun r s' hq=> ?_)
 cases r with
 | error e=>exact hx pins σ H s e s' I hq
 | ok fl=>
  cases fl with
  | ret u=>exact I.after hq
  | next=>exact qa0 hq
  | brk=>exact qa0 hq
  | cont=>exact qa0 hq
theorem ziD (F:zb8 X.prog X.w X.K X.mg X.base CX k f fd ps sp) (hr:zd9 k X.A) (hg:Gl X x) (hm:X.mg x=some (.ref f)) (hk:W.keepIn X.K (.ref f)=true) (hb:zaL X.K fd ps ds) (hd:zba dvs ds) (hx:zdM CX X E)
  (ha:PA X (e::es) t) (hdb:(x==("__debug__":Str))=false:=by decide) (he:starEach (e::es) X.env=(false,eval e X.env)::starEach es X.env:=by rfl) (hpl:(backTo pos (starEach es X.env)).any (·.1)=false:=by rfl):
  PE X (.Call (.Name x p) (e::es) [] pos) (zuJ sp dvs E t):=by
 intro pins s σ H Q I h
 refine wpAny_Call_Name_kw (zif I hg hm ?_ hdb)
 refine W.callWith_K (h₀:=X.base) I.ok.mod.kin hk (thn (ha pos pins s σ H _ I h) fun us s1 ⟨vs,H1,I1,r,q⟩=>⟨I1.kIn,?_⟩) he hpl
 exact ztk F hr hb hd hx I1 r q
structure Mk (K:W.Frag) (C f:Addr):Prop where
 makes:W.makesIn K C=true
 init:W.findIn K (.ref C) "__init__"=some (some (.ref f))
 fn:W.isFn K (.ref f)=true
 kp:W.keepIn K (.ref C)=true
end
section
variable {X:Cx} {CX:CXT} {k:Nat} {f C:Addr} {fd:FuncData} {ps ks:List Str} {sp:Sp} {E:XK} {x m:Str} {p pos apos kpos:Pos} {e o:Expr} {es:List Expr} {kws:List Keyword} {te ta:TE} {t tk:TA} {nm:Option Str}
structure zvd (K:W.Frag) (fd:FuncData) (ps ks:List Str) (g:List Value->List Value->List Value) (gV:List V->List V->List V):Prop where
 to: ∀ (s:Shared) (us ws:List Value),K.In s.heap->(g us ws).length=ps.length->BindsTo s fd ⟨us,ks.zip ws⟩ (ps.zip (g us ws))
 rel: ∀ {vs:List V} {us:List Value} {zs:List V} {ws:List Value},zba vs us->zba zs ws->zba (gV vs zs) (g us ws)
variable {g:List Value->List Value->List Value} {gV:List V->List V->List V}
end
structure zat (N P:List Str) (sc:Scope):Prop where
 kind:sc.kind= .function
 co:sc.isCoroutine=false
 gen:sc.isGenerator=false
 nd:N.Nodup
 pre:N.take P.length=P
 par: ∀ x∈P,sc.names.lookup x=some .local\/sc.names.lookup x=some .cell
 nofree: ∀ y∈sc.names,y.2≠ .free
theorem zhC {kindOf:Str->Option NameKind} {x:Str}: ∀ {binds:List (Str×Value)} {m:Str->Option Value},(∀ v,(x,v)∉binds)->bindL kindOf binds m x=m x
 | [],_,_=>rfl
 | (n,v)::r,m,h=>by
  unfold bindL
  rw [zhC fun w hw=>h w (qan _ hw)]
  split
  ·have:x≠n:=by rintro rfl;exact h v qau
   simp [this]
  ·rfl
theorem zgZ {kindOf:Str->Option NameKind} {x:Str}: ∀ {binds:List (Str×Value)} {m:Str->Option Value},(∀ v,(x,v)∉binds)->bindC kindOf binds m x=m x
 | [],_,_=>rfl
 | (n,v)::r,m,h=>by
  unfold bindC
  rw [zgZ fun w hw=>h w (qan _ hw)]
  split
  ·rfl
  ·have:x≠n:=by rintro rfl;exact h v qau
   simp [this]
theorem zh3 {kindOf:Str->Option NameKind} {x:Str} {v:Value}: ∀ {P:List Str} {vs:List Value} {i:Nat} {m:Str->Option Value},P.Nodup->P[i]? = some x->vs[i]? = some v->kindOf x=some .local->
  bindL kindOf (P.zip vs) m x=some v
 | [],_,_,_,_,h,_,_=>by simp at h
 | _::_,[],_,_,_,_,h,_=>by simp at h
 | p::P,w::vs,0,m,nd,h1,h2,hk=>by
  simp at h1 h2;subst h1;subst h2
  show bindL kindOf ((p,w)::P.zip vs) m p=_
  unfold bindL
  rw [zhC fun v hv=>(List.nodup_cons.mp nd).1 (List.of_mem_zip hv).1,qa4 hk]
  simp
 | p::P,w::vs,i+1,m,nd,h1,h2,hk=>by
  show bindL kindOf ((p,w)::P.zip vs) m x=_
  unfold bindL
  exact zh3 (i:=i) (List.nodup_cons.mp nd).2 (by simpa using h1) (by simpa using h2) hk
theorem zh5 {kindOf:Str->Option NameKind} {x:Str} {v:Value}: ∀ {P:List Str} {vs:List Value} {i:Nat} {m:Str->Option Value},P.Nodup->P[i]? = some x->vs[i]? = some v->kindOf x≠some .local->
  bindC kindOf (P.zip vs) m x=some v
 | [],_,_,_,_,h,_,_=>by simp at h
 | _::_,[],_,_,_,_,h,_=>by simp at h
 | p::P,w::vs,0,m,nd,h1,h2,hk=>by
  simp at h1 h2;subst h1;subst h2
  show bindC kindOf ((p,w)::P.zip vs) m p=_
  unfold bindC
  rw [zgZ fun v hv=>(List.nodup_cons.mp nd).1 (List.of_mem_zip hv).1,qa5 hk]
  simp
 | p::P,w::vs,i+1,m,nd,h1,h2,hk=>by
  show bindC kindOf ((p,w)::P.zip vs) m x=_
  unfold bindC
  exact zh5 (i:=i) (List.nodup_cons.mp nd).2 (by simpa using h1) (by simpa using h2) hk
def zef (N:List Str) (vs:List V):St:=vs.map some++List.replicate (N.length - vs.length) none
def zh8 (CX:CXT) (P:Program) (w:World) (K:W.Frag) (mg:Str->Option Value) (base:Heap) (N:List Str) (qual:Str) (scope:Scope) (f:Addr) (cd:Value) (A:Around) (outer:List Env) (s:Shared) (H:Hp) (E:XK):Cx where
 prog:=P
 w:=w
 K:=K
 mg:=mg
 base:=base
 A:=A.deeper (envOfC qual scope s.heap.objs.size f cd)
 N:=N
 s₀:=s
 H₀:=H
 env:=envOfC qual scope s.heap.objs.size f cd
 outer:=outer
 stack:=envOfC qual scope s.heap.objs.size f cd::outer
 ex:=[]
 calm:=true
 fn:=fun _=>true
 pn:=[]
 xe:=fun e s'=>wpAny (model P w) (A.deeper (envOfC qual scope s.heap.objs.size f cd)) (leaving (envOfC qual scope s.heap.objs.size f cd) e) (fun _ s''=>CX outer H s E e s'') (fun e' s''=>CX outer H s E e' s'') s'
theorem ziO {sc:Scope} {n:Nat} {x:Str} (h:sc.names.lookup x=some .cell): ∃ c,(cellsFrom n sc.names []).lookup x=some c:=by
 have q:=W.cellsFrom_some sc.names n [] (.inl h)
 exact Option.isSome_iff_exists.mp q
theorem zhG {CX:CXT} {P:Program} {w:World} {K:W.Frag} {mg:Str->Option Value} {base:Heap} {N ps:List Str} {qual:Str} {scope:Scope} {f:Addr} {cd:Value} {A:Around} {outer:List Env} {s s1:Shared} {H:Hp} {E:XK} {us:List Value} {vs:List V}
  (S:zat N ps scope) {cm:Bool} (hd:cm=true->A.handled=none) (e0:zrc P w K mg base A outer s H) (hl:vs.length=ps.length) (r:zba vs us)
  (x:InCallC s s.heap.objs.size (bindL (envOfC qual scope s.heap.objs.size f cd).kindOf (ps.zip us) fun _=>none) (cellsFrom (s.heap.objs.size+1) scope.names []) (bindC (envOfC qual scope s.heap.objs.size f cd).kindOf (ps.zip us) fun _=>none) s1):
  Inv {zh8 CX P w K mg base N qual scope f cd A outer s H E with calm:=cm} [] (zef N vs) H s1:=by
 have hpl:ps.length<=N.length:=by have:=congrArg List.length S.pre;rw [List.length_take] at this;omega
 obtain ⟨h1,tk,rfl,hk⟩:=x.done
 have noA: ∀ b:Addr,b∉(zh8 CX P w K mg base N qual scope f cd A outer s H E).ex:=fun b z=>absurd (show b∈([]:List Addr) from z) (by simp)
 refine ⟨⟨e0.mod,S.kind,rfl,rfl,qaV _,fun y z c h1 h2=> ?_,fun y hy=> ?_,fun y c _ h=> ?_,hd,e0.hand,Around.frames_deeper e0.frames,.inr ⟨rfl,rfl⟩,fun b z=>absurd z (noA b),e0.bs,e0.bsz,fun b _ _=>noA b,fun b z=>absurd z (noA b),e0.funs,e0.frf⟩,
   rfl,e0.bare,Un.kept hk,⟨_,x.toInCall.ns,fun i y v h1 h2 h3=> ?_⟩,fun y c h=>⟨_,x.cell y c h⟩,e0.hok.fresh (qaV _),fun y c h=> ?_,fun p hp=>absurd (show p∈([]:List (Addr×Obj)) from hp) (by simp),e0.hok.kept hk,?_⟩
 ·exact name_of_addr x.apart (PySem.mem_of_lookup h1) (PySem.mem_of_lookup h2)
 ·have hy:scope.names.lookup y=some .cell\/scope.names.lookup y=some .free:=hy
  rcases hy with hy | hy
  ·exact ziO hy
  ·exact absurd rfl (S.nofree _ (PySem.mem_of_lookup hy))
 ·exact Nat.le_of_lt (x.above y c (PySem.mem_of_lookup h))
 ·have hi:i<vs.length:=by
   unfold zef at h2
   by_cases hi:i<vs.length
   ·exact hi
   ·rw [qaa (by simpa using hi)] at h2
    rw [List.getElem?_replicate] at h2
    split at h2<;>cases h2
  have ha:vs[i]? = some v:=by
   unfold zef at h2
   rw [qad (by simpa using hi),List.getElem?_map] at h2
   cases e:vs[i]? with
   | none=>rw [e] at h2;cases h2
   | some a=>rw [e] at h2;cases h2;rfl
  obtain ⟨u,hu,rv⟩:=r.get ha
  have hp:ps[i]? = some y:=by
   rw [<- S.pre,List.getElem?_take_of_lt ⋯];exact h1
  have ndP:ps.Nodup:=by rw [<- S.pre];exact S.nd.sublist (List.take_sublist _ _)
  refine ⟨u,rv,?_⟩
  rcases S.par y (List.mem_of_getElem? hp) with k | k
  ·exact .inl ⟨k,zh3 ndP hp hu k⟩
  ·obtain ⟨c,e⟩:=ziO (n:=s.heap.objs.size+1) k
   refine .inr ⟨.inl k,c,e,?_⟩
   have q:=x.cell y c e
   rw [zh5 ndP hp hu (by show scope.names.lookup y≠_;rw [k];decide)] at q
   exact q
 ·exact e0.hok.fresh (Nat.le_of_lt (x.above y c (PySem.mem_of_lookup h)))
 ·unfold zef
  show _=N.length
  rw [qav,qaH,List.length_replicate]
  omega
theorem zsR {CX:CXT} {P:Program} {w:World} {K:W.Frag} {mg:Str->Option Value} {base:Heap} {k:Nat} {f:Addr} {name qual:Str} {params:Arguments} {body:List Stmt} {scope:Scope} {dV kV doc pm cdv ct oc:Value} {an od:Option Addr}
  {osl:Array (Option Value)} {N ps:List Str} {sp:Sp} (lk:K.lookup f=some ⟨oc,od,.func (W.fnOf name qual params body scope dV kV doc pm an cdv ct),osl⟩) (hcd:W.codeIn K cdv qual=true) (S:zat N ps scope)
  (len: ∀ vs H Q E,sp vs H Q E->vs.length=ps.length)
  (hbody: ∀ (A:Around) (outer:List Env) (s:Shared) (H:Hp) (vs:List V) (Q:VK) (E:XK),zd9 k (A.deeper (envOfC qual scope s.heap.objs.size f cdv))->sp vs H Q E->
    ∃ t,PSs (zh8 CX P w K mg base N qual scope f cdv A outer s H E) body t/\t {nx:=fun _ H'=>Q .non H',rt:=Q} (zef N vs) H):
  zb8 P w K mg base CX (k+1) f (W.fnOf name qual params body scope dV kV doc pm an cdv ct) ps sp:=by
 refine ⟨len,fun A outer s H args us vs Q E hr e0 hb r hsp=> ?_⟩
 have hl:=len _ _ _ _ hsp
 have KX:K.In s.heap:=e0.mod.kin.keeps fun b o e=>(e0.bs b o e).1
 have lim:s.heap.NoLimit:=e0.mod.nolimit.keeps fun b o e=>(e0.bs b o e).1
 have hkind: ∀ y∈ps.zip us,scope.names.lookup y.1=some .local\/(scope.names.lookup y.1=some .cell/\((cellsFrom (s.heap.objs.size+1) scope.names []).lookup y.1).isSome=true):=fun ⟨n,v⟩ hy=>by
  rcases S.par n (List.of_mem_zip hy).1 with q | q
  ·exact .inl q
  ·exact .inr ⟨q,W.cellsFrom_some _ _ _ (.inl q)⟩
 refine codeAny_call_function hr.depth (KX _ _ lk) rfl S.co S.gen rfl (W.codeRec_of KX hcd) (hb _ _ _ _ ?_)
 refine wpAny_newFunctionEnv_cells S.kind hkind fun env he s1 x=> ?_
 subst he
 refine ⟨lim.keeps x.toInCall.keep,codeAny_func ?_⟩
 obtain ⟨t,ht,hq⟩:=hbody A outer s H vs Q E (hr.deeper _) hsp
 have I:Inv (zh8 CX P w K mg base N qual scope f cdv A outer s H E) [] (zef N vs) H s1:=zhG (cm:=true) S (fun _=>hr.hd) e0 hl r x
 refine qaZ (ht [] s1 (zef N vs) H _ I hq) (fun fl s' hs=> ?_) fun e s' hs=>hs
 have fin: ∀ {σ':St} {H':Hp} {v:V} {u:Value},Inv (zh8 CX P w K mg base N qual scope f cdv A outer s H E) [] σ' H' s'->zbB v u->Q v H'->CE outer P w H s Q u s':=
  fun {σ' H' v u} J rv q=>⟨v,H',J.os,J.bare,J.base,J.hok,rv,q⟩
 cases fl with
 | ret u=>
  obtain ⟨v,σ',H',J,rv,q⟩:=hs
  exact fin J rv q
 | next=>
  obtain ⟨σ',H',J,q⟩:=hs
  exact fin (v:=V.non) (u:=Value.none) J rfl q
 | brk=>
  obtain ⟨_,_,_,q⟩:=hs
  exact qa0 q
 | cont=>
  obtain ⟨_,_,_,q⟩:=hs
  exact qa0 q
section
variable {X:Cx} {x:Str} {p pos:Pos} {e:Expr} {es:List Expr} {t:TA} {id T:String} {r:List V->Hp->VK->Prop}
def tCB (r:List V->Hp->VK->Prop) (t:TA):TE:=fun σ H Q=>t σ H fun vs H1=>r vs H1 Q
theorem zd3 (hc:zaz X (.builtin id) r) (hg:Gl X x) (hm:X.mg x=none) (hv:bootBuiltins x=some (.builtin id)) (ha:PA X (e::es) t) (hn:x≠"__name__":=by decide) (hdb:(x==("__debug__":Str))=false:=by decide)
  (he:starEach (e::es) X.env=(false,eval e X.env)::starEach es X.env:=by rfl) (hpl:(backTo pos (starEach es X.env)).any (·.1)=false:=by rfl):PE X (.Call (.Name x p) (e::es) [] pos) (tCB r t):=by
 intro pins s σ H Q I h
 refine wpAny_Call_Name_kw (zh7 I hg hm hv ?_ hn hdb)
 exact PyProof.Rows.callWith_builtin1 (thn (ha pos pins s σ H _ I h) fun us s1 ⟨vs,H1,I1,r1,q1⟩=>hc pins s1 σ H1 vs us Q I1 r1 q1) he hpl
theorem zbL (hc:zaz X (.type T) r) (hg:Gl X x) (hm:X.mg x=none) (hv:bootBuiltins x=some (.type T)) (ha:PA X (e::es) t) (hn:x≠"__name__":=by decide) (hdb:(x==("__debug__":Str))=false:=by decide)
  (he:starEach (e::es) X.env=(false,eval e X.env)::starEach es X.env:=by rfl) (hpl:(backTo pos (starEach es X.env)).any (·.1)=false:=by rfl):PE X (.Call (.Name x p) (e::es) [] pos) (tCB r t):=by
 intro pins s σ H Q I h
 refine wpAny_Call_Name_kw (zh7 I hg hm hv ?_ hn hdb)
 exact PyProof.Rows.callWith_type1 (thn (ha pos pins s σ H _ I h) fun us s1 ⟨vs,H1,I1,r1,q1⟩=>hc pins s1 σ H1 vs us Q I1 r1 q1) he hpl
end
end L2
namespace HT
def zbd:List Int->List Int->Bool
 | [],[]=>false
 | [],_::_=>true
 | _::_,[]=>false
 | x::xs,y::ys=>if x=y then zbd xs ys else decide (x<y)
theorem zbf (x y:Int) (xs ys:List Int):zbd (x::xs) (y::ys)=if x=y then zbd xs ys else decide (x<y):=rfl
theorem zgI:zbd [] []=false:=rfl
theorem zft (y:Int) (ys:List Int):zbd [] (y::ys)=true:=rfl
theorem zfx (x:Int) (xs:List Int):zbd (x::xs) []=false:=rfl
theorem znd (A:Around) (s:Shared) (a:Int) (t:Tok) (c:Int) (u:Tok): ∃ e,SeqAt.EqAt A s (.int a t) (.int c u) e/\(e=true↔a=c):=
 ⟨(a==c),SeqAt.EqAt.int_int a t c u,by simp⟩
theorem zgk (A:Around) (s:Shared) (a:Int) (t:Tok) (c:Int) (u:Tok) (prog:Program) (w:World) (E:Value->Shared->Prop) (Q:Value->Shared->Prop) (h:Q (.bool (decide (a<c))) s):
  wpAny (model prog w) A (richCompare .Lt (.int a t) (.int c u)) Q E s:=
 (PyProof.Rows.lt_int h:wpAny (model prog w) A (compareOp .Lt (.int a t) (.int c u)) Q E s)
section
open PySem.SeqAt
open PySem.AutoSeq1 (wpAny_loadPart')
open PySem.MeetsSeq PySem.MeetsSeq2 PySem.MeetsSeq3
theorem zgp (l b:Addr) (items items2:Array Value) (n n2:Nat) (dd dd2:Option Addr) (sl sl2:Array (Option Value)) (ns ms:List Int) (hi:IntsAre items.toList ns) (hj:IntsAre items2.toList ms):
  Meets (Builtin.«tuple.__lt__» ⟨[.ref l,.ref b],[]⟩)
   (fun _ R s=>s.heap.get? l=some {cls:= .type "tuple",dict:=dd,data:= .seq items n,slots:=sl}/\s.heap.get? b=some {cls:= .type "tuple",dict:=dd2,data:= .seq items2 n2,slots:=sl2}/\
     R (.ok (.ret (.bool (zbd ns ms)))) s):=
 .of_wp fun prog w A R s h=>by
  obtain ⟨hp,g,d,tk,os⟩:=s;obtain ⟨hl,hb,h⟩:=h
  have f2:=AutoSeq1.sub_tuple_tuple
  have z1:items.size=ns.length:=by rw [<- hi.length];simp
  have z2:items2.size=ms.length:=by rw [<- hj.length];simp
  wp_walk using wpAny_loadPart' hl,wpAny_loadPart' hb,wpAny_forIn_list _ (fun rest b s'=>b.1=none/\s'=⟨hp,g,d,tk,os⟩/\ ∃ (vs ws:List Value) (ns' ms':List Int),rest=vs.zip ws/\
    IntsAre vs ns'/\IntsAre ws ms'/\ns'.length+items2.size=ms'.length+items.size/\R (.ok (.ret (.bool (zbd ns' ms')))) ⟨hp,g,d,tk,os⟩) _
  case turn=>
   rintro ⟨y,x⟩ rest b s' ⟨hb',rfl,vs,ws,ns',ms',hz,hvi,hwi,hlen,hR⟩
   cases hvi with
   | nil=>rw [List.zip_nil_left] at hz;cases hz
   | cons a t hvi'=>
    cases hwi with
    | nil=>rw [List.zip_nil_right] at hz;cases hz
    | cons c u hwi'=>
     rw [List.zip_cons_cons] at hz
     injection hz with hyx hrest
     injection hyx with hy hx
     subst hy hx
     rw [zbf] at hR
     simp only [qaE] at hlen
     obtain ⟨e,he,hiff⟩:=znd A.in1 ⟨hp,g,d,tk,os⟩ a t c u
     refine qaW (he prog w _ _ ?_)
     cases e with
     | true=>
      rw [qa4 (hiff.mp rfl)] at hR
      wp_walk
      exact ⟨rfl,rfl,_,_,_,_,hrest,hvi',hwi',⋯,hR⟩
     | false=>
      rw [qa5 (fun q=>absurd (hiff.mpr q) Bool.false_ne_true)] at hR
      have hri:=zgk A.in1 ⟨hp,g,d,tk,os⟩ a t c u prog w
      wp_walk using hri
      exact ⟨_,rfl,by simpa using hR⟩
  case fin=>
   rintro ⟨b1,b2⟩ s' ⟨hb',rfl,vs,ws,ns',ms',hz,hvi,hwi,hlen,hR⟩
   simp only at hb'
   subst hb'
   have hv:zbd ns' ms'=decide (items.size<items2.size):=by
    cases hvi with
    | nil=>
     cases hwi with
     | nil=>
      simp only [qaJ] at hlen
      rw [zgI]
      exact (decide_eq_false ⋯).symm
     | cons c u hw=>
      simp only [qaJ,qaE] at hlen
      rw [zft]
      exact (decide_eq_true ⋯).symm
    | cons a t hv=>
     cases hwi with
     | nil=>
      simp only [qaJ,qaE] at hlen
      rw [zfx]
      exact (decide_eq_false ⋯).symm
     | cons c u hw=>
      rw [List.zip_cons_cons] at hz
      cases hz
   rw [hv] at hR
   wp_walk
   exact ⟨_,rfl,by simpa [Builtin.Tuple.tupleCompareSizes] using hR⟩
  case h=>
   exact ⟨rfl,rfl,items.toList,items2.toList,ns,ms,rfl,hi,hj,⋯,h⟩
end
section
variable {prog:Program} {w:World} {A:Around} {E:Value->Shared->Prop} {s:Shared}
theorem zkh {l b:Addr} {items items2:Array Value} {ns ms:List Int} {Q:Value->Shared->Prop} (hl:IsTup s.heap l items) (hb:IsTup s.heap b items2) (hi:IntsAre items.toList ns) (hj:IntsAre items2.toList ms)
  (hu:A.units<cLine) (h:Q (.bool (zbd ns ms)) s):wpAny (model prog w) A (compareOp .Lt (.ref l) (.ref b)) Q E s:=by
 obtain ⟨⟨cls,dd,data,sl⟩,ho,hc,n,hd⟩:=id hl
 obtain ⟨⟨cls2,dd2,data2,sl2⟩,ho2,hc2,n2,hd2⟩:=id hb
 simp only at hc hd hc2 hd2
 subst hc hd hc2 hd2
 exact richCompare_meets_room (op:= .Lt) ⟨_,ho,rfl⟩ ⟨_,ho2,rfl⟩ PySem.F.slot_tuple_lt PySem.F.entry_tuple_lt (PySem.F.args_tuple_lt_2 _ _) (zgp l b items items2 n n2 dd dd2 sl sl2 ns ms hi hj)
  ⟨ho,ho2,show Value.bool (zbd ns ms)≠Value.notImplemented/\Q (.bool (zbd ns ms)) s from ⟨(fun x=>nomatch x),h⟩⟩ hu
theorem zqd {t b:Addr} {vs ws:List Value} {Q:Value->Shared->Prop} (ht:IsTup s.heap t vs.toArray) (hb:IsTup s.heap b ws.toArray) (hv:vs≠[])
  (h1:ws=[]->Q (.ref t) s) (h2:ws≠[]->Q (.ref s.heap.objs.size) {s with heap:=s.heap.push {cls:= .type "tuple",data:= .seq (vs++ws).toArray}})
  (hsz:vs.length+ws.length<=sizeLine):wpAny (model prog w) A (binaryOp .Add (.ref t) (.ref b)) Q E s:=by
 obtain ⟨⟨cls,dd,data,sl⟩,ho,hc,n,hd⟩:=id ht
 obtain ⟨⟨cls2,dd2,data2,sl2⟩,ho2,hc2,n2,hd2⟩:=id hb
 simp only at hc hd hc2 hd2
 subst hc hd hc2 hd2
 have e:vs.toArray++ws.toArray=(vs++ws).toArray:=by simp
 by_cases hw:ws=[]
 ·exact concat_meets ⟨_,ho,rfl⟩ ⟨_,ho2,rfl⟩ noFill_tuple_add seq_tuple_add PySem.F.slot_tuple_add PySem.F.entry_tuple_add (PySem.F.args_tuple_add_2 _ _)
   (tuple_addW1 t b vs.toArray ws.toArray n n2 dd dd2 sl sl2 (by simpa using hv) (by simp [hw])) ⟨ho,ho2,h1 hw⟩
 ·refine concat_meets ⟨_,ho,rfl⟩ ⟨_,ho2,rfl⟩ noFill_tuple_add seq_tuple_add PySem.F.slot_tuple_add PySem.F.entry_tuple_add (PySem.F.args_tuple_add_2 _ _)
   (tuple_addW2 t b vs.toArray ws.toArray n n2 dd dd2 sl sl2 (by simpa using hv) (by simpa using hw) (by rw [qaA,qaA];exact hsz)) ⟨ho,ho2,?_⟩
  rw [e]
  exact h2 hw
def sIx (n d:Nat):Option Int->Nat
 | none=>d
 | some v=>if v<0 then (v+(n:Int)).toNat else min v.toNat n
theorem zlF (n d k:Nat):sIx n d (some (k:Int))=min k n:=by
 show (if (k:Int)<0 then ((k:Int)+(n:Int)).toNat else min (k:Int).toNat n)=min k n
 rw [qa5 ⋯,qaB]
theorem zti (n d:Nat) (hd:d<=n) (o:Option Int):sIx n d o<=n:=by
 cases o with
 | none=>exact hd
 | some v=>
  show (if v<0 then (v+(n:Int)).toNat else min v.toNat n)<=n
  by_cases hv:v<0
  ·rw [qa4 hv];omega
  ·rw [qa5 hv];exact Nat.min_le_right _ _
theorem zle (v:Int) (n d:Nat):(if v<0 then max (v+(n:Int)) 0 else min v (n:Int))=((sIx n d (some v):Nat):Int):=by
 show (if v<0 then max (v+(n:Int)) 0 else min v (n:Int))=(((if v<0 then (v+(n:Int)).toNat else min v.toNat n):Nat):Int)
 by_cases hv:v<0
 ·simp only [qa4 hv];omega
 ·simp only [qa5 hv];omega
theorem zkk (lo hi:Option Int) (n:Nat):Builtin.Slice.sliceAdjust lo hi 1 (n:Int)=(((sIx n 0 lo:Nat):Int),((sIx n n hi:Nat):Int)):=by
 have h1: ¬((1:Int)<0):=by omega
 unfold Builtin.Slice.sliceAdjust
 simp only [h1,if_false]
 refine Prod.ext ?_ ?_
 ·cases lo with
  | none=>rfl
  | some v=>exact zle v n 0
 ·cases hi with
  | none=>rfl
  | some v=>exact zle v n n
theorem zjI (i j:Nat):Builtin.Slice.slicePlaces (i:Int) (j:Int) 1=j - i:=by
 unfold Builtin.Slice.slicePlaces
 have h1:(1:Int)>0:=by omega
 simp only [h1,if_true,Int.ediv_one]
 split<;>omega
theorem zfC {v:Value} {o:Option Int} {Q:Option Int->Shared->Prop} (p:IsPart v o) (h:Q o s):wpAny (model prog w) A (Builtin.Slice.slicePartIndex v) Q E s:=by
 cases p with
 | none=>exact slicePart_none h
 | int i t=>exact slicePart_int h
theorem zc9 {sl:Addr} {vl vu:Value} {lo hi:Option Int} {n:Nat} {Q:Int×Int×Nat->Shared->Prop} (hs:s.heap.IsSliceOf sl vl vu .none) (pl:IsPart vl lo) (pu:IsPart vu hi)
  (h:Q (((sIx n 0 lo:Nat):Int),1,sIx n n hi - sIx n 0 lo) s):wpAny (model prog w) A (Builtin.Slice.sliceApplied (.ref sl) (pure (n:Int))) Q E s:=by
 obtain ⟨os,hos,hcs,hds⟩:=id hs
 unfold Builtin.Slice.sliceApplied Builtin.Slice.sliceFields
 refine qaW (qaW (wpAny_field hos hds (x:=vl) rfl (qaW (wpAny_field hos hds (x:=vu) rfl (qaW (wpAny_field hos hds (x:= .none) rfl (qaX ?_)))))))
 refine qaW (slicePart_none ?_)
 show wpAny _ _ (if ((1:Int)==0)=true then _ else _) _ _ s
 rw [qa5 (by decide)]
 refine qaW (zfC pl (qaW (zfC pu (qaW (qaX ?_)))))
 show wpAny _ _ (match Builtin.Slice.sliceAdjust lo hi 1 (n:Int) with | (lo,hi)=>pure (lo,(1:Int),Builtin.Slice.slicePlaces lo hi 1)) _ _ s
 rw [zkk lo hi n]
 show wpAny _ _ (pure (((sIx n 0 lo:Nat):Int),(1:Int),Builtin.Slice.slicePlaces ((sIx n 0 lo:Nat):Int) ((sIx n n hi:Nat):Int) 1)) _ _ s
 rw [zjI]
 exact qaX h
theorem znk (xs:Array Value) (i k:Nat):((List.range k).filterMap fun (m:Nat)=>xs[((i:Int)+(m:Int)*1).toNat]?).toArray=((xs.toList.drop i).take k).toArray:=by
 have e:(fun (m:Nat)=>xs[((i:Int)+(m:Int)*1).toNat]?)=fun m=>xs[i+m]? := by
  funext m
  have:((i:Int)+(m:Int)*1).toNat=i+m:=by omega
  rw [this]
 rw [e]
 have:=pick_run xs i k
 rw [List.filterMap_map] at this
 have e2:((fun x=>xs[x]?)∘fun x=>i+x)=fun m=>xs[i+m]? := rfl
 rw [e2] at this
 rw [this]
theorem zel {t sl:Addr} {items:Array Value} {vl vu:Value} {lo hi:Option Int} {Q:Value->Shared->Prop} (ht:IsTup s.heap t items) (hs:s.heap.IsSliceOf sl vl vu .none) (pl:IsPart vl lo) (pu:IsPart vu hi)
  (hw: ¬(sIx items.size 0 lo=0/\sIx items.size items.size hi=items.size))
  (h:Q (.ref s.heap.objs.size) {s with heap:=s.heap.push {cls:= .type "tuple",data:= .seq ((items.toList.drop (sIx items.size 0 lo)).take (sIx items.size items.size hi - sIx items.size 0 lo)).toArray}})
  (hsz:items.size<=sizeLine):wpAny (model prog w) A (getItem (.ref t) (.ref sl)) Q E s:=by
 have htake:sizeOk (.seq ((items.toList.drop (sIx items.size 0 lo)).take (sIx items.size items.size hi - sIx items.size 0 lo)).toArray):=by
  show ((items.toList.drop (sIx items.size 0 lo)).take (sIx items.size items.size hi - sIx items.size 0 lo)).toArray.size<=sizeLine
  rw [qaA,List.length_take,List.length_drop,qas]
  omega
 have hj:sIx items.size items.size hi<=items.size:=zti _ _ (qaV _) hi
 obtain ⟨os,hos,hcs,hds⟩:=id hs
 have hTs:s.TypeIs (.ref sl) "slice":=⟨os,hos,hcs⟩
 unfold getItem
 try with_reducible refine qaO ?_
 first | refine qaW (qaX ?_) | skip
 refine qaW (wpAny_sequenceKey ht.typeIs (by decide) ?_)
 refine qaW (wpAny_callSpecial?_slot (name:=Str.ofString "__getitem__") ht.typeIs PyProof.Rows.slot_tuple_getitem
   (wpAny_call_entry PyProof.Rows.slot_tuple_getitem ht.typeIs entry_tuple_getitem ?_ (args_tuple_getitem _ _)))
 show wpAny _ _ (Builtin.Tuple.tupleItemsOf (.ref t)>>=_) _ _ s
 refine qaW (tupleItemsOf_ ht ?_)
 refine qaW (wpAny_typeOf hTs ?_)
 rw [qa4 (by decide)]
 refine qaW (zc9 hs pl pu ?_)
 have hno: ¬((((sIx items.size 0 lo:Nat):Int)==0 && (1:Int)==1 && (sIx items.size items.size hi - sIx items.size 0 lo)==items.size)=true):=by
  intro q
  rw [qaG,qaG] at q
  have q1:((sIx items.size 0 lo:Nat):Int)=0:=eq_of_beq q.1.1
  have q2:sIx items.size items.size hi - sIx items.size 0 lo=items.size:=eq_of_beq q.2
  exact hw ⟨⋯,⋯⟩
 show wpAny _ _ (if (((sIx items.size 0 lo:Nat):Int)==0 && (1:Int)==1 && (sIx items.size items.size hi - sIx items.size 0 lo)==items.size)=true then _ else _) _ _ s
 rw [qa5 hno,znk]
 first
  | exact qaW (m:=Builtin.Tuple.tupleExact _) (qaC (qaX ⟨_,rfl,qaX h⟩) htake)
  | exact qaW (m:=Builtin.Tuple.tupleExact _) (qaC (qaW (qaX (qaX ⟨_,rfl,qaX h⟩))) htake)
  | exact qaW (qaW (m:=Builtin.Tuple.tupleExact _) (qaC (qaX (qaX ⟨_,rfl,qaX h⟩)) htake))
  | exact qaW (qaW (m:=Builtin.Tuple.tupleExact _) (qaC (qaX ⟨_,rfl,qaX h⟩) htake))
end
end HT
namespace L2
abbrev TO:=St->Hp->(Option Int->Hp->Prop)->Prop
def PO (X:Cx) (e:Option Expr) (t:TO):Prop:=
 ∀ (pins:List (Addr×Obj)) (s:Shared) (σ:St) (H:Hp) (Q:Option Int->Hp->Prop),Inv X pins σ H s->t σ H Q->
  wpAny (model X.prog X.w) X.A (evalPart e X.env) (fun u s'=> ∃ o H',Inv X pins σ H' s'/\IsPart u o/\Q o H') X.xe s
def zpr:TO:=fun _ H Q=>Q none H
def ztH (t:TE):TO:=fun σ H Q=>t σ H fun x H1=> ∃ i,x= .int i/\Q (some i) H1
theorem zbt {ns:List Int}: ∀ {us:List Value},zba (ns.map V.int) us->IntsAre us ns:=by
 induction ns with
 | nil=>intro us r;rw [List.map_nil] at r;cases r;exact .nil
 | cons n ns ih=>
  intro us r
  rw [qaM] at r
  cases r with
  | cons r1 r2=>
   obtain ⟨t,e⟩:=r1
   subst e
   exact .cons n t (ih r2)
section
variable {X:Cx} {e:Expr} {te:TE} {lo hi:Option Expr} {tl th:TO} {pos p2:Pos}
theorem zp2:PO X none zpr:=by
 intro pins s σ H Q I h
 rw [evalPart_none]
 exact qaX ⟨none,H,I,.none,h⟩
theorem zqn (h:PE X e te):PO X (some e) (ztH te):=by
 intro pins s σ H Q I hw
 rw [evalPart_some]
 refine thn (h pins s σ H _ I hw) fun u s1 ⟨x,H1,I1,r1,q1⟩=> ?_
 obtain ⟨i,rfl,q⟩:=q1
 obtain ⟨t,rfl⟩:=r1
 exact ⟨some i,H1,I1,.int i t,q⟩
def SlR (X:Cx) (r:V->Option Int->Option Int->Hp->VK->Prop):Prop:=
 ∀ (pins:List (Addr×Obj)) (s:Shared) (σ:St) (H:Hp) (x:V) (v vl vu:Value) (lo hi:Option Int) (sl:Addr) (Q:VK),Inv X pins σ H s->zbB x v->s.heap.IsSliceOf sl vl vu .none->IsPart vl lo->IsPart vu hi->r x lo hi H Q->
  ∃ T id,typeLookup (.type T) "__getitem__"=pure (some (.builtin id))/\s.TypeIs v T/\wpAny (model X.prog X.w) X.A (getItem v (.ref sl)) (EP X pins σ Q) X.xe s
theorem SlR.or {r r':V->Option Int->Option Int->Hp->VK->Prop} (h:SlR X r) (h':SlR X r'):SlR X (fun x lo hi H Q=>r x lo hi H Q\/r' x lo hi H Q):=by
 intro pins s σ H x v vl vu lo hi sl Q I rx hs pl pu q
 rcases q with q | q
 ·exact h pins s σ H x v vl vu lo hi sl Q I rx hs pl pu q
 ·exact h' pins s σ H x v vl vu lo hi sl Q I rx hs pl pu q
def tSl (r:V->Option Int->Option Int->Hp->VK->Prop) (te:TE) (tl th:TO):TE:=fun σ H Q=>te σ H fun x H1=>tl σ H1 fun l H2=>th σ H2 fun u H3=>r x l u H3 Q
theorem zns {r:V->Option Int->Option Int->Hp->VK->Prop} (hr:SlR X r) (he:PE X e te) (hl:PO X lo tl) (hu:PO X hi th):PE X (.Subscript e (.Slice lo hi none p2) pos) (tSl r te tl th):=by
 intro pins s σ H Q I h
 refine Subscript_ (thn (he pins s σ H _ I h) fun v s1 ⟨x,H1,I1,r1,q1⟩=> ?_)
 refine wpAny_Slice (thn (hl pins s1 σ H1 _ I1 q1) fun vl s2 ⟨l,H2,I2,pl,q2⟩=>thn (hu pins s2 σ H2 _ I2 q2) fun vu s3 ⟨u,H3,I3,pu,q3⟩=> ?_)
 rw [evalPart_none]
 refine qaX ?_
 have I4:Inv X pins σ H3 {s3 with heap:=s3.heap.push {cls:= .type "slice",data:= .fields #[vl,vu,.none]}}:=I3.kept (t':=s3.toks) fun b ob q=>qag _ q
 obtain ⟨T,id,hT,ht,hg⟩:=hr pins {s3 with heap:=s3.heap.push {cls:= .type "slice",data:= .fields #[vl,vu,.none]}} σ H3 x v vl vu l u s3.heap.objs.size Q I4 r1 (Heap.IsSliceOf.new ..) pl pu q3
 show wpAny (model X.prog X.w) X.A (subscriptTail e (.Slice lo hi none p2) v (.ref s3.heap.objs.size)) (EP X pins σ Q) X.xe {s3 with heap:=s3.heap.push {cls:= .type "slice",data:= .fields #[vl,vu,.none]}}
 exact tail_any (ops:=[.ref s3.heap.objs.size,v]) ht hT hg (by with_unfolding_all rfl)
def zom (xs:List V) (lo hi:Option Int):List V:=(xs.drop (HT.sIx xs.length 0 lo)).take (HT.sIx xs.length xs.length hi - HT.sIx xs.length 0 lo)
theorem zfg (xs:List V) (lo hi:Option Int):(zom xs lo hi).length<=xs.length:=by
 unfold zom
 rw [List.length_take,List.length_drop]
 omega
def zvl (K:W.Frag):V->Option Int->Option Int->Hp->VK->Prop:=fun x lo hi H Q=> ∃ a xs,x= .ref a/\SqT K H a xs/\
 ¬ (HT.sIx xs.length 0 lo=0/\HT.sIx xs.length xs.length hi=xs.length)/\ ∀ p,H p=none->Q (.ref p) (upd H p (.tup (zom xs lo hi)))
theorem zsd:SlR X (zvl X.K):=by
 intro pins s σ H x v vl vu lo hi sl Q I rx hs pl pu h
 obtain ⟨a,xs,rfl,hx,hw,q⟩:=h
 cases rx
 obtain ⟨its,r,ht,hz⟩:=I.tuple hx
 have hlen:its.toArray.size=xs.length:=by rw [qaA];exact r.length.symm
 refine ⟨"tuple",_,PyProof.Rows.slot_tuple_getitem.lookup,ht.typeIs,?_⟩
 refine HT.zel ht hs pl pu (by rw [hlen];exact hw) ?_ (by rw [hlen];exact hz)
 rw [hlen]
 refine ⟨.ref s.heap.objs.size,_,I.laid (t':=s.toks) (o:= .tup (zom xs lo hi)) (fun b ob q=>qag _ q) (qaV _) ?_,rfl,q _ (I.hok.fresh (qaV _))⟩
 exact ⟨qaS (zfg xs lo hi) hz,_,(r.drop (HT.sIx xs.length 0 lo)).take (HT.sIx xs.length xs.length hi - HT.sIx xs.length 0 lo),zkr.new _ _⟩
def zud (K:W.Frag):R2:=fun x y H Q=> ∃ a b xs ys,x= .ref a/\y= .ref b/\SqT K H a xs/\SqT K H b ys/\xs≠[]/\xs.length+ys.length<=sizeLine/\
 (ys=[]->Q (.ref a) H)/\(ys≠[]-> ∀ p,H p=none->Q (.ref p) (upd H p (.tup (xs++ys))))
theorem zba.nil_iff {xs:List V} {us:List Value} (r:zba xs us):us=[]↔xs=[]:=by
 cases r with
 | nil=>simp
 | cons _ _=>simp
theorem zqk:OpR X (binaryOp .Add) (zud X.K):=by
 intro pins s σ H x y v u Q I rx ry h
 obtain ⟨a,b,xs,ys,rfl,rfl,ha,hb,hx,hz,q1,q2⟩:=h
 cases rx
 cases ry
 obtain ⟨its,r1,p1,_⟩:=I.tuple ha
 obtain ⟨its2,r2,p2,_⟩:=I.tuple hb
 refine HT.zqd p1 p2 (fun z=>hx (r1.nil_iff.mp z)) (fun z=>⟨.ref a,H,I,rfl,q1 (r2.nil_iff.mp z)⟩) (fun z=> ?_) (by rw [<- r1.length, <-r2.length];exact hz)
 refine ⟨.ref s.heap.objs.size,_,I.laid (t':=s.toks) (o:= .tup (xs++ys)) (fun b ob q=>qag _ q) (qaV _) ?_,rfl,q2 (fun w=>z (r2.nil_iff.mpr w)) _ (I.hok.fresh (qaV _))⟩
 exact ⟨by rw [qav];exact hz,_,r1.append r2,zkr.new _ _⟩
end
def ixN (n:Nat) (i:Int):Option Nat:=if 0<=i then (if i<n then some i.toNat else none) else if -(n:Int)<=i then some (i+n).toNat else none
def atI {α:Type} (xs:List α) (i:Int):Option α:=(ixN xs.length i).bind fun j=>xs[j]?
theorem zlI {n:Nat} {i:Int} {j:Nat} (h:ixN n i=some j):seqIndex? i n=some j/\j<n/\ -(n:Int)<=i/\i<n:=by
 unfold ixN at h
 by_cases h0:0<=i
 ·rw [qa4 h0] at h
  by_cases h1:i<n
  ·rw [qa4 h1] at h
   have e:i.toNat=j:=Option.some.inj h
   exact ⟨by rw [seqIndex_of h0 h1,e],⋯,⋯,h1⟩
  ·rw [qa5 h1] at h;cases h
 ·rw [qa5 h0] at h
  by_cases h1: -(n:Int)<=i
  ·rw [qa4 h1] at h
   have e:(i+n).toNat=j:=Option.some.inj h
   exact ⟨by rw [seqIndex_neg ⋯ h1,e],⋯,h1,⋯⟩
  ·rw [qa5 h1] at h;cases h
theorem zmq {α:Type} {xs:List α} {i:Int} {v:α} (h:atI xs i=some v): ∃ j,seqIndex? i xs.length=some j/\xs[j]? = some v/\j<xs.length/\ -(xs.length:Int)<=i/\i<xs.length:=by
 unfold atI at h
 cases e:ixN xs.length i with
 | none=>rw [e] at h;cases h
 | some j=>
  rw [e] at h
  obtain ⟨h1,h2,h3,h4⟩:=zlI e
  exact ⟨j,h1,h,h2,h3,h4⟩
theorem zc0 {α:Type} {xs:List α} {j:Nat} {v:α} (h:xs[j]? = some v):atI xs (j:Int)=some v:=by
 have hj:j<xs.length:=(qac.mp h).1
 have e:ixN xs.length (j:Int)=some j:=by
  unfold ixN
  rw [qa4 ⋯,qa4 ⋯];simp
 unfold atI;rw [e];exact h
theorem zm6 {α:Type} (xs:List α) (v:α):atI (xs++[v]) (-1)=some v:=by
 have hl:(xs++[v]).length=xs.length+1:=by simp
 have e:ixN (xs++[v]).length (-1)=some xs.length:=by
  unfold ixN
  rw [hl,qa5 (by decide),qa4 ⋯]
  congr 1
  omega
 unfold atI
 rw [e]
 show (xs++[v])[xs.length]? = some v
 simp
def ziu (b:Expr):Prop:= ∀ o i,subscripted b false o i=operate [o,i] (getItem o i)
def IxR (X:Cx) (r:R2):Prop:=
 ∀ (value slice:Expr) (pins:List (Addr×Obj)) (s:Shared) (σ:St) (H:Hp) (x y:V) (v u:Value) (Q:VK),Inv X pins σ H s->zbB x v->zbB y u->r x y H Q->
  subscripted slice false v u=operate [v,u] (getItem v u)->wpAny (model X.prog X.w) X.A (subscriptTail value slice v u) (EP X pins σ Q) X.xe s
def MtR (X:Cx) (id:String) (r:V->List V->Hp->VK->Prop):Prop:=
 ∀ (pins:List (Addr×Obj)) (s:Shared) (σ:St) (H:Hp) (x:V) (xs:List V) (v:Value) (us:List Value) (Q:VK),Inv X pins σ H s->zbB x v->zba xs us->r x xs H Q->
  wpAny (model X.prog X.w) X.A (call (.builtin id) (v::us)) (EP X pins σ Q) X.xe s
section
variable {X:Cx} {a b:Expr} {ta tb:TE} {pos:Pos}
theorem IxR.or {r r':R2} (h:IxR X r) (h':IxR X r'):IxR X (fun x y H Q=>r x y H Q\/r' x y H Q):=by
 intro value slice pins s σ H x y v u Q I rx ry q hs
 rcases q with q | q
 ·exact h value slice pins s σ H x y v u Q I rx ry q hs
 ·exact h' value slice pins s σ H x y v u Q I rx ry q hs
theorem ztD {r:R2} (hr:IxR X r) (ha:PE X a ta) (hb:PE X b tb) (hs:ziu b):PE X (.Subscript a b pos) (tOp r ta tb):=by
 intro pins s σ H Q I h
 exact Subscript_ (zuF ha hb I h fun v u s2 x y H2 I2 rx ry q=>hr a b pins s2 σ H2 x y v u Q I2 rx ry q (hs _ _))
def zvK (K:W.Frag):R2:=fun x y H Q=> ∃ p xs i v,x= .ref p/\y= .int i/\SqL K H p xs/\atI xs i=some v/\Q v H
def zvD (K:W.Frag):R2:=fun x y H Q=> ∃ p xs i v,x= .ref p/\y= .int i/\SqT K H p xs/\atI xs i=some v/\Q v H
theorem zq1:IxR X (zvK X.K):=by
 intro value slice pins s σ H x y v u Q I rx ry h hs
 obtain ⟨p,xs,i,z,rfl,rfl,hq,he,q⟩:=h
 cases rx
 obtain ⟨t,rfl⟩:=ry
 obtain ⟨its,r,pl,hz⟩:=I.list hq
 obtain ⟨j,h1,h2,h3,h4,h5⟩:=zmq he
 obtain ⟨w,ew,rw'⟩:=r.get h2
 have hl:=r.length
 have hn:=zjx
 have fin:EP X pins σ Q w s:=⟨z,H,I,rw',q⟩
 by_cases h0:0<=i
 ·have hj:i.toNat=j:=by
   rw [seqIndex_of h0 h5] at h1
   exact Option.some.inj h1
  exact item_listR pl.isList h0 ⋯ (by rw [hj];simpa using ew) fin hs
 ·have hj:(i+(its.toArray.size:Int)).toNat=j:=by
   rw [seqIndex_neg ⋯ h4] at h1
   rw [qaA, <-hl]
   exact Option.some.inj h1
  exact subscriptTail_builtinR (x:=w) pl.isList.typeIs slot_list_getitem.lookup
   (wpAny_getItem_list_neg (Q:=fun r s'=>r=w/\EP X pins σ Q r s') pl.isList ⋯ (by rw [qaA]<;>omega) ⋯ (by rw [hj];simpa using ew) ⟨rfl,fin⟩) hs
theorem ztr:IxR X (zvD X.K):=by
 intro value slice pins s σ H x y v u Q I rx ry h hs
 obtain ⟨p,xs,i,z,rfl,rfl,hq,he,q⟩:=h
 cases rx
 obtain ⟨t,rfl⟩:=ry
 obtain ⟨its,r,pl,hz⟩:=I.tuple hq
 obtain ⟨j,h1,h2,h3,h4,h5⟩:=zmq he
 obtain ⟨w,ew,rw'⟩:=r.get h2
 have hl:=r.length
 have hn:=zjx
 have fin:EP X pins σ Q w s:=⟨z,H,I,rw',q⟩
 exact subscriptTail_builtinR (x:=w) pl.typeIs slot_tuple_getitem.lookup
  (getItem_tuple (j:=j) (Q:=fun r s'=>r=w/\EP X pins σ Q r s') pl ⋯ ⋯ (by rw [qaA, <-hl];exact h1) (by simpa using ew) ⟨rfl,fin⟩) hs
theorem zj6 (its:List Value) (n j:Nat) (u:Value):Obj.mapSeq (·.setIfInBounds j u) {cls:= .type "list",data:= .seq its.toArray n}={cls:= .type "list",data:= .seq (its.set j u).toArray n}:=by
 simp [Obj.mapSeq]
theorem Inv.lst {pins:List (Addr×Obj)} {σ:St} {H:Hp} {s:Shared} {p:Addr} {xs:List V} (I:Inv X pins σ H s) (h:H p=some (.lst xs)):
  ∃ (its:List Value) (n:Nat),zba xs its/\s.heap.get? p=some {cls:= .type "list",data:= .seq its.toArray n}/\xs.length<=sizeLine:=by
 obtain ⟨z,its,n,r,e⟩:=I.hok p _ h
 exact ⟨its,n,r,e,z⟩
theorem Inv.lstUpd {pins:List (Addr×Obj)} {σ:St} {H:Hp} {s:Shared} {p:Addr} {xs ys:List V} {its its':List Value} {n n':Nat} {f:Obj->Obj} (I:Inv X pins σ H s) (h:H p=some (.lst xs))
  (ho:s.heap.get? p=some {cls:= .type "list",data:= .seq its.toArray n}) (hf:f {cls:= .type "list",data:= .seq its.toArray n}={cls:= .type "list",data:= .seq its'.toArray n'}) (r:zba ys its') (hz:ys.length<=sizeLine) (t:Nat):
  Inv X pins σ (upd H p (.lst ys)) {s with heap:=s.heap.update p f,toks:=t}:=by
 have e:(s.heap.update p f).get? p=some {cls:= .type "list",data:= .seq its'.toArray n'}:=by
  rw [qal f ho (by rw [hf]<;>rfl),hf]
 refine I.write (x:=p) (e:=p) (by rw [h];trivial) (.inl rfl) (fun b u hb q=>(qah _ _ (Ne.symm hb)).trans q) ⟨_,e⟩ ?_
 exact ⟨hz,its',n',r,e⟩
def zt9:V->V->V->Hp->(Hp->Prop)->Prop:=fun o i v H Q=> ∃ p xs k j,o= .ref p/\i= .int k/\H p=some (.lst xs)/\ixN xs.length k=some j/\Q (upd H p (.lst (xs.set j v)))
theorem znm:ztF X zt9:=by
 intro pins s σ H o i v ov iv u Q I ro ri rv h
 obtain ⟨p,xs,k,j,rfl,rfl,hp,hj,q⟩:=h
 cases ro
 obtain ⟨t,rfl⟩:=ri
 obtain ⟨its,n,r,ho,hz⟩:=I.lst hp
 obtain ⟨h1,h2,h3,h4⟩:=zlI hj
 have hl:=r.length
 have hn:=zjx
 have I':Inv X pins σ (upd H p (.lst (xs.set j v))) {s with heap:=s.heap.update p (Obj.mapSeq (·.setIfInBounds j u))}:=
  I.lstUpd hp ho (zj6 its n j u) (r.set rv j) (by rw [qaI];exact hz) s.toks
 by_cases h0:0<=k
 ·have hk:k.toNat=j:=by
   rw [seqIndex_of h0 h4] at h1
   exact Option.some.inj h1
  exact W.ki_setAt ho h0 ⋯ (by rw [qaA, <-hl];exact h4) (by rw [hk];exact ⟨_,I',q⟩)
 ·have hk:(k+(its.toArray.size:Int)).toNat=j:=by
   rw [seqIndex_neg ⋯ h3] at h1
   rw [qaA, <-hl]
   exact Option.some.inj h1
  exact W.ki_setBack ho ⋯ (by rw [qaA, <-hl];exact h3) ⋯ (by rw [hk];exact ⟨_,I',q⟩)
theorem zgY (lo hi:Option Int) (n:Nat):(sliceBounds lo hi none n).1=((HT.sIx n 0 lo:Nat):Int)/\(sliceBounds lo hi none n).2.1=((HT.sIx n n hi:Nat):Int)/\(sliceBounds lo hi none n).2.2=1:=by
 refine ⟨?_,?_,rfl⟩
 ·cases lo with
  | none=>simp [sliceBounds,HT.sIx]
  | some i=>
   simp only [sliceBounds,HT.sIx,Option.getD_none,show (1:Int)>0 by decide,if_true]
   by_cases h:i<0
   ·simp only [h,if_true]<;>omega
   ·simp only [h,if_false]<;>omega
 ·cases hi with
  | none=>simp [sliceBounds,HT.sIx]
  | some i=>
   simp only [sliceBounds,HT.sIx,Option.getD_none,show (1:Int)>0 by decide,if_true]
   by_cases h:i<0
   ·simp only [h,if_true]<;>omega
   ·simp only [h,if_false]<;>omega
theorem zgw (its:List Value) (lo hi:Option Int):slicePick its.toArray lo hi none=((its.drop (HT.sIx its.length 0 lo)).take (HT.sIx its.length its.length hi - HT.sIx its.length 0 lo)).toArray:=by
 obtain ⟨h1,h2,h3⟩:=zgY lo hi its.toArray.size
 unfold slicePick
 rw [h1,h2,h3]
 simp only [sliceRange_one,pick_run,qaA]<;>rfl
def zvB (K:W.Frag):V->Option Int->Option Int->Hp->VK->Prop:=fun x lo hi H Q=> ∃ a xs,x= .ref a/\SqL K H a xs/\ ∀ p,H p=none->Q (.ref p) (upd H p (.lst (zom xs lo hi)))
theorem zqL:SlR X (zvB X.K):=by
 intro pins s σ H x v vl vu lo hi sl Q I rx hs pl pu h
 obtain ⟨a,xs,rfl,hx,q⟩:=h
 cases rx
 obtain ⟨its,r,ht,hz⟩:=I.list hx
 have hlen:=r.length
 refine ⟨"list",_,slot_list_getitem.lookup,ht.isList.typeIs,?_⟩
 refine wpAny_getItem_list_slice ht.isList hs pl pu .none (by simp) ?_ (by rw [qaA]<;>omega)
 rw [zgw, <-hlen]
 refine ⟨.ref s.heap.objs.size,_,I.laid (t':=s.toks) (o:= .lst (zom xs lo hi)) (fun b ob q=>qag _ q) (qaV _) ?_,rfl,q _ (I.hok.fresh (qaV _))⟩
 exact ⟨qaS (zfg xs lo hi) hz,_,0,(r.drop (HT.sIx xs.length 0 lo)).take (HT.sIx xs.length xs.length hi - HT.sIx xs.length 0 lo),qar _ rfl⟩
theorem zhY:zaz X (.builtin "len") (fun xs H Q=> ∃ p ys,xs=[.ref p]/\(SqL X.K H p ys\/SqT X.K H p ys)/\Q (.int ys.length) H):=by
 intro pins s σ H xs us Q I r h
 obtain ⟨p,ys,rfl,hq,q⟩:=h
 obtain ⟨u,rfl,rx⟩:=zcX r
 cases rx
 have hn:=zjx
 rcases hq with hq | hq
 ·obtain ⟨its,r',pl,hz⟩:=I.list hq
  have hlen:=r'.length
  exact Calls.call_len_list pl.isList (by simp only [qaA]<;>omega) ⟨.int ys.length,H,I.tok _,⟨s.toks+1,by rw [qaA,hlen]⟩,q⟩
 ·obtain ⟨its,r',pl,hz⟩:=I.tuple hq
  have hlen:=r'.length
  exact len_tuple pl (by simp only [qaA]<;>omega) ⟨.int ys.length,H,I.tok _,⟨s.toks+1,by rw [qaA,hlen]⟩,q⟩
theorem zhx:zaz X (.type "list") (fun xs H Q=> ∃ p ys,xs=[.ref p]/\(SqL X.K H p ys\/SqT X.K H p ys)/\ ∀ l,H l=none->Q (.ref l) (upd H l (.lst ys))):=by
 intro pins s σ H xs us Q I r h
 obtain ⟨p,ys,rfl,hq,q⟩:=h
 obtain ⟨u,rfl,rx⟩:=zcX r
 cases rx
 have fin: ∀ (its:List Value),zba ys its->ys.length<=sizeLine-> ∀ (h':Heap) (c':Nat),(∀ b o',s.heap.get? b=some o'->h'.get? b=some o')->
   h'.get? s.heap.objs.size=some {cls:= .type "list",dict:=none,data:= .seq its.toArray c',slots:= #[]}->EP X pins σ Q (.ref s.heap.objs.size) {s with heap:=h'}:=fun its r' hz h' c' kp e=>
  ⟨.ref s.heap.objs.size,_,I.laid (t':=s.toks) kp (qaV _) (show zbG X.prog X.w _ h' _ (.lst ys) from ⟨hz,its,c',r',e⟩),rfl,q _ (I.hok.fresh (qaV _))⟩
 rcases hq with hq | hq
 ·obtain ⟨its,r',pl,hz⟩:=I.list hq
  have hlen:=r'.length
  obtain ⟨o,ho,hc,n,hd⟩:=pl.isList
  exact call_list_seq p (.inl rfl) ho hc hd (fun h' c' kp e=>fin its r' hz h' c' kp e) (by simp only [qaA]<;>omega)
 ·obtain ⟨its,r',pl,hz⟩:=I.tuple hq
  have hlen:=r'.length
  obtain ⟨o,ho,hc,n,hd⟩:=pl
  exact call_list_seq p (.inr rfl) ho hc hd (fun h' c' kp e=>fin its r' hz h' c' kp e) (by simp only [qaA]<;>omega)
theorem zga:zaz X (.type "tuple") (fun xs H Q=> ∃ p ys,xs=[.ref p]/\((SqL X.K H p ys/\ ∀ l,H l=none->Q (.ref l) (upd H l (.tup ys)))\/(SqT X.K H p ys/\Q (.ref p) H))):=by
 intro pins s σ H xs us Q I r h
 obtain ⟨p,ys,rfl,h⟩:=h
 obtain ⟨u,rfl,rx⟩:=zcX r
 cases rx
 rcases h with ⟨hq,q⟩ | ⟨hq,q⟩
 ·obtain ⟨its,r',pl,hz⟩:=I.list hq
  have hlen:=r'.length
  refine call_tuple_list pl.isList (fun h' kp=> ?_) (by simp only [qaA]<;>omega)
  have I1:Inv X pins σ H {s with heap:=h'}:=I.kept (t':=s.toks) kp
  have I2:Inv X pins σ (upd H h'.objs.size (.tup ys)) {s with heap:=h'.push {cls:= .type "tuple",data:= .seq its.toArray}}:=
   I1.laid (t':=s.toks) (fun b o e=>qag _ e) (qaV _) (show zbG X.prog X.w _ _ _ (.tup ys) from ⟨hz,its,r',zkr.new _ _⟩)
  exact ⟨.ref h'.objs.size,_,I2,rfl,q _ (I1.hok.fresh (qaV _))⟩
 ·obtain ⟨its,r',pl,hz⟩:=I.tuple hq
  exact call_tuple_same pl ⟨.ref p,H,I,rfl,q⟩
def tyV (K:W.Frag) (T:String) (x:V) (H:Hp):Prop:=match x with
 | .str _=>T="str"
 | .int _=>T="int"
 | .ref p=>(T="list"/\ ∃ xs,SqL K H p xs)\/(T="tuple"/\ ∃ xs,SqT K H p xs)\/
   (T="dict"/\((∃ kvs,H p=some (.dK kvs))\/ ∃ kvs,H p=some (.dT kvs)))\/(T="set"/\ ∃ S n,H p=some (.set S n))
 | _=>False
theorem zrH {pins:List (Addr×Obj)} {σ:St} {H:Hp} {s:Shared} {T:String} {x:V} {v:Value} (I:Inv X pins σ H s) (r:zbB x v) (ty:tyV X.K T x H):
  s.TypeIs v T/\ ∀ a,v= .ref a-> ∃ ob,s.heap.get? a=some ob/\ob.dict=none:=by
 cases x with
 | str z=>
  obtain ⟨t,rfl⟩:=r
  cases (show T="str" from ty)
  exact ⟨typeIs_str s z t,fun _ e=>nomatch e⟩
 | int i=>
  obtain ⟨t,rfl⟩:=r
  cases (show T="int" from ty)
  exact ⟨typeIs_int s i t,fun _ e=>nomatch e⟩
 | ref p=>
  cases r
  rcases ty with ⟨rfl,xs,hq⟩ | ⟨rfl,xs,hq⟩ | ⟨rfl,hk⟩ | ⟨rfl,S,n,hk⟩
  ·obtain ⟨its,_,pl,_⟩:=I.list hq
   refine ⟨pl.isList.typeIs,fun a e=> ?_⟩
   cases e
   obtain ⟨o,n,e,c,hd,_⟩:=pl
   exact ⟨o,e,hd⟩
  ·obtain ⟨its,_,⟨o,e,c,n,_,hd⟩,_⟩:=I.tupleD hq
   refine ⟨⟨o,e,c⟩,fun a e2=> ?_⟩
   cases e2
   exact ⟨o,e,hd⟩
  ·have z: ∃ o,s.heap.get? p=some o/\o.ExactDict:=by
    rcases hk with ⟨kvs,hk⟩ | ⟨kvs,hk⟩
    ·obtain ⟨_,_,_,_,o,_,_,e,ex,_⟩:=I.hok p _ hk
     exact ⟨o,e,ex⟩
    ·obtain ⟨_,_,_,_,o,_,_,e,ex,_⟩:=I.hok p _ hk
     exact ⟨o,e,ex⟩
   obtain ⟨o,e,ex⟩:=z
   refine ⟨⟨o,e,ex.1⟩,fun a e2=> ?_⟩
   cases e2
   exact ⟨o,e,ex.2.1⟩
  ·obtain ⟨o,_,_,_,e,ex,_⟩:=I.hok p _ hk
   refine ⟨⟨o,e,ex.1⟩,fun a e2=> ?_⟩
   cases e2
   exact ⟨o,e,ex.2.1⟩
 | _=>exact qa0 ty
def tBM (K:W.Frag) (T:String) (r:V->List V->Hp->VK->Prop) (to:TE) (t:TA):TE:=fun σ H Q=>to σ H fun x H1=>tyV K T x H1/\t σ H1 fun xs H2=>r x xs H2 Q
variable {o e:Expr} {es:List Expr} {to:TE} {t:TA} {name:Str} {apos cpos:Pos} {T id:String} {r:V->List V->Hp->VK->Prop}
theorem zoc (pa:PlainAttrs T) (slot:Slot T name id) (hty:typeOf (.builtin id)=pure (.type "method_descriptor")) (hm:MtR X id r) (ho:PE X o to) (ha:PA X (e::es) t)
  (hbase:attributeBase o name X.env (eval o X.env)=eval o X.env:=by rfl)
  (hfew:((backTo cpos (starEach (e::es) X.env)).all (fun x=> !x.1) && (backToKw cpos (keywordEach [] X.env)).all (fun x=>x.1.isSome)
    && decide ((e::es).length+([]:List Keyword).length+(if ([]:List Keyword).isEmpty then 0 else 1)<30))=true:=by rfl)
  (hline:(apos.endLine==cpos.line)=true:=by rfl) (hs:starEach (e::es) X.env=(false,eval e X.env)::starEach es X.env:=by rfl) (hplain:(backTo cpos (starEach es X.env)).any (·.1)=false:=by rfl):
  PE X (.Call (.Attribute o name apos) (e::es) [] cpos) (tBM X.K T r to t):=by
 intro pins s σ H Q I h
 refine wpAny_Call_method_late hbase hfew hline rfl (thn (ho pins s σ H _ I h) fun v s1 ⟨x,H1,I1,r1,ty,q1⟩=> ?_)
 obtain ⟨h1,h2⟩:=zrH I1 r1 ty
 refine ⟨T,id,pa,slot,hty,h1,h2,?_⟩
 have hA:=ha cpos pins s1 σ H1 _ I1 q1
 rw [hs] at hA ⊢
 refine Calls.callWith_builtin (by show (false || (backTo cpos (starEach es X.env)).any (·.1))=false;rw [hplain]<;>rfl) (Calls.evalArgs_plain ?_)
 exact thn hA fun us s2 ⟨vs,H2,I2,r2,q2⟩=>hm pins s2 σ H2 x vs v us Q I2 r1 r2 q2
end
def MtM (X:Cx) (id:String) (r:V->List V->Hp->VK->Prop):Prop:=
 ∀ (pins:List (Addr×Obj)) (s:Shared) (σ:St) (H:Hp) (x:V) (xs:List V) (v:Value) (us:List Value) (Q:VK),Inv X pins σ H s->zbB x v->zba xs us->r x xs H Q->
  wpAny (model X.prog X.w) X.A (call (.builtin id) (v::us)) (EP X pins σ Q) X.xe s
theorem zba.one: ∀ {x:V} {us:List Value},zba [x] us-> ∃ u,us=[u]/\zbB x u
 | _,_,.cons r .nil=>⟨_,rfl,r⟩
theorem zba.rep {xs:List V} {us:List Value} (h:zba xs us): ∀ k:Nat,zba (List.replicate k xs).flatten (List.replicate k us).flatten
 | 0=> .nil
 | k+1=>by
  rw [List.replicate_succ,List.replicate_succ,List.flatten_cons,List.flatten_cons]
  exact zba.append h (zba.rep h k)
theorem zhR (its:List Value): ∀ (k:Nat) (acc:List Value),
  List.foldl (fun x1 x2=>x1++x2) acc.toArray (List.replicate k its.toArray)=(acc++(List.replicate k its).flatten).toArray
 | 0,acc=>by simp
 | k+1,acc=>by
  have e:acc.toArray++its.toArray=(acc++its).toArray:=by simp
  have e2:(acc++its)++(List.replicate k its).flatten=acc++(List.replicate (k+1) its).flatten:=by
   rw [List.replicate_succ,List.flatten_cons,List.append_assoc]
  rw [<- e2, <-zhR its k (acc++its), <-e,List.replicate_succ,List.foldl_cons]
section
variable {X:Cx} {pins:List (Addr×Obj)} {σ:St} {H:Hp} {s:Shared} {l b:Addr} {xs ys zs:List V}
theorem Inv.lset {its its':List Value} {n:Nat} {f:Array Value->Array Value} {t':Nat} (I:Inv X pins σ H s) (hH:H l=some (.lst xs))
  (e:s.heap.get? l=some {cls:= .type "list",data:= .seq its.toArray n}) (hf:f its.toArray=its'.toArray) (hv:zba ys its') (hz:ys.length<=sizeLine):
  Inv X pins σ (upd H l (.lst ys)) {s with heap:=s.heap.update l (Obj.mapSeq f),toks:=t'}:=by
 have q:=PySem.IsL.update e f
 rw [hf] at q
 refine I.write (x:=l) (e:=l) (by rw [hH];exact trivial) (.inl rfl) (fun b' u hb hu=>(qah s.heap (Obj.mapSeq f) (Ne.symm hb)).trans hu) ⟨_,q⟩ ?_
 exact ⟨hz,its',_,hv,q⟩
theorem Inv.lnew {its:List Value} {t':Nat} (I:Inv X pins σ H s) (hv:zba ys its) (hz:ys.length<=sizeLine):
  Inv X pins σ (upd H s.heap.objs.size (.lst ys)) {s with heap:=s.heap.push {cls:= .type "list",data:= .seq its.toArray},toks:=t'}:=
 I.laid (fun _ _ q=>qag _ q) (qaV _) ⟨hz,its,0,hv,qar _ rfl⟩
theorem Inv.fresh (I:Inv X pins σ H s):H s.heap.objs.size=none:=I.hok.fresh (qaV _)
theorem Inv.lstM (I:Inv X pins σ H s) (hH:H l=some (.lst xs)):xs.length<=sizeLine/\ ∃ (its:List Value) (n:Nat),zba xs its/\xs.length=its.length/\s.heap.get? l=some {cls:= .type "list",data:= .seq its.toArray n}:=by
 obtain ⟨z,its,n,r,e⟩:=I.hok l _ hH
 exact ⟨z,its,n,r,r.length,e⟩
theorem zoe {n:Nat} (h:n<=sizeLine):Builtin.List.listTooLong n=false:=by
 unfold Builtin.List.listTooLong
 exact decide_eq_false ⋯
end
section
variable {X:Cx}
def zqo:V->List V->Hp->VK->Prop:=fun x vs H Q=> ∃ l xs y,x= .ref l/\vs=[y]/\H l=some (.lst xs)/\xs.length<sizeLine/\Q .non (upd H l (.lst (xs++[y])))
theorem zhr:MtM X "list.append" zqo:=by
 intro pins s σ H x vs v us Q I rx rv h
 obtain ⟨l,xs,y,rfl,rfl,hH,hz,q⟩:=h
 cases rx
 obtain ⟨u,rfl,ru⟩:=rv.one
 obtain ⟨z,its,n,r,hl,e⟩:=I.lstM hH
 refine call_meets F.slot_list_append ⟨_,e,rfl⟩ F.entry_list_append (F.args_list_append_2 _ _) (PySem.list_append l its.toArray n u (by rw [qaA];omega)) ⟨e,?_⟩
 refine ⟨.non,_,I.lset (its':=its++[u]) hH e (by simp) (r.append (.cons ru .nil)) ?_,rfl,q⟩
 rw [qav,List.length_singleton]
 omega
def zvi:R2:=fun x y H Q=> ∃ l b xs zs,x= .ref l/\y= .ref b/\H l=some (.lst xs)/\H b=some (.lst zs)/\xs.length+zs.length<=sizeLine/\ ∀ p,H p=none->Q (.ref p) (upd H p (.lst (xs++zs)))
theorem zrx:OpR X (binaryOp .Add) zvi:=by
 intro pins s σ H x y v u Q I rx ry h
 obtain ⟨l,b,xs,zs,rfl,rfl,hH,hB,hz,q⟩:=h
 cases rx
 cases ry
 obtain ⟨z,its,n,r,hl,e⟩:=I.lstM hH
 obtain ⟨z2,its2,n2,r2,hl2,e2⟩:=I.lstM hB
 refine PySem.P.add_list e e2 ?_ (by rw [qaA,qaA];omega)
 have ea:its.toArray++its2.toArray=(its++its2).toArray:=by simp
 rw [ea]
 exact ⟨.ref _,_,I.lnew (t':=s.toks) (r.append r2) (by rw [qav];omega),rfl,q _ I.fresh⟩
theorem zpD {α:Type} (xs:List α) (k:Nat):(List.replicate k xs).flatten.length=k*xs.length:=by
 induction k with
 | zero=>simp
 | succ k ih=>rw [List.replicate_succ,List.flatten_cons,qav,ih,Nat.succ_mul,Nat.add_comm]
end
section
variable {prog:Program} {w:World} {A:Around} {E:Value->Shared->Prop} {s:Shared}
end
section
variable {X:Cx}
end
end L2
namespace Att
open PySem.W PySem.Calls
theorem ze6 {P:Params} {h:Heap}: ∀ (ns:List Int) (vs:List Value),WellAll P h vs (ns.map WData.int)->IntsAre vs ns:=by
 intro ns
 induction ns with
 | nil=>
  intro vs w
  rw [List.map_nil] at w
  cases w
  exact .nil
 | cons n ns ih=>
  intro vs w
  rw [qaM] at w
  cases w with
  | cons a b=>
   cases a
   exact .cons _ _ (ih _ b)
theorem zkE {l:OpenLaw} {n:Nat} (hn:l.most=some n) {P:Params} {h:Heap} {args:List WData} {vals:List Value}
  (hpre:l.row.toRowW.claim.pre args=true) (hwl:WellAll P h vals args):
  ∃ a vs ns,vals=[Value.ref a]/\args=[WData.list (ns.map WData.int)]/\h.get? a=some {cls:= .type "list",data:= .seq vs.toArray}/\IntsAre vs ns/\ns.length<=n:=by
 have hsh:WShape.hasAll [] args [.list .int]=true:=(pre_splitW hpre).1
 have hc:l.pre.holds [] {args:=args}=true:=(pre_splitW hpre).2
 obtain ⟨d,r,rfl,h1,h2⟩:=hasAllW_cons hsh
 obtain rfl:=hasAllW_nil h2
 obtain ⟨xs,rfl,h3⟩:=hasW_list h1
 obtain ⟨ns,rfl⟩:=items_int h3
 have hlen:ns.length<=n:=by
  unfold OpenLaw.pre at hc
  have h4:(WTm.not (.lt (.lit (.int (n:Int))) (.len (.arg 0)))).holds [] {args:=[.list (ns.map .int)]}=true:=by
   have h4:=(holds_andW hc).1
   rw [hn] at h4
   exact h4
  have h5:=condW_of h4 (w_not (w_lt w_lit (w_len_list (w_arg rfl))))
  rw [qaH] at h5
  refine Nat.le_of_not_lt fun q=> ?_
  have q':(n:Int)<((ns.length:Nat):Int):=by omega
  first
   | (rw [decide_eq_true q'] at h5;exact absurd h5 (by decide))
   | (simp at h5;omega)
 cases hwl with
 | cons w1 w2=>
  cases w2
  cases w1 with
  | list ho hall=>exact ⟨_,_,ns,rfl,rfl,ho,ze6 ns _ hall,hlen⟩
theorem zkG (l:OpenLaw) (args:List WData):l.row.toRowW.claim.post args (.bool true) args=true:=
 postW_of (r:=l.row.toRowW) (X:=(true==true))
  (show WShape.has [] (.bool true) .bool=true by first | rfl | decide | simp [WShape.has,WShape.arms,WShape.armsAll])
  (show (WTm.eq .res (.lit (.bool true))).value [] {args:=args,res:=some (.bool true),after:=args}=some (.bool (true==true)) from w_eq_bool (w_res rfl) w_lit) rfl
theorem ziq {l:OpenLaw} {n:Nat} {q:Program} {loose:List Str} {XP:(Str->Option Value)->Heap->Prop} {YP:World->Heap->Prop} {d:DefRec}
  (hn:l.most=some n) (hdf:d.params.defaults=[])
  (call: ∀ (w:World) (s₀ s₁:Shared) (mg mb:Str->Option Value) (fa:Addr) (o:Obj) (pm cd doc:Value) (a:Addr) (vs:List Value) (ns:List Int),
    Ground q loose [] XP w s₀ mg mb s₁.heap->YP w s₁.heap->
    s₁.heap.get? fa=some o->o.data= .func (docDef d.name d.params d.body d.scope pm cd doc)->s₁.heap.CodeRec cd d.name->mg d.name=some (.ref fa)->
    s₁.heap.get? a=some {cls:= .type "list",data:= .seq vs.toArray}->IntsAre vs ns->ns.length<=n->s₁.gens= #[]->
    codeAny (model l.prog w) callerA (.call (.ref fa) ⟨[.ref a],[]⟩) (fun r s'=>r= .ok (.ret (.bool true))/\OldK s₁.heap s'.heap/\s'.os=s₁.os/\AllBare s'.gens) s₁):
  WalkO q loose XP YP l.row.toRowW d [] (fun f vs=>PySem.call f vs):=by
 intro w s₀ s₁ mg mb G Y fa o pm cd doc dV kV ho hd hcd hD hmg hg args vals as hpre hlay hrd hwl hlo
 obtain rfl:dV= .none:=Dflts.none hD hdf
 obtain rfl:kV= .none:=Dflts.noKw hD
 obtain ⟨a,vs,ns,rfl,rfl,hobj,hints,hlen⟩:=zkE hn hpre hwl
 refine enter_call (codeAny_mono (call w s₀ s₁ mg mb fa o pm cd doc a vs ns G Y ho (fd_plain hd) hcd hmg hobj hints hlen hg) fun r s' hq=> ?_)
 obtain ⟨rfl,h2,h3,h4⟩:=hq
 exact ⟨.inl ⟨.bool true,.bool true,[],rfl,fun _=>rfl,.bool true,zkG l _,fun _=>⟨List.Pairwise.nil,fun _ hm=>(nomatch hm)⟩⟩,h2,h3,h4⟩
section
variable {prog:Program} {w:World} {A:Around} {E:Value->Shared->Prop} {s:Shared} {K:Frag}
end
end Att
namespace L2
theorem zeQ: ∀ {vs:List Value} {ns:List Int},IntsAre vs ns->zba (ns.map V.int) vs
 | _,_,.nil=> .nil
 | _,_,.cons n t h=> .cons ⟨t,rfl⟩ (zeQ h)
def ztU (H:Hp):Prop:= ∀ b,H b=none\/ ∃ o xs,H b=some (.frz o (.lst xs))
theorem znr {P:Program} {w:World} {K:W.Frag} {mg mb:Str->Option Value} {CX:CXT} {k:Nat} {fa a:Addr} {fd:FuncData} {x:Str} {sp:Sp} {s₁:Shared} {vs:List Value} {ns:List Int}
  (KX:K.In s₁.heap) (hns:s₁.heap.Ns mainGlobals mg) (hb:s₁.heap.Ns builtinsNs mb) (hbb: ∀ x:Str,x≠"__name__"->mb x=bootBuiltins x) (hlim:s₁.heap.NoLimit) (hg:s₁.gens= #[])
  (ha:s₁.heap.get? a=some {cls:= .type "list",data:= .seq vs.toArray}) (hi:IntsAre vs ns) (hl:ns.length<=sizeLine) (hr:zd9 k callerA)
  (F: ∀ base:Heap,K.In base->base.Ns mainGlobals mg->zb8 P w K mg base CX k fa fd [x] sp) (hbind: ∀ (s:Shared) (u:Value),BindsTo s fd ⟨[u],[]⟩ [(x,u)])
  (hsp: ∀ H:Hp,ztU H->SqL K H a (ns.map V.int)->sp [.ref a] H (fun v _=>v= .bl true) fun _ _ _=>False)
  (hCX: ∀ H e s',CX [] H s₁ (fun _ _ _=>False) e s'->False):
  codeAny (model P w) callerA (.call (.ref fa) ⟨[.ref a],[]⟩) (fun r s'=>r= .ok (.ret (.bool true))/\OldK s₁.heap s'.heap/\s'.os=s₁.os/\AllBare s'.gens) s₁:=by
 have rv:=zeQ hi
 have lenV:=hi.length
 have core: ∀ H:Hp,ztU H->SqL K H a (ns.map V.int)->HOk P w H s₁.heap->(∀ b,H b≠none->b=a)->(H a≠none->K.lookup a=none)->
   codeAny (model P w) callerA (.call (.ref fa) ⟨[.ref a],[]⟩) (fun r s'=>r= .ok (.ret (.bool true))/\OldK s₁.heap s'.heap/\s'.os=s₁.os/\AllBare s'.gens) s₁:=by
  intro H hO hS hok hA hK
  have base_of: ∀ {b:Addr} {o:Obj},s₁.heap.get? b=some o->H b=none->(znQ s₁.heap H).get? b=some o:=fun e n=>znX e n
  have noA: ∀ {b:Addr} {o:Obj} {es:Array DictEntry} {ep:Nat},s₁.heap.get? b=some o->o.data= .dict es ep->H b=none:=fun {b o es ep} e d=>by
   cases q:H b with
   | none=>rfl
   | some u=>
    have e':b=a:=hA b (by rw [q];simp)
    subst e'
    rw [ha] at e;cases e
    have d':Data.seq vs.toArray _=Data.dict es ep:=d
    cases d'
  have nsK: ∀ {b:Addr} {m:Str->Option Value},s₁.heap.Ns b m->(znQ s₁.heap H).Ns b m:=fun {b m} ⟨o,es,ep,e,d,r⟩=>⟨o,es,ep,base_of e (noA e d),d,r⟩
  have hKb:K.In (znQ s₁.heap H):=fun b o e=>base_of (KX b o e) (by
    cases q:H b with
    | none=>rfl
    | some u=>
      have e':b=a:=hA b (by rw [q];simp)
      subst e'
      rw [hK (by rw [q];simp)] at e;cases e)
  have hM:Mod K mg (znQ s₁.heap H):=⟨hKb,nsK hns,⟨mb,nsK hb,hbb⟩,let ⟨mc,h1,h2⟩:=hlim;⟨mc,nsK h1,h2⟩⟩
  have e0:zrc P w K mg (znQ s₁.heap H) callerA [] s₁ H:=⟨rfl,hM,fun b o e=>zqG e,Nat.le_of_eq (zk2 _ _),trivial,fun b hb=>absurd (show b∈([]:List Addr) from hb) (by simp),hok,.of_eq hg,.inl rfl⟩
  refine codeAny_mono ((F _ hKb (nsK hns)).run callerA [] s₁ H ⟨[.ref a],[]⟩ [.ref a] [.ref a] _ _ hr e0 (hbind s₁ (.ref a)) (.cons rfl .nil) (hsp H hO hS)) fun r s' h=> ?_
  cases r with
  | error e=>exact (hCX H e s' h).elim
  | ok fl=>
   cases fl with
   | next=>exact qa0 h
   | brk=>exact qa0 h
   | cont=>exact qa0 h
   | ret u=>
    obtain ⟨v,H',os,bare,un,hok',r',q⟩:=h
    have q':v= .bl true:=q
    subst q'
    obtain rfl:u=Value.bool true:=r'
    refine ⟨rfl,OldK.of_keep fun b o e=> ?_,os,bare⟩
    cases q:H b with
    | none=>exact un.keep b o e q (by intro z;exact absurd (show b∈([]:List Addr) from z) (by simp)) (by simp)
    | some u=>
     rcases hO b with z | ⟨ob,xs,z⟩
     ·rw [q] at z;cases z
     ·have z2:=un.frzs b ob _ z
      obtain ⟨e1,_⟩:=hok b _ z
      obtain ⟨e2,_⟩:=hok' b _ z2
      rw [e] at e1;cases e1
      exact e2
 cases hk:K.lookup a with
 | some o=>
  have e:=KX a o hk
  rw [ha] at e
  cases e
  refine core (fun _=>none) (fun _=> .inl rfl) (.inr ⟨_,vs.toArray,_,hk,rfl,rfl,rfl,by rw [qaA,lenV];exact hl,by simpa using rv⟩) (fun b u z=>by have z':(none:Option HO)=some u:=z;cases z') (fun b z=>absurd rfl z) fun z=>absurd rfl z
 | none=>
  refine core (fun b=>if b=a then some (.frz {cls:= .type "list",data:= .seq vs.toArray} (.lst (ns.map V.int))) else none) (fun b=> ?_) (.inl (.inr ⟨{cls:= .type "list",data:= .seq vs.toArray},qa4 rfl⟩)) (fun b u z=> ?_) (fun b z=> ?_) fun _=>hk
  ·by_cases hb:b=a
   ·exact .inr ⟨_,_,qa4 hb⟩
   ·exact .inl (qa5 hb)
  ·by_cases hb:b=a
   ·have z':=(qa4 hb).symm.trans z
    cases z'
    subst hb
    exact ⟨ha,by rw [qaH];exact hl,vs,_,rv,ha⟩
   ·have z':=(qa5 hb).symm.trans z
    cases z'
  ·by_cases hb:b=a
   ·exact hb
   ·exact absurd (qa5 hb) z
theorem zqY {l:W.OpenLaw} {n k:Nat} {q:Program} {loose:List Str} {XP:(Str->Option Value)->Heap->Prop} {YP:World->Heap->Prop} {d:DefRec} {K:Params->W.Frag} {CX:World->CXT} {sp:World->Sp} {x:Str}
  (hn:l.most=some n) (hn2:n<=sizeLine) (hdf:d.params.defaults=[]) (hr:zd9 k callerA)
  (hY: ∀ (w:World) (h:Heap),YP w h->(K w.params).In h)
  (F: ∀ (w:World) (mg:Str->Option Value) (fa:Addr) (h:Heap),(K w.params).In h->h.Ns mainGlobals mg->mg d.name=some (.ref fa)->
    ∃ fd:FuncData,(∀ (s:Shared) (u:Value),BindsTo s fd ⟨[u],[]⟩ [(x,u)])/\
      ∀ base:Heap,(K w.params).In base->base.Ns mainGlobals mg->zb8 l.prog w (K w.params) mg base (CX w) k fa fd [x] (sp w))
  (hsp: ∀ (w:World) (H:Hp) (a:Addr) (ns:List Int),ns.length<=n->ztU H->SqL (K w.params) H a (ns.map V.int)->sp w [.ref a] H (fun v _=>v= .bl true) fun _ _ _=>False)
  (hCX: ∀ (w:World) (H:Hp) (s:Shared) (e:Value) (s':Shared),CX w [] H s (fun _ _ _=>False) e s'->False):
  W.WalkO q loose XP YP l.row.toRowW d [] (fun f vs=>PySem.call f vs):=by
 refine Att.ziq hn hdf fun w s₀ s₁ mg mb fa o pm cd doc a vs ns G Y ho hd hcd hmg hobj hints hlen hg=> ?_
 have KX:=hY w _ Y
 obtain ⟨fd,hb,hF⟩:=F w mg fa _ KX G.T.g hmg
 exact znr KX G.T.g G.T.b G.T.builtins G.T.nolimit hg hobj hints (qaS hlen hn2) hr hF hb (fun H hO hS=>hsp w H a ns hlen hO hS) fun H e s'=>hCX w H s₁ e s'
def zeu (s:Stmt):Arguments:=match s with
 | .FunctionDef _ a _ _ _ _ _ _ _ _=>a
 | _=>{posonlyargs:=[],args:=[],vararg:=none,kwonlyargs:=[],kw_defaults:=[],kwarg:=none,defaults:=[]}
def zcP (s:Stmt):List Stmt:=match s with
 | .FunctionDef _ _ b _ _ _ _ _ _ _=>b
 | _=>[]
def zae (s:Stmt):Scope:=match s with
 | .FunctionDef _ _ _ _ _ _ sc _ _ _=>sc
 | _=>{kind:= .function,names:=[],isGenerator:=false,isCoroutine:=false}
abbrev CX0:CXT:=fun _ _ _ _ _ _=>False
abbrev E0:XK:=fun _ _ _=>False
theorem zrI {X:Cx}:zdM CX0 X E0:=fun _ _ _ _ _ _ _ h=>h.elim
structure Fun (K:W.Frag) (x qual:Str) (st:Stmt) (f:Addr) (fd:FuncData):Prop where
 ex: ∃ (oc:Value) (od:Option Addr) (kV doc pm:Value) (an:Option Addr) (cdv ct:Value) (osl:Array (Option Value)),
  fd=W.fnOf x qual (zeu st) (zcP st) (zae st) .none kV doc pm an cdv ct/\K.lookup f=some ⟨oc,od,.func fd,osl⟩/\W.codeIn K cdv qual=true
 kp:W.keepIn K (.ref f)=true
section
variable {P:Program} {w:World} {K:W.Frag} {mg:Str->Option Value} {base:Heap}
theorem Fun.ok {x qual:Str} {st:Stmt} {f:Addr} {fd:FuncData} {N ps:List Str} {k:Nat} {sp:Sp} (F:Fun K x qual st f fd) (S:zat N ps (zae st)) (len: ∀ vs H Q E,sp vs H Q E->vs.length=ps.length)
  (hbody: ∀ (cdv:Value) (A:Around) (outer:List Env) (s:Shared) (H:Hp) (vs:List V) (Q:VK) (E:XK),zd9 k (A.deeper (envOfC qual (zae st) s.heap.objs.size f cdv))->sp vs H Q E->
    ∃ t,PSs (zh8 CX0 P w K mg base N qual (zae st) f cdv A outer s H E).nox (zcP st) t/\t {nx:=fun _ H'=>Q .non H',rt:=Q} (zef N vs) H):zb8 P w K mg base CX0 (k+1) f fd ps sp:=by
 obtain ⟨oc,od,kV,doc,pm,an,cdv,ct,osl,rfl,lk,hcd⟩:=F.ex
 refine zsR lk hcd S len fun A outer s H vs Q E hr hsp=> ?_
 obtain ⟨t,h,q⟩:=hbody cdv A outer s H vs Q E hr hsp
 exact ⟨t,h.nox,q⟩
theorem Fun.binds {x qual:Str} {st:Stmt} {f:Addr} {fd:FuncData} {ps:List Str} (F:Fun K x qual st f fd)
  (h: ∀ (kV doc pm:Value) (an:Option Addr) (cdv ct:Value) (us:List Value),us.length=ps.length->bindArgs (W.fnOf x qual (zeu st) (zcP st) (zae st) .none kV doc pm an cdv ct) ⟨us,[]⟩=pure (ps.zip us)):zaL K fd ps []:=by
 obtain ⟨oc,od,kV,doc,pm,an,cdv,ct,osl,rfl,lk,hcd⟩:=F.ex
 exact .all (h kV doc pm an cdv ct)
theorem zaK {x qual:Str} {st:Stmt} {f:Addr} {oc:Value} {od an:Option Addr} {osl:Array (Option Value)} {kV doc pm cdv ct:Value} (l:K.lookup f=some ⟨oc,od,.func (W.fnOf x qual (zeu st) (zcP st) (zae st) .none kV doc pm an cdv ct),osl⟩)
  (c:W.codeIn K cdv qual=true) (k:W.keepIn K (.ref f)=true):Fun K x qual st f (W.fnOf x qual (zeu st) (zcP st) (zae st) .none kV doc pm an cdv ct):=⟨⟨oc,od,kV,doc,pm,an,cdv,ct,osl,rfl,l,c⟩,k⟩
end
section
variable {X:Cx}
theorem pv (i:Nat) {x:Str} {pos:Pos} (hN:X.N[i]? = some x:=by rfl) (hv:Vis X.env.scope x:=by first | exact Or.inl rfl | exact Or.inr (Or.inl rfl) | exact Or.inr (Or.inr rfl)) (hd:(x==("__debug__":Str))=false:=by decide)
  (hcd:(x==("__classdict__":Str))=false:=by decide):PE X (.Name x pos) (zve i):=zpg hN hv hd hcd
end
theorem ztA {A B:Prop} (h:B):if false=true then A else B:=by
 rw [qa5 Bool.false_ne_true]
 exact h
theorem zty {A B:Prop} (h:A):if true=true then A else B:=by
 rw [qa4 rfl]
 exact h
def zbr (cells:List (Str×Addr)):List (Str×NameKind)->List (Str×Addr)->List (Str×Addr)
 | [],acc=>acc
 | (n,k)::r,acc=>if k== .free then zbr cells r ((n,(cells.lookup n).getD 0)::acc) else zbr cells r acc
theorem zdY {scope:Scope} {env:Env} (h: ∀ x∈scope.names,x.2= .free-> ∃ c,env.cells.lookup x.1=some c):closureFor scope env=pure (zbr env.cells scope.names []):=by
 simp only [closureFor]
 generalize hn:scope.names=names at h
 clear hn
 generalize hacc:([]:List (Str×Addr))=acc
 clear hacc
 have key: ∀ (names:List (Str×NameKind)) (acc:List (Str×Addr)),(∀ x∈names,x.2= .free-> ∃ c,env.cells.lookup x.1=some c)->
   (forIn (m:=Sem) names acc fun (x:Str×NameKind) (r:List (Str×Addr))=>(match x with
     | (name,kind)=>if (kind==NameKind.free)=true then do
         let a<-cellOf env name
         pure (ForInStep.yield ((name,a)::r))
       else pure (ForInStep.yield r)))=pure (zbr env.cells names acc):=by
  intro names
  induction names with
  | nil=>intro acc _;rfl
  | cons x r ih=>
   intro acc h
   obtain ⟨n,k⟩:=x
   rw [List.forIn_cons]
   unfold zbr
   by_cases hk:(k==NameKind.free)=true
   ·simp only [hk,if_true]
    obtain ⟨c,hc⟩:=h (n,k) qau (by simpa using hk)
    have e:cellOf env n=pure c:=by unfold cellOf;rw [show env.cells.lookup n=some c from hc]
    rw [e,show (env.cells.lookup n).getD 0=c by rw [show env.cells.lookup n=some c from hc];rfl]
    exact ih _ fun y hy=>h y (qan _ hy)
   ·simp only [hk,if_false]
    exact ih _ fun y hy=>h y (qan _ hy)
 have k:=key names acc h
 refine Eq.trans (congrArg (fun (z:Sem (List (Str×Addr)))=>z>>=fun r=>pure r) k) ?_
 rfl
theorem zer {cells:List (Str×Addr)}: ∀ {names:List (Str×NameKind)} {acc:List (Str×Addr)} {n:Str} {c:Addr},(n,c)∈zbr cells names acc->
  (n,c)∈acc\/((n,NameKind.free)∈names/\c=(cells.lookup n).getD 0)
 | [],_,_,_,h=> .inl h
 | (y,k)::r,acc,n,c,h=>by
  unfold zbr at h
  by_cases hk:(k==NameKind.free)=true
  ·rw [qa4 hk] at h
   have ek:k= .free:=by simpa using hk
   subst ek
   rcases zer h with h | ⟨h1,h2⟩
   ·rcases qaP.mp h with e | h
    ·cases e
     exact .inr ⟨qau,rfl⟩
    ·exact .inl h
   ·exact .inr ⟨qan _ h1,h2⟩
  ·rw [qa5 hk] at h
   rcases zer h with h | ⟨h1,h2⟩
   ·exact .inl h
   ·exact .inr ⟨qan _ h1,h2⟩
theorem zdC {cells:List (Str×Addr)} {x:Str} {c:Addr} (hc:cells.lookup x=some c): ∀ (names:List (Str×NameKind)) (acc:List (Str×Addr)),((x,NameKind.free)∈names\/acc.lookup x=some c)->(zbr cells names acc).lookup x=some c
 | [],acc,h=>h.elim (fun z=>nomatch z) id
 | (y,k)::r,acc,h=>by
  unfold zbr
  by_cases hk:(k==NameKind.free)=true
  ·rw [qa4 hk]
   refine zdC hc r _ ?_
   by_cases hy:x=y
   ·subst hy
    exact .inr (by rw [List.lookup_cons,beq_self_eq_true,hc];rfl)
   ·rcases h with h | h
    ·rcases qaP.mp h with e | h
     ·cases e;exact absurd rfl hy
     ·exact .inl h
    ·refine .inr ?_
     rw [List.lookup_cons,show (x==y)=false by simpa using hy]
     exact h
  ·rw [qa5 hk]
   refine zdC hc r _ ?_
   rcases h with h | h
   ·rcases qaP.mp h with e | h
    ·cases e;exact absurd rfl hk
    ·exact .inl h
   ·exact .inr h
theorem zc2: ∀ {names:List (Str×NameKind)} {n:Nat} {acc:List (Str×Addr)} {x:Str} {c:Addr},(x,c)∈cellsFrom n names acc->(x,c)∈acc\/(n<=c/\(x,NameKind.cell)∈names)
 | [],_,_,_,_,h=> .inl h
 | (y,k)::r,n,acc,x,c,h=>by
  unfold cellsFrom at h
  by_cases hk:(k==NameKind.cell)=true
  ·rw [qa4 hk] at h
   have ek:k= .cell:=by simpa using hk
   subst ek
   rcases zc2 h with h | ⟨h,h'⟩
   ·rcases qaP.mp h with e | h
    ·cases e;exact .inr ⟨qaV _,qau⟩
    ·exact .inl h
   ·exact .inr ⟨Nat.le_of_succ_le h,qan _ h'⟩
  ·rw [qa5 hk] at h
   rcases zc2 h with h | ⟨h,h'⟩
   ·exact .inl h
   ·exact .inr ⟨h,qan _ h'⟩
theorem zcq {x:Str} {c:Addr}: ∀ (names:List (Str×NameKind)) (n:Nat) (acc:List (Str×Addr)),(x,NameKind.cell)∉names->acc.lookup x=some c->(cellsFrom n names acc).lookup x=some c
 | [],_,_,_,h=>h
 | (y,k)::r,n,acc,hn,h=>by
  unfold cellsFrom
  by_cases hk:(k==NameKind.cell)=true
  ·rw [qa4 hk]
   have ek:k= .cell:=by simpa using hk
   subst ek
   refine zcq r _ _ (fun z=>hn (qan _ z)) ?_
   have hy:x≠y:=fun e=>hn (by rw [e];exact qau)
   rw [List.lookup_cons,show (x==y)=false by simpa using hy]
   exact h
  ·rw [qa5 hk]
   exact zcq r _ _ (fun z=>hn (qan _ z)) h
theorem zcn: ∀ (names:List (Str×NameKind)) (n:Nat) (acc:List (Str×Addr)),(∀ x c,(x,c)∈acc->c<n)->(acc.Pairwise fun x y=>x.2≠y.2)->(cellsFrom n names acc).Pairwise fun x y=>x.2≠y.2
 | [],_,_,_,h=>h
 | (y,k)::r,n,acc,hlt,h=>by
  unfold cellsFrom
  by_cases hk:(k==NameKind.cell)=true
  ·rw [qa4 hk]
   refine zcn r (n+1) _ (fun x c hm=> ?_) (qay.mpr ⟨fun z hz e=> ?_,h⟩)
   ·rcases qaP.mp hm with e | hm
    ·cases e;exact Nat.lt_succ_self _
    ·exact Nat.lt_succ_of_lt (hlt x c hm)
   ·have:=hlt z.1 z.2 hz
    have e':n=z.2:=e
    exact qaN _ (e'▸this)
  ·rw [qa5 hk]
   exact zcn r n acc hlt h
def zph (env:Env) (scope:Scope) (C:Addr):Env:=
 {scope:=relabel scope env,locals:=C,globals:=env.globals,cells:=cellsFrom (C+1) scope.names (zbr env.cells scope.names []),qual:=env.qual,func:=none,code:=env.code,frame:=env.frame,builtins:=env.builtins}
section
variable {M:Model} {A:Around} {E:Value->Shared->Prop} {s:Shared}
theorem zfB {scope:Scope} {env:Env} {cl:List (Str×Addr)} {Q:Env->Shared->Prop}
  (hQ: ∀ h',(∀ b o,s.heap.get? b=some o->h'.get? b=some o)->h'.Ns s.heap.objs.size (fun _=>none)->(∀ x c,(x,NameKind.cell)∈scope.names->(x,c)∈cellsFrom (s.heap.objs.size+1) scope.names cl->(x,c)∉cl->h'.IsCell c none)->
    Q {scope,locals:=s.heap.objs.size,globals:=env.globals,cells:=cellsFrom (s.heap.objs.size+1) scope.names cl,qual:=env.qual,func:=none,code:=env.code,frame:=env.frame,builtins:=env.builtins} {s with heap:=h'}):
  wpAny M A (newFunctionEnv scope env.globals cl [] env.qual none .none (some env)) Q E s:=by
 simp only [newFunctionEnv,Option.isSome_some,if_true]
 refine qaW (wpAny_alloc ?_)
 refine qaW (wpAny_layCells _ (fun name kind cells=>by cases hkc:kind==NameKind.cell<;>simp [hkc]) _ _ _ _ ?_)
 simp only [List.forIn_nil]
 refine qaW (qaX (qaX ?_))
 rw [show ({s with heap:=s.heap.push {cls:= .type "dict",data:= .dict #[]}}:Shared).heap.objs.size=s.heap.objs.size+1 from qaL ..]
 have key: ∀ (names:List (Str×NameKind)) (h:Heap) (acc:List (Str×Addr)) (x:Str) (c:Addr),(x,c)∈cellsFrom h.objs.size names acc->(x,c)∉acc->(pushCells h names).IsCell c none:=by
  intro names
  induction names with
  | nil=>intro h acc x c hm hn;exact absurd hm hn
  | cons y r ih=>
   intro h acc x c hm hn
   obtain ⟨n,k⟩:=y
   unfold cellsFrom at hm
   unfold pushCells
   by_cases hk:(k==NameKind.cell)=true
   ·rw [qa4 hk] at hm ⊢
    by_cases hin:(x,c)∈((n,h.objs.size)::acc)
    ·rcases qaP.mp hin with e | e
     ·cases e
      exact ⟨_,pushCells_keeps _ _ _ _ (qar _ rfl),rfl⟩
     ·exact absurd e hn
    ·refine ih (h.push {cls:= .type "cell",data:= .cell none}) ((n,h.objs.size)::acc) x c ?_ hin
     rw [qaL]
     exact hm
   ·rw [qa5 hk] at hm ⊢
    exact ih h acc x c hm hn
 refine hQ _ (fun b o e=>pushCells_keeps _ _ b o (qag _ e)) ((Heap.Ns.new s.heap (.type "dict")).keeps (pushCells_keeps _ _)) fun x c _ hm hn=> ?_
 refine key scope.names _ cl x c ?_ hn
 rw [qaL]
 exact hm
end
section
variable {prog:Program} {w:World} {A:Around} {E:Value->Shared->Prop} {R:Result->Shared->Prop} {s:Shared}
theorem zhp {elt target iter:Expr} {ifs:List Expr} {scope:Scope} {pos:Pos} {it acc:Value} {env:Env} (I:Nat->Shared->Prop)
  (turn: ∀ n s,I n s->wpAny (model prog w) A (pyNext it) (fun r s₁=>match r with
    | none=>R (.ok .next) s₁
    | some v=>wpAny (model prog w) A (letOwnedTupleGo target it v) (fun _ s₁'=>wpAny (model prog w) A (assign target env v) (fun _ s₂=>
        wpAny (model prog w) A (forIn ifs true fun c r=>if r=true then do let ok<-isTrue c env (eval c env);pure (ForInStep.yield ok) else pure (ForInStep.yield r)) (fun ok s₃=>
          if ok=true then wpAny (model prog w) A (eval elt env) (fun x s₄=>
            wpAny (model prog w) A (call (.builtin "list.append") [acc,x]) (fun _ s₅=> ∃ m,m<n/\I m s₅) (fun _ _=>False) s₄) (fun _ _=>False) s₃
          else ∃ m,m<n/\I m s₃) (fun _ _=>False) s₂) (fun _ _=>False) s₁') (fun _ _=>False) s₁) (fun _ _=>False) s)
  (n:Nat) (h:I n s):
  codeAny (model prog w) A (.compLoop (.ListComp elt [⟨target,iter,ifs,0⟩] scope pos) 0 it acc env) R s:=by
 refine codeAny_loop rfl I (fun n s hI=> ?_) n h
 show wpAny _ A ((compTurn (.ListComp elt [⟨target,iter,ifs,0⟩] scope pos) 0 it acc env).onRaise (fun x=>do noteFrame x env;theTreesLotGoes x)) _ _ s
 refine wpAny_noted ?_
 rw [compTurn_list]
 refine qaW (wpAny_standAt (qaW (qaZ (turn n s hI) (fun r s₁ h₁=> ?_) fun _ _ h'=>h'.elim)))
 cases r with
 | none=>exact qaX h₁
 | some v=>
  refine qaW (qaZ h₁ (fun _ s₁' h₁'=> ?_) fun _ _ h'=>h'.elim)
  refine qaW (qaZ h₁' (fun _ s₂ h₂=>qaW (qaZ h₂ (fun ok s₃ h₃=> ?_) fun _ _ h'=>h'.elim)) fun _ _ h'=>h'.elim)
  cases ok with
  | false=>exact qaX ⟨rfl,h₃⟩
  | true=>
   exact qaW (qaW (qaZ h₃ (fun x s₄ h₄=>qaW (qaZ h₄ (fun _ s₅ h₅=>qaX (qaX ⟨rfl,h₅⟩)) fun _ _ h'=>h'.elim)) fun _ _ h'=>h'.elim))
end
abbrev cxB (X:Cx) (scope:Scope) (N:List Str) (s:Shared) (H:Hp) (fp:List Addr):Cx:=
 {prog:=X.prog,w:=X.w,K:=X.K,mg:=X.mg,base:=X.base,A:=X.A,N:=N,s₀:=s,H₀:=H,env:=zph X.env scope s.heap.objs.size,outer:=X.stack,stack:=X.stack,ex:=fp,
   fn:=fun x=>scope.names.lookup x==some .cell,calm:=X.calm,pn:=[],xe:=fun _ _=>False}
def zox (Xn:List (Str×NameKind)) (XN:List Str) (names:List (Str×NameKind)) (N:List Str) (src:List (Option Nat)):Bool:=
 decide N.Nodup && decide (names.map (·.1)).Nodup && (src.length==N.length) &&
 names.all (fun x=>x.2 != .local || names.lookup x.1==some .local) &&
 names.all (fun x=>x.2 != .cell || names.lookup x.1==some .cell) &&
 names.all (fun x=>x.2 != .free || Xn.lookup x.1==some .cell || Xn.lookup x.1==some .free) &&
 (N.zip src).all (fun p=>match p.2 with
   | none=>true
   | some i=>XN[i]? == some p.1 && names.lookup p.1==some .free)
structure BOk (X:Cx) (scope:Scope) (N:List Str) (src:List (Option Nat)):Prop where
 kind:scope.kind= .function
 nd:N.Nodup
 keys:(scope.names.map (·.1)).Nodup
 len:src.length=N.length
 locs: ∀ x∈scope.names,x.2= .local->scope.names.lookup x.1=some .local
 cels: ∀ x∈scope.names,x.2= .cell->scope.names.lookup x.1=some .cell
 free: ∀ x∈scope.names,x.2= .free->X.env.kindOf x.1=some .cell\/X.env.kindOf x.1=some .free
 src: ∀ (k i:Nat) (x:Str),src[k]? = some (some i)->N[k]? = some x->X.N[i]? = some x/\scope.names.lookup x=some .free
theorem BOk.of {X:Cx} {scope:Scope} {N:List Str} {src:List (Option Nat)} {Xn:List (Str×NameKind)} {XN:List Str} (hk:scope.kind= .function) (hX:X.env.scope.names=Xn) (hN:X.N=XN)
  (h:zox Xn XN scope.names N src=true):BOk X scope N src:=by
 unfold zox at h
 simp only [qaG,qaD,List.all_eq_true,beq_iff_eq] at h
 obtain ⟨⟨⟨⟨⟨⟨h1,h2⟩,h3⟩,h4⟩,h4'⟩,h5⟩,h6⟩:=h
 refine ⟨hk,h1,h2,h3,fun x hx e=> ?_,fun x hx e=> ?_,fun x hx e=> ?_,fun k i x e1 e2=> ?_⟩
 ·have:=h4 x hx
  rw [e] at this
  simpa using this
 ·have:=h4' x hx
  rw [e] at this
  simpa using this
 ·have:=h5 x hx
  rw [e] at this
  unfold Env.kindOf
  rw [hX]
  simpa using this
 ·have hm:(x,some i)∈N.zip src:=by
   refine List.mem_iff_getElem?.mpr ⟨k,?_⟩
   rw [List.getElem?_zip_eq_some]
   exact ⟨e2,e1⟩
  have:=h6 _ hm
  dsimp only at this
  simp only [qaG,beq_iff_eq] at this
  rw [hN]
  exact this
def bStart (src:List (Option Nat)) (σ:St):St:=src.map fun o=>o.bind fun i=>(σ[i]?).join
theorem zfz {scope:Scope} {env:Env} {x:Str}:(relabel scope env).names.lookup x=(scope.names.lookup x).map fun k=>if (k== .free && env.scope.kind== .function && env.kindOf x==some .cell) then .cell else k:=by
 show List.lookup x (scope.names.map _)=_
 induction scope.names with
 | nil=>rfl
 | cons y r ih=>
  obtain ⟨n,k⟩:=y
  rw [qaM]
  dsimp only
  by_cases hx:x=n
  ·subst hx
   by_cases hc:(k==NameKind.free && env.scope.kind== .function && env.kindOf x==some .cell)=true
   ·rw [qa4 hc,List.lookup_cons,List.lookup_cons,beq_self_eq_true]
    dsimp only [Option.map]
    rw [qa4 hc]
   ·rw [qa5 hc,List.lookup_cons,List.lookup_cons,beq_self_eq_true]
    dsimp only [Option.map]
    rw [qa5 hc]
  ·have hb:(x==n)=false:=by simpa using hx
   by_cases hc:(k==NameKind.free && env.scope.kind== .function && env.kindOf n==some .cell)=true
   ·rw [qa4 hc,List.lookup_cons,List.lookup_cons,hb]
    exact ih
   ·rw [qa5 hc,List.lookup_cons,List.lookup_cons,hb]
    exact ih
section
variable {X:Cx} {pins:List (Addr×Obj)} {σ:St} {H:Hp} {s:Shared} {scope:Scope} {N:List Str} {src:List (Option Nat)} {fp:List Addr}
theorem zqH (I:Inv X pins σ H s) (B:BOk X scope N src) {x:Str} {c:Addr} (h:(x,c)∈zbr X.env.cells scope.names []):X.env.cells.lookup x=some c/\(x,NameKind.free)∈scope.names:=by
 rcases zer h with z | ⟨z,e⟩
 ·exact nomatch z
 ·obtain ⟨c',hc⟩:=I.ok.has x (B.free _ z rfl)
  rw [hc] at e
  exact ⟨by rw [hc,e];rfl,z⟩
theorem zha {l:List (Str×NameKind)} (h:(l.map (·.1)).Nodup) {x:Str} {j k:NameKind} (a:(x,j)∈l) (b:(x,k)∈l):j=k:=by
 induction l with
 | nil=>exact nomatch a
 | cons y r ih=>
  obtain ⟨h1,h2⟩:=List.nodup_cons.mp (show (y.1::r.map (·.1)).Nodup from h)
  rcases qaP.mp a with e | a<;>rcases qaP.mp b with e' | b
  ·rw [<- e] at e';cases e';rfl
  ·exact absurd (qaU.mpr ⟨_,b,by rw [<- e]⟩) h1
  ·exact absurd (qaU.mpr ⟨_,a,by rw [<- e']⟩) h1
  ·exact ih h2 a b
theorem zed (I:Inv X pins σ H s): ∀ (names:List (Str×NameKind)) (acc:List (Str×Addr)),(∀ x∈names,x.2= .free-> ∃ c,X.env.cells.lookup x.1=some c)->(names.map (·.1)).Nodup->(∀ x c,(x,c)∈acc->X.env.cells.lookup x=some c/\x∉names.map (·.1))->
  (acc.Pairwise fun x y=>x.2≠y.2)->(zbr X.env.cells names acc).Pairwise fun x y=>x.2≠y.2
 | [],_,_,_,_,h=>h
 | (n,k)::r,acc,hf,nd,ha,h=>by
  unfold zbr
  obtain ⟨h1,h2⟩:=List.nodup_cons.mp (show (n::r.map (·.1)).Nodup from nd)
  by_cases hk:(k==NameKind.free)=true
  ·rw [qa4 hk]
   obtain ⟨c,hc⟩:=hf (n,k) qau (by simpa using hk)
   have hc:X.env.cells.lookup n=some c:=hc
   rw [show (X.env.cells.lookup n).getD 0=c by rw [hc];rfl]
   refine zed I r _ (fun x hx=>hf x (qan _ hx)) h2 (fun x c' hm=> ?_) (qay.mpr ⟨fun y hy e=> ?_,h⟩)
   ·rcases qaP.mp hm with e | hm
    ·cases e;exact ⟨hc,h1⟩
    ·exact ⟨(ha x c' hm).1,fun z=>(ha x c' hm).2 (qan _ z)⟩
   ·obtain ⟨q1,q2⟩:=ha y.1 y.2 hy
    have e':c=y.2:=e
    rw [<- e'] at q1
    have:=I.ok.inj _ _ _ hc q1
    exact q2 (by rw [<- this];exact qau)
  ·rw [qa5 hk]
   exact zed I r acc (fun x hx=>hf x (qan _ hx)) h2 (fun x c' hm=>⟨(ha x c' hm).1,fun z=>(ha x c' hm).2 (qan _ z)⟩) h
theorem zmn (I:Inv X pins σ H s) (B:BOk X scope N src) (hf: ∀ b∈fp,zmQ X pins H b) (hfo: ∀ b∈fp, ∃ o,s.heap.get? b=some o) {h':Heap} (hk: ∀ b o,s.heap.get? b=some o->h'.get? b=some o) (hns:h'.Ns s.heap.objs.size (fun _=>none))
  (hce: ∀ x c,(x,NameKind.cell)∈scope.names->(x,c)∈cellsFrom (s.heap.objs.size+1) scope.names (zbr X.env.cells scope.names [])->(x,c)∉zbr X.env.cells scope.names []->h'.IsCell c none):
  Inv (cxB X scope N s H fp) [] (bStart src σ) H {s with heap:=h'}:=by
 have cin: ∀ {x:Str} {c:Addr},(x,c)∈zbr X.env.cells scope.names []->X.env.cells.lookup x=some c/\(x,NameKind.free)∈scope.names:=fun h=>zqH I B h
 have old: ∀ {x:Str} {c:Addr},X.env.cells.lookup x=some c->c<s.heap.objs.size:=fun {x c} h=>(let ⟨_,q⟩:=I.cell x c h;q.lt)
 have all: ∀ {x:Str} {c:Addr},(x,c)∈cellsFrom (s.heap.objs.size+1) scope.names (zbr X.env.cells scope.names [])->(X.env.cells.lookup x=some c/\(x,NameKind.free)∈scope.names)\/(s.heap.objs.size<c/\(x,NameKind.cell)∈scope.names):=fun {x c} h=>by
  rcases zc2 h with z | ⟨z,z'⟩
  ·exact .inl (cin z)
  ·exact .inr ⟨z,z'⟩
 have lk: ∀ {x:Str} {c:Addr},(zph X.env scope s.heap.objs.size).cells.lookup x=some c->(x,c)∈cellsFrom (s.heap.objs.size+1) scope.names (zbr X.env.cells scope.names []):=fun h=>PySem.mem_of_lookup h
 have hasF: ∀ x∈scope.names,x.2= .free-> ∃ c,X.env.cells.lookup x.1=some c:=fun x hx e=>I.ok.has x.1 (B.free x hx e)
 have ap:(cellsFrom (s.heap.objs.size+1) scope.names (zbr X.env.cells scope.names [])).Pairwise fun x y=>x.2≠y.2:=
  zcn _ _ _ (fun x c hm=>Nat.lt_succ_of_lt (old (cin hm).1)) (zed I scope.names [] hasF B.keys (fun _ _ z=>nomatch z) .nil)
 have outer: ∀ {x:Str} {c:Addr},(x,NameKind.free)∈scope.names->X.env.cells.lookup x=some c->(zph X.env scope s.heap.objs.size).cells.lookup x=some c:=fun {x c} h1 h2=>
  zcq _ _ _ (fun z=>nomatch zha B.keys h1 z) (zdC h2 scope.names [] (.inl h1))
 have kinds: ∀ x,(zph X.env scope s.heap.objs.size).kindOf x=(scope.names.lookup x).map fun k=>if (k== .free && X.env.scope.kind== .function && X.env.kindOf x==some .cell) then .cell else k:=fun x=>zfz
 have ckind: ∀ x,((zph X.env scope s.heap.objs.size).kindOf x=some .cell\/(zph X.env scope s.heap.objs.size).kindOf x=some .free)->scope.names.lookup x=some .cell\/scope.names.lookup x=some .free:=fun x h=>by
  rw [kinds x] at h
  cases e:scope.names.lookup x with
  | none=>rw [e] at h;simp at h
  | some k=>
   rw [e] at h
   cases k<;>simp at h ⊢
 refine ⟨⟨I.ok.mod,B.kind,I.ok.glob,I.ok.blt,qaV _,fun x y c h1 h2=>name_of_addr ap (lk h1) (lk h2),fun x hx=> ?_,fun x c hfn hx=> ?_,I.ok.hd,I.handA,I.ok.frames,.inl rfl,fun b hb=> ?_,I.bs,qaS I.ok.bsz I.sz,fun b o e hb=> ?_,fun b hb hb'=> ?_,I.stack,I.stkFree⟩,
   rfl,I.bare,Un.kept hk,⟨_,hns,fun i x v h1 h2 h3=> ?_⟩,fun x c h=> ?_,I.hok.fresh (qaV _),fun x c h=> ?_,fun p hp=>absurd (show p∈([]:List (Addr×Obj)) from hp) (by simp),I.hok.kept hk,?_⟩
 ·-- has
  rcases ckind x hx with h | h
  ·exact Option.isSome_iff_exists.mp (W.cellsFrom_some scope.names _ _ (.inl h))
  ·have hm:=PySem.mem_of_lookup h
   obtain ⟨c,hc⟩:=hasF _ hm rfl
   exact ⟨c,outer hm hc⟩
 ·-- cab
  have hfn:scope.names.lookup x=some .cell:=by simpa using hfn
  rcases all (lk hx) with ⟨_,z⟩ | ⟨z,_⟩
  ·exact absurd (zha B.keys z (PySem.mem_of_lookup hfn)) (by decide)
  ·exact Nat.le_of_lt z
 ·-- exf
  obtain ⟨o,ho⟩:=hfo b hb
  refine ⟨qaR (qaQ ho),fun x c hx z=> ?_⟩
  rcases all (lk hx) with ⟨q,_⟩ | ⟨q,_⟩
  ·exact (hf b hb).2.2.2.2.1 x c q z
  ·have:=qaQ ho
   rw [<- z] at this
   exact qaN _ (Nat.lt_trans q this)
 ·-- noex
  rcases (hf b hb).2.2.2.1 with z | z
  ·exact I.ok.noex b o e z
  ·exact qaN _ (qaw (qaw (qaQ e) I.ok.bsz) z)
 ·-- exfs
  rcases qaP.mp (I.stkSub b hb') with z | z
  ·exact (hf b hb).2.1 z
  ·exact (hf b hb).2.2.1 z
 ·-- loc
  unfold bStart at h2
  rw [List.getElem?_map] at h2
  cases e:src[i]? with
  | none=>rw [e] at h2;cases h2
  | some o=>
   rw [e] at h2
   cases o with
   | none=>cases h2
   | some j=>
    have h2:(σ[j]?).join=some v:=by simpa using h2
    have e3:σ[j]? = some (some v):=by
     cases q:σ[j]? with
     | none=>rw [q] at h2;cases h2
     | some z=>rw [q] at h2;simp at h2;rw [h2]
    obtain ⟨b1,b2⟩:=B.src i j x e h1
    have hm:=PySem.mem_of_lookup b2
    obtain ⟨m,hn,hl⟩:=I.loc
    have hfr:=B.free _ hm rfl
    obtain ⟨u,r,l⟩:=hl j x v b1 e3 (.inr hfr)
    rcases l with ⟨k,_⟩ | ⟨k,c,hc,q⟩
    ·rcases hfr with z | z<;>(have z':=k.symm.trans z;cases z')
    ·refine ⟨u,r,.inr ⟨?_,c,outer hm hc,q.keeps hk⟩⟩
     rw [kinds x,b2]
     dsimp only [Option.map]
     split
     ·exact .inl rfl
     ·exact .inr rfl
 ·-- cell
  rcases all (lk h) with ⟨q,_⟩ | ⟨q,q'⟩
  ·obtain ⟨v,z⟩:=I.cell x c q
   exact ⟨v,z.keeps hk⟩
  ·exact ⟨none,hce x c q' (lk h) fun z=>absurd (Nat.lt_trans q (old (cin z).1)) (qaN _)⟩
 ·-- freeC
  rcases all (lk h) with ⟨q,_⟩ | ⟨q,q'⟩
  ·exact I.freeC x c q
  ·exact I.hok.fresh (Nat.le_of_lt q)
 ·unfold bStart
  rw [qaH]
  exact B.len
end
def PCs (X:Cx) (ifs:List Expr) (t:TT):Prop:=
 ∀ (pins:List (Addr×Obj)) (s:Shared) (σ:St) (H:Hp) (Q:Bool->Hp->Prop),Inv X pins σ H s->t σ H Q->
  wpAny (model X.prog X.w) X.A (forIn ifs true fun c r=>if r=true then do let ok<-isTrue c X.env (eval c X.env);pure (ForInStep.yield ok) else pure (ForInStep.yield r)) (TP X pins σ Q) X.xe s
def zvE:TT:=fun _ H Q=>Q true H
theorem zpC {X:Cx}:PCs X [] zvE:=fun pins s σ H Q I h=>wpAny_tests_nil ⟨H,I,h⟩
theorem zpm {X:Cx} {c:Expr} {t:TT} (h:PT X c t):PCs X [c] t:=fun pins s σ H Q I hw=>wpAny_tests_one (h pins s σ H Q I hw)
def zur (J:It) (g:TG) (tc:TT) (te:TE) (σ0:St) (H1:Hp) (D:Addr) (Q:Hp->Prop):Prop:=
 ∃ W:Nat->Nat->St->Hp->Prop,(∃ m,W 0 m σ0 (upd H1 D (.lst [])))/\ ∀ i m σ' H',W i m σ' H'->
  (J.stop i H'/\Q H')\/(J.go i H'/\ ∃ Nn:St->Hp->Prop,(∀ σ2 H2,Nn σ2 H2-> ∃ m',m'<m/\W (i+1) m' σ2 H2)/\ ∀ x H2,J.yld i H' x H2->g x σ' H2 fun σ2 H3=>tc σ2 H3 fun b H4=>
    if b=true then te σ2 H4 fun y H5=> ∃ xs,H5 D=some (.lst xs)/\xs.length<sizeLine/\Nn σ2 (upd H5 D (.lst (xs++[y]))) else Nn σ2 H4)
section
variable {X:Cx} {scope:Scope} {N:List Str} {src:List (Option Nat)} {tg iter elt:Expr} {ifs:List Expr} {pos:Pos}
theorem zjq {pins:List (Addr×Obj)} {σ:St} {H:Hp} {s₂:Shared} {it:Addr} {fp:List Addr} {tn:Nat->Heap->Prop} {J:It} {g:TG} {tc:TT} {te:TE} {Q:Addr->Hp->Prop} {E:Value->Shared->Prop} {RR:Value->Addr->Result->Shared->Prop}
  (B:BOk X scope N src)
  (hg: ∀ s H fp,PG (cxB X scope N s H fp) tg g) (ht: ∀ s H fp,PCs (cxB X scope N s H fp) ifs tc) (he: ∀ s H fp,PE (cxB X scope N s H fp) elt te)
  (I2:Inv X pins σ H s₂) (T:zq8 X.prog X.w X.K tg J fp it tn) (st2:tn 0 s₂.heap) (f2: ∀ b∈fp,zmQ X pins H b) (hw: ∀ D,H D=none->zur J g tc te (bStart src σ) H D (Q D))
  (hRR: ∀ D C H' s' m,Inv X pins σ H' s'->s'.heap.Ns C m->s₂.heap.objs.size<=C->C<s'.heap.objs.size->H' C=none->Q D H'->RR (.ref D) C (.ok .next) s'):
  wpAny (model X.prog X.w) X.A (newList []) (fun acc s₃=>wpAny (model X.prog X.w) X.A (newFunctionEnv scope X.env.globals (zbr X.env.cells scope.names []) [] X.env.qual none .none (some X.env)) (fun cenv s₄=>
    codeAny (model X.prog X.w) X.A (.compStart (.ListComp elt [⟨tg,iter,ifs,0⟩] scope pos) 0 (.ref it) acc {cenv with scope:=relabel scope X.env}) (RR acc cenv.locals) s₄) E s₃) E s₂:=by
 refine qaC (zfB fun h₁ hk₁ hns₁ hce₁=> ?_)
 dsimp only at hk₁ hns₁ hce₁ ⊢
 have hfresh:H s₂.heap.objs.size=none:=I2.hok.fresh (qaV _)
 have I3:Inv X pins σ (upd H s₂.heap.objs.size (.lst [])) {s₂ with heap:=s₂.heap.push {cls:= .type "list",dict:=none,data:= .seq ([]:List Value).toArray}}:=by
  have:=I2.lnew (its:=[]) (ys:=[]) (t':=s₂.toks) .nil (Nat.zero_le _)
  exact this
 obtain ⟨W,⟨m0,w0⟩,turn⟩:=hw _ hfresh
 generalize hD:s₂.heap.objs.size=D at*
 generalize hs3:({s₂ with heap:=s₂.heap.push {cls:= .type "list",dict:=none,data:= .seq ([]:List Value).toArray}}:Shared)=s₃ at*
 have hh3:s₂.heap.push {cls:= .type "list",dict:=none,data:= .seq ([]:List Value).toArray}=s₃.heap:=by rw [<- hs3]
 rw [hh3] at hk₁ hns₁ hce₁ ⊢
 have push3: ∀ b o,s₂.heap.get? b=some o->s₃.heap.get? b=some o:=fun b o e=>by rw [<- hs3];exact qag _ e
 have sz3:s₃.heap.objs.size=D+1:=by rw [<- hs3, <-hD];exact qaL ..
 have fpo: ∀ b∈fp, ∃ o,s₂.heap.get? b=some o/\ ∀ v,o.data≠ .cell v:=T.obj _ _ st2
 have fpD: ∀ b∈fp,b≠D:=fun b hb z=>by
  obtain ⟨o,e,_⟩:=fpo b hb
  have:=qaQ e
  rw [z, <-hD] at this
  exact qaN _ this
 have f3: ∀ b∈fp,zmQ X pins (upd H D (.lst [])) b:=fun b hb=>⟨by rw [zax (fpD b hb)];exact (f2 b hb).1,(f2 b hb).2⟩
 have I4:Inv (cxB X scope N s₃ (upd H D (.lst [])) fp) [] (bStart src σ) (upd H D (.lst [])) {s₃ with heap:=h₁}:=
  zmn I3 B f3 (fun b hb=>let ⟨o,e,_⟩:=fpo b hb;⟨o,push3 b o e⟩) hk₁ hns₁ hce₁
 have fB: ∀ {H':Hp},(∀ b∈fp,H' b=none)-> ∀ b∈fp,zmQ (cxB X scope N s₃ (upd H D (.lst [])) fp) [] H' b:=fun {H'} hn b hb=>
  ⟨hn b hb,(I4.ok.exf b hb).1,I4.ok.exfs b hb,.inl hb,fun x c e=>(I4.ok.exf b hb).2 x c e,fun p hp=>absurd (show p∈([]:List (Addr×Obj)) from hp) (by simp)⟩
 have stat4: ∀ s',s'=({s₃ with heap:=h₁}:Shared)->codeAny (model X.prog X.w) X.A (.compLoop (.ListComp elt [⟨tg,iter,ifs,0⟩] scope pos) 0 (.ref it) (.ref D) (zph X.env scope s₃.heap.objs.size)) (RR (.ref D) s₃.heap.objs.size) s':=by
  intro s' es
  refine zhp (fun n s'=> ∃ i σ' H',Inv (cxB X scope N s₃ (upd H D (.lst [])) fp) [] σ' H' s'/\tn i s'.heap/\(∀ b∈fp,H' b=none)/\W i n σ' H') ?_ m0 ⟨0,_,_,by rw [es];exact I4,by rw [es];exact T.keep _ _ _ st2 fun b hb o e=>hk₁ b o (push3 b o e),fun b hb=>(f3 b hb).1,w0⟩
  rintro n s5 ⟨i,σ5,H5,I5,st5,fr5,w5⟩
  rcases turn i n σ5 H5 w5 with ⟨stop,qn⟩ | ⟨go,Nn,hN,step⟩
  ·refine thn (T.done (cxB X scope N s₃ (upd H D (.lst [])) fp) rfl rfl rfl i [] s5 σ5 H5 _ I5 (fB fr5) st5 stop) fun r s6 ⟨hr,I6⟩=> ?_
   subst hr
   obtain ⟨m,hnC,_⟩:=I6.loc
   have un:=I6.base
   have u2:Un (frs X.stack) fp H H5 s₂.heap s6.heap:=by
    refine Un.trans ?_ un
    have:=Un.laid (fs:=frs X.stack) (ex:=fp) (H:=H) (h:=s₂.heap) (h':=s₃.heap) (a:=D) (o:= .lst []) push3 (Nat.le_of_eq hD) hfresh
    exact this
   refine hRR D _ H5 s6 m (I2.call' (ch:=fp) (by rw [I6.os, <-hs3]) u2 I6.hok I6.bare fun b hb=> ?_) hnC (by rw [sz3];exact Nat.le_succ _) hnC.lt I6.free qn
   obtain ⟨q0,q1,q2,q3,q4,q5⟩:=f2 b hb
   exact ⟨q3,q1,q4,q5⟩
  ·refine thn (T.item (cxB X scope N s₃ (upd H D (.lst [])) fp) rfl rfl rfl i [] s5 σ5 H5 _ I5 (fB fr5) st5 go) fun r s6 ⟨u,hr,h6⟩=> ?_
   subst hr
   refine thn h6 fun _ s7 ⟨x,H7,I7,r7,y7,st7,fr7⟩=> ?_
   have I7':=I7.pinned (fB fr7) (T.obj _ _ st7)
   refine thn (hg _ _ _ _ s7 σ5 H7 x u _ I7' r7 (step x H7 y7)) fun _ s8 ⟨σ8,H8,I8,q8⟩=> ?_
   refine thn (ht _ _ _ _ s8 σ8 H8 _ I8 q8) fun ok s9 ⟨H9,I9,q9⟩=> ?_
   have again: ∀ {σ7:St} {Hz:Hp} {sz:Shared},Inv (cxB X scope N s₃ (upd H D (.lst [])) fp) ([]++zhw fp s7.heap) σ7 Hz sz->Nn σ7 Hz-> ∃ m,m<n/\ ∃ i σ' H',Inv (cxB X scope N s₃ (upd H D (.lst [])) fp) [] σ' H' sz/\tn i sz.heap/\(∀ b∈fp,H' b=none)/\W i m σ' H':=fun {σz Hz sz} Iz nz=>by
    obtain ⟨m',hm,wz⟩:=hN _ _ nz
    refine ⟨m',hm,i+1,_,_,Iz.unpinned,T.keep _ _ _ st7 fun b hb o e=>(Iz.pin (b,o) (qak _ (qak _ (zdr hb e)))).1,fun b hb=> ?_,wz⟩
    obtain ⟨o,e,d⟩:=T.obj _ _ st7 b hb
    exact (Iz.pin (b,o) (qak _ (qak _ (zdr hb e)))).2.1
   cases ok with
   | false=>
    rw [qa5 (by decide)] at q9
    rw [qa5 (by decide)]
    exact again I9 q9
   | true=>
    rw [qa4 rfl] at q9
    rw [qa4 rfl]
    refine thn (he _ _ _ _ s9 σ8 H9 _ I9 q9) fun y s10 ⟨yv,H10,I10,ry,xs,e10,z10,q10⟩=> ?_
    refine thn (zhr (X:=cxB X scope N s₃ (upd H D (.lst [])) fp) _ s10 σ8 H10 (.ref D) [yv] (.ref D) [y] (fun _ Hf=>Nn σ8 Hf) I10 rfl (.cons ry .nil) ⟨D,xs,yv,rfl,rfl,e10,z10,q10⟩) fun _ s11 ⟨_,H11,I11,_,q11⟩=> ?_
    exact again I11 q11
 exact codeAny_compStart_list (stat4 _ (by rw [<- hs3])) (T.self _ 0 _ _ _ (T.keep _ _ _ st2 fun b hb o e=>hk₁ b o (push3 b o e)) (stat4 _ (by rw [<- hs3])))
def zqz (wi:TI) (g:TG) (tc:TT) (te:TE) (src:List (Option Nat)):TE:=fun σ H Q=>wi σ H fun J H1=> ∀ D,H1 D=none->zur J g tc te (bStart src σ) H1 D fun H'=>Q (.ref D) H'
theorem Inv.letGo {pins:List (Addr×Obj)} {σ:St} {H:Hp} {s:Shared} {C:Addr} {m:Str->Option Value} {h':Heap} (I:Inv X pins σ H s) (hn:s.heap.Ns C m) (hn':H C=none) (hC:X.s₀.heap.objs.size<=C) (hL:C≠X.env.locals) (hp: ∀ p∈X.pn++pins,p.1≠C) (hs:Heap.SameBut C s.heap h'):Inv X pins σ H {s with heap:=h'}:=by
 refine I.turned (t':=s.toks) (it:=C) (fun b o hb e=>(hs.2 b hb).trans e) hn' hL (.inr hC) (fun x c e z=> ?_) hp
 obtain ⟨v,o,ho,hd⟩:=I.cell x c e
 obtain ⟨o',es,ep,ho',hd',_⟩:=hn
 rw [z,ho'] at ho
 cases ho
 rw [hd'] at hd
 cases hd
theorem zp3 {wi:TI} {g:TG} {tc:TT} {te:TE} (B:BOk X scope N src) (hi:PI X tg iter wi)
  (hg: ∀ s H fp,PG (cxB X scope N s H fp) tg g) (ht: ∀ s H fp,PCs (cxB X scope N s H fp) ifs tc) (he: ∀ s H fp,PE (cxB X scope N s H fp) elt te)
  (hs: ∀ x,foldedSetIterable iter X.env x=pure x:=by intro _;rfl):PE X (.ListComp elt [⟨tg,iter,ifs,0⟩] scope pos) (zqz wi g tc te src):=by
 intro pins s σ H Q I h
 rw [eval_ListComp]
 refine wpAny_comprehension_free (use:=none) rfl hs (zdY fun x hx e=>I.ok.has x.1 (B.free x hx e)) B.kind B.locs ?_
 refine thn (hi pins s σ H _ I h) fun v s1 h1=>thn h1 fun itv s2 h2=> ?_
 obtain ⟨it,fp,tn,J,H2,e,I2,T,st2,f2,hw⟩:=h2
 subst e
 refine zjq (RR:=fun acc C=>compPost (model X.prog X.w) X.A X.xe none (EP X pins σ Q) acc C) (Q:=fun D H'=>Q (.ref D) H') B hg ht he I2 T st2 f2 hw ?_
 intro D C H' s' m I' hn hC hCs hf q
 refine ⟨m,hn,fun h' hs'=>⟨.ref D,H',I'.letGo hn hf (qaS I2.sz hC) (fun z=> ?_) (fun p hp z=> ?_) hs',rfl,q⟩⟩
 ·exact qaN _ (qaw (z▸I2.lt) hC)
 ·have:=qaQ (I2.pin p hp).1
  rw [z] at this
  exact qaN _ (qaw this hC)
theorem zjO {wi:TI} {g:TG} {tc:TT} {te:TE} {i:Nat} {y:Str} {py spos:Pos} (B:BOk X scope N src) (hi:PI X tg iter wi)
  (hg: ∀ s H fp,PG (cxB X scope N s H fp) tg g) (ht: ∀ s H fp,PCs (cxB X scope N s H fp) ifs tc) (he: ∀ s H fp,PE (cxB X scope N s H fp) elt te)
  (hN:X.N.Nodup) (hy:X.N[i]? = some y) (hx:Loc X.env.scope y) (hsw:swapsWith (.ListComp elt [⟨tg,iter,ifs,0⟩] scope pos) (some (.Name y py)) spos.line X.env=pure true)
  (hf:X.fn y=true\/X.env.scope.names.lookup y=some .local:=by first | exact .inl rfl | exact .inr rfl | assumption)
  (hs: ∀ x,foldedSetIterable iter X.env x=pure x:=by intro _;rfl):PS X (.Assign [.Name y py] (.ListComp elt [⟨tg,iter,ifs,0⟩] scope pos) spos) (zuA (zqz wi g tc te src) (zp4 i)):=by
 intro pins s σ H D0 I h
 rw [exec_Assign_Name_used _ _ _ _ hsw]
 refine qaW (wpAny_standAt (qaW ?_))
 show wpAny _ X.A (do let _<-comprehension (.ListComp elt [⟨tg,iter,ifs,0⟩] scope pos) scope X.env _ (newList []) false (eval iter X.env) (some (assign (.Name y py) X.env))) _ _ s
 refine qaW (qaZ (wpAny_comprehension_free (use:=some (assign (.Name y py) X.env)) (Q:=fun _ s'=>SP X pins D0 .next s') rfl hs (zdY fun x hx e=>I.ok.has x.1 (B.free x hx e)) B.kind B.locs ?_)
   (fun _ s' hq=>qaX (qaX hq)) fun _ _ e=>e)
 refine thn (hi pins s σ H _ I h) fun v s1 h1=>thn h1 fun itv s2 h2=> ?_
 obtain ⟨it,fp,tn,J,H2,e,I2,T,st2,f2,hw⟩:=h2
 subst e
 refine zjq (RR:=fun acc C=>compPost (model X.prog X.w) X.A X.xe (some (assign (.Name y py) X.env)) (fun _ s'=>SP X pins D0 .next s') acc C) (Q:=fun D H'=>D0.nx (σ.set i (some (.ref D))) H') B hg ht he I2 T st2 f2 hw ?_
 intro D C H' s' m I' hn hC hCs hf' q
 show wpAny _ X.A (assign (.Name y py) X.env (.ref D)) _ _ _
 have hCL:C≠X.env.locals:=fun z=>qaN _ (qaw (z▸I2.lt) hC)
 have hCp: ∀ p∈X.pn++pins,p.1≠C:=fun p hp z=>by
  have:=qaQ (I2.pin p hp).1
  rw [z] at this
  exact qaN _ (qaw this hC)
 have hCc: ∀ x c,X.env.cells.lookup x=some c->c≠C:=fun x c e z=>by
  obtain ⟨v,hv⟩:=I2.cell x c e
  exact qaN _ (qaw (z▸hv.lt) hC)
 obtain ⟨oC,es,ep,hoC,hdC,hrest⟩:=hn
 have hCfs:C∉X.fs:=I2.nofs hC
 have Ip:Inv X (pins++[(C,oC)]) σ H' s':=I'.pins_of fun p hp=>by
  rcases qaK.mp hp with z | z
  ·exact I'.pin p (qak _ z)
  ·obtain rfl:p=(C,oC):=by simpa using z
   exact ⟨hoC,hf',hCL,hCfs,fun v z=>by have z':=hdC.symm.trans z;cases z'⟩
 refine wpAny_assign_Name (zdS Ip hN hy hx (v:= .ref D) rfl (fun s3 I3=> ?_) hf)
 have hC3:=(I3.pin (C,oC) (by simp)).1
 refine ⟨m,⟨oC,es,ep,hC3,hdC,hrest⟩,fun h' hs'=> ?_⟩
 exact ⟨_,H',(I3.unpinned).letGo ⟨oC,es,ep,hC3,hdC,hrest⟩ hf' (qaS I2.sz hC) hCL hCp hs',q⟩
end
end L2
namespace L3
open L2
inductive D where
 | non | bl (b:Bool) | int (i:Int) | str (x:Str) | tup (xs:List D) | lst (xs:List D) | cel (n:Nat) | set (xs:List Int) | dct | fn (a:Addr) | scr (xs:List D) | exn (c:String)
inductive C where
 | lst (xs:List D) | dic (kvs:List (Int×D)) | dit (ks:List (List Int)) | ins (c:String) (fs:List (Str×D)) | dead
abbrev Hh:=List C
structure Io where
 c:List (Option Addr)
 x:List Addr
def Io.Has (ι:Io) (a:Addr):Prop:=some a∈ι.c\/a∈ι.x
inductive R (α:Type) where
 | ok (a:α) (h:Hh) | exc (c:String) (h:Hh) | bad
def M (α:Type):=Hh->R α
@[inline] def M.bind {α β:Type} (m:M α) (f:α->M β):M β:=fun h=>match m h with
 | .ok a h'=>f a h'
 | .exc c h'=> .exc c h'
 | .bad=> .bad
@[inline] def M.pure {α:Type} (a:α):M α:=fun h=> .ok a h
noncomputable instance:Monad M where
 pure:=M.pure
 bind:=M.bind
noncomputable def M.bad {α:Type}:M α:=fun _=> .bad
def KL (K:W.Frag) (a:Addr) (xs:List V):Prop:=SqL K (fun _=>none) a xs
mutual
noncomputable def Rel (K:W.Frag) (ι:Io) (H:Hp):D->V->Prop
 | .non,v=>v= .non
 | .bl b,v=>v= .bl b
 | .int i,v=>v= .int i
 | .str x,v=>v= .str x
 | .tup ds,v=> ∃ a vs,v= .ref a/\(H a=some (.tup vs)/\ ¬ι.Has a)/\zas K ι H ds vs
 | .lst ds,v=> ∃ a vs,v= .ref a/\(H a=some (.lst vs)/\ ¬ι.Has a)/\zas K ι H ds vs
 | .scr ds,v=> ∃ a vs,v= .ref a/\((Rd H a (.lst vs)/\ ¬ι.Has a)\/KL K a vs)/\zas K ι H ds vs
 | .cel n,v=> ∃ a,v= .ref a/\(ι.c[n]? = some (some a)\/ι.c[n]? = some none)
 | .set xs,v=> ∃ a,v= .ref a/\H a=some (.set (fun k=>xs.any (· == k)) xs.length)/\ ¬ι.Has a
 | .dct,v=> ∃ a,v= .ref a/\H a=some (.dK [])/\ ¬ι.Has a
 | .fn a,v=>v= .ref a
 | .exn c,v=> ∃ a o C head vs,v= .ref a/\(H a=some (.frz o (.own 0))/\ ¬ι.Has a)/\W.nsIn K mainGlobals (c:Str)=some (some (.ref C))/\o.cls= .ref C/\o.dict=none/\o.data= .fields vs/\vs[2]? = some .none/\vs[1]? = some head
noncomputable def zas (K:W.Frag) (ι:Io) (H:Hp):List D->List V->Prop
 | [],vs=>vs=[]
 | d::ds,vs=> ∃ v r,vs=v::r/\Rel K ι H d v/\zas K ι H ds r
end
structure zbT (ι:Io) (H:Hp) (ι':Io) (H':Hp):Prop where
 old: ∀ (n:Nat) (o:Option Addr),ι.c[n]? = some o->ι'.c[n]? = some o\/ι'.c[n]? = some none
 new: ∀ a,some a∈ι'.c->some a∈ι.c\/H a=none
 hid:ι'.x=ι.x
 hidk: ∀ a∈ι.x,H' a=H a
 keep: ∀ b o,H b=some o-> ¬ι.Has b->H' b=some o
theorem zbT.refl (ι:Io) (H:Hp):zbT ι H ι H:=⟨fun _ _ h=> .inl h,fun _ h=> .inl h,rfl,fun _ _=>rfl,fun _ _ h _=>h⟩
theorem zbT.nin {ι ι':Io} {H H':Hp} (s:zbT ι H ι' H') {a:Addr} {o:HO} (h:H a=some o) (n: ¬ι.Has a): ¬ι'.Has a:=fun z=>by
 rcases z with z | z
 ·rcases s.new a z with z | z
  ·exact n (.inl z)
  ·rw [h] at z;cases z
 ·rw [s.hid] at z;exact n (.inr z)
theorem zbT.trans {ι ι1 ι2:Io} {H H1 H2:Hp} (s:zbT ι H ι1 H1) (t:zbT ι1 H1 ι2 H2):zbT ι H ι2 H2 where
 old:=fun n o h=>by
  rcases s.old n o h with h | h
  ·exact t.old n o h
  ·rcases t.old n _ h with h | h<;>exact .inr h
 new:=fun a h=>by
  rcases t.new a h with h | h
  ·exact s.new a h
  ·by_cases z:some a∈ι.c
   ·exact .inl z
   ·refine .inr ?_
    cases q:H a with
    | none=>rfl
    | some o=>
     by_cases z':a∈ι.x
     ·rw [s.hidk a z',q] at h;cases h
     ·rw [s.keep a o q (fun w=>w.elim z z')] at h;cases h
 hid:=t.hid.trans s.hid
 hidk:=fun a h=>(t.hidk a (by rw [s.hid];exact h)).trans (s.hidk a h)
 keep:=fun b o h n=>t.keep b o (s.keep b o h n) (s.nin h n)
structure Pass (ι:Io) (H:Hp) (ι':Io) (H':Hp):Prop where
 old: ∀ (n:Nat) (o:Option Addr),ι.c[n]? = some o->ι'.c[n]? = some o\/ι'.c[n]? = some none
 keep: ∀ b o,H b=some o-> ¬ι.Has b->H' b=some o/\ ¬ι'.Has b
theorem zbT.pass {ι ι':Io} {H H':Hp} (s:zbT ι H ι' H'):Pass ι H ι' H':=⟨s.old,fun b o h n=>⟨s.keep b o h n,s.nin h n⟩⟩
theorem Pass.rd {ι ι':Io} {H H':Hp} (s:Pass ι H ι' H') {a:Addr} {u:HO} (h:Rd H a u) (n: ¬ι.Has a):Rd H' a u/\ ¬ι'.Has a:=by
 rcases h with h | ⟨o,h⟩
 ·exact ⟨.inl (s.keep _ _ h n).1,(s.keep _ _ h n).2⟩
 ·exact ⟨.inr ⟨o,(s.keep _ _ h n).1⟩,(s.keep _ _ h n).2⟩
section
variable {K:W.Frag} {ι ι':Io} {H H':Hp}
mutual
theorem Rel.pass (s:Pass ι H ι' H'): ∀ {d:D} {v:V},Rel K ι H d v->Rel K ι' H' d v
 | .non,_,h=>by simpa [Rel] using h
 | .bl _,_,h=>by simpa [Rel] using h
 | .int _,_,h=>by simpa [Rel] using h
 | .str _,_,h=>by simpa [Rel] using h
 | .tup ds,v,h=>by
  simp only [Rel] at h ⊢
  obtain ⟨a,vs,e,h1,h2⟩:=h
  exact ⟨a,vs,e,s.keep _ _ h1.1 h1.2,zas.pass s h2⟩
 | .lst ds,v,h=>by
  simp only [Rel] at h ⊢
  obtain ⟨a,vs,e,h1,h2⟩:=h
  exact ⟨a,vs,e,s.keep _ _ h1.1 h1.2,zas.pass s h2⟩
 | .scr ds,v,h=>by
  simp only [Rel] at h ⊢
  obtain ⟨a,vs,e,h1,h2⟩:=h
  exact ⟨a,vs,e,h1.imp (fun z=>s.rd z.1 z.2) id,zas.pass s h2⟩
 | .cel n,v,h=>by
  simp only [Rel] at h ⊢
  obtain ⟨a,e,h⟩:=h
  refine ⟨a,e,?_⟩
  rcases h with h | h
  ·exact s.old n _ h
  ·rcases s.old n _ h with h | h<;>exact .inr h
 | .set xs,v,h=>by
  simp only [Rel] at h ⊢
  obtain ⟨a,e,h,n⟩:=h
  exact ⟨a,e,(s.keep _ _ h n).1,(s.keep _ _ h n).2⟩
 | .dct,v,h=>by
  simp only [Rel] at h ⊢
  obtain ⟨a,e,h,n⟩:=h
  exact ⟨a,e,(s.keep _ _ h n).1,(s.keep _ _ h n).2⟩
 | .fn _,_,h=>by simpa [Rel] using h
 | .exn _,_,h=>by
  simp only [Rel] at h ⊢
  obtain ⟨a,o,C,head,vs,e,h1,h2⟩:=h
  exact ⟨a,o,C,head,vs,e,s.keep _ _ h1.1 h1.2,h2⟩
theorem zas.pass (s:Pass ι H ι' H'): ∀ {ds:List D} {vs:List V},zas K ι H ds vs->zas K ι' H' ds vs
 | [],_,h=>by simpa [zas] using h
 | d::ds,_,h=>by
  simp only [zas] at h ⊢
  obtain ⟨v,r,e,h1,h2⟩:=h
  exact ⟨v,r,e,Rel.pass s h1,zas.pass s h2⟩
end
theorem Rel.step (s:zbT ι H ι' H') {d:D} {v:V} (h:Rel K ι H d v):Rel K ι' H' d v:=h.pass s.pass
theorem zas.step (s:zbT ι H ι' H') {ds:List D} {vs:List V} (h:zas K ι H ds vs):zas K ι' H' ds vs:=h.pass s.pass
theorem zas.nil:zas K ι H [] []:=by simp [zas]
theorem zas.cons {d:D} {ds:List D} {v:V} {vs:List V} (h:Rel K ι H d v) (t:zas K ι H ds vs):zas K ι H (d::ds) (v::vs):=by simp only [zas];exact ⟨v,vs,rfl,h,t⟩
theorem zas.length: ∀ {ds:List D} {vs:List V},zas K ι H ds vs->ds.length=vs.length
 | [],_,h=>by simp only [zas] at h;subst h;rfl
 | d::ds,_,h=>by
  simp only [zas] at h
  obtain ⟨v,r,rfl,_,h⟩:=h
  simp [zas.length h]
theorem zas.get: ∀ {ds:List D} {vs:List V} {i:Nat} {d:D},zas K ι H ds vs->ds[i]? = some d-> ∃ v,vs[i]? = some v/\Rel K ι H d v
 | [],_,_,_,_,e=>by simp at e
 | d::ds,_,i,x,h,e=>by
  simp only [zas] at h
  obtain ⟨v,r,rfl,h1,h2⟩:=h
  cases i with
  | zero=>simp at e;subst e;exact ⟨v,rfl,h1⟩
  | succ i=>simp at e;simpa using zas.get h2 e
theorem zas.getV: ∀ {ds:List D} {vs:List V} {i:Nat} {v:V},zas K ι H ds vs->vs[i]? = some v-> ∃ d,ds[i]? = some d/\Rel K ι H d v
 | [],_,_,_,h,e=>by simp only [zas] at h;subst h;simp at e
 | d::ds,_,i,x,h,e=>by
  simp only [zas] at h
  obtain ⟨v,r,rfl,h1,h2⟩:=h
  cases i with
  | zero=>simp at e;subst e;exact ⟨d,rfl,h1⟩
  | succ i=>simp at e;simpa using zas.getV h2 e
theorem zas.append: ∀ {ds es:List D} {vs ws:List V},zas K ι H ds vs->zas K ι H es ws->zas K ι H (ds++es) (vs++ws)
 | [],_,_,_,h,t=>by simp only [zas] at h;subst h;exact t
 | d::ds,es,_,ws,h,t=>by
  simp only [zas] at h
  obtain ⟨v,r,rfl,h1,h2⟩:=h
  exact zas.cons h1 (zas.append h2 t)
theorem zas.take: ∀ {ds:List D} {vs:List V} (n:Nat),zas K ι H ds vs->zas K ι H (ds.take n) (vs.take n)
 | _,_,0,_=>by simpa using zas.nil
 | [],_,n+1,h=>by simp only [zas] at h;subst h;exact zas.nil
 | d::ds,_,n+1,h=>by
  simp only [zas] at h
  obtain ⟨v,r,rfl,h1,h2⟩:=h
  exact zas.cons h1 (zas.take n h2)
theorem zas.drop: ∀ {ds:List D} {vs:List V} (n:Nat),zas K ι H ds vs->zas K ι H (ds.drop n) (vs.drop n)
 | _,_,0,h=>h
 | [],_,n+1,h=>by simp only [zas] at h;subst h;exact zas.nil
 | d::ds,_,n+1,h=>by
  simp only [zas] at h
  obtain ⟨v,r,rfl,h1,h2⟩:=h
  exact zas.drop n h2
theorem zas.set {d:D} {v:V} (hd:Rel K ι H d v): ∀ {ds:List D} {vs:List V} (i:Nat),zas K ι H ds vs->zas K ι H (ds.set i d) (vs.set i v)
 | [],_,_,h=>by simp only [zas] at h;subst h;exact zas.nil
 | x::ds,_,i,h=>by
  simp only [zas] at h
  obtain ⟨w,r,rfl,h1,h2⟩:=h
  cases i with
  | zero=>exact zas.cons hd h2
  | succ i=>exact zas.cons h1 (zas.set hd i h2)
theorem zct: ∀ {is:List Int} {vs:List V},zas K ι H (is.map D.int) vs↔vs=is.map V.int
 | [],vs=>by simp [zas]
 | i::is,vs=>by
  simp only [qaM,zas]
  constructor
  ·rintro ⟨v,r,rfl,h1,h2⟩
   simp only [Rel] at h1
   rw [h1,zct.mp h2]
  ·rintro rfl
   exact ⟨_,_,rfl,by simp [Rel],zct.mpr rfl⟩
def CO (K:W.Frag) (ι:Io) (H:Hp):C->HO->Prop
 | .lst ds,o=> ∃ vs,o= .lst vs/\zas K ι H ds vs
 | .dic kvs,o=> ∃ vs,o= .dK vs/\Paired (fun (p:Int×D) (q:Key×V)=>q.1= .inl p.1/\Rel K ι H p.2 q.2) kvs vs
 | .dit ks,o=>o= .dT (ks.map fun k=>(k.map Sum.inl,V.bl true))
 | .ins c fs,o=> ∃ C dx vs,o= .ins C dx vs/\W.nsIn K mainGlobals (c:Str)=some (some (.ref C))/\Paired (fun (p:Str×D) (q:Str×V)=>q.1=p.1/\Rel K ι H p.2 q.2) fs vs
 | .dead,_=>False
theorem CO.pass {c:C} {o:HO} (s:Pass ι H ι' H') (h:CO K ι H c o):CO K ι' H' c o:=by
 cases c with
 | lst ds=>obtain ⟨vs,e,r⟩:=h;exact ⟨vs,e,r.pass s⟩
 | dic kvs=>
  obtain ⟨vs,e,r⟩:=h
  refine ⟨vs,e,?_⟩
  clear e
  induction r with
  | nil=>exact .nil
  | cons a t ih=>exact .cons ⟨a.1,a.2.pass s⟩ ih
 | dit ks=>exact h
 | ins c fs=>
  obtain ⟨C,dx,vs,e,hc,r⟩:=h
  refine ⟨C,dx,vs,e,hc,?_⟩
  clear e
  induction r with
  | nil=>exact .nil
  | cons a t ih=>exact .cons ⟨a.1,a.2.pass s⟩ ih
 | dead=>exact h
structure za8 (K:W.Frag) (ι:Io) (H:Hp) (h:Hh):Prop where
 len:h.length=ι.c.length
 inj: ∀ (m n:Nat) (a:Addr),ι.c[m]? = some (some a)->ι.c[n]? = some (some a)->m=n
 at_: ∀ (n:Nat) (a:Addr) (c:C),ι.c[n]? = some (some a)->h[n]? = some c-> ∃ o,H a=some o/\CO K ι H c o
 dead: ∀ (n:Nat),ι.c[n]? = some none->h[n]? = some .dead
 hidt: ∀ a∈ι.x,(∃ vs,H a=some (.lst vs))/\some a∉ι.c
abbrev Sd:=List (Option D)
def zc1 (K:W.Frag) (ι:Io) (H:Hp) (sd:Sd) (σ:L2.St):Prop:=sd.length=σ.length/\ ∀ (i:Nat) (d:D),sd[i]? = some (some d)-> ∃ v,σ[i]? = some (some v)/\Rel K ι H d v
theorem zc1.pass {sd:Sd} {σ:L2.St} (s:Pass ι H ι' H') (h:zc1 K ι H sd σ):zc1 K ι' H' sd σ:=⟨h.1,fun i d e=>let ⟨v,h1,h2⟩:=h.2 i d e;⟨v,h1,h2.pass s⟩⟩
theorem zc1.step {sd:Sd} {σ:L2.St} (s:zbT ι H ι' H') (h:zc1 K ι H sd σ):zc1 K ι' H' sd σ:=⟨h.1,fun i d e=>let ⟨v,h1,h2⟩:=h.2 i d e;⟨v,h1,h2.step s⟩⟩
theorem zc1.set {sd:Sd} {σ:L2.St} {d:D} {v:V} (h:zc1 K ι H sd σ) (r:Rel K ι H d v) (i:Nat):zc1 K ι H (sd.set i (some d)) (σ.set i (some v)):=by
 refine ⟨by rw [qaI,qaI];exact h.1,fun j d' e=> ?_⟩
 by_cases hij:i=j
 ·subst hij
  by_cases hl:i<sd.length
  ·rw [qai hl] at e
   cases e
   exact ⟨v,by rw [qai (by rw [<- h.1];exact hl)],r⟩
  ·rw [List.getElem?_eq_none (by rw [qaI];omega)] at e
   cases e
 ·rw [qao hij] at e ⊢
  exact h.2 j d' e
end
abbrev St:=L2.St
abbrev XE:=String->Hp->Prop
def Fin {α:Type} (K:W.Frag) (E:XE) (ι:Io) (H:Hp) (r:R α) (P:α->Io->Hp->Prop):Prop:=match r with
 | .ok a h'=> ∀ ι' H',zbT ι H ι' H'->za8 K ι' H' h'->P a ι' H'
 | .exc c h'=> ∀ ι' H',zbT ι H ι' H'->za8 K ι' H' h'->E c H'
 | .bad=>False
section
variable {α β:Type} {K:W.Frag} {E:XE} {ι ι':Io} {H H':Hp}
theorem Fin.step {r:R α} {P:α->Io->Hp->Prop} (s:zbT ι H ι' H') (h:Fin K E ι H r P):Fin K E ι' H' r P:=by
 cases r with
 | ok a h'=>exact fun ι2 H2 t hr=>h ι2 H2 (s.trans t) hr
 | exc c h'=>exact fun ι2 H2 t hr=>h ι2 H2 (s.trans t) hr
 | bad=>exact h
theorem Fin.bind {m:M α} {f:α->M β} {h:Hh} {P:β->Io->Hp->Prop} {P':α->Io->Hp->Prop} (q:Fin K E ι H ((m>>=f) h) P)
  (k: ∀ a h' ι' H',m h= .ok a h'->zbT ι H ι' H'->za8 K ι' H' h'->Fin K E ι' H' (f a h') P->P' a ι' H'):Fin K E ι H (m h) P':=by
 have q':Fin K E ι H (M.bind m f h) P:=q
 unfold M.bind at q'
 cases e:m h with
 | ok a h'=>
  rw [e] at q'
  intro ι' H' s hr
  exact k a h' ι' H' e s hr (Fin.step s q')
 | exc c h'=>rw [e] at q';exact q'
 | bad=>rw [e] at q';exact q'
theorem Fin.out {a:α} {h:Hh} {P:α->Io->Hp->Prop} (hr:za8 K ι H h) (q:Fin K E ι H ((pure a:M α) h) P):P a ι H:=q ι H (zbT.refl _ _) hr
end
def zks (K:W.Frag) (E:XE) (f:Sd->M D):TE:=fun σ H Q=> ∃ ι h sd,zc1 K ι H sd σ/\za8 K ι H h/\Fin K E ι H (f sd h) fun d ι' H'=> ∀ v,Rel K ι' H' d v->Q v H'
def zjW (K:W.Frag) (E:XE) (f:Sd->M Bool):TT:=fun σ H Q=> ∃ ι h sd,zc1 K ι H sd σ/\za8 K ι H h/\Fin K E ι H (f sd h) fun b ι' H'=>Q b H'
def zu8 (K:W.Frag) (E:XE) (f:Sd->M (List D)):TA:=fun σ H Q=> ∃ ι h sd,zc1 K ι H sd σ/\za8 K ι H h/\Fin K E ι H (f sd h) fun ds ι' H'=> ∀ vs,zas K ι' H' ds vs->Q vs H'
abbrev SE (X:Cx) (E:XE) (e:Expr) (f:Sd->M D):Prop:=PE X e (zks X.K E f)
abbrev ST (X:Cx) (E:XE) (e:Expr) (f:Sd->M Bool):Prop:=PT X e (zjW X.K E f)
abbrev SA (X:Cx) (E:XE) (es:List Expr) (f:Sd->M (List D)):Prop:=PA X es (zu8 X.K E f)
def zdX (K:W.Frag) (E:XE) (F:D->D->M D):R2:=fun x y H Q=> ∃ ι h d1 d2,Rel K ι H d1 x/\Rel K ι H d2 y/\za8 K ι H h/\Fin K E ι H (F d1 d2 h) fun d ι' H'=> ∀ v,Rel K ι' H' d v->Q v H'
def zgj (K:W.Frag) (E:XE) (F:List D->M D):List V->Hp->VK->Prop:=fun xs H Q=> ∃ ι h ds,zas K ι H ds xs/\za8 K ι H h/\Fin K E ι H (F ds h) fun d ι' H'=> ∀ v,Rel K ι' H' d v->Q v H'
theorem PE.imp {X:Cx} {e:Expr} {t t':TE} (h:PE X e t) (m: ∀ σ H Q,t' σ H Q->t σ H Q):PE X e t':=fun pins s σ H Q I q=>h pins s σ H Q I (m _ _ _ q)
theorem PT.imp {X:Cx} {e:Expr} {t t':TT} (h:PT X e t) (m: ∀ σ H Q,t' σ H Q->t σ H Q):PT X e t':=fun pins s σ H Q I q=>h pins s σ H Q I (m _ _ _ q)
theorem PA.imp {X:Cx} {e:List Expr} {t t':TA} (h:PA X e t) (m: ∀ σ H Q,t' σ H Q->t σ H Q):PA X e t':=fun pos pins s σ H Q I q=>h pos pins s σ H Q I (m _ _ _ q)
theorem OpR.imp {X:Cx} {f:Value->Value->Sem Value} {r r':R2} (h:OpR X f r) (m: ∀ x y H Q,r' x y H Q->r x y H Q):OpR X f r':=fun pins s σ H x y v u Q I rx ry q=>h pins s σ H x y v u Q I rx ry (m _ _ _ _ q)
theorem zaz.imp {X:Cx} {f:Value} {r r':List V->Hp->VK->Prop} (h:zaz X f r) (m: ∀ xs H Q,r' xs H Q->r xs H Q):zaz X f r':=by
 intro pins s σ H xs us Q I rx q
 exact h pins s σ H xs us Q I rx (m _ _ _ q)
theorem IxR.imp {X:Cx} {r r':R2} (h:IxR X r) (m: ∀ x y H Q,r' x y H Q->r x y H Q):IxR X r':=by
 intro value slice pins s σ H x y v u Q I rx ry q hs
 exact h value slice pins s σ H x y v u Q I rx ry (m _ _ _ _ q) hs
theorem PI.imp {X:Cx} {tg iter:Expr} {t t':TI} (h:PI X tg iter t) (m: ∀ σ H Q,t' σ H Q->t σ H Q):PI X tg iter t':=fun pins s σ H Q I q=>h pins s σ H Q I (m _ _ _ q)
theorem PG.imp {X:Cx} {tg:Expr} {t t':TG} (h:PG X tg t) (m: ∀ v σ H Q,t' v σ H Q->t v σ H Q):PG X tg t':=fun pins s σ H v u Q I r q=>h pins s σ H v u Q I r (m _ _ _ _ q)
theorem PS.imp {X:Cx} {st:Stmt} {t t':TS} (h:PS X st t) (m: ∀ D σ H,t' D σ H->t D σ H):PS X st t':=fun pins s σ H D I q=>h pins s σ H D I (m _ _ _ q)
theorem PSs.imp {X:Cx} {st:List Stmt} {t t':TS} (h:PSs X st t) (m: ∀ D σ H,t' D σ H->t D σ H):PSs X st t':=fun pins s σ H D I q=>h pins s σ H D I (m _ _ _ q)
section
variable {X:Cx} {E:XE} {a b e:Expr} {es:List Expr} {pos:Pos} {fa fb:Sd->M D}
theorem te2 {K:W.Frag} {F:D->D->M D} {r:R2} (hr: ∀ x y H Q,zdX K E F x y H Q->r x y H Q) (σ:St) (H:Hp) (Q:VK) (q:zks K E (fun sd=>do let x<-fa sd;let y<-fb sd;F x y) σ H Q):tOp r (zks K E fa) (zks K E fb) σ H Q:=by
 obtain ⟨ι,h,sd,L,hh,q⟩:=q
 refine ⟨ι,h,sd,L,hh,Fin.bind q fun d1 h1 ι1 H1 e1 s1 hr1 q1 v r1=> ?_⟩
 refine ⟨ι1,h1,sd,L.step s1,hr1,Fin.bind q1 fun d2 h2 ι2 H2 e2 s2 hr2 q2 w r2=> ?_⟩
 exact hr _ _ _ _ ⟨ι2,h2,d1,d2,r1.step s2,r2,hr2,q2⟩
theorem zt6 {op:Operator} {F:D->D->M D} (ho:OpR X (binaryOp op) (zdX X.K E F)) (ha:SE X E a fa) (hb:SE X E b fb):SE X E (.BinOp a op b pos) (fun sd=>do let x<-fa sd;let y<-fb sd;F x y):=
 PE.imp (zt3 ho ha hb) (te2 fun _ _ _ _ q=>q)
theorem zrF {op:CmpOp} {F:D->D->M D} (ho:OpR X (compareOp op) (zdX X.K E F)) (ha:SE X E a fa) (hb:SE X E b fb) (hm:behindInMarks op b=false):SE X E (.Compare a [op] [b] pos) (fun sd=>do let x<-fa sd;let y<-fb sd;F x y):=
 PE.imp (zqs ho ha hb hm) (te2 fun _ _ _ _ q=>q)
theorem zt8 {F:D->D->M D} (ho:IxR X (zdX X.K E F)) (ha:SE X E a fa) (hb:SE X E b fb) (hs:ziu b):SE X E (.Subscript a b pos) (fun sd=>do let x<-fa sd;let y<-fb sd;F x y):=
 PE.imp (ztD ho ha hb hs) (te2 fun _ _ _ _ q=>q)
def zdZ:D->M Bool
 | .bl b=>pure b
 | _=>M.bad
theorem zgR {K:W.Frag} {f:Sd->M D} (σ:St) (H:Hp) (Q:Bool->Hp->Prop) (q:zjW K E (fun sd=>do let x<-f sd;zdZ x) σ H Q):(zks K E f) σ H fun x H1=> ∃ c,x= .bl c/\Q c H1:=by
 obtain ⟨ι,h,sd,L,hh,q⟩:=q
 refine ⟨ι,h,sd,L,hh,Fin.bind q fun d1 h1 ι1 H1 e1 s1 hr1 q2 v r1=> ?_⟩
 cases d1 with
 | bl b=>simp only [Rel] at r1;exact ⟨b,r1,Fin.out hr1 q2⟩
 | _=>exact qa0 q2
theorem ztn {op:CmpOp} {F:D->D->M D} (ho:OpR X (compareOp op) (zdX X.K E F)) (ha:SE X E a fa) (hb:SE X E b fb) (hm:behindInMarks op b=false):
  ST X E (.Compare a [op] [b] pos) (fun sd=>do let z<-(do let x<-fa sd;let y<-fb sd;F x y);zdZ z):=by
 refine PT.imp (zpH ho ha hb hm) fun σ H Q q=> ?_
 have q1:=zgR (f:=fun sd=>do let x<-fa sd;let y<-fb sd;F x y) σ H Q q
 exact te2 (fun _ _ _ _ q=>q) σ H _ q1
theorem zs9 {f:Sd->M D} (h:SE X E e f) (he: ∀ whole,isTrue e X.env whole=(do let v<-whole;standAt e.pos;holding [v] (truthy v)):=by intro _;rfl):ST X E e (fun sd=>do let x<-f sd;zdZ x):=
 PT.imp (zrO h he) fun σ H Q q=>zgR σ H Q q
theorem zsV {t:Sd->M Bool} (ha:ST X E a t):ST X E (.UnaryOp .Not a pos) (fun sd=>do let c<-t sd;pure (!c)):=by
 refine PT.imp (zrl ha) fun σ H Q ⟨ι,h,sd,L,hh,q⟩=>⟨ι,h,sd,L,hh,Fin.bind q fun c h1 ι1 H1 e1 s1 hr1 q1=> ?_⟩
 exact Fin.out hr1 q1
theorem zte {t:Sd->M Bool} (ha:ST X E a t):PW X (.BoolOp .Or [a] pos) (zjW X.K E t):=pw_or1 ha
theorem PW.imp {t t':TT} (h:PW X e t) (m: ∀ σ H Q,t' σ H Q->t σ H Q):PW X e t':=fun whole pins s σ H Q I q=>h whole pins s σ H Q I (m _ _ _ q)
theorem zuy {rest:List Expr} {t u:Sd->M Bool} (ha:ST X E a t) (hb:PW X (.BoolOp .Or (b::rest) pos) (zjW X.K E u)):PW X (.BoolOp .Or (a::b::rest) pos) (zjW X.K E fun sd=>do let c<-t sd;if c=true then pure true else u sd):=by
 refine PW.imp (pw_or ha hb) fun σ H Q ⟨ι,h,sd,L,hh,q⟩=>⟨ι,h,sd,L,hh,Fin.bind q fun c h1 ι1 H1 e1 s1 hr1 q1=> ?_⟩
 cases c with
 | false=>exact ztA ⟨ι1,h1,sd,L.step s1,hr1,q1⟩
 | true=>exact zty (Fin.out hr1 q1)
theorem zqV {op:BoolOp} {vs:List Expr} {t:Sd->M Bool} (h:PW X (.BoolOp op vs pos) (zjW X.K E t)):ST X E (.BoolOp op vs pos) t:=h.pt
theorem zr8 {op:BoolOp} (h:SE X E a fa):SE X E (.BoolOp op [a] pos) fa:=zrq h
theorem zsB {rest:List Expr} (ha:SE X E a fa) (hb:SE X E (.BoolOp .And (b::rest) pos) fb):SE X E (.BoolOp .And (a::b::rest) pos) (fun sd=>do let c<-(do let x<-fa sd;zdZ x);if c=true then fb sd else pure (.bl false)):=by
 refine PE.imp (zta ha hb) fun σ H Q ⟨ι,h,sd,L,hh,q⟩=> ?_
 have q1:=zgR (K:=X.K) (E:=E) (f:=fa) σ H (fun c H1=>if c=true then zks X.K E fb σ H1 Q else Q (.bl false) H1) ⟨ι,h,sd,L,hh,Fin.bind q fun c h1 ι1 H1 e1 s1 hr1 q1=> ?_⟩
 ·exact q1
 ·cases c with
  | true=>exact zty ⟨ι1,h1,sd,L.step s1,hr1,q1⟩
  | false=>exact ztA (Fin.out hr1 q1 _ (by simp [Rel]))
theorem zsn (ha:SE X E a fa):SE X E (.UnaryOp .Not a pos) (fun sd=>do let c<-(do let x<-fa sd;zdZ x);pure (.bl (!c))):=by
 refine PE.imp (zr7 ha) fun σ H Q ⟨ι,h,sd,L,hh,q⟩=> ?_
 have q1:=zgR (K:=X.K) (E:=E) (f:=fa) σ H (fun c H1=>Q (.bl (!c)) H1) ⟨ι,h,sd,L,hh,Fin.bind q fun c h1 ι1 H1 e1 s1 hr1 q1=> ?_⟩
 ·exact q1
 ·exact Fin.out hr1 q1 _ (by simp [Rel])
def zaf (i:Nat):Sd->M D:=fun sd=>match sd[i]? with
 | some (some d)=>pure d
 | _=>M.bad
theorem zse (i:Nat) {x:Str} (hN:X.N[i]? = some x) (hv:Vis X.env.scope x) (hd:(x==("__debug__":Str))=false:=by decide) (hcd:(x==("__classdict__":Str))=false:=by decide):SE X E (.Name x pos) (zaf i):=by
 refine PE.imp (zpg hN hv hd hcd) fun σ H Q ⟨ι,h,sd,L,hh,q⟩=> ?_
 unfold zaf at q
 cases e:sd[i]? with
 | none=>rw [e] at q;exact qa0 q
 | some o=>
  rw [e] at q
  cases o with
  | none=>exact qa0 q
  | some d=>
   obtain ⟨v,e1,r⟩:=L.2 i d e
   exact ⟨v,e1,Fin.out hh q v r⟩
theorem zgs {K:W.Frag} {d:D} {v:V} (r: ∀ ι H,Rel K ι H d v) (σ:St) (H:Hp) (Q:VK) (q:zks K E (fun _=>pure d) σ H Q):tC v σ H Q:=by
 obtain ⟨ι,h,sd,L,hh,q⟩:=q
 exact Fin.out hh q v (r _ _)
theorem zrY {i:Int} {j:Nat}:SE X E (.Constant (.int i) j pos) (fun _=>pure (.int i)):=PE.imp zts (zgs fun _ _=>by simp [Rel])
theorem ztR {i:Bool} {j:Nat}:SE X E (.Constant (.bool i) j pos) (fun _=>pure (.bl i)):=PE.imp zs2 (zgs fun _ _=>by simp [Rel])
theorem zrj {i:Str} {j:Nat}:SE X E (.Constant (.str i) j pos) (fun _=>pure (.str i)):=PE.imp zoL (zgs fun _ _=>by simp [Rel])
theorem zsg:SA X E [] (fun _=>pure []):=PA.imp zb5 fun σ H Q ⟨ι,h,sd,L,hh,q⟩=>Fin.out hh q [] zas.nil
theorem zqm {fs:Sd->M (List D)} (ha:SE X E e fa) (hr:SA X E es fs) (hs:starEach (e::es) X.env=(false,eval e X.env)::starEach es X.env:=by rfl):SA X E (e::es) (fun sd=>do let x<-fa sd;let r<-fs sd;pure (x::r)):=by
 refine PA.imp (zaU ha hr hs) fun σ H Q ⟨ι,h,sd,L,hh,q⟩=>⟨ι,h,sd,L,hh,Fin.bind q fun d h1 ι1 H1 e1 s1 hr1 q1 v rv=> ?_⟩
 refine ⟨ι1,h1,sd,L.step s1,hr1,Fin.bind q1 fun ds h2 ι2 H2 e2 s2 hr2 q2 vs rvs=> ?_⟩
 exact Fin.out hr2 q2 _ (zas.cons (rv.step s2) rvs)
end
theorem za8.nin {K:W.Frag} {ι:Io} {H:Hp} {h:Hh} (hr:za8 K ι H h) {p:Addr} (hp:H p=none): ¬ι.Has p:=fun z=>by
 rcases z with z | z
 ·obtain ⟨n,hn⟩:=List.mem_iff_getElem?.mp z
  have hl:n<h.length:=by rw [hr.len];exact (qac.mp hn).1
  obtain ⟨o,e,_⟩:=hr.at_ n p h[n] hn (by simp [hl])
  rw [hp] at e
  cases e
 ·obtain ⟨⟨o,e⟩,_⟩:=hr.hidt p z
  rw [hp] at e
  cases e
theorem za8.laidS {K:W.Frag} {ι:Io} {H:Hp} {h:Hh} (hr:za8 K ι H h) {p:Addr} {o:HO} (hp:H p=none):zbT ι H ι (upd H p o):=
 ⟨fun _ _ h=> .inl h,fun _ h=> .inl h,rfl,fun a ha=>zax fun z=>hr.nin hp (.inr (z▸ha)),fun b o' h _=>by rw [zax (zaM h hp)];exact h⟩
theorem za8.laid {K:W.Frag} {ι:Io} {H:Hp} {h:Hh} {p:Addr} {o:HO} (hr:za8 K ι H h) (hp:H p=none):za8 K ι (upd H p o) h:=
 ⟨hr.len,hr.inj,fun n a c hn hc=>by
   obtain ⟨o',e2,e3⟩:=hr.at_ n a c hn hc
   exact ⟨o',by rw [zax (zaM e2 hp)];exact e2,e3.pass (hr.laidS hp).pass⟩,hr.dead,fun a ha=>⟨by rw [zax (show a≠p from fun z=>hr.nin hp (.inr (z▸ha)))];exact (hr.hidt a ha).1,(hr.hidt a ha).2⟩⟩
noncomputable def fits (n:Nat):M Unit:=if n<=sizeLine then pure () else M.bad
theorem Fin.fits {α:Type} {K:W.Frag} {E:XE} {ι:Io} {H:Hp} {n:Nat} {f:M α} {h:Hh} {P:α->Io->Hp->Prop} (q:Fin K E ι H ((do L3.fits n;f) h) P):n<=sizeLine/\Fin K E ι H (f h) P:=by
 have q':Fin K E ι H (M.bind (L3.fits n) (fun _=>f) h) P:=q
 unfold M.bind L3.fits at q'
 by_cases hn:n<=sizeLine
 ·rw [qa4 hn] at q'
  exact ⟨hn,q'⟩
 ·rw [qa5 hn] at q'
  exact qa0 q'
section
variable {X:Cx} {E:XE} {es:List Expr} {pos:Pos} {fs:Sd->M (List D)}
theorem zpj {K:W.Frag} {ι:Io} {H:Hp} {h:Hh} {ds:List D} {vs:List V} {Q:VK} (hr:za8 K ι H h) (rl:zas K ι H ds vs) (q:Fin K E ι H ((pure (.tup ds):M D) h) fun d ι' H'=> ∀ v,Rel K ι' H' d v->Q v H') {p:Addr} (hp:H p=none):Q (.ref p) (upd H p (.tup vs)):=
 q ι _ (hr.laidS hp) (hr.laid hp) _ (by
   simp only [Rel]
   exact ⟨p,vs,rfl,⟨zaR,hr.nin hp⟩,rl.step (hr.laidS hp)⟩)
theorem zo9 {K:W.Frag} {ι:Io} {H:Hp} {h:Hh} {ds:List D} {vs:List V} {Q:VK} (hr:za8 K ι H h) (rl:zas K ι H ds vs) (q:Fin K E ι H ((pure (.lst ds):M D) h) fun d ι' H'=> ∀ v,Rel K ι' H' d v->Q v H') {p:Addr} (hp:H p=none):Q (.ref p) (upd H p (.lst vs)):=
 q ι _ (hr.laidS hp) (hr.laid hp) _ (by
   simp only [Rel]
   exact ⟨p,vs,rfl,⟨zaR,hr.nin hp⟩,rl.step (hr.laidS hp)⟩)
noncomputable def zfn (ds:List D):M D:=fun h=> .ok (.cel h.length) (h++[.lst ds])
theorem ztC {K:W.Frag} {ι:Io} {H:Hp} {h:Hh} {c0:C} {o0:HO} {Q:VK} (hr:za8 K ι H h) (co:CO K ι H c0 o0) (q:Fin K E ι H (.ok (.cel h.length) (h++[c0])) fun d ι' H'=> ∀ v,Rel K ι' H' d v->Q v H') {p:Addr} (hp:H p=none):Q (.ref p) (upd H p o0):=by
 have hlen:=hr.len
 have nh:=hr.nin hp
 have st:zbT ι H ⟨ι.c++[some p],ι.x⟩ (upd H p o0):=by
  refine ⟨fun n o h=> .inl ?_,fun a h=> ?_,rfl,fun a ha=>zax fun z=>nh (.inr (z▸ha)),fun b o' h _=>by rw [zax (zaM h hp)];exact h⟩
  ·show (ι.c++[some p])[n]? = _
   rw [qad (qac.mp h).1];exact h
  ·rcases qaK.mp h with h | h
   ·exact .inl h
   ·simp at h;subst h;exact .inr hp
 have at_: ∀ (n:Nat) (a:Addr),(ι.c++[some p])[n]? = some (some a)->(ι.c[n]? = some (some a))\/(n=ι.c.length/\a=p):=fun n a h=>by
  by_cases hl:n<ι.c.length
  ·rw [qad hl] at h;exact .inl h
  ·rw [qaa ⋯] at h
   have:n - ι.c.length=0:=by
    cases z:n - ι.c.length with
    | zero=>rfl
    | succ k=>rw [z] at h;simp at h
   rw [this] at h
   simp at h
   exact .inr ⟨⋯,h.symm⟩
 refine q _ _ st ⟨?_,fun m n a h1 h2=> ?_,fun n a c h1 h2=> ?_,fun n h1=> ?_,fun a ha=>⟨?_,fun z=> ?_⟩⟩ _ ?_
 ·show (h++[c0]).length=(ι.c++[some p]).length
  rw [qav,qav,hlen];rfl
 ·rcases at_ m a h1 with z1 | ⟨z1,z1'⟩<;>rcases at_ n a h2 with z2 | ⟨z2,z2'⟩
  ·exact hr.inj m n a z1 z2
  ·subst z2';exact absurd (.inl (List.mem_of_getElem? z1)) nh
  ·subst z1';exact absurd (.inl (List.mem_of_getElem? z2)) nh
  ·rw [z1,z2]
 ·rcases at_ n a h1 with z1 | ⟨z1,z1'⟩
  ·rw [qad (by rw [hlen];exact (qac.mp z1).1)] at h2
   obtain ⟨o',e2,e3⟩:=hr.at_ n a c z1 h2
   exact ⟨o',by rw [zax (zaM e2 hp)];exact e2,e3.pass st.pass⟩
  ·subst z1 z1'
   rw [<- hlen,qaa (qaV _)] at h2
   simp at h2
   subst h2
   exact ⟨o0,zaR,co.pass st.pass⟩
 ·have h1:(ι.c++[some p])[n]? = some none:=h1
  by_cases hl:n<ι.c.length
  ·rw [qad hl] at h1
   rw [qad (by rw [hlen];exact hl)]
   exact hr.dead n h1
  ·rw [qaa ⋯] at h1
   cases z:n - ι.c.length with
   | zero=>rw [z] at h1;simp at h1
   | succ k=>rw [z] at h1;simp at h1
 ·rw [zax (show a≠p from fun z=>nh (.inr (z▸ha)))]
  exact (hr.hidt a ha).1
 ·rcases qaK.mp z with z | z
  ·exact (hr.hidt a ha).2 z
  ·simp at z;subst z;exact nh (.inr ha)
 ·simp only [Rel]
  refine ⟨p,rfl,.inl ?_⟩
  show (ι.c++[some p])[h.length]? = _
  rw [hlen,qaa (qaV _)]
  simp
theorem zvq {K:W.Frag} {ι:Io} {H:Hp} {h:Hh} {ds:List D} {vs:List V} {Q:VK} (hr:za8 K ι H h) (rl:zas K ι H ds vs) (q:Fin K E ι H (zfn ds h) fun d ι' H'=> ∀ v,Rel K ι' H' d v->Q v H') {p:Addr} (hp:H p=none):Q (.ref p) (upd H p (.lst vs)):=
 ztC hr (c0:= .lst ds) ⟨vs,rfl,rl⟩ q hp
theorem zrm {x1} (h:SA X E es fs):SE X E (.Tuple es x1 pos) (fun sd=>do let ds<-fs sd;fits ds.length;pure (.tup ds)):=by
 refine PE.imp (zsE h) fun σ H Q ⟨ι,h,sd,L,hh,q⟩=>⟨ι,h,sd,L,hh,Fin.bind q fun ds h1 ι1 H1 e1 s1 hr1 q1 vs rvs=> ?_⟩
 obtain ⟨z,q2⟩:=Fin.fits q1
 exact ⟨by rw [<- rvs.length];exact z,fun p hp=>zpj hr1 rvs q2 hp⟩
theorem zsZ (h:SA X E es fs):SE X E (.List es pos) (fun sd=>do let ds<-fs sd;fits ds.length;pure (.lst ds)):=by
 refine PE.imp (zoR h) fun σ H Q ⟨ι,h,sd,L,hh,q⟩=>⟨ι,h,sd,L,hh,Fin.bind q fun ds h1 ι1 H1 e1 s1 hr1 q1 vs rvs=> ?_⟩
 obtain ⟨z,q2⟩:=Fin.fits q1
 exact ⟨by rw [<- rvs.length];exact z,fun p hp=>zo9 hr1 rvs q2 hp⟩
theorem zqD (h:SA X E es fs):SE X E (.List es pos) (fun sd=>do let ds<-fs sd;fits ds.length;zfn ds):=by
 refine PE.imp (zoR h) fun σ H Q ⟨ι,h,sd,L,hh,q⟩=>⟨ι,h,sd,L,hh,Fin.bind q fun ds h1 ι1 H1 e1 s1 hr1 q1 vs rvs=> ?_⟩
 obtain ⟨z,q2⟩:=Fin.fits q1
 exact ⟨by rw [<- rvs.length];exact z,fun p hp=>zvq hr1 rvs q2 hp⟩
end
inductive Out where
 | nx (sd:Sd) | rt (d:D) | bk (sd:Sd) | ct (sd:Sd)
def zeH (K:W.Frag) (D0:zoX):Out->Io->Hp->Prop
 | .nx sd',ι',H'=> ∀ σ',zc1 K ι' H' sd' σ'->D0.nx σ' H'
 | .rt d,ι',H'=> ∀ v,Rel K ι' H' d v->D0.rt v H'
 | .bk sd',ι',H'=> ∀ σ',zc1 K ι' H' sd' σ'->D0.bk σ' H'
 | .ct sd',ι',H'=> ∀ σ',zc1 K ι' H' sd' σ'->D0.ct σ' H'
def zu6 (K:W.Frag) (E:XE) (G:Sd->M Out):TS:=fun D0 σ H=> ∃ ι h sd,zc1 K ι H sd σ/\za8 K ι H h/\Fin K E ι H (G sd h) (zeH K D0)
abbrev SS (X:Cx) (E:XE) (st:Stmt) (G:Sd->M Out):Prop:=PS X st (zu6 X.K E G)
abbrev SSs (X:Cx) (E:XE) (st:List Stmt) (G:Sd->M Out):Prop:=PSs X st (zu6 X.K E G)
def andThen (o:Out) (g:Sd->M Out):M Out:=match o with
 | .nx sd=>g sd
 | o=>pure o
section
variable {X:Cx} {E:XE} {pos:Pos}
theorem zsf:SSs X E [] (fun sd=>pure (.nx sd)):=PSs.imp zpL fun D0 σ H ⟨ι,h,sd,L,hh,q⟩=>Fin.out hh q σ L
theorem zpo {st:Stmt} {rest:List Stmt} {g g':Sd->M Out} (h1:SS X E st g) (h2:SSs X E rest g'):SSs X E (st::rest) (fun sd=>do let o<-g sd;andThen o g'):=by
 refine PSs.imp (zof h1 h2) fun D0 σ H ⟨ι,h,sd,L,hh,q⟩=>⟨ι,h,sd,L,hh,Fin.bind q fun o h1 ι1 H1 e1 s1 hr1 q1=> ?_⟩
 cases o with
 | nx sd'=>exact fun σ' L'=>⟨ι1,h1,sd',L',hr1,q1⟩
 | rt d=>exact Fin.out (E:=E) (P:=zeH X.K D0) hr1 q1
 | bk sd'=>exact Fin.out (E:=E) (P:=zeH X.K D0) hr1 q1
 | ct sd'=>exact Fin.out (E:=E) (P:=zeH X.K D0) hr1 q1
theorem zsY {st:Stmt} {g:Sd->M Out} (h1:SS X E st g):SSs X E [st] g:=zpI h1
theorem zsA {e:Expr} {f:Sd->M D} (he:SE X E e f) (hs:swapsWith e none pos.line X.env=pure false:=by rfl):SS X E (.Expr e pos) (fun sd=>do let _<-f sd;pure (.nx sd)):=by
 refine PS.imp (zq0 he hs) fun D0 σ H ⟨ι,h,sd,L,hh,q⟩=>⟨ι,h,sd,L,hh,Fin.bind q fun d h1 ι1 H1 e1 s1 hr1 q1 v rv=> ?_⟩
 exact Fin.out hr1 q1 σ (L.step s1)
theorem ztS {e:Expr} {f:Sd->M D} (he:SE X E e f):SS X E (.Return (some e) pos) (fun sd=>do let d<-f sd;pure (.rt d)):=by
 refine PS.imp (zsD he) fun D0 σ H ⟨ι,h,sd,L,hh,q⟩=>⟨ι,h,sd,L,hh,Fin.bind q fun d h1 ι1 H1 e1 s1 hr1 q1 v rv=> ?_⟩
 exact Fin.out hr1 q1 v rv
theorem zvL {c:Expr} {a b:List Stmt} {t:Sd->M Bool} {g g':Sd->M Out} (hc:ST X E c t) (ha:SSs X E a g) (hb:SSs X E b g'):SS X E (.If c a b pos) (fun sd=>do let c<-t sd;if c=true then g sd else g' sd):=by
 refine PS.imp (zuR hc ha hb) fun D0 σ H ⟨ι,h,sd,L,hh,q⟩=>⟨ι,h,sd,L,hh,Fin.bind q fun c h1 ι1 H1 e1 s1 hr1 q1=> ?_⟩
 cases c with
 | true=>exact zty ⟨ι1,h1,sd,L.step s1,hr1,q1⟩
 | false=>exact ztA ⟨ι1,h1,sd,L.step s1,hr1,q1⟩
def zuT (K:W.Frag) (E:XE) (g:D->Sd->M Sd):TG:=fun v σ H Q=> ∃ ι h sd d,zc1 K ι H sd σ/\za8 K ι H h/\Rel K ι H d v/\Fin K E ι H (g d sd h) fun sd' ι' H'=> ∀ σ',zc1 K ι' H' sd' σ'->Q σ' H'
def ztZ (K:W.Frag) (E:XE) (g:List D->Sd->M Sd):TGs:=fun vs σ H Q=> ∃ ι h sd ds,zc1 K ι H sd σ/\za8 K ι H h/\zas K ι H ds vs/\Fin K E ι H (g ds sd h) fun sd' ι' H'=> ∀ σ',zc1 K ι' H' sd' σ'->Q σ' H'
abbrev SG (X:Cx) (E:XE) (tg:Expr) (g:D->Sd->M Sd):Prop:=PG X tg (zuT X.K E g)
abbrev SGs (X:Cx) (E:XE) (tgs:List Expr) (g:List D->Sd->M Sd):Prop:=PGs X tgs (ztZ X.K E g)
def zaC (i:Nat):D->Sd->M Sd:=fun d sd=>pure (sd.set i (some d))
theorem zqM (i:Nat) {x:Str} (hN:X.N.Nodup) (hi:X.N[i]? = some x) (hx:Loc X.env.scope x) (hf:X.fn x=true\/X.env.scope.names.lookup x=some .local):SG X E (.Name x pos) (zaC i):=by
 refine PG.imp (zqA hN hi hx hf) fun v σ H Q ⟨ι,h,sd,d,L,hh,r,q⟩=> ?_
 exact Fin.out hh q _ (L.set r i)
theorem PGs.imp {tgs:List Expr} {t t':TGs} (h:PGs X tgs t) (m: ∀ v σ H Q,t' v σ H Q->t v σ H Q):PGs X tgs t':=fun pins s σ H v u Q I r q=>h pins s σ H v u Q I r (m _ _ _ _ q)
def zbW:List D->Sd->M Sd:=fun ds sd=>match ds with | []=>pure sd | _=>M.bad
def zav (g:D->Sd->M Sd) (gs:List D->Sd->M Sd):List D->Sd->M Sd:=fun ds sd=>match ds with
 | []=>M.bad
 | d::r=>do let sd1<-g d sd;gs r sd1
theorem zpi:SGs X E [] zbW:=by
 refine PGs.imp zpR fun v σ H Q ⟨ι,h,sd,ds,L,hh,r,q⟩=> ?_
 cases ds with
 | nil=>simp only [zas] at r;exact ⟨r,Fin.out hh q _ L⟩
 | cons d r=>exact qa0 q
theorem znE {e:Expr} {es:List Expr} {g:D->Sd->M Sd} {gs:List D->Sd->M Sd} (h1:SG X E e g) (h2:SGs X E es gs)
  (hs:(assignEach (e::es) X.env).map (·.2)=assign e X.env::(assignEach es X.env).map (·.2):=by rfl):SGs X E (e::es) (zav g gs):=by
 refine PGs.imp (znf h1 h2 hs) fun v σ H Q ⟨ι,h,sd,ds,L,hh,r,q⟩=> ?_
 cases ds with
 | nil=>exact qa0 q
 | cons d ds=>
  simp only [zas] at r
  obtain ⟨v1,vr,rfl,r1,r2⟩:=r
  refine ⟨v1,vr,rfl,ι,h,sd,d,L,hh,r1,Fin.bind q fun sd1 h1 ι1 H1 e1 s1 hr1 q1 σ1 L1=> ?_⟩
  exact ⟨ι1,h1,sd1,ds,L1,hr1,r2.step s1,q1⟩
def zbY (n:Nat) (gs:List D->Sd->M Sd):D->Sd->M Sd:=fun d sd=>match d with
 | .tup ds=>if ds.length=n then gs ds sd else M.bad
 | _=>M.bad
theorem zcV {K:W.Frag} {ι:Io} {H:Hp} {ds:List D} {v:V} (h:Rel K ι H (.tup ds) v): ∃ a vs,v= .ref a/\SqT K H a vs/\zas K ι H ds vs:=by
 simp only [Rel] at h
 obtain ⟨a,vs,e,h1,h2⟩:=h
 exact ⟨a,vs,e,.inl (.inl h1.1),h2⟩
theorem zlB {K:W.Frag} {ι:Io} {H:Hp} {ds:List D} {v:V} (h:Rel K ι H (.scr ds) v): ∃ a vs,v= .ref a/\SqL K H a vs/\zas K ι H ds vs:=by
 simp only [Rel] at h
 obtain ⟨a,vs,e,h1,h2⟩:=h
 refine ⟨a,vs,e,?_,h2⟩
 rcases h1 with h1 | h1
 ·exact .inl h1.1
 ·rcases h1 with h1 | h1
  ·rcases h1 with h1 | ⟨o,h1⟩<;>cases h1
  ·exact .inr h1
theorem zd4 {K:W.Frag} {ι:Io} {H:Hp} {ds:List D} {v:V} (h:Rel K ι H (.lst ds) v): ∃ a vs,v= .ref a/\SqL K H a vs/\zas K ι H ds vs:=by
 simp only [Rel] at h
 obtain ⟨a,vs,e,h1,h2⟩:=h
 exact ⟨a,vs,e,.inl (.inl h1.1),h2⟩
theorem zsX {es:List Expr} {k:Nat} {gs:List D->Sd->M Sd} {n:Nat} (hc:X.calm=true) (h:SGs X E es gs)
  (hn:(assignEach es X.env).length=n:=by rfl) (hst:(assignEach es X.env).findIdx? (·.1)=none:=by rfl):SG X E (.Tuple es k pos) (zbY n gs):=by
 refine PG.imp (zsw hc h hn hst) fun v σ H Q ⟨ι,h,sd,d,L,hh,r,q⟩=> ?_
 cases d with
 | tup ds=>
  obtain ⟨a,vs,e,h1,h2⟩:=zcV r
  have q:Fin X.K E ι H ((if ds.length=n then gs ds sd else M.bad) h) _:=q
  by_cases hl:ds.length=n
  ·rw [qa4 hl] at q
   exact ⟨a,vs,e,h1,by rw [<- h2.length];exact hl,ι,h,sd,ds,L,hh,h2,q⟩
  ·rw [qa5 hl] at q
   exact qa0 q
 | _=>exact qa0 q
theorem zuq {tg e:Expr} {f:Sd->M D} {g:D->Sd->M Sd} (he:SE X E e f) (hg:SG X E tg g) (hs:swapsWithSole [tg] e pos.line X.env=pure false:=by rfl) (hw:swappedStores [tg] e X.env=pure none:=by rfl)
  (h1:(assignEach [tg] X.env).map (·.2)=[assign tg X.env]:=by rfl):SS X E (.Assign [tg] e pos) (fun sd=>do let d<-f sd;let sd'<-g d sd;pure (.nx sd')):=by
 refine PS.imp (zr3 he hg hs hw h1) fun D0 σ H ⟨ι,h,sd,L,hh,q⟩=>⟨ι,h,sd,L,hh,Fin.bind q fun d h1 ι1 H1 e1 s1 hr1 q1 v rv=> ?_⟩
 exact ⟨ι1,h1,sd,d,L.step s1,hr1,rv,Fin.bind q1 fun sd' h2 ι2 H2 e2 s2 hr2 q2=>Fin.out hr2 q2⟩
theorem zux (i:Nat) {x:Str} {e:Expr} {f:Sd->M D} {pos':Pos} (hN:X.N.Nodup) (hi:X.N[i]? = some x) (hx:Loc X.env.scope x) (hf:X.fn x=true\/X.env.scope.names.lookup x=some .local) (he:SE X E e f) (hs:swapsWith e (some (.Name x pos')) pos.line X.env=pure false:=by rfl):
  SS X E (.Assign [.Name x pos'] e pos) (fun sd=>do let d<-f sd;pure (.nx (sd.set i (some d)))):=by
 refine PS.imp (zs4 hN hi hx he hs hf) fun D0 σ H ⟨ι,h,sd,L,hh,q⟩=>⟨ι,h,sd,L,hh,Fin.bind q fun d h1 ι1 H1 e1 s1 hr1 q1 v rv=> ?_⟩
 exact Fin.out hr1 q1 _ ((L.step s1).set rv i)
theorem ztE {i j:Nat} {x y:Str} {a b:Expr} {fs:Sd->M (List D)} {px py pt:Pos} {kt k2 pt2} (hp:PS X (.Assign [.Tuple [.Name x px,.Name y py] kt pt] (.Tuple [a,b] k2 pt2) pos) (zu5 i j (zu8 X.K E fs))):
  SS X E (.Assign [.Tuple [.Name x px,.Name y py] kt pt] (.Tuple [a,b] k2 pt2) pos) (fun sd=>do let ds<-fs sd;match ds with | [d,d']=>pure (.nx ((sd.set i (some d)).set j (some d'))) | _=>M.bad):=by
 refine PS.imp hp fun D0 σ H ⟨ι,h,sd,L,hh,q⟩=>⟨ι,h,sd,L,hh,Fin.bind q fun ds h1 ι1 H1 e1 s1 hr1 q1 vs rv=> ?_⟩
 match ds,rv,q1 with
 | [d,d'],rv,q1=>
  simp only [zas] at rv
  obtain ⟨v,r,rfl,r1,v',r',rfl,r2,rfl⟩:=rv
  exact ⟨v,v',rfl,Fin.out hr1 q1 _ (((L.step s1).set r1 i).set r2 j)⟩
 | [],_,q1=>exact qa0 q1
 | [_],_,q1=>exact qa0 q1
 | _::_::_::_,_,q1=>exact qa0 q1
def zu0 (H H2:Hp):Prop:=H2=H\/ ∃ q vs,H q=none/\H2=upd H q (.tup vs)
theorem zu0.step {K:W.Frag} {ι:Io} {H H2:Hp} {h:Hh} (g:zu0 H H2) (hr:za8 K ι H h):zbT ι H ι H2/\za8 K ι H2 h:=by
 rcases g with e | ⟨q,vs,hq,e⟩
 ·subst e;exact ⟨zbT.refl _ _,hr⟩
 ·subst e;exact ⟨hr.laidS hq,hr.laid hq⟩
structure zq4 (K:W.Frag) (ι:Io) (H:Hp) (J:It) (ds:List D):Prop where
 go: ∀ ι' H' (i:Nat),Pass ι H ι' H'->i<ds.length->J.go i H'
 yld: ∀ ι' H' h (i:Nat) x H2,Pass ι H ι' H'->za8 K ι' H' h->i<ds.length->J.yld i H' x H2->zu0 H' H2/\ ∃ d,ds[i]? = some d/\Rel K ι' H2 d x
 stop: ∀ ι' H',Pass ι H ι' H'->J.stop ds.length H'
def zu7 (K:W.Frag) (E:XE) (f:Sd->M (List D)):TI:=fun σ H Q=> ∃ ι h sd,zc1 K ι H sd σ/\za8 K ι H h/\Fin K E ι H (f sd h) fun ds ι' H'=> ∀ J,zq4 K ι' H' J ds->Q J H'
abbrev SI (X:Cx) (E:XE) (tg iter:Expr) (f:Sd->M (List D)):Prop:=PI X tg iter (zu7 X.K E f)
def zeD:D->M (List D)
 | .tup ds=>pure ds
 | .lst ds=>pure ds
 | _=>M.bad
theorem znG {K:W.Frag} {ι:Io} {H:Hp} {a:Addr} {vs:List V} {ds:List D} (h: ∀ ι' H',Pass ι H ι' H'->SqT K H' a vs) (rl:zas K ι H ds vs):zq4 K ι H (Itt K a) ds where
 go:=fun ι' H' i s hi=>⟨vs,vs[i]'(by rw [<- rl.length];exact hi),h ι' H' s,by simp⟩
 yld:=fun ι' H' _ i x H2 s _ hi ⟨e,y⟩=>by
  subst e
  have hx:=y vs (h ι' _ s)
  obtain ⟨d,e1,e2⟩:=rl.getV hx
  exact ⟨.inl rfl,d,e1,e2.pass s⟩
 stop:=fun ι' H' s=>⟨vs,h ι' H' s,by rw [rl.length];exact qaV _⟩
theorem zod {K:W.Frag} {ι:Io} {H:Hp} {a:Addr} {vs:List V} {ds:List D} (h: ∀ ι' H',Pass ι H ι' H'->SqL K H' a vs) (rl:zas K ι H ds vs):zq4 K ι H (Itl K a) ds where
 go:=fun ι' H' i s hi=>⟨vs,vs[i]'(by rw [<- rl.length];exact hi),h ι' H' s,by simp⟩
 yld:=fun ι' H' _ i x H2 s _ hi ⟨e,y⟩=>by
  subst e
  have hx:=y vs (h ι' _ s)
  obtain ⟨d,e1,e2⟩:=rl.getV hx
  exact ⟨.inl rfl,d,e1,e2.pass s⟩
 stop:=fun ι' H' s=>⟨vs,h ι' H' s,by rw [rl.length];exact qaV _⟩
theorem Pass.refl (ι:Io) (H:Hp):Pass ι H ι H:=(zbT.refl ι H).pass
theorem zpw {K:W.Frag} {ι:Io} {H:Hp} {ds:List D} {v:V} (h:Rel K ι H (.tup ds) v): ∃ a vs,v= .ref a/\(∀ ι' H',Pass ι H ι' H'->SqT K H' a vs)/\zas K ι H ds vs:=by
 simp only [Rel] at h
 obtain ⟨a,vs,e,h1,h2⟩:=h
 exact ⟨a,vs,e,fun ι' H' s=> .inl (.inl (s.keep _ _ h1.1 h1.2).1),h2⟩
theorem zqb {K:W.Frag} {ι:Io} {H:Hp} {ds:List D} {v:V} (h:Rel K ι H (.lst ds) v): ∃ a vs,v= .ref a/\(∀ ι' H',Pass ι H ι' H'->SqL K H' a vs)/\zas K ι H ds vs:=by
 simp only [Rel] at h
 obtain ⟨a,vs,e,h1,h2⟩:=h
 exact ⟨a,vs,e,fun ι' H' s=> .inl (.inl (s.keep _ _ h1.1 h1.2).1),h2⟩
end
end L3
namespace L2
def zvj (K:W.Frag) (tl:TE):TI:=fun σ H R=>tl σ H fun x H1=> ∃ a,x= .ref a/\(((∃ xs,SqL K H1 a xs)/\R (Itl K a) H1)\/((∃ xs,SqT K H1 a xs)/\R (Itt K a) H1))
theorem zor {X:Cx} {tg:Expr} {l:Expr} {tl:TE} (hl:PE X l tl):PI X tg l (zvj X.K tl):=by
 intro pins s σ H R I h
 refine thn (hl pins s σ H _ I h) fun v s1 ⟨x,H1,I1,r1,q1⟩=> ?_
 obtain ⟨a,e,⟨⟨xs,hq⟩,q⟩ | ⟨⟨xs,hq⟩,q⟩⟩:=q1
 ·subst e
  cases r1
  obtain ⟨its,rv,p,hz⟩:=I1.list hq
  refine wpAny_pyIter_list p.isList ?_
  refine ⟨s1.heap.objs.size,[s1.heap.objs.size],_,_,H1,rfl,I1.kept (t':=s1.toks) fun b o e=>qag _ e,zl2 a _,⟨_,qar _ rfl,rfl,rfl⟩,fun b hb=> ?_,q⟩
  have e:b=s1.heap.objs.size:=by simpa using hb
  subst e
  exact I1.fpOk (qaV _) (I1.hok.fresh (qaV _))
 ·subst e
  cases r1
  obtain ⟨its,rv,p,hz⟩:=I1.tuple hq
  refine wpAny_pyIter_tuple (show s1.heap.IsTuple a its.toArray from p) ?_
  refine ⟨s1.heap.objs.size,[s1.heap.objs.size],_,_,H1,rfl,I1.kept (t':=s1.toks) fun b o e=>qag _ e,zkj a _,⟨_,qar _ rfl,rfl,rfl⟩,fun b hb=> ?_,q⟩
  have e:b=s1.heap.objs.size:=by simpa using hb
  subst e
  exact I1.fpOk (qaV _) (I1.hok.fresh (qaV _))
end L2
namespace L3
open L2
section
variable {X:Cx} {E:XE} {pos:Pos}
theorem zrg {tg e:Expr} {f:Sd->M D} (he:SE X E e f):SI X E tg e (fun sd=>do let d<-f sd;zeD d):=by
 refine PI.imp (zor he) fun σ H Q ⟨ι,h,sd,L,hh,q⟩=>⟨ι,h,sd,L,hh,Fin.bind q fun d h1 ι1 H1 e1 s1 hr1 q1 v rv=> ?_⟩
 cases d with
 | lst ds=>
  obtain ⟨a,vs,e,h1',h2⟩:=zqb rv
  exact ⟨a,e,.inl ⟨⟨vs,h1' _ _ (Pass.refl _ _)⟩,Fin.out hr1 q1 _ (zod h1' h2)⟩⟩
 | tup ds=>
  obtain ⟨a,vs,e,h1',h2⟩:=zpw rv
  exact ⟨a,e,.inr ⟨⟨vs,h1' _ _ (Pass.refl _ _)⟩,Fin.out hr1 q1 _ (znG h1' h2)⟩⟩
 | _=>exact qa0 q1
noncomputable def zcW (lo:Int) (n:Nat):List D:=(List.range n).map fun (k:Nat)=>D.int (lo+(k:Int))
theorem zob {K:W.Frag} {ι:Io} {H:Hp} {lo:Int} {n:Nat}:zq4 K ι H (Itr lo n) (zcW lo n) where
 go:=fun ι' H' i s hi=>by show i<n;simpa [zcW] using hi
 yld:=fun ι' H' _ i x H2 s _ hi ⟨e,y⟩=>by
  subst e y
  have hi:i<n:=by simpa [zcW] using hi
  refine ⟨.inl rfl,.int (lo+i),?_,by simp [Rel]⟩
  simp [zcW,hi]
 stop:=fun ι' H' s=>by
  show n<=(zcW lo n).length
  simp [zcW]
def zdE (j:Int):Bool:=decide (-(2^62)<=j) && decide (j<2^62)
def zmJ:List D->M (List D)
 | [.int j]=>if zdE j=true then pure (zcW 0 j.toNat) else M.bad
 | _=>M.bad
theorem zff {j:Int} (h:zdE j=true): -(2^62)<=j/\j<2^62:=by
 unfold zdE at h
 simpa using h
theorem zqp {tg a:Expr} {p:Pos} {fs:Sd->M (List D)} (hg:Gl X "range") (hm:X.mg "range"=none) (ha:SA X E [a] fs) (hs:starEach [a] X.env=[(false,eval a X.env)]:=by rfl):
  SI X E tg (.Call (.Name "range" p) [a] [] pos) (fun sd=>do let ds<-fs sd;zmJ ds):=by
 refine PI.imp (zld hg hm ha hs) fun σ H Q ⟨ι,h,sd,L,hh,q⟩=>⟨ι,h,sd,L,hh,Fin.bind q fun ds h1 ι1 H1 e1 s1 hr1 q1 vs rv=> ?_⟩
 match ds,rv,q1 with
 | [.int j],rv,q1=>
  simp only [zas,Rel] at rv
  obtain ⟨v,r,rfl,rfl,rfl⟩:=rv
  have q1:Fin X.K E ι1 H1 ((if zdE j=true then (pure (zcW 0 j.toNat):M (List D)) else M.bad) h1) _:=q1
  by_cases hj:zdE j=true
  ·rw [qa4 hj] at q1
   exact ⟨j,rfl,(zff hj).1,(zff hj).2,Fin.out hr1 q1 _ zob⟩
  ·rw [qa5 hj] at q1
   exact qa0 q1
 | [],_,q1=>exact qa0 q1
 | .non::_,_,q1=>exact qa0 q1
 | .bl _::_,_,q1=>exact qa0 q1
 | .str _::_,_,q1=>exact qa0 q1
 | .tup _::_,_,q1=>exact qa0 q1
 | .lst _::_,_,q1=>exact qa0 q1
 | .cel _::_,_,q1=>exact qa0 q1
 | .set _::_,_,q1=>exact qa0 q1
 | .dct::_,_,q1=>exact qa0 q1
 | .fn _::_,_,q1=>exact qa0 q1
 | .scr _::_,_,q1=>exact qa0 q1
 | .exn _::_,_,q1=>exact qa0 q1
 | .int _::_::_,_,q1=>exact qa0 q1
noncomputable def za4 (body:D->Sd->M Out):List D->Sd->M Out
 | [],sd=>pure (.nx sd)
 | x::r,sd=>do
  let o<-body x sd
  match o with
  | .nx sd'=>za4 body r sd'
  | .ct sd'=>za4 body r sd'
  | .bk sd'=>pure (.nx sd')
  | .rt d=>pure (.rt d)
theorem zuZ {tg iter:Expr} {body:List Stmt} {fi:Sd->M (List D)} {g:D->Sd->M Sd} {gb:Sd->M Out} (hc:X.calm=true) (hp:PassesOwn (model X.prog X.w) X.A X.env X.xe) (hi:SI X E tg iter fi) (hg:SG X E tg g) (hb:SSs X E body gb)
  (hs: ∀ x,foldedSetIterable iter X.env x=pure x:=by intro _;rfl):SS X E (.For tg iter body [] pos) (fun sd=>do let ds<-fi sd;za4 (fun x sd=>do let sd1<-g x sd;gb sd1) ds sd):=by
 refine PS.imp (zoE hp hc hi hg hb hs) fun D0 σ H ⟨ι,h,sd,L,hh,q⟩=>⟨ι,h,sd,L,hh,Fin.bind q fun ds h1 ι1 H1 e1 s1 hr1 q1 J ok=> ?_⟩
 refine ⟨fun i m σ' H'=>m=ds.length - i/\i<=ds.length/\ ∃ ι' h' sd',zbT ι1 H1 ι' H'/\zc1 X.K ι' H' sd' σ'/\za8 X.K ι' H' h'/\Fin X.K E ι' H' (za4 (fun x sd=>do let sd1<-g x sd;gb sd1) (ds.drop i) sd' h') (zeH X.K D0),
   ⟨_,rfl,Nat.zero_le _,ι1,h1,sd,zbT.refl _ _,L.step s1,hr1,by simpa using q1⟩,?_⟩
 rintro i m σ2 H2 ⟨rfl,hi2,ι2,h2,sd2,s2,L2,hr2,q2⟩
 by_cases hlt:i<ds.length
 ·right
  refine ⟨ok.go ι2 H2 i s2.pass hlt,fun σ' H'=>i+1<=ds.length/\ ∃ ι' h' sd',zbT ι1 H1 ι' H'/\zc1 X.K ι' H' sd' σ'/\za8 X.K ι' H' h'/\Fin X.K E ι' H' (za4 (fun x sd=>do let sd1<-g x sd;gb sd1) (ds.drop (i+1)) sd' h') (zeH X.K D0),
    fun σ' H' p=>⟨ds.length - (i+1),⋯,rfl,p.1,p.2⟩,fun x H3 y=> ?_⟩
  obtain ⟨gr,d,ed,rd⟩:=ok.yld ι2 H2 h2 i x H3 s2.pass hr2 hlt y
  obtain ⟨s3,hr3⟩:=gr.step hr2
  have edr:ds.drop i=d::ds.drop (i+1):=by
   rw [qae hlt]
   rw [qaf hlt] at ed
   rw [Option.some.inj ed]
  rw [edr] at q2
  have q3:Fin X.K E ι2 H3 (za4 (fun x sd=>do let sd1<-g x sd;gb sd1) (d::ds.drop (i+1)) sd2 h2) (zeH X.K D0):=Fin.step s3 q2
  refine ⟨ι2,h2,sd2,d,L2.step s3,hr3,rd,?_⟩
  have q5:Fin X.K E ι2 H3 ((g d sd2>>=fun sd1=>(gb sd1>>=fun o=>(match o with
    | .nx sd'=>za4 (fun x sd=>do let sd1<-g x sd;gb sd1) (ds.drop (i+1)) sd'
    | .ct sd'=>za4 (fun x sd=>do let sd1<-g x sd;gb sd1) (ds.drop (i+1)) sd'
    | .bk sd'=>pure (.nx sd')
    | .rt d=>pure (.rt d):M Out))) h2) (zeH X.K D0):=by
   have e:(za4 (fun x sd=>do let sd1<-g x sd;gb sd1) (d::ds.drop (i+1)) sd2 h2)=((g d sd2>>=fun sd1=>(gb sd1>>=fun o=>(match o with
     | .nx sd'=>za4 (fun x sd=>do let sd1<-g x sd;gb sd1) (ds.drop (i+1)) sd'
     | .ct sd'=>za4 (fun x sd=>do let sd1<-g x sd;gb sd1) (ds.drop (i+1)) sd'
     | .bk sd'=>pure (.nx sd')
     | .rt d=>pure (.rt d):M Out))) h2):=by
    show M.bind (M.bind (g d sd2) gb) _ h2=M.bind (g d sd2) _ h2
    unfold M.bind
    cases g d sd2 h2<;>rfl
   rw [<- e]
   exact q3
  refine Fin.bind q5 fun sd6 h6 ι6 H6 e6 s6 hr6 q6 σ6 L6=> ?_
  refine ⟨ι6,h6,sd6,L6,hr6,Fin.bind q6 fun o h7 ι7 H7 e7 s7 hr7 q7=> ?_⟩
  have st7:zbT ι1 H1 ι7 H7:=((s2.trans s3).trans s6).trans s7
  cases o with
  | nx sd'=>exact fun σ' L'=>⟨hlt,ι7,h7,sd',st7,L',hr7,q7⟩
  | ct sd'=>exact fun σ' L'=>⟨hlt,ι7,h7,sd',st7,L',hr7,q7⟩
  | bk sd'=>exact fun σ' L'=>Fin.out (E:=E) (P:=zeH X.K D0) hr7 q7 σ' L'
  | rt d=>exact fun v rv=>Fin.out (E:=E) (P:=zeH X.K D0) hr7 q7 v rv
 ·left
  have e:i=ds.length:=by omega
  subst e
  refine ⟨ok.stop ι2 H2 s2.pass,?_⟩
  rw [List.drop_length] at q2
  exact Fin.out (E:=E) (P:=zeH X.K D0) hr2 q2 σ2 L2
noncomputable def zbV (f:D->M (Option D)):List D->M (List D)
 | []=>pure []
 | x::r=>do
  let o<-f x
  let ys<-zbV f r
  pure (match o with | some y=>y::ys | none=>ys)
def za9 (g:D->Sd->M Sd) (tc:Sd->M Bool) (te:Sd->M D) (sd:Sd) (x:D):M (Option D):=do
 let sd1<-g x sd
 let c<-tc sd1
 if c=true then do
  let y<-te sd1
  pure (some y)
 else pure none
end
def Io.hide (ι:Io) (p:Addr):Io:=⟨ι.c,p::ι.x⟩
def Io.show (ι:Io):Io:=⟨ι.c,ι.x.tail⟩
theorem znR {ι:Io} {a:Addr} (h:ι.show.Has a):ι.Has a:=h.imp id List.mem_of_mem_tail
section
variable {K:W.Frag} {ι ι':Io} {H H':Hp} {p:Addr} {o:HO} {h:Hh}
theorem zhE (hp:H p=none):Pass ι H (ι.hide p) (upd H p o):=⟨fun _ _ z=> .inl z,fun b o' hb n=>⟨by rw [zax (zaM hb hp)];exact hb,fun z=>by
  rcases z with z | z
  · exact n (.inl z)
  · rcases qaP.mp z with z | z
    · rw [z,hp] at hb;cases hb
    · exact n (.inr z)⟩⟩
theorem zh0:Pass ι H ι.show H:=⟨fun _ _ z=> .inl z,fun b o' hb n=>⟨hb,fun z=>n (znR z)⟩⟩
theorem zgK (hp:p∈ι.x):Pass ι H ι (upd H p o):=⟨fun _ _ z=> .inl z,fun b o' hb n=>⟨by rw [zax (show b≠p from fun z=>n (.inr (z▸hp)))];exact hb,n⟩⟩
theorem za8.hide {ws:List V} (hr:za8 K ι H h) (hp:H p=none):za8 K (ι.hide p) (upd H p (.lst ws)) h:=
 ⟨hr.len,hr.inj,fun n a c h1 h2=>by
   obtain ⟨o',e2,e3⟩:=hr.at_ n a c h1 h2
   exact ⟨o',by rw [zax (zaM e2 hp)];exact e2,e3.pass (zhE hp)⟩,hr.dead,fun a ha=>by
   rcases qaP.mp ha with z | z
   · subst z;exact ⟨⟨ws,zaR⟩,fun z=>hr.nin hp (.inl z)⟩
   · refine ⟨?_,(hr.hidt a z).2⟩
     rw [zax (show a≠p from fun w=>hr.nin hp (.inr (w▸z)))]
     exact (hr.hidt a z).1⟩
theorem za8.hid {ws:List V} (hr:za8 K ι H h) (hp:p∈ι.x):za8 K ι (upd H p (.lst ws)) h:=
 ⟨hr.len,hr.inj,fun n a c h1 h2=>by
   obtain ⟨o',e2,e3⟩:=hr.at_ n a c h1 h2
   have ne:a≠p:=fun z=>(hr.hidt p hp).2 (z▸List.mem_of_getElem? h1)
   exact ⟨o',by rw [zax ne];exact e2,e3.pass (zgK hp)⟩,hr.dead,fun a ha=>by
   refine ⟨?_,(hr.hidt a ha).2⟩
   by_cases z:a=p
   · subst z;exact ⟨ws,zaR⟩
   · rw [zax z];exact (hr.hidt a ha).1⟩
theorem za8.show (hr:za8 K ι H h):za8 K ι.show H h:=
 ⟨hr.len,hr.inj,fun n a c h1 h2=>by
   obtain ⟨o',e2,e3⟩:=hr.at_ n a c h1 h2
   exact ⟨o',e2,e3.pass zh0⟩,hr.dead,fun a ha=>hr.hidt a (List.mem_of_mem_tail ha)⟩
theorem zlQ {ι1 ι2:Io} {H1 H2:Hp} (hp:H p=none) (hpx:p∉ι.x) (hx:ι1.x=p::ι.x) (s:zbT ι H ι1.show H1) (t:zbT ι1 H1 ι2 H2):zbT ι H ι2.show (upd H2 p o) where
 old:=fun n q h=>by
  rcases s.old n q h with h | h
  ·exact t.old n q h
  ·rcases t.old n _ h with h | h<;>exact .inr h
 new:=fun a h=>by
  rcases t.new a h with h | h
  ·exact s.new a h
  ·by_cases z:some a∈ι.c
   ·exact .inl z
   ·refine .inr ?_
    cases q:H a with
    | none=>rfl
    | some o=>
     by_cases z':a∈ι.x
     ·rw [s.hidk a z',q] at h;cases h
     ·rw [s.keep a o q (fun w=>w.elim z z')] at h;cases h
 hid:=by
  show ι2.x.tail=ι.x
  rw [t.hid,hx]
  rfl
 hidk:=fun a ha=>by
  have z:a≠p:=fun z=>hpx (z▸ha)
  rw [zax z,t.hidk a (by rw [hx];exact qan _ ha)]
  exact s.hidk a ha
 keep:=fun b q hb n=>by
  have ne:b≠p:=zaM hb hp
  rw [zax ne]
  refine t.keep b q (s.keep b q hb n) fun z=> ?_
  rcases z with z | z
  ·rcases s.new b z with z | z
   ·exact n (.inl z)
   ·rw [hb] at z;cases z
  ·rw [hx] at z
   rcases qaP.mp z with z | z
   ·exact ne z
   ·exact n (.inr z)
theorem zbT.shown {ι2:Io} {H2:Hp} {r:List Addr} (hx:ι.x=p::r) (t:zbT ι H ι2 H2):zbT ι.show H ι2.show H2 where
 old:=t.old
 new:=t.new
 hid:=by show ι2.x.tail=ι.x.tail;rw [t.hid]
 hidk:=fun a ha=>t.hidk a (List.mem_of_mem_tail ha)
 keep:=fun b q hb n=>by
  by_cases z:b=p
  ·subst z
   rw [t.hidk b (by rw [hx];exact qau)]
   exact hb
  ·refine t.keep b q hb fun w=> ?_
   rcases w with w | w
   ·exact n (.inl w)
   ·rw [hx] at w
    rcases qaP.mp w with w | w
    ·exact z w
    ·exact n (.inr (by show b∈ι.x.tail;rw [hx];exact w))
theorem Fin.bindB {α β:Type} {E:XE} {m:M α} {f:α->M β} {P:β->Io->Hp->Prop} {P':α->Io->Hp->Prop} {ιb:Io} {Hb:Hp} (q:Fin K E ιb Hb ((m>>=f) h) P)
  (conv: ∀ ι' H' h',zbT ι H ι' H'->za8 K ι' H' h'-> ∃ ι'',zbT ιb Hb ι'' H'/\za8 K ι'' H' h')
  (k: ∀ a h' ι' H',m h= .ok a h'->zbT ι H ι' H'->za8 K ι' H' h'->Fin K E ιb Hb (f a h') P->P' a ι' H'):Fin K E ι H (m h) P':=by
 have q':Fin K E ιb Hb (M.bind m f h) P:=q
 unfold M.bind at q'
 cases e:m h with
 | ok a h'=>
  rw [e] at q'
  intro ι' H' s hr
  exact k a h' ι' H' e s hr q'
 | exc c h'=>
  rw [e] at q'
  intro ι' H' s hr
  obtain ⟨ι'',s2,hr2⟩:=conv ι' H' h' s hr
  exact q' _ _ s2 hr2
 | bad=>rw [e] at q';exact q'
end
instance:LawfulMonad M:=LawfulMonad.mk' M
 (id_map:=fun x=>by
   funext h
   show M.bind x (fun a=>M.pure (id a)) h=x h
   unfold M.bind M.pure
   cases x h<;>rfl)
 (pure_bind:=fun x f=>rfl)
 (bind_assoc:=fun x f g=>by
   funext h
   show M.bind (M.bind x f) g h=M.bind x (fun a=>M.bind (f a) g) h
   unfold M.bind
   cases x h<;>rfl)
def zao (src:List (Option Nat)) (sd:Sd):Sd:=src.map fun o=>o.bind fun i=>(sd[i]?).join
theorem zc1.bStart {K:W.Frag} {ι:Io} {H:Hp} {sd:Sd} {σ:L2.St} {src:List (Option Nat)} (h:zc1 K ι H sd σ):zc1 K ι H (zao src sd) (bStart src σ):=by
 refine ⟨by unfold zao L2.bStart;rw [qaH,qaH],fun i d e=> ?_⟩
 unfold zao at e
 unfold L2.bStart
 rw [List.getElem?_map] at e ⊢
 cases z:src[i]? with
 | none=>rw [z] at e;cases e
 | some o=>
  rw [z] at e
  cases o with
  | none=>cases e
  | some j=>
   have e:(sd[j]?).join=some d:=by simpa using e
   cases w:sd[j]? with
   | none=>rw [w] at e;cases e
   | some q=>
    rw [w] at e
    have e:q=some d:=by simpa using e
    subst e
    obtain ⟨v,h1,h2⟩:=h.2 j d w
    exact ⟨v,by simp [h1],h2⟩
def zaD (g:D->Sd->M Sd) (src:List (Option Nat)):Prop:= ∀ x sd h sd1 h1,sd.length=src.length->(∀ (i:Nat),src[i]? = some none->sd[i]? = some none)->g x sd h= .ok sd1 h1->sd1.length=sd.length/\ ∀ (i:Nat) d,src[i]? ≠ some none->sd[i]? = some (some d)->sd1[i]? = some (some d)
def zaS (g:List D->Sd->M Sd) (src:List (Option Nat)):Prop:= ∀ x sd h sd1 h1,g x sd h= .ok sd1 h1->sd1.length=sd.length/\ ∀ (i:Nat) d,src[i]? ≠ some none->sd[i]? = some (some d)->sd1[i]? = some (some d)
theorem zlU {i:Nat} {src:List (Option Nat)} (h:src[i]? = some none): ∀ x sd h sd1 h1,zaC i x sd h= .ok sd1 h1->sd1.length=sd.length/\ ∀ (j:Nat) d,src[j]? ≠ some none->sd[j]? = some (some d)->sd1[j]? = some (some d):=fun x sd h0 sd1 h1 e=>by
 have e:R.ok (sd.set i (some x)) h0= .ok sd1 h1:=e
 cases e
 refine ⟨qaI,fun j d hj e=> ?_⟩
 rw [qao (show i≠j from fun z=>hj (z▸h))]
 exact e
theorem zaD.name {i:Nat} {src:List (Option Nat)} (h:src[i]? = some none):zaD (zaC i) src:=fun x sd h0 sd1 h1 _ _ e=>zlU h x sd h0 sd1 h1 e
theorem zaS.nil {src:List (Option Nat)}:zaS zbW src:=fun x sd h sd1 h1 e=>by
 cases x with
 | nil=>
  have e:R.ok sd h= .ok sd1 h1:=e
  cases e
  exact ⟨rfl,fun _ _ _ z=>z⟩
 | cons _ _=>cases (show R.bad=R.ok sd1 h1 from e)
theorem zaS.cons {i:Nat} {gs:List D->Sd->M Sd} {src:List (Option Nat)} (h:src[i]? = some none) (t:zaS gs src):zaS (zav (zaC i) gs) src:=fun x sd h0 sd1 h1 e=>by
 cases x with
 | nil=>cases (show R.bad=R.ok sd1 h1 from e)
 | cons d r=>
  have e:gs r (sd.set i (some d)) h0= .ok sd1 h1:=e
  obtain ⟨e1,e2⟩:=t r _ h0 sd1 h1 e
  refine ⟨by rw [e1,qaI],fun j d' hj z=>e2 j d' hj ?_⟩
  rw [qao (show i≠j from fun z=>hj (z▸h))]
  exact z
theorem zaD.tup {n:Nat} {gs:List D->Sd->M Sd} {src:List (Option Nat)} (t:zaS gs src):zaD (zbY n gs) src:=fun x sd h0 sd1 h1 _ _ e=>by
 cases x with
 | tup ds=>
  have e:(if ds.length=n then gs ds sd else M.bad) h0= .ok sd1 h1:=e
  by_cases hl:ds.length=n
  ·rw [qa4 hl] at e;exact t _ _ _ _ _ e
  ·rw [qa5 hl] at e;cases (show R.bad=R.ok sd1 h1 from e)
 | _=>cases (show R.bad=R.ok sd1 h1 from e)
section
variable {X:Cx} {E:XE} {scope:Scope} {N:List Str} {src:List (Option Nat)} {tg iter elt:Expr} {ifs:List Expr} {pos:Pos}
abbrev SCs (X:Cx) (E:XE) (ifs:List Expr) (t:Sd->M Bool):Prop:=PCs X ifs (zjW X.K E t)
theorem zsj:SCs X E [] (fun _=>pure true):=fun pins s σ H Q I ⟨ι,h,sd,L,hh,q⟩=>zpC pins s σ H Q I (Fin.out hh q)
theorem ztt {c:Expr} {t:Sd->M Bool} (h:ST X E c t):SCs X E [c] t:=zpm h
theorem blk {K:W.Frag} {g:D->Sd->M Sd} {tc:Sd->M Bool} {te:Sd->M D} {J:It} {ds:List D} {ι:Io} {H:Hp} {h:Hh} {sd:Sd} {σ:L2.St} {Q:VK} {p:Addr} (hk:zaD g src) (L:zc1 K ι H sd σ) (hr:za8 K ι H h) (ok:zq4 K ι H J ds) (hz:ds.length<=sizeLine)
  (q:Fin K E ι H ((do let ys<-zbV (za9 g tc te (zao src sd)) ds;pure (D.lst ys)) h) fun d ι' H'=> ∀ v,Rel K ι' H' d v->Q v H') (hp:H p=none):
  zur J (zuT K E g) (zjW K E tc) (zks K E te) (bStart src σ) H p fun H'=>Q (.ref p) H':=by
 generalize hP:(fun (d:D) (ι':Io) (H':Hp)=> ∀ v,Rel K ι' H' d v->Q v H')=P at q
 generalize hf:za9 g tc te (zao src sd)=f at q
 have hpx:p∉ι.x:=fun z=>hr.nin hp (.inr z)
 have h0len:(zao src sd).length=src.length:=by unfold zao;rw [qaH]
 have h0non: ∀ (i:Nat),src[i]? = some none->(zao src sd)[i]? = some none:=fun i e=>by unfold zao;rw [List.getElem?_map,e];rfl
 refine ⟨fun i m σ' H'=>m=ds.length - i/\i<=ds.length/\ ∃ ι' h' done vs,ι'.x=p::ι.x/\zbT ι H ι'.show H'/\zc1 K ι' H' (zao src sd) σ'/\za8 K ι' H' h'/\H' p=some (.lst vs)/\zas K ι' H' done vs/\done.length<=i/\
     Fin K E ι H ((do let ys<-zbV f (ds.drop i);pure (D.lst (done++ys))) h') P,
   ⟨_,rfl,Nat.zero_le _,ι.hide p,h,[],[],rfl,?_,L.bStart.pass (zhE hp),hr.hide hp,zaR,zas.nil,qaV _,?_⟩,?_⟩
 ·have:=hr.laidS (o:= .lst []) hp
  exact ⟨this.old,this.new,this.hid,this.hidk,this.keep⟩
 ·simpa using q
 rintro i m σ2 H2 ⟨rfl,hi2,ι2,h2,done,vs,hx2,s2,L2,hr2,e2,rl2,dl2,q2⟩
 have ps2:Pass ι H ι2 H2:=⟨s2.old,fun b o hb n=>⟨s2.keep b o hb n,fun z=>by
   rcases z with z | z
   · exact s2.nin hb n (.inl z)
   · rw [hx2] at z
     rcases qaP.mp z with z | z
     · rw [z,hp] at hb;cases hb
     · exact n (.inr z)⟩⟩
 have hp2:p∈ι2.x:=by rw [hx2];exact qau
 have base: ∀ {ι':Io} {H':Hp},zbT ι2 H2 ι' H'->zbT ι H ι'.show H':=fun t=>s2.trans (t.shown hx2)
 by_cases hlt:i<ds.length
 ·right
  refine ⟨ok.go ι2 H2 i ps2 hlt,fun σ' H'=>i+1<=ds.length/\ ∃ ι' h' done vs,ι'.x=p::ι.x/\zbT ι H ι'.show H'/\zc1 K ι' H' (zao src sd) σ'/\za8 K ι' H' h'/\H' p=some (.lst vs)/\zas K ι' H' done vs/\done.length<=i+1/\
    Fin K E ι H ((do let ys<-zbV f (ds.drop (i+1));pure (D.lst (done++ys))) h') P,fun σ' H' z=>⟨ds.length - (i+1),⋯,rfl,z.1,z.2⟩,fun x H3 y=> ?_⟩
  obtain ⟨gr,d,ed,rd⟩:=ok.yld ι2 H2 h2 i x H3 ps2 hr2 hlt y
  obtain ⟨s3,hr3⟩:=gr.step hr2
  have edr:ds.drop i=d::ds.drop (i+1):=by
   rw [qae hlt]
   rw [qaf hlt] at ed
   rw [Option.some.inj ed]
  rw [edr] at q2
  have q3:=q2
  have st3:zbT ι2 H2 ι2 H3:=s3
  have e3:H3 p=some (.lst vs):=by rw [s3.hidk p hp2];exact e2
  have eq1:(do let ys<-zbV f (d::ds.drop (i+1));pure (D.lst (done++ys)):M D)=(g d (zao src sd)>>=fun sd1=>tc sd1>>=fun c=>if c=true then (te sd1>>=fun y=>zbV f (ds.drop (i+1))>>=fun ys=>pure (D.lst (done++[y]++ys))) else (zbV f (ds.drop (i+1))>>=fun ys=>pure (D.lst (done++ys)))):=by
   rw [zbV]
   rw [<- hf]
   simp only [za9,bind_assoc]
   refine congrArg _ (funext fun sd1=> ?_)
   refine congrArg _ (funext fun c=> ?_)
   cases c with
   | true=>simp only [if_true,bind_assoc,pure_bind,List.append_assoc,List.cons_append,List.nil_append]
   | false=>simp only [qax,if_false,pure_bind]
  rw [eq1] at q3
  refine ⟨ι2,h2,zao src sd,d,L2.step s3,hr3,rd,?_⟩
  refine Fin.bindB q3 (fun ι' H' h' s hr'=>⟨ι'.show,base (s3.trans s),hr'.show⟩) fun sd4 h4 ι4 H4 e4 s4 hr4 q4 σ4 L4=> ?_
  have hx4:ι4.x=p::ι.x:=by rw [s4.hid];exact hx2
  obtain ⟨k1,k2⟩:=hk d _ h2 sd4 h4 h0len h0non e4
  refine ⟨ι4,h4,sd4,L4,hr4,Fin.bindB q4 (fun ι' H' h' s hr'=>⟨ι'.show,base ((s3.trans s4).trans s),hr'.show⟩) fun c h5 ι5 H5 e5 s5 hr5 q5=> ?_⟩
  have hx5:ι5.x=p::ι.x:=by rw [s5.hid];exact hx4
  have sub: ∀ {ι':Io} {H':Hp},zc1 K ι' H' sd4 σ4->zc1 K ι' H' (zao src sd) σ4:=fun {ι' H'} z=>⟨by rw [<- k1];exact z.1,fun j d' e=>z.2 j d' (k2 j d' (fun w=>by rw [h0non j w] at e;cases e) e)⟩
  have st5:zbT ι2 H2 ι5 H5:=(s3.trans s4).trans s5
  cases c with
  | false=>
   exact ztA ⟨hlt,ι5,h5,done,vs,hx5,base st5,sub (L4.step s5),hr5,by rw [st5.hidk p hp2];exact e2,rl2.step st5,Nat.le_succ_of_le dl2,q5⟩
  | true=>
   refine zty ⟨ι5,h5,sd4,L4.step s5,hr5,Fin.bindB q5 (fun ι' H' h' s hr'=>⟨ι'.show,base (st5.trans s),hr'.show⟩) fun yd h6 ι6 H6 e6 s6 hr6 q6 y ry=> ?_⟩
   have st6:zbT ι2 H2 ι6 H6:=st5.trans s6
   have hx6:ι6.x=p::ι.x:=by rw [s6.hid];exact hx5
   have hp6:p∈ι6.x:=by rw [hx6];exact qau
   have e6':H6 p=some (.lst vs):=by rw [st6.hidk p hp2];exact e2
   refine ⟨vs,e6',by rw [<- rl2.length];omega,hlt,ι6,h6,done++[yd],vs++[y],hx6,zlQ hp hpx hx2 s2 st6,?_,hr6.hid hp6,zaR,?_,?_,?_⟩
   ·exact ((sub (L4.step s5)).step s6).pass (zgK hp6)
   ·exact ((rl2.step st6).append (zas.cons ry zas.nil)).pass (zgK hp6)
   ·rw [qav,List.length_singleton];omega
   ·exact q6
 ·left
  have e:i=ds.length:=by omega
  subst e
  refine ⟨ok.stop ι2 H2 ps2,?_⟩
  rw [List.drop_length] at q2
  have q3:P (.lst done) ι2.show H2:=by
   have:Fin K E ι H ((pure (D.lst (done++[])):M D) h2) P:=q2
   rw [List.append_nil] at this
   exact this _ _ s2 hr2.show
  rw [<- hP] at q3
  refine q3 (.ref p) ?_
  simp only [Rel]
  refine ⟨p,vs,rfl,⟨e2,fun z=> ?_⟩,rl2.pass zh0⟩
  rcases z with z | z
  ·exact (hr2.hidt p (by rw [hx2];exact qau)).2 z
  ·exact hpx (by have z:p∈ι2.x.tail:=z;rw [hx2] at z;exact z)
noncomputable def zaw (fi:Sd->M (List D)) (g:D->Sd->M Sd) (tc:Sd->M Bool) (te:Sd->M D) (src:List (Option Nat)):Sd->M D:=fun sd=>do
 let ds<-fi sd
 fits ds.length
 let ys<-zbV (za9 g tc te (zao src sd)) ds
 pure (D.lst ys)
theorem zlJ {K:W.Frag} {fi:Sd->M (List D)} {g:D->Sd->M Sd} {tc:Sd->M Bool} {te:Sd->M D} (hk:zaD g src) (σ:L2.St) (H:Hp) (Q:VK) (q:zks K E (zaw fi g tc te src) σ H Q):
  zqz (zu7 K E fi) (zuT K E g) (zjW K E tc) (zks K E te) src σ H Q:=by
 obtain ⟨ι,h,sd,L,hh,q⟩:=q
 refine ⟨ι,h,sd,L,hh,Fin.bind q fun ds h1 ι1 H1 e1 s1 hr1 q1 J ok p hp=> ?_⟩
 obtain ⟨z,q2⟩:=Fin.fits q1
 exact blk hk (L.step s1) hr1 ok z q2 hp
theorem zlR {fi:Sd->M (List D)} {g:D->Sd->M Sd} {tc:Sd->M Bool} {te:Sd->M D} (B:BOk X scope N src) (hk:zaD g src) (hi:SI X E tg iter fi)
  (hg: ∀ s H fp,SG (cxB X scope N s H fp) E tg g) (ht: ∀ s H fp,SCs (cxB X scope N s H fp) E ifs tc) (he: ∀ s H fp,SE (cxB X scope N s H fp) E elt te)
  (hs: ∀ x,foldedSetIterable iter X.env x=pure x:=by intro _;rfl):SE X E (.ListComp elt [⟨tg,iter,ifs,0⟩] scope pos) (zaw fi g tc te src):=
 PE.imp (zp3 B hi hg ht he hs) (zlJ hk)
theorem zlY {fi:Sd->M (List D)} {g:D->Sd->M Sd} {tc:Sd->M Bool} {te:Sd->M D} (i:Nat) {y:Str} {py spos:Pos} (B:BOk X scope N src) (hk:zaD g src) (hi:SI X E tg iter fi)
  (hg: ∀ s H fp,SG (cxB X scope N s H fp) E tg g) (ht: ∀ s H fp,SCs (cxB X scope N s H fp) E ifs tc) (he: ∀ s H fp,SE (cxB X scope N s H fp) E elt te)
  (hN:X.N.Nodup) (hy:X.N[i]? = some y) (hx:Loc X.env.scope y) (hf:X.fn y=true\/X.env.scope.names.lookup y=some .local) (hsw:swapsWith (.ListComp elt [⟨tg,iter,ifs,0⟩] scope pos) (some (.Name y py)) spos.line X.env=pure true)
  (hs: ∀ x,foldedSetIterable iter X.env x=pure x:=by intro _;rfl):SS X E (.Assign [.Name y py] (.ListComp elt [⟨tg,iter,ifs,0⟩] scope pos) spos) (fun sd=>do let d<-zaw fi g tc te src sd;pure (.nx (sd.set i (some d)))):=by
 refine PS.imp (zjO B hi hg ht he hN hy hx hsw hf hs) fun D0 σ H ⟨ι,h,sd,L,hh,q⟩=>zlJ hk σ H _ ⟨ι,h,sd,L,hh,Fin.bind q fun d h1 ι1 H1 e1 s1 hr1 q1 v rv=> ?_⟩
 exact Fin.out (E:=E) (P:=zeH X.K D0) hr1 q1 _ ((L.step s1).set rv i)
end
section
variable {K:W.Frag} {ι:Io} {H:Hp} {h:Hh} {n:Nat} {a:Addr}
theorem zeT {o:HO} (hn:ι.c[n]? = some (some a)):Pass ι H ι (upd H a o):=⟨fun _ _ z=> .inl z,fun b o' hb nb=>⟨by rw [zax (show b≠a from fun z=>nb (.inl (z▸List.mem_of_getElem? hn)))];exact hb,nb⟩⟩
theorem za8.cellS {o:HO} (hr:za8 K ι H h) (hn:ι.c[n]? = some (some a)):zbT ι H ι (upd H a o):=
 ⟨fun _ _ z=> .inl z,fun _ z=> .inl z,rfl,fun b hb=>zax fun z=>(hr.hidt b hb).2 (z▸List.mem_of_getElem? hn),fun b o' hb nb=>((zeT hn).keep b o' hb nb).1⟩
theorem za8.cellO {c':C} {o':HO} (hr:za8 K ι H h) (hn:ι.c[n]? = some (some a)) (co:CO K ι H c' o'):za8 K ι (upd H a o') (h.set n c'):=by
 refine ⟨by rw [qaI];exact hr.len,hr.inj,fun m b c hm hc=> ?_,fun m hm=> ?_,fun b hb=>⟨?_,(hr.hidt b hb).2⟩⟩
 ·by_cases e:n=m
  ·subst e
   rw [hn] at hm
   cases hm
   rw [qai (by rw [hr.len];exact (qac.mp hn).1)] at hc
   cases hc
   exact ⟨o',zaR,co.pass (zeT hn)⟩
  ·rw [qao e] at hc
   obtain ⟨o2,e2,e3⟩:=hr.at_ m b c hm hc
   have ne:b≠a:=fun z=>by subst z;exact e (hr.inj n m b hn hm)
   exact ⟨o2,by rw [zax ne];exact e2,e3.pass (zeT hn)⟩
 ·have e:n≠m:=fun z=>by subst z;rw [hn] at hm;cases hm
  rw [qao e]
  exact hr.dead m hm
 ·rw [zax (show b≠a from fun z=>(hr.hidt b hb).2 (z▸List.mem_of_getElem? hn))]
  exact (hr.hidt b hb).1
theorem za8.cell {ds':List D} {vs':List V} (hr:za8 K ι H h) (hn:ι.c[n]? = some (some a)) (rl:zas K ι H ds' vs'):za8 K ι (upd H a (.lst vs')) (h.set n (.lst ds')):=hr.cellO hn ⟨vs',rfl,rl⟩
theorem za8.read {ds:List D} {v:V} (hr:za8 K ι H h) (r:Rel K ι H (.cel n) v) (e:h[n]? = some (.lst ds)): ∃ a vs,v= .ref a/\ι.c[n]? = some (some a)/\H a=some (.lst vs)/\zas K ι H ds vs:=by
 simp only [Rel] at r
 obtain ⟨a,e1,r | r⟩:=r
 ·obtain ⟨o,e3,vs,rfl,e4⟩:=hr.at_ n a _ r e
  exact ⟨a,vs,e1,r,e3,e4⟩
 ·rw [hr.dead n r] at e
  cases e
end
noncomputable def zai (n:Nat):M (List D):=fun h=>match h[n]? with
 | some (.lst ds)=> .ok ds h
 | _=> .bad
noncomputable def zbo (n:Nat) (ds:List D):M Unit:=fun h=> .ok () (h.set n (.lst ds))
theorem zcU {n:Nat} {h h':Hh} {ds:List D} (e:zai n h= .ok ds h'):h'=h/\h[n]? = some (.lst ds):=by
 unfold zai at e
 cases z:h[n]? with
 | none=>rw [z] at e;cases e
 | some c=>
  rw [z] at e
  cases c with
  | lst xs=>cases e;exact ⟨rfl,rfl⟩
  | dic _=>cases e
  | dit ks=>cases e
  | ins _ _=>cases e
  | dead=>cases e
noncomputable def ofO {α:Type}:Option α->M α
 | some a=>pure a
 | none=>M.bad
def dIx:D->D->M D:=fun x y=>match x,y with
 | .tup ds,.int i=>ofO (atI ds i)
 | .lst ds,.int i=>ofO (atI ds i)
 | .scr ds,.int i=>ofO (atI ds i)
 | .cel n,.int i=>do let ds<-zai n;ofO (atI ds i)
 | _,_=>M.bad
theorem zf5 {K:W.Frag} {ι:Io} {H:Hp} {ds:List D} {vs:List V} {i:Int} {d:D} (rl:zas K ι H ds vs) (e:atI ds i=some d): ∃ v,atI vs i=some v/\Rel K ι H d v:=by
 unfold atI at e ⊢
 rw [<- rl.length]
 cases z:ixN ds.length i with
 | none=>rw [z] at e;cases e
 | some j=>
  rw [z] at e
  have e:ds[j]? = some d:=e
  exact rl.get e
section
variable {X:Cx} {E:XE}
theorem Fin.ofO {α:Type} {K:W.Frag} {ι:Io} {H:Hp} {h:Hh} {o:Option α} {P:α->Io->Hp->Prop} (hr:za8 K ι H h) (q:Fin K E ι H (L3.ofO o h) P): ∃ a,o=some a/\P a ι H:=by
 cases o with
 | none=>exact qa0 q
 | some a=>exact ⟨a,rfl,Fin.out hr q⟩
theorem zvG:IxR X (zdX X.K E dIx):=by
 refine IxR.imp (zq1.or ztr) fun x y H Q ⟨ι,h,d1,d2,r1,r2,hr,q⟩=> ?_
 cases d2 with
 | int i=>
  simp only [Rel] at r2
  cases d1 with
  | tup ds=>
   obtain ⟨a,vs,e,h1,h2⟩:=zcV r1
   obtain ⟨d,e1,q⟩:=Fin.ofO hr q
   obtain ⟨v,e2,rv⟩:=zf5 h2 e1
   exact .inr ⟨a,vs,i,v,e,r2,h1,e2,q v rv⟩
  | lst ds=>
   obtain ⟨a,vs,e,h1,h2⟩:=zd4 r1
   obtain ⟨d,e1,q⟩:=Fin.ofO hr q
   obtain ⟨v,e2,rv⟩:=zf5 h2 e1
   exact .inl ⟨a,vs,i,v,e,r2,h1,e2,q v rv⟩
  | scr ds=>
   obtain ⟨a,vs,e,h1,h2⟩:=zlB r1
   obtain ⟨d,e1,q⟩:=Fin.ofO hr q
   obtain ⟨v,e2,rv⟩:=zf5 h2 e1
   exact .inl ⟨a,vs,i,v,e,r2,h1,e2,q v rv⟩
  | cel n=>
   have q:Fin X.K E ι H ((zai n>>=fun ds=>L3.ofO (atI ds i)) h) _:=q
   have q':Fin X.K E ι H (M.bind (zai n) (fun ds=>L3.ofO (atI ds i)) h) _:=q
   unfold M.bind at q'
   cases z:zai n h with
   | bad=>rw [z] at q';exact qa0 q'
   | exc c h'=>unfold zai at z;split at z<;>cases z
   | ok ds h'=>
    rw [z] at q'
    obtain ⟨rfl,z2⟩:=zcU z
    obtain ⟨a,vs,e,hn,hH,rl⟩:=hr.read r1 z2
    obtain ⟨d,e1,q⟩:=Fin.ofO hr q'
    obtain ⟨v,e2,rv⟩:=zf5 rl e1
    exact .inl ⟨a,vs,i,v,e,r2,SqL.of hH,e2,q v rv⟩
  | _=>exact qa0 q
 | _=>cases d1<;>exact qa0 q
def zkB (o i d:D):M Unit:=match o,i with
 | .cel n,.int k=>do
  let ds<-zai n
  let j<-ofO (ixN ds.length k)
  zbo n (ds.set j d)
 | _,_=>M.bad
theorem zsh {o i:Expr} {pos:Pos} {fo fi:Sd->M D} (hp: ∀ {t:ztB},ztF X t->PG X (.Subscript o i pos) (zu4 (zks X.K E fo) (zks X.K E fi) t)):
  SG X E (.Subscript o i pos) (fun d sd=>do let x<-fo sd;let y<-fi sd;zkB x y d;pure sd):=by
 refine PG.imp (hp znm) fun v σ H Q ⟨ι,h,sd,d,L,hr,rd,q⟩=>⟨ι,h,sd,L,hr,Fin.bind q fun x h1 ι1 H1 e1 s1 hr1 q1 xv rx=> ?_⟩
 refine ⟨ι1,h1,sd,L.step s1,hr1,Fin.bind q1 fun y h2 ι2 H2 e2 s2 hr2 q2 yv ry=> ?_⟩
 cases x with
 | cel n=>
  cases y with
  | int k=>
   have rx2:=rx.step s2
   have q3:Fin X.K E ι2 H2 ((zai n>>=fun ds=>(ofO (ixN ds.length k)>>=fun j=>zbo n (ds.set j d)>>=fun _=>pure sd)) h2) (fun sd' ι' H'=> ∀ σ',zc1 X.K ι' H' sd' σ'->Q σ' H'):=by
    have e:(do zkB (.cel n) (.int k) d;pure sd:M Sd)=(zai n>>=fun ds=>(ofO (ixN ds.length k)>>=fun j=>zbo n (ds.set j d)>>=fun _=>pure sd)):=by
     show ((zai n>>=fun ds=>(ofO (ixN ds.length k)>>=fun j=>zbo n (ds.set j d)))>>=fun _=>pure sd)=_
     simp only [bind_assoc]
    rw [<- e]
    exact q2
   have q':Fin X.K E ι2 H2 (M.bind (zai n) (fun ds=>(ofO (ixN ds.length k)>>=fun j=>zbo n (ds.set j d)>>=fun _=>pure sd)) h2) _:=q3
   unfold M.bind at q'
   cases z:zai n h2 with
   | bad=>rw [z] at q';exact qa0 q'
   | exc c h'=>unfold zai at z;split at z<;>cases z
   | ok ds h'=>
    rw [z] at q'
    obtain ⟨rfl,z2⟩:=zcU z
    obtain ⟨a,vs,e,hn,hH,rl⟩:=hr2.read rx2 z2
    simp only [Rel] at ry
    have q4:Fin X.K E ι2 H2 (M.bind (ofO (ixN ds.length k)) (fun j=>zbo n (ds.set j d)>>=fun _=>pure sd) h') _:=q'
    unfold M.bind at q4
    cases z3:ixN ds.length k with
    | none=>rw [z3] at q4;exact qa0 q4
    | some j=>
     rw [z3] at q4
     have q5:Fin X.K E ι2 H2 (R.ok sd (h'.set n (.lst (ds.set j d)))) (fun sd' ι' H'=> ∀ σ',zc1 X.K ι' H' sd' σ'->Q σ' H'):=q4
     refine ⟨a,vs,k,j,e,ry,hH,by rw [<- rl.length];exact z3,?_⟩
     have rd2:=(rd.step s1).step s2
     exact q5 ι2 _ (hr2.cellS hn) (hr2.cell hn (rl.set rd2 j)) σ (((L.step s1).step s2).step (hr2.cellS hn))
  | _=>exact qa0 q2
 | _=>cases y<;>exact qa0 q2
end
abbrev E0x:XE:=fun _ _=>False
def zcu (K:W.Frag) (n:Nat) (F:List D->M D):Sp:=fun vs H Q _=>vs.length=n/\ ∃ ι h ds,zas K ι H ds vs/\za8 K ι H h/\Fin K E0x ι H (F ds h) fun d ι' H'=> ∀ v,Rel K ι' H' d v->Q v H'
def zfE (n:Nat) (ds:List D):Sd:=ds.map some++List.replicate (n - ds.length) none
def zdn:Out->M D
 | .nx _=>pure .non
 | .rt d=>pure d
 | _=>M.bad
def zdm (n:Nat) (G:Sd->M Out) (ds:List D):M D:=do let o<-G (zfE n ds);zdn o
theorem zeh {K:W.Frag} {ι:Io} {H:Hp} {ds:List D} {vs:List V} {N:List Str} (h:zas K ι H ds vs):zc1 K ι H (zfE N.length ds) (L2.zef N vs):=by
 have hl:=h.length
 unfold zfE L2.zef
 refine ⟨by simp [hl],fun i d e=> ?_⟩
 by_cases hi:i<ds.length
 ·rw [qad (by simpa using hi),List.getElem?_map] at e
  cases z:ds[i]? with
  | none=>rw [z] at e;cases e
  | some d'=>
   rw [z] at e
   cases e
   obtain ⟨v,h1,h2⟩:=h.get z
   exact ⟨v,by rw [qad (by rw [qaH, <-hl];exact hi),List.getElem?_map,h1];rfl,h2⟩
 ·rw [qaa (by simpa using hi),List.getElem?_replicate] at e
  split at e<;>cases e
section
variable {P:Program} {w:World} {K:W.Frag} {mg:Str->Option Value} {base:Heap}
theorem zbA {x qual:Str} {st:Stmt} {f:Addr} {fd:FuncData} {N ps:List Str} {k:Nat} {G:Sd->M Out} (F:Fun K x qual st f fd) (S:zat N ps (zae st))
  (hb: ∀ (cdv:Value) (A:Around) (outer:List Env) (s:Shared) (H:Hp) (E:XK),zd9 k (A.deeper (envOfC qual (zae st) s.heap.objs.size f cdv))->SSs (zh8 CX0 P w K mg base N qual (zae st) f cdv A outer s H E).nox E0x (zcP st) G):
  zb8 P w K mg base CX0 (k+1) f fd ps (zcu K ps.length (zdm N.length G)):=by
 refine F.ok S (fun vs H Q E h=>h.1) fun cdv A outer s H vs Q E hr ⟨hl,ι,h,ds,rl,hh,q⟩=>⟨_,hb cdv A outer s H E hr,ι,h,zfE N.length ds,zeh rl,hh,?_⟩
 refine Fin.bind q fun o h1 ι1 H1 e1 s1 hr1 q1=> ?_
 cases o with
 | nx sd=>exact fun σ' _=>Fin.out hr1 q1 _ (by simp [Rel])
 | rt d=>exact fun v rv=>Fin.out hr1 q1 v rv
 | bk sd=>exact qa0 q1
 | ct sd=>exact qa0 q1
end
section
variable {X:Cx} {e:Expr} {es:List Expr} {pos p:Pos}
def zaq (n:Nat) (F:List D->M D) (ds:List D):M D:=if ds.length=n then F ds else M.bad
theorem zpn {k:Nat} {f:Addr} {fd:FuncData} {ps:List Str} {n:Nat} {F:List D->M D} {fs:Sd->M (List D)} {x:Str} (G:zb8 X.prog X.w X.K X.mg X.base CX0 k f fd ps (zcu X.K n F)) (hr:zd9 k X.A) (hg:Gl X x) (hm:X.mg x=some (.ref f)) (hk:W.keepIn X.K (.ref f)=true) (hb:zaL X.K fd ps [])
  (ha:SA X E0x (e::es) fs) (hdb:(x==("__debug__":Str))=false:=by decide) (he:starEach (e::es) X.env=(false,eval e X.env)::starEach es X.env:=by rfl) (hpl:(backTo pos (starEach es X.env)).any (·.1)=false:=by rfl):
  SE X E0x (.Call (.Name x p) (e::es) [] pos) (fun sd=>do let ds<-fs sd;zaq n F ds):=by
 refine PE.imp (ziD G hr hg hm hk hb (dvs:=[]) .nil (E:=fun _ _ _=>False) zrI ha hdb he hpl) fun σ H Q ⟨ι,h,sd,L,hh,q⟩=>⟨ι,h,sd,L,hh,Fin.bind q fun ds h1 ι1 H1 e1 s1 hr1 q1 vs rv=> ?_⟩
 show zcu X.K n F (vs++[]) H1 Q _
 rw [List.append_nil]
 unfold zaq at q1
 by_cases hl:ds.length=n
 ·rw [qa4 hl] at q1
  exact ⟨by rw [<- rv.length];exact hl,ι1,h1,ds,rv,hr1,q1⟩
 ·rw [qa5 hl] at q1
  exact qa0 q1
end
section
variable {X:Cx} {E:XE}
theorem Fin.guard {α:Type} {K:W.Frag} {ι:Io} {H:Hp} {h:Hh} {c:Prop} [Decidable c] {f:M α} {P:α->Io->Hp->Prop} (q:Fin K E ι H ((if c then f else M.bad) h) P):c/\Fin K E ι H (f h) P:=by
 by_cases hc:c
 ·rw [qa4 hc] at q;exact ⟨hc,q⟩
 ·rw [qa5 hc] at q;exact qa0 q
theorem znl:OpR X (binaryOp .Add) (fun x y H Q=> ∃ a b ys,x= .ref a/\y= .ref b/\SqT X.K H a []/\SqT X.K H b ys/\Q (.ref b) H):=by
 intro pins s σ H x y v u Q I rx ry h
 obtain ⟨a,b,ys,rfl,rfl,ha,hb,q⟩:=h
 cases rx
 cases ry
 obtain ⟨its,r1,p1,_⟩:=I.tuple ha
 obtain ⟨its2,r2,p2,_⟩:=I.tuple hb
 cases r1
 obtain ⟨⟨cls,dd,data,sl⟩,ho,hc,n,hd⟩:=id p1
 obtain ⟨⟨cls2,dd2,data2,sl2⟩,ho2,hc2,n2,hd2⟩:=id p2
 simp only at hc hd hc2 hd2
 subst hc hd hc2 hd2
 exact concat_meets ⟨_,ho,rfl⟩ ⟨_,ho2,rfl⟩ noFill_tuple_add seq_tuple_add PySem.F.slot_tuple_add PySem.F.entry_tuple_add (PySem.F.args_tuple_add_2 _ _)
   (tuple_addW0 a b _ _ n n2 dd dd2 sl sl2 (by simp)) ⟨ho,ho2,⟨.ref b,H,I,rfl,q⟩⟩
def zcb (x y:D):M D:=match x,y with
 | .int i,.int j=>pure (.int (i+j))
 | .tup xs,.tup ys=>do fits (xs.length+ys.length);pure (.tup (xs++ys))
 | .lst xs,.lst ys=>do fits (xs.length+ys.length);pure (.lst (xs++ys))
 | .str x,.str y=>do fits (x.length+y.length);pure (.str (x++y))
 | _,_=>M.bad
theorem zau:OpR X (binaryOp .Add) (zdX X.K E zcb):=by
 refine OpR.imp (zrB.or (znl.or (zqk.or (zrx.or zj9)))) fun x y H Q ⟨ι,h,d1,d2,r1,r2,hr,q⟩=> ?_
 unfold zcb at q
 split at q
 ·simp only [Rel] at r1 r2
  exact .inl ⟨_,_,r1,r2,Fin.out hr q _ (by simp [Rel])⟩
 ·rename_i xs ys
  right
  obtain ⟨a,vs,e,h1,h2⟩:=zcV r1
  obtain ⟨b,ws,e',h1',h2'⟩:=zcV r2
  obtain ⟨z,q⟩:=Fin.fits q
  cases xs with
  | nil=>
   simp only [zas] at h2
   subst h2
   exact .inl ⟨a,b,ws,e,e',h1,h1',Fin.out hr q _ (by rw [<- e'];exact r2)⟩
  | cons x0 xr=>
   refine .inr (.inl ⟨a,b,vs,ws,e,e',h1,h1',fun z=> ?_,by rw [<- h2.length, <-h2'.length];exact z,fun z=> ?_,fun z p hp=>zpj hr (h2.append h2') q hp⟩)
   ·subst z
    have:=h2.length
    cases this
   ·subst z
    have:=h2'.length
    cases ys with
    | nil=>rw [List.append_nil] at q;exact Fin.out hr q _ (by rw [<- e];exact r1)
    | cons _ _=>cases this
 ·rename_i xs ys
  right;right;right;left
  simp only [Rel] at r1 r2
  obtain ⟨a,vs,e,h1,h2⟩:=r1
  obtain ⟨b,ws,e',h1',h2'⟩:=r2
  obtain ⟨z,q⟩:=Fin.fits q
  exact ⟨a,b,vs,ws,e,e',h1.1,h1'.1,by rw [<- h2.length, <-h2'.length];exact z,fun p hp=>zo9 hr (h2.append h2') q hp⟩
 ·simp only [Rel] at r1 r2
  obtain ⟨z,q⟩:=Fin.fits q
  exact .inr (.inr (.inr (.inr ⟨_,_,r1,r2,z,Fin.out hr q _ (by simp [Rel])⟩)))
 ·exact qa0 q
def dII (C:Int->Int->Bool) (g:Int->Int->D) (x y:D):M D:=match x,y with
 | .int i,.int j=>if C i j=true then pure (g i j) else M.bad
 | _,_=>M.bad
theorem zkS {f:Value->Value->Sem Value} {C:Int->Int->Bool} {C':Int->Int->Prop} {g:Int->Int->V} {g':Int->Int->D} (ho:OpR X f (rI C' g)) (hc: ∀ i j,C i j=true->C' i j) (hg: ∀ i j ι H,Rel X.K ι H (g' i j) (g i j)):OpR X f (zdX X.K E (dII C g')):=by
 refine OpR.imp ho fun x y H Q ⟨ι,h,d1,d2,r1,r2,hr,q⟩=> ?_
 unfold dII at q
 split at q
 ·simp only [Rel] at r1 r2
  obtain ⟨c,q⟩:=Fin.guard q
  exact ⟨_,_,r1,r2,hc _ _ c,Fin.out hr q _ (hg _ _ _ _)⟩
 ·exact qa0 q
theorem zfD {f:Value->Value->Sem Value} {g:Int->Int->V} {g':Int->Int->D} (ho:OpR X f (rI0 g)) (hg: ∀ i j ι H,Rel X.K ι H (g' i j) (g i j)):OpR X f (zdX X.K E (dII (fun _ _=>true) g')):=by
 refine OpR.imp ho fun x y H Q ⟨ι,h,d1,d2,r1,r2,hr,q⟩=> ?_
 unfold dII at q
 split at q
 ·simp only [Rel] at r1 r2
  obtain ⟨c,q⟩:=Fin.guard q
  exact ⟨_,_,r1,r2,Fin.out hr q _ (hg _ _ _ _)⟩
 ·exact qa0 q
def zl9:=dII (fun _ _=>true) fun i j=> .int (i - j)
theorem zc6:OpR X (binaryOp .Sub) (zdX X.K E zl9):=zfD ztm fun _ _ _ _=>by simp [Rel]
def zcN (i:Int):Bool:=decide (-(2^64)<i) && decide (i<2^64)
theorem ze5 {i:Int} (h:zcN i=true): -(2^64)<i/\i<2^64:=by unfold zcN at h;simpa using h
theorem zn2:OpR X (binaryOp .FloorDiv) (rI (fun _ j=>0<j/\j<2^64) fun i j=> .int (i / j)):=opI fun i j _ _ _ _ _ hc q=>by
 refine floordiv_int ⋯ (by rw [Int.fdiv_eq_ediv_of_nonneg _ ⋯];exact q) (.inl (PyProof.noPylong_of_log2 ?_))
 have h1:j.natAbs<2^64:=by omega
 have h0:j.natAbs≠0:=by omega
 exact Nat.lt_trans ((Nat.log2_lt h0).mpr h1) (by decide)
def zj3:=dII (fun _ j=>decide (0<j) && decide (j<2^64)) fun i j=> .int (i / j)
theorem zeI:OpR X (binaryOp .FloorDiv) (zdX X.K E zj3):=zkS zn2 (fun i j h=>by simpa using h) fun _ _ _ _=>by simp [Rel]
def zo0:=dII (fun _ j=>decide (0<j)) fun i j=> .int (i % j)
theorem zes:OpR X (binaryOp .Mod) (zdX X.K E zo0):=zkS zsi (fun i j h=>by simpa using h) fun _ _ _ _=>by simp [Rel]
def zq7 (i j:Int):Bool:=decide (0<=j) && decide (j<=1000000) && decide (i.natAbs<2^64)
def ztj:=dII zq7 fun i j=> .int (i^j.toNat)
theorem zjD {i j:Int} (h:zq7 i j=true):ztz i j:=by unfold zq7 at h;simpa [ztz,and_assoc] using h
theorem zkT:OpR X (binaryOp .Pow) (zdX X.K E ztj):=zkS zrM (fun _ _=>zjD) fun _ _ _ _=>by simp [Rel]
def zsM:=dII zq7 fun i j=> .int (i*2^j.toNat)
theorem zig:OpR X (binaryOp .LShift) (zdX X.K E zsM):=zkS zrK (fun _ _=>zjD) fun _ _ _ _=>by simp [Rel]
def zuL:=dII (fun _ j=>decide (0<=j)) fun i j=> .int (i / 2^j.toNat)
theorem zpu:OpR X (binaryOp .RShift) (zdX X.K E zuL):=zkS zry (fun i j h=>by simpa using h) fun _ _ _ _=>by simp [Rel]
def zuG:=dII (fun _ _=>true) fun i j=> .int (Builtin.bitAnd i j)
theorem zpK:OpR X (binaryOp .BitAnd) (zdX X.K E zuG):=zfD zrw fun _ _ _ _=>by simp [Rel]
def dOr:=dII (fun _ _=>true) fun i j=> .int (Builtin.bitOr i j)
theorem zo4:OpR X (binaryOp .BitOr) (zdX X.K E dOr):=zfD zun fun _ _ _ _=>by simp [Rel]
def dLt:=dII (fun _ _=>true) fun i j=> .bl (decide (i<j))
theorem zsy:OpR X (compareOp .Lt) (zdX X.K E dLt):=zfD ztK fun _ _ _ _=>by simp [Rel]
def dGt:=dII (fun _ _=>true) fun i j=> .bl (decide (j<i))
theorem zlC:OpR X (compareOp .Gt) (zdX X.K E dGt):=zfD zub fun _ _ _ _=>by simp [Rel]
def dGe:=dII (fun _ _=>true) fun i j=> .bl (decide (j<=i))
theorem zsF:OpR X (compareOp .GtE) (zdX X.K E dGe):=zfD zuo fun _ _ _ _=>by simp [Rel]
def zou:D->M D
 | .int i=>pure (.int (-i))
 | _=>M.bad
theorem zr5 {a:Expr} {pos:Pos} {fa:Sd->M D} (ha:SE X E a fa):SE X E (.UnaryOp .USub a pos) (fun sd=>do let x<-fa sd;zou x):=by
 refine PE.imp (zuf zrA ha) fun σ H Q ⟨ι,h,sd,L,hh,q⟩=>⟨ι,h,sd,L,hh,Fin.bind q fun d h1 ι1 H1 e1 s1 hr1 q1 v rv=> ?_⟩
 cases d with
 | int i=>simp only [Rel] at rv;exact ⟨i,rv,Fin.out hr1 q1 _ (by simp [Rel])⟩
 | _=>exact qa0 q1
mutual
noncomputable def pd:D->Option PyData
 | .non=>some .none
 | .bl b=>some (.bool b)
 | .int i=>some (.int i)
 | .str x=>some (.str x)
 | .tup xs=>(pdL xs).map .tuple
 | .lst xs=>(pdL xs).map .list
 | .scr xs=>(pdL xs).map .list
 | _=>none
noncomputable def pdL:List D->Option (List PyData)
 | []=>some []
 | x::xs=>match pd x,pdL xs with
  | some a,some r=>some (a::r)
  | _,_=>none
end
mutual
theorem zeX {pins:List (Addr×Obj)} {σ:L2.St} {H:Hp} {s:Shared} {ι:Io} (I:Inv X pins σ H s): ∀ {d:D} {v:V} {u:Value} {p:PyData},Rel X.K ι H d v->zbB v u->pd d=some p-> ∃ as,Reads s.heap u p as
 | .non,v,u,p,r,ru,e=>by simp only [Rel] at r;subst r;cases ru;cases e;exact ⟨_,.none⟩
 | .bl b,v,u,p,r,ru,e=>by simp only [Rel] at r;subst r;cases ru;cases e;exact ⟨_,.bool _⟩
 | .int i,v,u,p,r,ru,e=>by simp only [Rel] at r;subst r;obtain ⟨t,rfl⟩:=ru;cases e;exact ⟨_,.int _ _⟩
 | .str i,v,u,p,r,ru,e=>by simp only [Rel] at r;subst r;obtain ⟨t,rfl⟩:=ru;cases e;exact ⟨_,.str _ _⟩
 | .tup ds,v,u,p,r,ru,e=>by
  obtain ⟨a,vs,rfl,h1,h2⟩:=zcV r
  cases ru
  obtain ⟨its,rv,pl,_⟩:=I.tuple h1
  obtain ⟨o,ho,hc,n,hd⟩:=pl
  unfold pd at e
  cases z:pdL ds with
  | none=>rw [z] at e;cases e
  | some ps=>
   rw [z] at e;cases e
   obtain ⟨as,q⟩:=zg2 I h2 rv z
   exact ⟨_,.tuple ho hc hd (by simpa using q)⟩
 | .lst ds,v,u,p,r,ru,e=>by
  obtain ⟨a,vs,rfl,h1,h2⟩:=zd4 r
  cases ru
  obtain ⟨its,rv,pl,_⟩:=I.list h1
  obtain ⟨o,ho,hc,n,hd⟩:=pl.isList
  unfold pd at e
  cases z:pdL ds with
  | none=>rw [z] at e;cases e
  | some ps=>
   rw [z] at e;cases e
   obtain ⟨as,q⟩:=zg2 I h2 rv z
   exact ⟨_,.list ho hc hd (by simpa using q)⟩
 | .scr ds,v,u,p,r,ru,e=>by
  obtain ⟨a,vs,rfl,h1,h2⟩:=zlB r
  cases ru
  obtain ⟨its,rv,pl,_⟩:=I.list h1
  obtain ⟨o,ho,hc,n,hd⟩:=pl.isList
  unfold pd at e
  cases z:pdL ds with
  | none=>rw [z] at e;cases e
  | some ps=>
   rw [z] at e;cases e
   obtain ⟨as,q⟩:=zg2 I h2 rv z
   exact ⟨_,.list ho hc hd (by simpa using q)⟩
 | .cel n,_,_,_,_,_,e=>by cases e
 | .set xs,_,_,_,_,_,e=>by cases e
 | .dct,_,_,_,_,_,e=>by cases e
 | .fn _,_,_,_,_,_,e=>by cases e
 | .exn _,_,_,_,_,_,e=>by cases e
theorem zg2 {pins:List (Addr×Obj)} {σ:L2.St} {H:Hp} {s:Shared} {ι:Io} (I:Inv X pins σ H s): ∀ {ds:List D} {vs:List V} {us:List Value} {ps:List PyData},zas X.K ι H ds vs->zba vs us->pdL ds=some ps-> ∃ as,ReadsAll s.heap us ps as
 | [],vs,us,ps,r,ru,e=>by simp only [zas] at r;subst r;cases ru;cases e;exact ⟨_,.nil⟩
 | d::ds,vs,us,ps,r,ru,e=>by
  simp only [zas] at r
  obtain ⟨v,vr,rfl,r1,r2⟩:=r
  cases ru with
  | cons ru1 ru2=>
   unfold pdL at e
   cases z:pd d with
   | none=>rw [z] at e;cases e
   | some a=>
    cases z2:pdL ds with
    | none=>rw [z,z2] at e;cases e
    | some b=>
     rw [z,z2] at e
     cases e
     obtain ⟨as,q1⟩:=zeX I r1 ru1 z
     obtain ⟨bs,q2⟩:=zg2 I r2 ru2 z2
     exact ⟨_,.cons q1 q2⟩
end
def zfY (a b:PyData):Bool:=a.canLay0 && b.canLay0 && decide (min a.depth b.depth<=60)
noncomputable def zjz (neg:Bool) (x y:D):M D:=match pd x,pd y with
 | some a,some b=>if zfY a b=true then pure (.bl (if neg then !PyData.eqv a b else PyData.eqv a b)) else M.bad
 | _,_=>M.bad
def dEq:=zjz false
def dNe:=zjz true
theorem zgh {a b:PyData} (h:zfY a b=true):a.canLay0=true/\b.canLay0=true/\min a.depth b.depth<=60:=by unfold zfY at h;simpa [and_assoc] using h
theorem ziT {K:W.Frag} {ι:Io} {H:Hp} {h:Hh} {neg:Bool} {x y:D} {P:D->Io->Hp->Prop} (q:Fin K E ι H (zjz neg x y h) P): ∃ a b,pd x=some a/\pd y=some b/\zfY a b=true/\Fin K E ι H ((pure (.bl (if neg then !PyData.eqv a b else PyData.eqv a b)):M D) h) P:=by
 unfold zjz at q
 cases e1:pd x with
 | none=>rw [e1] at q;exact qa0 q
 | some a=>
  cases e2:pd y with
  | none=>rw [e1,e2] at q;exact qa0 q
  | some b=>
   rw [e1,e2] at q
   obtain ⟨c,q⟩:=Fin.guard q
   exact ⟨a,b,rfl,rfl,c,q⟩
theorem zdy (hu:X.A.units+60<cLine):OpR X (compareOp .Eq) (zdX X.K E dEq):=by
 intro pins s σ H x y v u Q I rx ry ⟨ι,h,d1,d2,r1,r2,hr,q⟩
 obtain ⟨a,b,e1,e2,c,q2⟩:=ziT q
 obtain ⟨c1,c2,c3⟩:=zgh c
 obtain ⟨as,ra⟩:=zeX I r1 rx e1
 obtain ⟨bs,rb⟩:=zeX I r2 ry e2
 exact SeqAt.compareEq_reads ra rb c1 c2 ⋯ ⟨.bl _,H,I,rfl,Fin.out hr q2 (.bl _) (by simp [Rel])⟩
theorem zcy (hu:X.A.units+60<cLine):OpR X (compareOp .NotEq) (zdX X.K E dNe):=by
 intro pins s σ H x y v u Q I rx ry ⟨ι,h,d1,d2,r1,r2,hr,q⟩
 obtain ⟨a,b,e1,e2,c,q2⟩:=ziT q
 obtain ⟨c1,c2,c3⟩:=zgh c
 obtain ⟨as,ra⟩:=zeX I r1 rx e1
 obtain ⟨bs,rb⟩:=zeX I r2 ry e2
 exact SeqAt.compareNe_reads ra rb c1 c2 ⋯ ⟨.bl _,H,I,rfl,Fin.out hr q2 (.bl _) (by simp [Rel])⟩
def zky (a:PyData) (xs:List PyData):Bool:=a.canLay0 && PyData.canLayAll0 xs && decide (min (PyData.depthAll xs) a.depth<=50)
theorem zjB {a:PyData} {xs:List PyData} (h:zky a xs=true):a.canLay0=true/\PyData.canLayAll0 xs=true/\min (PyData.depthAll xs) a.depth<=50:=by unfold zky at h;simpa [and_assoc] using h
def zmP (neg:Bool) (x c:D):M D:=match pd x,c with
 | some a,.tup ds=>match pdL ds with
  | some xs=>if zky a xs=true then pure (.bl (if neg then !xs.any (fun y=>PyData.eqv y a) else xs.any fun y=>PyData.eqv y a)) else M.bad
  | none=>M.bad
 | some a,.lst ds=>match pdL ds with
  | some xs=>if zky a xs=true then pure (.bl (if neg then !xs.any (fun y=>PyData.eqv y a) else xs.any fun y=>PyData.eqv y a)) else M.bad
  | none=>M.bad
 | _,_=>M.bad
def dIn:=zmP false
def zkK:=zmP true
theorem zjr {K:W.Frag} {ι:Io} {H:Hp} {h:Hh} {neg:Bool} {x c:D} {P:D->Io->Hp->Prop} (q:Fin K E ι H (zmP neg x c h) P): ∃ a ds xs,pd x=some a/\pdL ds=some xs/\(c= .tup ds\/c= .lst ds)/\zky a xs=true/\
  Fin K E ι H ((pure (.bl (if neg then !xs.any (fun y=>PyData.eqv y a) else xs.any fun y=>PyData.eqv y a)):M D) h) P:=by
 unfold zmP at q
 cases e1:pd x with
 | none=>rw [e1] at q;exact qa0 q
 | some a=>
  rw [e1] at q
  cases c with
  | tup ds=>
   dsimp only at q
   cases e2:pdL ds with
   | none=>rw [e2] at q;exact qa0 q
   | some xs=>
    rw [e2] at q
    obtain ⟨c,q⟩:=Fin.guard q
    exact ⟨a,ds,xs,rfl,e2,.inl rfl,c,q⟩
  | lst ds=>
   dsimp only at q
   cases e2:pdL ds with
   | none=>rw [e2] at q;exact qa0 q
   | some xs=>
    rw [e2] at q
    obtain ⟨c,q⟩:=Fin.guard q
    exact ⟨a,ds,xs,rfl,e2,.inr rfl,c,q⟩
  | _=>exact qa0 q
theorem zmm (hu:X.A.units+60<cLine):OpR X (compareOp .In) (zdX X.K E dIn):=by
 intro pins s σ H x y v u Q I rx ry ⟨ι,h,d1,d2,r1,r2,hr,q⟩
 obtain ⟨a,ds,xs,e1,e2,ec,c,q2⟩:=zjr q
 obtain ⟨c1,c2,c3⟩:=zjB c
 obtain ⟨as,ra⟩:=zeX I r1 rx e1
 rcases ec with rfl | rfl
 ·obtain ⟨bs,rb⟩:=zeX I r2 ry (p:= .tuple xs) (by unfold pd;rw [e2];rfl)
  exact SeqAt.in_tuple_reads rb ra c2 c1 ⋯ ⟨.bl _,H,I,rfl,Fin.out hr q2 (.bl _) (by simp [Rel])⟩
 ·obtain ⟨bs,rb⟩:=zeX I r2 ry (p:= .list xs) (by unfold pd;rw [e2];rfl)
  exact SeqAt.in_list_reads rb ra c2 c1 ⋯ ⟨.bl _,H,I,rfl,Fin.out hr q2 (.bl _) (by simp [Rel])⟩
theorem zmy (hu:X.A.units+60<cLine):OpR X (compareOp .NotIn) (zdX X.K E zkK):=by
 intro pins s σ H x y v u Q I rx ry ⟨ι,h,d1,d2,r1,r2,hr,q⟩
 obtain ⟨a,ds,xs,e1,e2,ec,c,q2⟩:=zjr q
 obtain ⟨c1,c2,c3⟩:=zjB c
 obtain ⟨as,ra⟩:=zeX I r1 rx e1
 rcases ec with rfl | rfl
 ·obtain ⟨bs,rb⟩:=zeX I r2 ry (p:= .tuple xs) (by unfold pd;rw [e2];rfl)
  exact SeqAt.notIn_tuple_reads rb ra c2 c1 ⋯ ⟨.bl _,H,I,rfl,Fin.out hr q2 (.bl _) (by simp [Rel])⟩
 ·obtain ⟨bs,rb⟩:=zeX I r2 ry (p:= .list xs) (by unfold pd;rw [e2];rfl)
  exact SeqAt.notIn_list_reads rb ra c2 c1 ⋯ ⟨.bl _,H,I,rfl,Fin.out hr q2 (.bl _) (by simp [Rel])⟩
end
end L3
namespace HT
open L2
section
variable {prog:Program} {w:World} {A:Around} {E:Value->Shared->Prop} {s:Shared}
theorem zdH {t sl:Addr} {items:Array Value} {vl vu:Value} {lo hi:Option Int} {Q:Value->Shared->Prop} (ht:IsTup s.heap t items) (hs:s.heap.IsSliceOf sl vl vu .none) (pl:IsPart vl lo) (pu:IsPart vu hi)
  (hw:sIx items.size 0 lo=0/\sIx items.size items.size hi=items.size) (h:Q (.ref t) s):wpAny (model prog w) A (getItem (.ref t) (.ref sl)) Q E s:=by
 obtain ⟨os,hos,hcs,hds⟩:=id hs
 have hTs:s.TypeIs (.ref sl) "slice":=⟨os,hos,hcs⟩
 unfold getItem
 try with_reducible refine qaO ?_
 first | refine qaW (qaX ?_) | skip
 refine qaW (wpAny_sequenceKey ht.typeIs (by decide) ?_)
 refine qaW (wpAny_callSpecial?_slot (name:=Str.ofString "__getitem__") ht.typeIs PyProof.Rows.slot_tuple_getitem
   (wpAny_call_entry PyProof.Rows.slot_tuple_getitem ht.typeIs entry_tuple_getitem ?_ (args_tuple_getitem _ _)))
 show wpAny _ _ (Builtin.Tuple.tupleItemsOf (.ref t)>>=_) _ _ s
 refine qaW (tupleItemsOf_ ht ?_)
 refine qaW (wpAny_typeOf hTs ?_)
 rw [qa4 (by decide)]
 refine qaW (zc9 hs pl pu ?_)
 show wpAny _ _ (if (((sIx items.size 0 lo:Nat):Int)==0 && (1:Int)==1 && (sIx items.size items.size hi - sIx items.size 0 lo)==items.size)=true then _ else _) _ _ s
 rw [hw.1,hw.2,qa4 (by simp)]
 refine qaW (m:=Builtin.Tuple.tupleIsExact _) (qaW (wpAny_typeOf ht.typeIs (qaX ?_)))
 rw [qa4 (by decide)]
 refine qaW (wpAny_rule ?_)
 exact qaX ⟨_,rfl,qaX h⟩
end
end HT
namespace L2
section
variable {X:Cx} {e:Expr} {te:TE} {pos p2:Pos}
theorem zpY:SlR X (fun x lo hi H Q=> ∃ a xs,x= .ref a/\SqT X.K H a xs/\(HT.sIx xs.length 0 lo=0/\HT.sIx xs.length xs.length hi=xs.length)/\Q (.ref a) H):=by
 intro pins s σ H x v vl vu lo hi sl Q I rx hs pl pu h
 obtain ⟨a,xs,rfl,hx,hw,q⟩:=h
 cases rx
 obtain ⟨its,r,ht,hz⟩:=I.tuple hx
 have hlen:its.toArray.size=xs.length:=by rw [qaA];exact r.length.symm
 refine ⟨"tuple",_,PyProof.Rows.slot_tuple_getitem.lookup,ht.typeIs,?_⟩
 exact HT.zdH ht hs pl pu (by rw [hlen];exact hw) ⟨.ref a,H,I,rfl,q⟩
theorem zeG:fillsNumberSlot (.type "tuple") "mul"=pure false:=
 PySem.fillsNumberSlot_seq (id:="tuple.__mul__") (r:=some (.builtin "tuple.__rmul__")) F.slot_tuple_mul.lookup ⋯ F.slot_tuple_rmul.lookup ⋯
theorem zhl:seqRepeat? (.type "tuple")=pure (some (.builtin "tuple.__mul__")):=by
 unfold seqRepeat?
 rw [PySem.seqSlot_of (T:="tuple") (name:="__mul__") (id:="tuple.__mul__") F.slot_tuple_mul.lookup ⋯,PySem.seqSlot_of (T:="tuple") (name:="__rmul__") (id:="tuple.__rmul__") F.slot_tuple_rmul.lookup ⋯]
 rfl
theorem zfv (k:Int) (t:Tok) (l:Addr) (items:Array Value) (n:Nat) (dd:Option Addr) (sl:Array (Option Value)):
  Meets (Builtin.«int.__rmul__» ⟨[.int k t,.ref l],[]⟩) (fun _ R s=>s.heap.get? l=some {cls:= .type "tuple",dict:=dd,data:= .seq items n,slots:=sl}/\R (.ok (.ret Value.notImplemented)) s):=
 .of_wp fun prog w A R s h=>by obtain ⟨hp,g,d,tk,os⟩:=s;obtain ⟨hl,h⟩:=h;wp_walk;exact ⟨_,rfl,h⟩
theorem zlh (k:Int) (t:Tok) (l:Addr) (items:Array Value) (n:Nat) (dd:Option Addr) (sl:Array (Option Value)) (hne:items.isEmpty=false) (hk:2<=k) (hk2:k<1000) (hz:items.size*k.toNat<=sizeLine):
  Meets (Builtin.«tuple.__mul__» ⟨[.ref l,.int k t],[]⟩) (fun _ R s=>s.heap.get? l=some {cls:= .type "tuple",dict:=dd,data:= .seq items n,slots:=sl}/\
    R (.ok (.ret (.ref s.heap.objs.size))) {s with heap:=s.heap.push {cls:= .type "tuple",data:= .seq ((List.replicate k.toNat items).foldl (· ++ ·) #[])}}):=
 .of_wp fun prog w A R s h=>by
  obtain ⟨hp,g,d,tk,os⟩:=s;obtain ⟨hl,h⟩:=h
  unfold Builtin.«tuple.__mul__» 
  wp_walk
  have hk63: ¬(decide (k< -2^63) || decide (k>=2^63))=true:=by
   rw [Bool.or_eq_true,qaD,qaD]
   omega
  rw [qa5 hk63]
  dsimp only
  have ht:IsTup hp l items:=⟨_,hl,rfl,_,rfl⟩
  refine qaW (tupleItemsOf_ ht ?_)
  have h1: ¬(items.isEmpty || k==1)=true:=by
   rw [hne,Bool.false_or,beq_iff_eq]
   omega
  rw [qa5 h1]
  have h2: ¬(decide (k<=0) || items.isEmpty)=true:=by
   rw [hne,Bool.or_false,qaD]
   omega
  rw [qa5 h2]
  have hk0:((k.toNat:Nat):Int)=k:=Int.toNat_of_nonneg ⋯
  have hm:((items.size:Nat):Int)*k=((items.size*k.toNat:Nat):Int):=by rw [Int.natCast_mul,hk0]
  have hsl:(sizeLine:Nat)=16777216:=by decide
  have h3: ¬((items.size:Int)*k>(2^63 - 1) / 8):=by
   rw [hm]
   omega
  rw [qa5 h3]
  have h4: ¬Builtin.Tuple.tupleTooMany ((items.size:Int)*k)=true:=by
   unfold Builtin.Tuple.tupleTooMany
   rw [hm,qaD]
   omega
  rw [qa5 h4]
  have hsz:sizeOk (.seq (List.foldl (fun x1 x2=>x1++x2) #[] (List.replicate k.toNat items))):=by
   show (List.foldl (fun x1 x2=>x1++x2) #[] (List.replicate k.toNat items)).size<=sizeLine
   have e: ∀ (m:Nat) (acc:Array Value),(List.foldl (fun x1 x2=>x1++x2) acc (List.replicate m items)).size=acc.size+m*items.size:=by
    intro m
    induction m with
    | zero=>intro acc;simp
    | succ m ih=>intro acc;rw [List.replicate_succ,List.foldl_cons,ih,Array.size_append,Nat.succ_mul];omega
   rw [e,Nat.mul_comm]
   simpa using hz
  exact qaW (m:=Builtin.Tuple.tupleExact _) (qaC (qaX ⟨_,rfl,h⟩) hsz)
theorem zpx:OpR X (binaryOp .Mult) (fun x y H Q=> ∃ a k xs,x= .ref a/\y= .int k/\SqT X.K H a xs/\xs≠[]/\2<=k/\k<1000/\xs.length*k.toNat<=sizeLine/\ ∀ p,H p=none->Q (.ref p) (upd H p (.tup (List.replicate k.toNat xs).flatten))):=by
 intro pins s σ H x y v u Q I rx ry h
 obtain ⟨a,k,xs,rfl,rfl,hx,hne,h1,h2,hz,q⟩:=h
 cases rx
 obtain ⟨t,rfl⟩:=ry
 obtain ⟨its,r,ht,_⟩:=I.tuple hx
 have hl:=r.length
 obtain ⟨⟨cls,dd,data,sl⟩,ho,hc,n,hd⟩:=id ht
 simp only at hc hd
 subst hc hd
 have hemp:its.toArray.isEmpty=false:=by
  cases its with
  | nil=>cases r;exact absurd rfl hne
  | cons _ _=>simp
 refine wpAny_binaryOp_repeat_ref (T:="tuple") (U:="int") (by decide) ⟨_,ho,rfl⟩ (fun s'=>typeIs_int s' k t) zeG F.fills_int_mul F.slot_int_rmul zhl F.slot_int_index.lookup
  (call_meets F.slot_int_rmul (typeIs_int s k t) F.entry_int_rmul (F.args_int_rmul_2 _ _) (zfv k t a its.toArray n dd sl)
    ⟨ho,rfl,⟨_,ho,rfl⟩,call_meets F.slot_tuple_mul ⟨_,ho,rfl⟩ F.entry_tuple_mul (F.args_tuple_mul_2 _ _) (zlh k t a its.toArray n dd sl hemp h1 h2 (by rw [qaA, <-hl];exact hz)) ⟨ho,?_⟩⟩)
 have hnew:List.foldl (fun x1 x2=>x1++x2) #[] (List.replicate k.toNat its.toArray)=(List.replicate k.toNat its).flatten.toArray:=by
  have:=zhR its k.toNat []
  rw [List.nil_append] at this
  exact this
 rw [hnew]
 refine ⟨.ref _,_,I.laid (t':=s.toks) (o:= .tup (List.replicate k.toNat xs).flatten) (fun b ob q=>qag _ q) (qaV _) ?_,rfl,q _ (I.hok.fresh (qaV _))⟩
 exact ⟨by rw [zpD,Nat.mul_comm];exact hz,_,r.rep k.toNat,zkr.new _ _⟩
end
end L2
namespace LT
abbrev Up (xs:Array Nat):Prop:=xs.toList.Pairwise (· < ·)
theorem Up.lt {xs:Array Nat} (h:Up xs) {i j:Nat} {a b:Nat} (hi:xs[i]? = some a) (hj:xs[j]? = some b) (hij:i<j):a<b:=by
 have hi':xs.toList[i]? = some a:=by simpa using hi
 have hj':xs.toList[j]? = some b:=by simpa using hj
 obtain ⟨h1,e1⟩:=qac.mp hi'
 obtain ⟨h2,e2⟩:=qac.mp hj'
 have:=List.pairwise_iff_getElem.mp h i j h1 h2 hij
 rw [e1,e2] at this
 exact this
theorem zgL {xs:Array Nat} (h:Up xs) (j:Nat): ∀ (fuel lo hi:Nat),hi - lo<=fuel->lo<=hi->hi<=xs.size->(∀ i a,i<lo->xs[i]? = some a->a<j)->(∀ i a,hi<=i->xs[i]? = some a->j<=a)->
  let r:=SetTable.below.go xs j fuel lo hi
  r<=xs.size/\(∀ i a,i<r->xs[i]? = some a->a<j)/\(∀ i a,r<=i->xs[i]? = some a->j<=a)
 | 0,lo,hi,hf,hl,hs,h1,h2=>by
  have e:lo=hi:=by omega
  subst e
  exact ⟨hs,h1,h2⟩
 | fuel+1,lo,hi,hf,hl,hs,h1,h2=>by
  unfold SetTable.below.go
  by_cases hlt:lo<hi
  ·rw [qa4 hlt]
   have hm:(lo+hi) / 2<xs.size:=by omega
   have em:xs[(lo+hi) / 2]? = some xs[(lo+hi) / 2]:=by simp [hm]
   have eg:xs.getD ((lo+hi) / 2) j=xs[(lo+hi) / 2]:=by simp [Array.getD,hm]
   dsimp only
   by_cases hc:xs.getD ((lo+hi) / 2) j<j
   ·rw [qa4 hc]
    refine zgL h j fuel _ hi ⋯ ⋯ hs (fun i a hi' e=> ?_) h2
    rw [eg] at hc
    by_cases z:i=(lo+hi) / 2
    ·subst z;rw [em] at e;cases e;exact hc
    ·exact Nat.lt_trans (h.lt e em ⋯) hc
   ·rw [qa5 hc]
    refine zgL h j fuel lo _ ⋯ ⋯ ⋯ h1 fun i a hi' e=> ?_
    rw [eg] at hc
    by_cases z:i=(lo+hi) / 2
    ·subst z;rw [em] at e;cases e;omega
    ·have:=h.lt em e ⋯
     omega
  ·rw [qa5 hlt]
   have e:lo=hi:=by omega
   subst e
   exact ⟨hs,h1,h2⟩
theorem zgb {xs:Array Nat} (h:Up xs) (j:Nat):SetTable.below xs j<=xs.size/\(∀ i a,i<SetTable.below xs j->xs[i]? = some a->a<j)/\(∀ i a,SetTable.below xs j<=i->xs[i]? = some a->j<=a):=
 zgL h j xs.size 0 xs.size ⋯ (Nat.zero_le _) (qaV _) (fun _ _ z=>absurd z (Nat.not_lt_zero _)) fun i a z e=>by
  have:=(qab.mp e).1
  omega
theorem zfX {xs:Array Nat} (h:Up xs) {k a:Nat} (e:xs[k]? = some a):SetTable.below xs (a+1)=k+1:=by
 obtain ⟨h1,h2,h3⟩:=zgb h (a+1)
 by_cases c:SetTable.below xs (a+1)<=k
 ·have:=h3 k a c e
  omega
 ·by_cases c2:k+1<SetTable.below xs (a+1)
  ·have hl:k+1<xs.size:=by omega
   have e2:xs[k+1]? = some xs[k+1]:=by simp [hl]
   have a1:=h2 (k+1) _ c2 e2
   have a2:=h.lt e e2 ⋯
   omega
  ·omega
theorem zfW {xs:Array Nat} (h:Up xs):SetTable.below xs 0=0:=by
 obtain ⟨h1,h2,h3⟩:=zgb h 0
 by_cases c:SetTable.below xs 0=0
 ·exact c
 ·have hl:0<xs.size:=by omega
  exact absurd (h2 0 _ ⋯ (show xs[0]? = some xs[0] by simp [hl])) (Nat.not_lt_zero _)
theorem zkL {xs:Array Nat} (h:Up xs) {j:Nat} (hn:xs[SetTable.below xs j]? ≠ some j):Up (SetTable.insertAt xs (SetTable.below xs j) j):=by
 obtain ⟨h1,h2,h3⟩:=zgb h j
 show (SetTable.insertAt xs (SetTable.below xs j) j).toList.Pairwise (· < ·)
 rw [SetTable.toList_insertAt]
 rw [qaq]
 have hsplit:xs.toList.take (SetTable.below xs j)++xs.toList.drop (SetTable.below xs j)=xs.toList:=qam ..
 have hp:(xs.toList.take (SetTable.below xs j)++xs.toList.drop (SetTable.below xs j)).Pairwise (· < ·):=by rw [hsplit];exact h
 obtain ⟨p1,p2,p3⟩:=qaq.mp hp
 have tk: ∀ a∈xs.toList.take (SetTable.below xs j),a<j:=fun a ha=>by
  obtain ⟨i,hi⟩:=List.mem_iff_getElem?.mp ha
  rw [List.getElem?_take] at hi
  split at hi
  ·rename_i hlt
   exact h2 i a hlt (by simpa using hi)
  ·cases hi
 have dr: ∀ a∈xs.toList.drop (SetTable.below xs j),j<a:=fun a ha=>by
  obtain ⟨i,hi⟩:=List.mem_iff_getElem?.mp ha
  rw [List.getElem?_drop] at hi
  have hi':xs[SetTable.below xs j+i]? = some a:=by simpa using hi
  have a1:=h3 _ a ⋯ hi'
  rcases Nat.lt_or_eq_of_le a1 with z | z
  ·exact z
  ·subst z
   exfalso
   cases i with
   | zero=>exact hn hi'
   | succ i=>
    have hl:=(qab.mp hi').1
    have e0:xs[SetTable.below xs j]? = some xs[SetTable.below xs j]:=by
     have:SetTable.below xs j<xs.size:=by omega
     simp [this]
    have b1:=h3 _ _ (qaV _) e0
    have b2:=h.lt e0 hi' ⋯
    omega
 refine ⟨p1,qay.mpr ⟨dr,p2⟩,fun a ha b hb=> ?_⟩
 rcases qaP.mp hb with z | z
 ·rw [z];exact tk a ha
 ·exact p3 a ha b z
structure zij (t:SetTable) (led:Bool):Prop where
 up:Up t.place
 nod:t.dummies= #[]
 led:t.led=led
theorem zjn {j:Nat}:SetTable.has #[] j=false:=by
 unfold SetTable.has
 simp
theorem zmA {t:SetTable} {led:Bool} (g:zij t led) {j:Nat} (h:t.slot j= .empty):t.place[SetTable.below t.place j]? ≠ some j:=fun e=>by
 unfold SetTable.slot at h
 dsimp only at h
 rw [e] at h
 simp at h
theorem zjb {t:SetTable} {led:Bool} (g:zij t led) (f:Nat->Int) (h:Int): ∀ (fuel:Nat) (p:SetTable.Probe) (j:Nat) (d:Option Nat),p.dummy=none->SetTable.probe.go t f h fuel p=some (.empty j d)->t.slot j= .empty/\d=none
 | 0,_,_,_,_,e=>by cases e
 | fuel+1,p,j,d,hp,e=>by
  unfold SetTable.probe.go at e
  have adv: ∀ q:SetTable.Probe,q.dummy=none->(t.advance q).dummy=none:=fun q hq=>by
   unfold SetTable.advance
   split<;>exact hq
  split at e
  ·rename_i hs
   cases e
   exact ⟨hs,hp⟩
  ·rename_i hs
   exfalso
   unfold SetTable.slot at hs
   dsimp only at hs
   rw [g.nod,zjn] at hs
   split at hs<;>simp at hs
  ·split at e
   ·cases e
   ·exact zjb g f h fuel _ j d (adv p hp) e
theorem zgS {t:SetTable} {led:Bool} (g:zij t led) {h:Int} {j:Nat} {b:Bool} (e:t.freeSlot h=some (j,b)):t.place[SetTable.below t.place j]? ≠ some j:=by
 unfold SetTable.freeSlot at e
 split at e
 ·rename_i j' d' hpr
  obtain ⟨h1,h2⟩:=zjb g _ _ _ _ _ _ rfl hpr
  subst h2
  cases e
  exact zmA g h1
 ·cases e
theorem zn5 (n:Nat):Up (Array.range n):=by
 show (Array.range n).toList.Pairwise (· < ·)
 rw [Array.toList_range]
 exact List.pairwise_lt_range
theorem zcw {t:SetTable} {led:Bool} (g:zij t led) (n:Nat):zij (t.standIn n) led:=⟨zn5 n,rfl,g.led⟩
theorem zid {t:SetTable} {led:Bool} (g:zij t led) (es:Array (Int×Value)) (h:Int) (x:Value):zij (layNew t es h x).2.1 led:=by
 unfold layNew
 split
 ·rename_i slot wasDummy e
  have g2:zij (t.put slot).1 led:=by
   refine ⟨zkL g.up (zgS g e),?_,g.led⟩
   show (if SetTable.has t.dummies slot then _ else t.dummies)= #[]
   rw [g.nod,zjn]
   rfl
  show zij ((t.put slot).1.orStandIn _) led
  unfold SetTable.orStandIn
  split
  ·exact g2
  ·exact zcw g2 _
 ·exact zcw g _
theorem zkZ {mask finger moves:Nat} {led plain:Bool} {hs:Array Int} {t:SetTable} {o:Array Nat} (e:SetTable.laid mask finger moves led plain hs=some (t,o)):zij t led:=by
 unfold SetTable.laid at e
 cases z:SetTable.layClean mask hs with
 | none=>rw [z] at e;cases e
 | some owner=>
  rw [z] at e
  have e:some (({mask,place:=(((List.range (mask+1)).filterMap fun j=>(owner.getD j none).map (j, ·)).map (·.1)).toArray,dummies:= #[],finger,led,moves,plain}:SetTable),_)=some (t,o):=e
  cases e
  refine ⟨?_,rfl,rfl⟩
  show (((List.range (mask+1)).filterMap fun j=>(owner.getD j none).map (j, ·)).map (·.1)).toArray.toList.Pairwise (· < ·)
  rw [List.toList_toArray,List.map_filterMap]
  have sub:List.Sublist ((List.range (mask+1)).filterMap fun j=>((owner.getD j none).map (j, ·)).map (·.1)) (List.range (mask+1)):=by
   generalize List.range (mask+1)=l
   induction l with
   | nil=>exact .slnil
   | cons a r ih=>
    rw [qat]
    cases q:owner.getD a none with
    | none=>exact ih.cons a
    | some v=>exact ih.cons₂ a
  exact List.pairwise_lt_range.sublist sub
theorem zgy {t:SetTable} {led:Bool} (g:zij t led) (es:Array (Int×Value)) (wanted:Nat):zij (relayAll t es wanted).2.1 led:=by
 unfold relayAll
 split
 ·rename_i t' order e
  have g2:zij t' t.led:=zkZ e
  rw [g.led] at g2
  dsimp only
  split
  ·exact g2
  ·exact zcw g _
 ·exact zcw g _
def zc5 (w:World):Bool:= !w.params.followText "set-order"
def zgU (prog:Program) (w:World) (h:Heap) (a:Addr) (S:Int->Bool) (n:Nat):Prop:=
 ∃ ob es ep tb,(h.get? a=some ob/\ob.ExactSet/\ob.data= .set es ep tb)/\ElemsOf (intKind prog w) es.toList/\(∀ k,S k=true↔ ∃ e∈es.toList,(intKind prog w).is k e.2=true)/\
  (es.size<scanBound/\tb.fits es.size=true/\es.size=n)/\zij tb (zc5 w)
theorem zgU.move {prog:Program} {w:World} {h h':Heap} {a:Addr} {S S':Int->Bool} {n n':Nat} (g:zgU prog w h a S n) (k: ∀ ob,h.get? a=some ob->h'.get? a=some ob) (e: ∀ k,S k=S' k) (en:n=n'):zgU prog w h' a S' n':=by
 obtain ⟨ob,es,ep,tb,⟨h1,h2,h3⟩,h4,h5,⟨h6,h7,h8⟩,h9⟩:=g
 exact ⟨ob,es,ep,tb,⟨k ob h1,h2,h3⟩,h4,fun z=>by rw [<- e z];exact h5 z,⟨h6,h7,h8.trans en⟩,h9⟩
section
variable {prog:Program} {w:World} {A:Around} {E:Value->Shared->Prop} {s:Shared}
theorem stored {a:Addr} {ob:Obj} {es es':Array (Int×Value)} {ep:Nat} {tb tb':SetTable} {S:Int->Bool} {R:Unit->Shared->Prop} (ho:s.heap.get? a=some ob) (hx:ob.ExactSet) (hd:ob.data= .set es ep tb)
  (hE:ElemsOf (intKind prog w) es'.toList) (hS: ∀ k,S k=true↔ ∃ e∈es'.toList,(intKind prog w).is k e.2=true) (hb:es'.size<scanBound) (hf:tb'.fits es'.size=true) (hg:zij tb' (zc5 w))
  (q: ∀ h',Heap.SameBut a s.heap h'->h'.get? a=some {ob with data:= .set es' (ep+1) tb'}->zgU prog w h' a S es'.size->R () {s with heap:=h'}):wpAny (model prog w) A (storeSet a es' tb') R E s:=by
 have put:=putSet_of es' tb' hd
 have at1:(s.heap.update a (Obj.putSet es' tb')).get? a=some {ob with data:= .set es' (ep+1) tb'}:=by
  have z:=qal (Obj.putSet es' tb') ho (by rw [put];rfl)
  rwa [put] at z
 exact wpAny_storeSet_of ho hd (q _ (Heap.SameBut.update ..) at1 ⟨_,es',ep+1,tb',⟨at1,hx,rfl⟩,hE,hS,⟨hb,hf,rfl⟩,hg⟩) (fits_of_scanBound hb)
theorem zvI {a:Addr} {S:Int->Bool} {n:Nat} {k:Int} {t:Tok} {Q:Bool->Shared->Prop} (g:zgU prog w s.heap a S n) (room:n+1<scanBound)
  (q: ∀ h' b,Heap.SameBut a s.heap h'->zgU prog w h' a (fun z=>S z || decide (z=k)) (if S k then n else n+1)->Q b {s with heap:=h'}):
  wpAny (model prog w) A (setAddHashed a (.int k t) ((intKind prog w).hash k)) Q E s:=by
 have kis:(intKind prog w).is k (.int k t)=true:=intKind_is _ _ _ _
 obtain ⟨ob,es,ep,tb,⟨h1,h2,h3⟩,h4,h5,⟨h6,h7,h8⟩,h9⟩:=g
 have scn:(Value.int k t).scannable=true:=rfl
 unfold setAddHashed setAddHashedIn
 refine qaO (qaW (wpAny_setState_of h1 h3 h7 ?_))
 dsimp only
 rw [qa4 (byScan_of scn h6 h4)]
 refine qaW ?_
 unfold setAddByScan
 refine qaW (wpAny_rule (qaW (wpAny_setScan_of kis h1 h3 h7 h4 ?_)))
 cases fi:List.findIdx? (fun e=>(intKind prog w).is k e.2) es.toList with
 | some j=>
  obtain ⟨lj,pj,_⟩:=List.findIdx?_eq_some_iff_getElem.mp fi
  have inS:S k=true:=(h5 k).mpr ⟨_,List.getElem_mem lj,pj⟩
  refine qaX (qaX ?_)
  have z:=q s.heap false (Heap.SameBut.refl ..) ⟨ob,es,ep,tb,⟨h1,h2,h3⟩,h4,fun y=> ?_,⟨h6,h7,by rw [inS];exact h8⟩,h9⟩
  ·exact z
  ·rw [<- h5 y,Bool.or_eq_true,qaD]
   exact ⟨fun c=>c.elim id fun c=>by rw [c];exact inS,.inl⟩
 | none=>
  have noS:S k=false:=by
   rw [<- Bool.not_eq_true,h5 k]
   rintro ⟨e,he,pe⟩
   have:=List.findIdx?_eq_none_iff.mp fi e he
   rw [pe] at this
   cases this
  have L1:=layNew_perm tb es ((intKind prog w).hash k) (.int k t)
  have L2:=layNew_fits tb es ((intKind prog w).hash k) (.int k t)
  have L3:=zid h9 es ((intKind prog w).hash k) (.int k t)
  generalize hl:layNew tb es ((intKind prog w).hash k) (.int k t)=ln at L1 L2 L3 ⊢
  obtain ⟨es1,tb1,wd,gv⟩:=ln
  dsimp only at L1 L2 L3 ⊢
  rw [Array.toList_push] at L1
  have E1:ElemsOf (intKind prog w) es1.toList:=(h4.push kis scn).perm L1
  have M1: ∀ y,(S y || decide (y=k))=true↔ ∃ e∈es1.toList,(intKind prog w).is y e.2=true:=mem_push_iff kis h5 L1
  have Z1:es1.size=n+1:=by
   have z:=L1.length_eq
   rw [qav,qas,qas] at z
   rw [z,h8];rfl
  have B1:es1.size<scanBound:=by rw [Z1];exact room
  have quiet: ∀ (b:Bool) (s1:Shared) (R:Unit->Shared->Prop),R () s1->wpAny (model prog w) A (match b with | true=>rule "set.scan.the-table-gave-way" | false=>pure ()) R E s1:=fun b s1 R z=>by
   cases b
   ·exact qaX z
   ·exact wpAny_rule z
  have fin: ∀ (s1:Shared) (h':Heap),s1={s with heap:=h'}->Heap.SameBut a s.heap h'->zgU prog w h' a (fun y=>S y || decide (y=k)) es1.size->Q true s1:=fun s1 h' e1 sb gg=>by
   subst e1
   have z:=q h' true sb
   rw [noS] at z
   exact z (by rw [Z1] at gg;exact gg)
  refine qaW (quiet _ _ _ ?_)
  have tail: ∀ (gw:Bool->Sem Unit),(∀ (b:Bool) (s1:Shared) (R:Unit->Shared->Prop),R () s1->wpAny (model prog w) A (gw b) R E s1)->wpAny (model prog w) A (do
      storeSet a es1 tb1
      if (!wd && tb1.tooFull)=true then do
        gw (relayAll tb1 es1 (SetTable.grown es1.size)).2.2
        storeSet a (relayAll tb1 es1 (SetTable.grown es1.size)).1 (relayAll tb1 es1 (SetTable.grown es1.size)).2.1
        pure (some true)
      else pure (some true)) (fun r s'=>wpAny (model prog w) A (match r with | some b=>pure b | none=>setAddHashedIn a (.int k t) ((intKind prog w).hash k) 99999) Q E s') E s:=by
   intro gw hgw
   refine qaW (stored h1 h2 h3 E1 M1 B1 L2 L3 fun h' sb at1 gg=> ?_)
   by_cases full:(!wd && tb1.tooFull)=true
   ·rw [qa4 full]
    have P2:=relayAll_perm tb1 es1 (SetTable.grown es1.size)
    have F2:=relayAll_fits tb1 es1 (SetTable.grown es1.size)
    have G2:=zgy L3 es1 (SetTable.grown es1.size)
    generalize relayAll tb1 es1 (SetTable.grown es1.size)=rl at P2 F2 G2 ⊢
    obtain ⟨es2,tb2,gv2⟩:=rl
    dsimp only at P2 F2 G2 ⊢
    have Z2:es2.size=es1.size:=by
     have z:=P2.length_eq
     rwa [qas,qas] at z
    refine qaW (hgw _ _ _ (qaW (stored (s:={s with heap:=h'}) (S:=fun y=>S y || decide (y=k)) at1 h2 rfl (E1.perm P2) (fun y=>(M1 y).trans ?_) (by rw [Z2];exact B1) F2 G2 fun h'' sb2 _ gg2=> ?_)))
    ·exact ⟨fun ⟨e,he,pe⟩=>⟨e,P2.mem_iff.mpr he,pe⟩,fun ⟨e,he,pe⟩=>⟨e,P2.mem_iff.mp he,pe⟩⟩
    ·exact qaX (qaX (fin _ h'' rfl (sb.trans sb2) (by rw [Z2] at gg2;exact gg2)))
   ·rw [qa5 full]
    exact qaX (qaX (fin _ h' rfl sb gg))
  split
  ·rw [hashByValue_scannable 8 scn]
   refine qaW (qaX ?_)
   exact tail _ fun b s1 R z=>by cases b<;>first | exact qaX z | exact wpAny_rule z
  ·refine qaW (qaX ?_)
   exact tail _ fun b s1 R z=>by cases b<;>first | exact qaX z | exact wpAny_rule z
end
section
variable {prog:Program} {w:World} {A:Around} {R:Result->Shared->Prop} {it:Addr} {fp wr:List Addr} {G:Array GenState->Array GenState->Prop} {n:Nat} {P:Nat->Value->Prop} {St:Nat->Shared->Prop}
theorem zvc (W:WalksS prog w A.in1 it fp wr G n P St) (a:Addr) (ha:a∉fp) (val:Nat->Int) (hval: ∀ i v,P i v-> ∃ t,v= .int (val i) t) (room:n+1<scanBound):
  ∀ (left i:Nat) (s:Shared),n - i=left->i<=n->St i s->zgU prog w s.heap a (fun z=>(firstMet val i).any (· == z)) (firstMet val i).length->
   (∀ s',Moved (a::wr) G s s'->zgU prog w s'.heap a (fun z=>(firstMet val n).any (· == z)) (firstMet val n).length->R (.ok (.ret .none)) s')->
   codeAny (model prog w) A (.builtin "set.update.loop" ⟨[.ref a,.ref it],[]⟩) R s:=by
 have awr:a∉wr:=fun z=>ha (W.sub _ z)
 have more: ∀ b∈wr,b∈a::wr:=fun b z=> .tail _ z
 intro left
 induction left with
 | zero=>
  intro i s hleft hin st g q
  obtain rfl:i=n:=by omega
  refine codeAny_builtin F.entry_set_update_loop ?_
  rw [qap F.plain_set_update_loop _]
  show wpAny _ _ (pyNext (.ref it)>>=_) _ _ _
  refine qaW (W.done s _ _ st fun s' mv=> ?_)
  exact qaX (q s' (mv.mono more) (g.move (fun ob e=>mv.heap a ob awr e) (fun _=>rfl) rfl))
 | succ left ih=>
  intro i s hleft hin st g q
  have hi:i<n:=by omega
  refine codeAny_builtin F.entry_set_update_loop ?_
  rw [qap F.plain_set_update_loop _]
  show wpAny _ _ (pyNext (.ref it)>>=_) _ _ _
  refine qaW (W.item i s _ _ hi st fun v s1 pv st1 mv=> ?_)
  obtain ⟨t,rfl⟩:=hval i v pv
  have g1:zgU prog w s1.heap a (fun z=>(firstMet val i).any (· == z)) (firstMet val i).length:=g.move (fun ob e=>mv.heap a ob awr e) (fun _=>rfl) rfl
  show wpAny _ _ (holding [Value.int (val i) t] (setAdd a (.int (val i) t))>>=_) _ _ _
  refine qaW (qaO ?_)
  unfold setAdd
  refine qaO (qaW ((intKind prog w).pyHash (k:=val i) (intKind_is _ _ _ _) ?_))
  have few:=firstMet_length_le val i
  refine zvI (s:={s1 with toks:=s1.toks+1}) g1 ⋯ fun h2 b sb g2=> ?_
  have g3:zgU prog w h2 a (fun z=>(firstMet val (i+1)).any (· == z)) (firstMet val (i+1)).length:=
   g2.move (fun _ e=>e) (fun z=>by rw [firstMet_succ,step_any]) (by rw [firstMet_succ,step_length])
  have off: ∀ b,b≠a->h2.get? b=s1.heap.get? b:=fun b hb=>sb.2 b hb
  refine qaX ⟨plainId_quiet F.plain_set_update_loop _,ih (i+1) _ ⋯ hi (W.frame _ s1 _ _ st1 (Nat.le_succ _) fun b hb ob e=> ?_) g3 fun s3 mv3 g4=> ?_⟩
  ·rw [off b fun z=>ha (z▸hb)]
   exact e
  ·refine q s3 (.trans W.gtrans ((mv.mono more).then_heap (Nat.le_succ _) fun b ob hb e=> ?_) mv3) g4
   rw [off b fun z=>hb (z▸ .head _)]
   exact e
end
section
variable {prog:Program} {w:World} {A:Around} {E:Value->Shared->Prop} {s:Shared}
theorem zoI (h:Heap):zgU prog w (h.push {cls:= .type "set",dict:=none,data:= .set #[] 0 (.fresh 0 0 (zc5 w))}) h.objs.size (fun _=>false) 0:=
 ⟨_, #[],0,_,⟨qar _ rfl,⟨rfl,rfl,rfl⟩,rfl⟩,fun e he=>by simp at he,fun k=>by simp,⟨by decide,rfl,rfl⟩,⟨List.Pairwise.nil,rfl,rfl⟩⟩
theorem zvF (x:Value) {Q:Value->Shared->Prop} (q:Q (.ref s.heap.objs.size) {s with heap:=s.heap.push {cls:= .type "set",dict:=none,data:= .set #[] 0 (.fresh 0 0 (zc5 w))}}):
  codeAny (model prog w) A (.call (.builtin "set.__new__") ⟨[.type "set",x],[]⟩) (wants Q E) s:=by
 refine codeAny_of_tree ?_
 show wpAny _ _ (do checkBuiltinCall "set.__new__" ⟨[.type "set",x],[]⟩;again (.builtin "set.__new__" ⟨[.type "set",x],[]⟩)) _ _ _
 refine qaW (wpAny_of_eq (F.newCall_set_1 x) (qaX ⟨plainId_quiet F.plain_set_new _,codeAny_builtin F.entry_set_new ?_⟩))
 rw [qap F.plain_set_new _]
 unfold Builtin.«set.__new__» Builtin.Frozenset.newClass
 have self:=sub_set_self
 obtain ⟨hp,gs,dr,tk,os⟩:=s
 dsimp only
 wp_walk
 refine wpAny_askSetting (qaX ?_)
 dsimp only
 simp only [newObj]
 exact qaW (wpAny_alloc (qaX (qaX q)))
theorem zva {l:Addr} {T:String} {items:Array Value} {ns:List Int} {Q:Value->Shared->Prop} (hh:A.handled=none) (hT:(T="list"/\s.heap.IsList l items)\/(T="tuple"/\s.heap.IsTuple l items)) (hi:IntsAre items.toList ns) (room:items.size+1<scanBound)
  (q: ∀ (h':Heap) (tk:Nat),zgU prog w h' s.heap.objs.size (fun z=>(firstMet (fun i=>ns.getD i 0) items.size).any (· == z)) (firstMet (fun i=>ns.getD i 0) items.size).length->(∀ b ob,s.heap.get? b=some ob->h'.get? b=some ob)->
    Q (.ref s.heap.objs.size) {s with heap:=h',toks:=tk}):wpAny (model prog w) A (call (.type "set") [.ref l]) Q E s:=by
 obtain ⟨c,tl,hmro⟩:=F.called_set.mro
 have hmade:=F.called_set.made
 have hsub:=F.called_set.sub
 refine wpAny_call (codeAny_of_tree ?_)
 show wpAny _ _ (callAny (.type "set") _) _ _ _
 refine qaX ⟨Code.quiet_builtin _ ⋯,codeAny_builtin F.entry_type_call ?_⟩
 rw [Around.under_plain (weight_type_call_type "set" [.ref l] []) rfl]
 have hnt:=F.called_set.notType
 have hcc:=F.called_set.canCreate
 have htc:=F.typeCall_set_1 (.ref l)
 repeat' (first | assumption | wp_step)
 refine codeAny_mono (zvF (.ref l) (E:=E) (Q:=fun v s1=>v= .ref s.heap.objs.size/\s1={s with heap:=s.heap.push {cls:= .type "set",dict:=none,data:= .set #[] 0 (.fresh 0 0 (zc5 w))}}) ⟨rfl,rfl⟩) fun r s1 hr=> ?_
 cases r with
 | error e=>exact hr
 | ok fl=>
  cases fl with
  | ret v=>
   obtain ⟨rfl,rfl⟩:=hr
   have laid:(s.heap.push {cls:= .type "set",dict:=none,data:= .set #[] 0 (.fresh 0 0 (zc5 w))}).get? s.heap.objs.size=some {cls:= .type "set",dict:=none,data:= .set #[] 0 (.fresh 0 0 (zc5 w))}:=qar _ rfl
   have isSet:Shared.TypeIs {s with heap:=s.heap.push {cls:= .type "set",dict:=none,data:= .set #[] 0 (.fresh 0 0 (zc5 w))}} (.ref s.heap.objs.size) "set":=⟨_,laid,rfl⟩
   have hli:=F.called_set.init.lookup
   have hbi:=F.called_set.init.bind (.ref s.heap.objs.size)
   repeat' (first | assumption | wp_step)
   refine codeAny_mono (codeAny_call_builtin (R:=wants (fun z s2=>z= .none/\ ∃ h' tk,s2={s with heap:=h',toks:=tk}/\
       zgU prog w h' s.heap.objs.size (fun z=>(firstMet (fun i=>ns.getD i 0) items.size).any (· == z)) (firstMet (fun i=>ns.getD i 0) items.size).length/\(∀ b ob,s.heap.get? b=some ob->h'.get? b=some ob)) E) F.called_set.init.plain F.entry_set_init (check_set_init_1 isSet ?_)) fun r2 s2 hr2=> ?_
   ·have keepL: ∀ ob,s.heap.get? l=some ob->(s.heap.push {cls:= .type "set",dict:=none,data:= .set #[] 0 (.fresh 0 0 (zc5 w))}).get? l=some ob:=fun ob e=>qag _ e
    have hval: ∀ (i:Nat) (v:Value),items[i]? = some v-> ∃ t,v= .int ((fun i=>ns.getD i 0) i) t:=fun i v hv=>IntsAre.int_at hi i v (by rw [qaj];exact hv)
    have hh3:A.in1.in1.in1.handled=none:=by simp [hh]
    have done1: ∀ (l0:Addr) (h0:Heap) (s':Shared),l0=s.heap.objs.size->Moved [l0,(s.heap.push {cls:= .type "set",dict:=none,data:= .set #[] 0 (.fresh 0 0 (zc5 w))}).objs.size] (fun a b=>b=a) {s with heap:=h0} s'->(∀ b ob,s.heap.get? b=some ob->h0.get? b=some ob)->
      (∀ b ob,s.heap.get? b=some ob->s'.heap.get? b=some ob)/\s'={s with heap:=s'.heap,toks:=s'.toks}:=fun l0 h0 s' e0 mv k0=>by
     refine ⟨fun b ob e=>mv.heap b ob (fun z=> ?_) (k0 b ob e),?_⟩
     ·have lt:=qaQ e
      rw [qaL,e0] at z
      simp only [qaP,qaF,or_false] at z
      rcases z with z | z
      ·exact qaN _ (z▸lt)
      ·exact qaN _ (Nat.lt_of_succ_lt (z▸lt))
     ·obtain ⟨h',g',d',tk',os'⟩:=s'
      have eg:g'=s.gens:=mv.gens
      have ed:d'=s.drawn:=mv.drawn
      have eo:os'=s.os:=mv.os
      subst eg ed eo
      rfl
    unfold Builtin.«set.__init__» noKeywords Builtin.Frozenset.updateFrom
    generalize hPI:pyIter=PI
    rcases hT with ⟨rfl,hl⟩ | ⟨rfl,hl⟩
    ·obtain ⟨⟨ocl,odi,oda,osl⟩,hol,hcl,nl,hdl⟩:=hl
     simp only at hcl hdl
     subst hcl hdl
     have hol':=keepL _ hol
     have f1:=F.sub_list_set
     have f2:=F.sub_list_frozenset
     have f3:(Value.type "list"==Value.type "dict")=false:=by decide
     wp_walk
     subst hPI
     have hl1:(s.heap.push {cls:= .type "set",dict:=none,data:= .set #[] 0 (.fresh 0 0 (zc5 w))}).IsList l items:=⟨_,hol',rfl,nl,rfl⟩
     refine wpAny_pyIter_list hl1 ?_
     refine qaW (wpAny_runValue ?_)
     have ltl:l<s.heap.objs.size:=qaQ hol
     have szp:(s.heap.push {cls:= .type "set",dict:=none,data:= .set #[] 0 (.fresh 0 0 (zc5 w))}).objs.size=s.heap.objs.size+1:=qaL ..
     have ne1:l≠(s.heap.push {cls:= .type "set",dict:=none,data:= .set #[] 0 (.fresh 0 0 (zc5 w))}).objs.size:=by rw [szp];exact qaR (Nat.lt_succ_of_lt ltl)
     have ne2:s.heap.objs.size∉[(s.heap.push {cls:= .type "set",dict:=none,data:= .set #[] 0 (.fresh 0 0 (zc5 w))}).objs.size,l]:=by
      rw [szp]
      simp only [qaP,qaF,or_false]
      rintro (z | z)
      ·exact Nat.succ_ne_self _ z.symm
      ·exact qaN _ (z▸ltl)
     refine zvc ((Walks.list hh3 _ l ne1 items).toS) s.heap.objs.size ne2 (fun i=>ns.getD i 0) hval room _ 0 _ rfl (Nat.zero_le _) ⟨⟨_,qar _ rfl,rfl,rfl⟩,hl1.push _⟩ ?g0 fun s' mv gg=> ?_
     case g0=>exact (zoI s.heap).move (fun ob e=>qag _ e) (fun _=>rfl) rfl
     obtain ⟨k1,k2⟩:=done1 _ _ s' rfl mv fun b ob e=>qag _ (qag _ e)
     exact qaX (qaX ⟨rfl,s'.heap,s'.toks,k2,gg,k1⟩)
    ·obtain ⟨⟨ocl,odi,oda,osl⟩,hol,hcl,nl,hdl⟩:=hl
     simp only at hcl hdl
     subst hcl hdl
     have hol':=keepL _ hol
     have f1:=F.sub_tuple_set
     have f2:=F.sub_tuple_frozenset
     have f3:(Value.type "tuple"==Value.type "dict")=false:=by decide
     wp_walk
     subst hPI
     have hl1:(s.heap.push {cls:= .type "set",dict:=none,data:= .set #[] 0 (.fresh 0 0 (zc5 w))}).IsTuple l items:=⟨_,hol',rfl,nl,rfl⟩
     refine wpAny_pyIter_tuple hl1 ?_
     refine qaW (wpAny_runValue ?_)
     have ltl:l<s.heap.objs.size:=qaQ hol
     have szp:(s.heap.push {cls:= .type "set",dict:=none,data:= .set #[] 0 (.fresh 0 0 (zc5 w))}).objs.size=s.heap.objs.size+1:=qaL ..
     have ne1:l≠(s.heap.push {cls:= .type "set",dict:=none,data:= .set #[] 0 (.fresh 0 0 (zc5 w))}).objs.size:=by rw [szp];exact qaR (Nat.lt_succ_of_lt ltl)
     have ne2:s.heap.objs.size∉[(s.heap.push {cls:= .type "set",dict:=none,data:= .set #[] 0 (.fresh 0 0 (zc5 w))}).objs.size,l]:=by
      rw [szp]
      simp only [qaP,qaF,or_false]
      rintro (z | z)
      ·exact Nat.succ_ne_self _ z.symm
      ·exact qaN _ (z▸ltl)
     refine zvc ((Walks.tuple hh3 _ l ne1 items).toS) s.heap.objs.size ne2 (fun i=>ns.getD i 0) hval room _ 0 _ rfl (Nat.zero_le _) ⟨⟨_,qar _ rfl,rfl,rfl⟩,⟨_,qag _ hol',rfl,nl,rfl⟩⟩ ?g0 fun s' mv gg=> ?_
     case g0=>exact (zoI s.heap).move (fun ob e=>qag _ e) (fun _=>rfl) rfl
     obtain ⟨k1,k2⟩:=done1 _ _ s' rfl mv fun b ob e=>qag _ (qag _ e)
     exact qaX (qaX ⟨rfl,s'.heap,s'.toks,k2,gg,k1⟩)
   ·cases r2 with
    | error e=>exact hr2
    | ok fl2=>
     cases fl2 with
     | ret z=>
      obtain ⟨rfl,h',tk,rfl,gg,k1⟩:=hr2
      repeat' (first | assumption | wp_step)
      exact q _ _ gg k1
     | _=>exact hr2.elim
  | _=>exact hr.elim
end
theorem zaI:Slot "set_iterator" "__next__" "set_iterator.__next__":= .of (owner:="set_iterator") (n:="__next__") (by rw [typeLookup_type,builtinLookup_eq_fast];kernel_rfl) ⋯ ⋯ ⋯ (by first | exact .inl ⋯ | exact .inr ⋯) (by rw [isSubtype_type];kernel_rfl)
theorem zd2:Slot "set_iterator" "__iter__" "set_iterator.__iter__":= .of (owner:="set_iterator") (n:="__iter__") (by rw [typeLookup_type,builtinLookup_eq_fast];kernel_rfl) ⋯ ⋯ ⋯ (by first | exact .inl ⋯ | exact .inr ⋯) (by rw [isSubtype_type];kernel_rfl)
theorem zcK:entryFor table "set_iterator.__next__"=some Builtin.«set_iterator.__next__» := entryFor_of_tree (by kernel_rfl)
theorem zfs:entryFor table "set_iterator.__iter__"=some Builtin.«dict_keyiterator.__iter__» := entryFor_alias (id':="dict_keyiterator.__iter__") (by kernel_rfl) rfl ⋯ (by kernel_rfl)
theorem zc8 (a:Value):argsOk "set_iterator.__next__" ⟨[a],[]⟩:=by unfold argsOk;kernel_rfl
theorem zgM (a:Value):argsOk "set_iterator.__iter__" ⟨[a],[]⟩:=by unfold argsOk;kernel_rfl
theorem zfw:entryFor table "set.__iter__"=some Builtin.«frozenset.__iter__» := entryFor_alias (id':="frozenset.__iter__") (by kernel_rfl) rfl ⋯ (by kernel_rfl)
def SIt (h:Heap) (it a:Addr) (first:Value) (i n ep:Nat):Prop:=h.get? it=some {cls:= .type "set_iterator",dict:=none,data:= .fields #[first,.int i 0,.ref a,.int n 0,.int ep 0],slots:= #[]}
structure zjj (h:Heap) (a:Addr) (es:Array (Int×Value)) (ep:Nat) (tb:SetTable):Prop where
 at_: ∃ ob,h.get? a=some ob/\ob.ExactSet/\ob.data= .set es ep tb
 fits:tb.fits es.size=true
section
variable {prog:Program} {w:World} {A:Around} {E:Value->Shared->Prop} {s:Shared}
theorem zk0 {it a:Addr} {first:Value} {i n ep:Nat} {es:Array (Int×Value)} {tb:SetTable} {Q:Option Value->Shared->Prop} (hI:SIt s.heap it a first i n ep) (hS:zjj s.heap a es ep tb) (hn:es.size=n) (slot:Nat) (hf:first= .int slot 0)
  (q:wpAny (model prog w) A.in1 (do
    match<-setNext a slot i ep with
    | some (x,next)=>
      setField (.ref it) 0 (rawInt next)
      setField (.ref it) 1 (rawInt ((i:Int)+1))
      ret x
    | none=>setField (.ref it) 2 .none;raiseNew (<- newExc (.type "StopIteration") [])) (fun f s'=> ∃ v,f= .done (.ret v)/\Q (some v) s') (fun e s'=>wpAny (model prog w) A (do if<-isInstance e (.type "StopIteration") then pure none else throw e) Q E s') s):
  wpAny (model prog w) A (pyNext (.ref it)) Q E s:=by
 obtain ⟨ob,ho,hx,hd⟩:=hS.at_
 subst hf
 have tI:s.TypeIs (.ref it) "set_iterator":=⟨_,hI,rfl⟩
 unfold pyNext
 refine qaW (wpAny_attempt (wpAny_callSpecial?_slot (name:=Str.ofString "__next__") tI zaI (wpAny_call_entry zaI tI zcK ?_ (zc8 _))))
 unfold Builtin.«set_iterator.__next__»
 refine qaW (m:=slotArgs "__next__" 0 _) (qaX ?_)
 refine qaW (m:=fieldsOf (.ref it)) ?_
 unfold fieldsOf
 refine qaW (wpAny_load hI (qaX ?_))
 refine qaW (wpAny_setEntries_of ho hd hS.fits ?_)
 have same: ¬(((es.size:Nat):Int) != (n:Int))=true:=by rw [hn];simp
 rw [qa5 same]
 exact qaZ q (fun f s' ⟨v,e,z⟩=>⟨v,e,qaX z⟩) fun e s' z=>z
theorem zmo {it:Addr} {r:Shared->Prop} {Q:Option Value->Shared->Prop} (hh:A.handled=none) (q: ∀ h',(∀ b ob,s.heap.get? b=some ob->h'.get? b=some ob)->Q none {s with heap:=h'}):
  wpAny (model prog w) A.in1 (do raiseNew (<- newExc (.type "StopIteration") []):Sem PySem.Fin) (fun f s'=> ∃ v,f= .done (.ret v)/\Q (some v) s') (fun e s'=>wpAny (model prog w) A (do if<-isInstance e (.type "StopIteration") then pure none else throw e) Q E s') s:=by
 refine qaW ?_
 simp only [newExc,newTuple]
 refine qaW (qaC ?_ (by size_fits))
 refine qaW (m:=firstArgMember _ _) (wpAny_of_eq (a:=Value.none) (by first | rfl | (simp only [firstArgMember];rfl)) ?_)
 refine qaC ?_ (by size_fits)
 simp only [raiseNew]
 refine qaW (wpAny_handled ?_)
 rw [show A.in1.handled=none from hh]
 refine qaW (qaX (wpAny_throw ?_))
 refine qaW (wpAny_isInstance (T:="StopIteration") (b:=true) ⟨_,qar _ rfl,rfl⟩ isSubtype_stop ?_)
 exact qaX (q _ fun b ob e=>qag _ (qag _ e))
theorem zf1 {es:Array (Int×Value)} {tb:SetTable} (hf:tb.fits es.size=true):tb.place.size=es.size:=by
 unfold SetTable.fits at hf
 simp only [qaG,beq_iff_eq] at hf
 exact hf.1
theorem zdO {a:Addr} {ep i slot:Nat} {es:Array (Int×Value)} {tb:SetTable} {R:Option (Value×Nat)->Shared->Prop} (hS:zjj s.heap a es ep tb) (led:tb.led=true) (bt:w.params.followText "set-order"=false) (pl:(!tb.plain && decide (es.size>1))=false)
  (q:R (match es[SetTable.below tb.place slot]?, tb.place[SetTable.below tb.place slot]? with | some (_,x),some j=>some (x,j+1) | _,_=>none) s):wpAny (model prog w) A (setNext a slot i ep) R E s:=by
 obtain ⟨ob,ho,hx,hd⟩:=hS.at_
 unfold setNext
 refine qaW (wpAny_setState_of ho hd hS.fits ?_)
 dsimp only
 unfold setsByText
 refine qaW (qaW (wpAny_askSetting (qaX ?_)))
 dsimp only
 rw [show (model prog w).w.params.followText "set-order"=false from bt]
 simp only [qax,if_false]
 show wpAny _ _ (if (!tb.plain && decide (es.size>1))=true then _ else _) _ _ _
 rw [qa5 (by rw [pl];exact Bool.false_ne_true)]
 refine qaW ?_
 show wpAny _ _ (if (!tb.led && !es.isEmpty)=true then _ else _) _ _ _
 rw [qa5 (by rw [led];exact Bool.false_ne_true)]
 exact qaX (qaX q)
theorem zez {a:Addr} {ep i slot:Nat} {es:Array (Int×Value)} {tb:SetTable} {R:Option (Value×Nat)->Shared->Prop} (hS:zjj s.heap a es ep tb) (bt:w.params.followText "set-order"=true)
  (q:R (((pickOrder (w.params.setOrder a ep) es)[i]?).map fun e=>(e.2,slot)) s):wpAny (model prog w) A (setNext a slot i ep) R E s:=by
 obtain ⟨ob,ho,hx,hd⟩:=hS.at_
 unfold setNext
 refine qaW (wpAny_setState_of ho hd hS.fits ?_)
 dsimp only
 unfold setsByText
 refine qaW (qaW (wpAny_askSetting (qaX ?_)))
 dsimp only
 rw [show (model prog w).w.params.followText "set-order"=true from bt]
 simp only [if_true]
 rw [qa5 (by simp)]
 refine qaW ?_
 unfold setWalk
 refine qaW (wpAny_setState_of ho hd hS.fits ?_)
 dsimp only
 unfold setsByText
 refine qaW (qaW (wpAny_askSetting (qaX ?_)))
 dsimp only
 rw [show (model prog w).w.params.followText "set-order"=true from bt]
 simp only [if_true]
 refine qaW (wpAny_askSetting (qaX (qaX q)))
theorem zmK {it a:Addr} {n ep i slot nx:Nat} {x:Value} {es:Array (Int×Value)} {tb:SetTable} {Q:Option Value->Shared->Prop} (hI:SIt s.heap it a (.int slot 0) i n ep) (hS:zjj s.heap a es ep tb) (hn:es.size=n)
  (st: ∀ (R:Option (Value×Nat)->Shared->Prop) (E':Value->Shared->Prop),R (some (x,nx)) s->wpAny (model prog w) A.in1 (setNext a slot i ep) R E' s)
  (q: ∀ h',SIt h' it a (.int nx 0) (i+1) n ep->Heap.SameBut it s.heap h'->Q (some x) {s with heap:=h'}):wpAny (model prog w) A (pyNext (.ref it)) Q E s:=by
 refine zk0 hI hS hn slot rfl (qaW (st _ _ ?_))
 dsimp only
 refine qaW (wpAny_setField_rec hI (by simp) fun h1 a1 sb1=> ?_)
 refine qaW (wpAny_setField_rec (s:={s with heap:=h1}) a1 (by simp) fun h2 a2 sb2=> ?_)
 refine qaX ⟨x,rfl,q h2 ?_ (sb1.trans sb2)⟩
 unfold SIt
 rw [a2]
 simp [rawInt]
theorem zoB {it a:Addr} {n ep i slot:Nat} {es:Array (Int×Value)} {tb:SetTable} {Q:Option Value->Shared->Prop} (hh:A.handled=none) (hI:SIt s.heap it a (.int slot 0) i n ep) (hS:zjj s.heap a es ep tb) (hn:es.size=n)
  (st: ∀ (R:Option (Value×Nat)->Shared->Prop) (E':Value->Shared->Prop),R none s->wpAny (model prog w) A.in1 (setNext a slot i ep) R E' s)
  (q: ∀ h',(∀ b ob,b≠it->s.heap.get? b=some ob->h'.get? b=some ob)->Q none {s with heap:=h'}):wpAny (model prog w) A (pyNext (.ref it)) Q E s:=by
 refine zk0 hI hS hn slot rfl (qaW (st _ _ ?_))
 dsimp only
 refine qaW (wpAny_setField_rec hI (by simp) fun h1 a1 sb1=> ?_)
 exact zmo (r:=fun _=>True) (it:=it) (s:={s with heap:=h1}) hh fun h' k=>q h' fun b ob hb e=>k b ob ((sb1.2 b hb).trans e)
end
theorem zdt {α:Type}: ∀ {l:List α} {i:Nat} {x:α},l[i]? = some x->List.Perm l (x::l.eraseIdx i)
 | [],_,_,e=>by simp at e
 | a::r,0,x,e=>by simp at e;subst e;exact .rfl
 | a::r,i+1,x,e=>by
  have e:r[i]? = some x:=by simpa using e
  exact ((zdt e).cons a).trans (.swap x a _)
theorem zew {α:Type} {l:List α} {i:Nat} {x:α} (e:l[i]? = some x):(l.eraseIdx i).length+1=l.length:=by
 have:=(zdt e).length_eq
 rw [qaE] at this
 exact this.symm
theorem zhH {α:Type} (nx:Nat->Nat): ∀ (fuel k:Nat) (left:List α) (out:Array α),left.length=fuel->List.Perm (pickOrder.go nx fuel k left out).toList (out.toList++left)
 | 0,k,left,out,h=>by
  have:left=[]:=List.length_eq_zero_iff.mp h
  subst this
  simp [pickOrder.go]
 | fuel+1,k,left,out,h=>by
  unfold pickOrder.go
  have hl:nx k % left.length<left.length:=Nat.mod_lt _ ⋯
  have e:left[nx k % left.length]? = some left[nx k % left.length]:=by simp [hl]
  rw [e]
  dsimp only
  have hz:=zew e
  refine (zhH nx fuel (k+1) _ _ ⋯).trans ?_
  rw [Array.toList_push,List.append_assoc]
  exact List.Perm.append_left _ (zdt e).symm
theorem zcH {α:Type} (nx:Nat->Nat) (xs:Array α):List.Perm (pickOrder nx xs).toList xs.toList:=by
 have:=zhH nx xs.size 0 xs.toList #[] (by simp)
 simpa [pickOrder] using this
section
variable {prog:Program} {w:World} {A:Around} {E:Value->Shared->Prop} {s:Shared}
theorem zki {src:Source} {n:Nat} {Q:Nat->Shared->Prop} (hn:n≠0) (q: ∀ k d,k<n->Q k {s with drawn:=d}):wpAny (model prog w) A (choose src n) Q E s:=fun Γ p hΓ=>⟨hn,q _ _ (Nat.mod_lt _ (Nat.pos_of_ne_zero hn))⟩
theorem zey {α:Type}: ∀ (fuel:Nat) (xs:List α) (s:Shared) (Q:List α->Shared->Prop),xs.length<=fuel->(∀ ys d,List.Perm ys xs->Q ys {s with drawn:=d})->wpAny (model prog w) A (drawOrder fuel xs) Q E s
 | 0,xs,s,Q,h,q=>by
  have:xs=[]:=List.length_eq_zero_iff.mp ⋯
  subst this
  unfold drawOrder
  exact qaX (q [] s.drawn .rfl)
 | fuel+1,[],s,Q,h,q=>by
  unfold drawOrder
  exact qaX (q [] s.drawn .rfl)
 | fuel+1,x::r,s,Q,h,q=>by
  unfold drawOrder
  refine qaW (zki (by simp) fun k d hk=> ?_)
  have e:(x::r)[k]? = some (x::r)[k]:=by simp [hk]
  rw [e]
  dsimp only
  have hz:=zew e
  refine qaW (zey fuel ((x::r).eraseIdx k) {s with drawn:=d} _ ⋯ fun ys d' p=>qaX ?_)
  exact q _ d' ((p.cons _).trans (zdt e).symm)
theorem zjR {it a tp:Addr} {n ep i p:Nat} {x:Value} {es:Array (Int×Value)} {tb:SetTable} {ps:Array Value} {Q:Option Value->Shared->Prop} (hI:SIt s.heap it a (.ref tp) i n ep) (hS:zjj s.heap a es ep tb) (hn:es.size=n)
  (hT:s.heap.get? tp=some {cls:= .type "tuple",data:= .seq ps}) (hp:ps[i]? = some (.int (p:Nat) 0)) (he:(es[p]?).map (·.2)=some x)
  (q: ∀ h',SIt h' it a (.ref tp) (i+1) n ep->Heap.SameBut it s.heap h'->Q (some x) {s with heap:=h'}):wpAny (model prog w) A (pyNext (.ref it)) Q E s:=by
 obtain ⟨ob,ho,hx,hd⟩:=hS.at_
 have tI:s.TypeIs (.ref it) "set_iterator":=⟨_,hI,rfl⟩
 unfold pyNext
 refine qaW (wpAny_attempt (wpAny_callSpecial?_slot (name:=Str.ofString "__next__") tI zaI (wpAny_call_entry zaI tI zcK ?_ (zc8 _))))
 unfold Builtin.«set_iterator.__next__»
 refine qaW (m:=slotArgs "__next__" 0 _) (qaX ?_)
 refine qaW (m:=fieldsOf (.ref it)) ?_
 unfold fieldsOf
 refine qaW (wpAny_load hI (qaX ?_))
 refine qaW (wpAny_setEntries_of ho hd hS.fits ?_)
 have same: ¬(((es.size:Nat):Int) != (n:Int))=true:=by rw [hn];simp
 rw [qa5 same]
 refine qaW (m:=seqItems? (.ref tp)) ?_
 unfold seqItems?
 refine qaW (wpAny_load hT (qaX ?_))
 dsimp only
 rw [show ((i:Nat):Int).toNat=i from qaB i,hp]
 dsimp only
 refine qaW (m:=setNextDrawn a _ _) ?_
 unfold setNextDrawn
 refine qaW (wpAny_setState_of ho hd hS.fits ?_)
 dsimp only
 rw [show ((ep:Nat):Int).toNat=ep from qaB ep,show ((p:Nat):Int).toNat=p from qaB p,qa5 (by simp)]
 cases ee:es[p]? with
 | none=>rw [ee] at he;cases he
 | some e=>
  rw [ee] at he
  cases he
  dsimp only
  refine qaX ?_
  refine qaW (wpAny_setField_rec hI (by simp) fun h2 a2 sb2=> ?_)
  refine qaX ⟨_,rfl,qaX (q h2 ?_ sb2)⟩
  unfold SIt
  rw [a2]
  simp [rawInt]
theorem zl3 {it a tp:Addr} {n ep i:Nat} {es:Array (Int×Value)} {tb:SetTable} {ps:Array Value} {Q:Option Value->Shared->Prop} (hh:A.handled=none) (hI:SIt s.heap it a (.ref tp) i n ep) (hS:zjj s.heap a es ep tb) (hn:es.size=n)
  (hT:s.heap.get? tp=some {cls:= .type "tuple",data:= .seq ps}) (hp:ps[i]? = none)
  (q: ∀ h',(∀ b ob,b≠it->s.heap.get? b=some ob->h'.get? b=some ob)->Q none {s with heap:=h'}):wpAny (model prog w) A (pyNext (.ref it)) Q E s:=by
 obtain ⟨ob,ho,hx,hd⟩:=hS.at_
 have tI:s.TypeIs (.ref it) "set_iterator":=⟨_,hI,rfl⟩
 unfold pyNext
 refine qaW (wpAny_attempt (wpAny_callSpecial?_slot (name:=Str.ofString "__next__") tI zaI (wpAny_call_entry zaI tI zcK ?_ (zc8 _))))
 unfold Builtin.«set_iterator.__next__»
 refine qaW (m:=slotArgs "__next__" 0 _) (qaX ?_)
 refine qaW (m:=fieldsOf (.ref it)) ?_
 unfold fieldsOf
 refine qaW (wpAny_load hI (qaX ?_))
 refine qaW (wpAny_setEntries_of ho hd hS.fits ?_)
 have same: ¬(((es.size:Nat):Int) != (n:Int))=true:=by rw [hn];simp
 rw [qa5 same]
 refine qaW (m:=seqItems? (.ref tp)) ?_
 unfold seqItems?
 refine qaW (wpAny_load hT (qaX ?_))
 dsimp only
 rw [show ((i:Nat):Int).toNat=i from qaB i,hp]
 dsimp only
 refine qaW (wpAny_setField_rec hI (by simp) fun h1 a1 sb1=> ?_)
 refine qaW (wpAny_setField_rec (s:={s with heap:=h1}) a1 (by simp) fun h2 a2 sb2=> ?_)
 refine qaZ (zmo (Q:=Q) (E:=E) (r:=fun _=>True) (it:=it) (s:={s with heap:=h2}) hh fun h' k=>q h' fun b ob hb e=>k b ob ((sb2.2 b hb).trans ((sb1.2 b hb).trans e))) (fun f s' ⟨v,e,z⟩=>⟨v,e,qaX z⟩) fun e s' z=>z
theorem zeV {it a:Addr} {first:Value} {i n ep:Nat} {Q:Value->Shared->Prop} (hI:SIt s.heap it a first i n ep) (q:Q (.ref it) s):wpAny (model prog w) A (pyIter (.ref it)) Q E s:=by
 have tI:s.TypeIs (.ref it) "set_iterator":=⟨_,hI,rfl⟩
 refine wpAny_pyIter_slot tI zd2 (wpAny_call_entry zd2 tI zfs ?_ (zgM _))
 show wpAny _ _ (ret (.ref it)) _ _ _
 exact qaX ⟨_,rfl,"set_iterator",_,tI,zaI.lookup,q⟩
theorem zjj.keep {h h':Heap} {a:Addr} {es:Array (Int×Value)} {ep:Nat} {tb:SetTable} (x:zjj h a es ep tb) (k: ∀ ob,h.get? a=some ob->h'.get? a=some ob):zjj h' a es ep tb:=
 ⟨let ⟨ob,h1,h2⟩:=x.at_;⟨ob,k ob h1,h2⟩,x.fits⟩
def zhy (tb:SetTable):Nat->Nat
 | 0=>0
 | i+1=>tb.place.getD i 0+1
theorem zjY (hh:A.handled=none) {it a:Addr} {ep:Nat} {es:Array (Int×Value)} {tb:SetTable} (hne:a≠it) (up:Up tb.place) (led:tb.led=true) (bt:w.params.followText "set-order"=false) (pl:(!tb.plain && decide (es.size>1))=false) (hf:tb.fits es.size=true):
  Walks prog w A it [it,a] [it] es.size (fun i v=> ∃ e,es.toList[i]? = some e/\v=e.2) (fun i h=>SIt h it a (.int (zhy tb i:Nat) 0) i es.size ep/\zjj h a es ep tb) where
 sub:=fun b hb=>by simp at hb;simp [hb]
 frame:=fun i h h' st k=>⟨k it (by simp) _ st.1,st.2.keep fun ob e=>k a (by simp) ob e⟩
 item:=fun i s Q E hi st q=>by
  have pz:=zf1 hf
  have hi2:i<tb.place.size:=by omega
  have bl:SetTable.below tb.place (zhy tb i)=i:=by
   cases i with
   | zero=>exact zfW up
   | succ i=>
    have hi3:i<tb.place.size:=by omega
    have e:tb.place[i]? = some (tb.place.getD i 0):=by simp [hi3,Array.getD]
    exact zfX up e
  have ep':tb.place.getD i 0=tb.place[i]:=by simp [hi2,Array.getD]
  refine zmK (nx:=zhy tb (i+1)) (x:=es[i].2) st.1 st.2 rfl (fun R E' r=>zdO st.2 led bt pl ?_) fun h' a1 sb=> ?_
  ·rw [bl]
   have e1:es[i]? = some es[i]:=by simp [hi]
   have e2:tb.place[i]? = some tb.place[i]:=by simp [hi2]
   rw [e1,e2]
   show R (some (es[i].2,tb.place[i]+1)) s
   have e3:zhy tb (i+1)=tb.place[i]+1:=by show tb.place.getD i 0+1=_;rw [ep']
   rw [<- e3]
   exact r
  ·exact q _ h' s.toks ⟨es[i],by simp [hi],rfl⟩ ⟨a1,st.2.keep fun ob e=>(sb.2 a hne).trans e⟩ fun b ob hb e=>(sb.2 b fun z=>hb (by simp [z])).trans e
 done:=fun s Q E st q=>by
  have pz:=zf1 hf
  have bl:SetTable.below tb.place (zhy tb es.size)=es.size:=by
   cases hz:es.size with
   | zero=>exact zfW up
   | succ i=>
    have hi3:i<tb.place.size:=by omega
    have e:tb.place[i]? = some (tb.place.getD i 0):=by simp [hi3,Array.getD]
    exact zfX up e
  refine zoB hh st.1 st.2 rfl (fun R E' r=>zdO st.2 led bt pl ?_) fun h' k=>q h' s.toks fun b ob hb e=>k b ob (fun z=>hb (by simp [z])) e
  rw [bl]
  have e1:es[es.size]? = none:=by simp
  rw [e1]
  exact r
 self:=fun i s Q E st q=>zeV st.1 q
theorem zlr (hh:A.handled=none) {it a:Addr} {ep:Nat} {es:Array (Int×Value)} {tb:SetTable} (hne:a≠it) (bt:w.params.followText "set-order"=true) (hf:tb.fits es.size=true):
  Walks prog w A it [it,a] [it] es.size (fun i v=> ∃ e,(pickOrder (w.params.setOrder a ep) es).toList[i]? = some e/\v=e.2) (fun i h=>SIt h it a (.int (0:Nat) 0) i es.size ep/\zjj h a es ep tb) where
 sub:=fun b hb=>by simp at hb;simp [hb]
 frame:=fun i h h' st k=>⟨k it (by simp) _ st.1,st.2.keep fun ob e=>k a (by simp) ob e⟩
 item:=fun i s Q E hi st q=>by
  have pz:(pickOrder (w.params.setOrder a ep) es).size=es.size:=by
   have:=(zcH (w.params.setOrder a ep) es).length_eq
   simpa using this
  have hi2:i<(pickOrder (w.params.setOrder a ep) es).size:=by omega
  refine zmK (nx:=0) (x:=(pickOrder (w.params.setOrder a ep) es)[i].2) st.1 st.2 rfl (fun R E' r=>zez st.2 bt ?_) fun h' a1 sb=> ?_
  ·have e1:(pickOrder (w.params.setOrder a ep) es)[i]? = some (pickOrder (w.params.setOrder a ep) es)[i]:=by simp [hi2]
   rw [e1]
   exact r
  ·exact q _ h' s.toks ⟨(pickOrder (w.params.setOrder a ep) es)[i],by simp [hi2],rfl⟩ ⟨a1,st.2.keep fun ob e=>(sb.2 a hne).trans e⟩ fun b ob hb e=>(sb.2 b fun z=>hb (by simp [z])).trans e
 done:=fun s Q E st q=>by
  have pz:(pickOrder (w.params.setOrder a ep) es).size=es.size:=by
   have:=(zcH (w.params.setOrder a ep) es).length_eq
   simpa using this
  refine zoB hh st.1 st.2 rfl (fun R E' r=>zez st.2 bt ?_) fun h' k=>q h' s.toks fun b ob hb e=>k b ob (fun z=>hb (by simp [z])) e
  have e1:(pickOrder (w.params.setOrder a ep) es)[es.size]? = none:=by simp [pz]
  rw [e1]
  exact r
 self:=fun i s Q E st q=>zeV st.1 q
theorem zjQ (hh:A.handled=none) {it a tp:Addr} {ep:Nat} {es:Array (Int×Value)} {tb:SetTable} {ys:List Nat} (hne:a≠it) (hne2:tp≠it) (hp:List.Perm ys (List.range es.size)):
  Walks prog w A it [it,a,tp] [it] es.size (fun i v=> ∃ e,(ys.filterMap (es[·]?))[i]? = some e/\v=e.2) (fun i h=>SIt h it a (.ref tp) i es.size ep/\zjj h a es ep tb/\h.get? tp=some {cls:= .type "tuple",data:= .seq (ys.map fun (i:Nat)=>rawInt i).toArray}) where
 sub:=fun b hb=>by simp at hb;simp [hb]
 frame:=fun i h h' st k=>⟨k it (by simp) _ st.1,st.2.1.keep fun ob e=>k a (by simp) ob e,k tp (by simp) _ st.2.2⟩
 item:=fun i s Q E hi st q=>by
  have hl:ys.length=es.size:=by simpa using hp.length_eq
  have hi2:i<ys.length:=by omega
  have lt: ∀ y∈ys,y<es.size:=fun y hy=>by simpa using hp.mem_iff.mp hy
  have lti:=lt _ (List.getElem_mem hi2)
  have fm: ∀ (zs:List Nat),(∀ y∈zs,y<es.size)-> ∀ (j:Nat) (y:Nat),zs[j]? = some y->(zs.filterMap (es[·]?))[j]? = es[y]? := by
   intro zs
   induction zs with
   | nil=>intro _ j y e;simp at e
   | cons z r ih=>
    intro hz j y e
    have lz:=hz z (.head _)
    rw [List.filterMap_cons_some (b:=es[z]) (by simp [lz])]
    cases j with
    | zero=>simp at e;subst e;simp [lz]
    | succ j=>simpa using ih (fun y hy=>hz y (.tail _ hy)) j y (by simpa using e)
  refine zjR (p:=ys[i]) (x:=es[ys[i]].2) st.1 st.2.1 rfl st.2.2 (by simp [hi2,rawInt]) (by simp [lti]) fun h' a1 sb=> ?_
  refine q _ h' s.toks ⟨es[ys[i]],?_,rfl⟩ ⟨a1,st.2.1.keep fun ob e=>(sb.2 a hne).trans e,(sb.2 tp hne2).trans st.2.2⟩ fun b ob hb e=>(sb.2 b fun z=>hb (by simp [z])).trans e
  rw [fm ys lt i ys[i] (by simp [hi2])]
  simp [lti]
 done:=fun s Q E st q=>by
  have hl:ys.length=es.size:=by simpa using hp.length_eq
  exact zl3 hh st.1 st.2.1 rfl st.2.2 (by simp [hl]) fun h' k=>q h' s.toks fun b ob hb e=>k b ob (fun z=>hb (by simp [z])) e
 self:=fun i s Q E st q=>zeV st.1 q
end
section
variable {prog:Program} {w:World} {A:Around} {E:Value->Shared->Prop} {s:Shared}
structure zqJ (prog:Program) (w:World) (a it:Addr) (es:Array (Int×Value)) (ord:List (Int×Value)) (fp:List Addr) (St:Nat->Heap->Prop):Prop where
 walks: ∀ A:Around,A.handled=none->Walks prog w A it fp [it] es.size (fun i v=> ∃ e,ord[i]? = some e/\v=e.2) St
 perm:List.Perm ord es.toList
 mem:it∈fp
theorem zuC {a:Addr} {S:Int->Bool} {n:Nat} {Q:Value->Shared->Prop} (g:zgU prog w s.heap a S n)
  (q: ∀ it es ep tb ord fp St h' d,(∃ ob,s.heap.get? a=some ob/\ob.ExactSet/\ob.data= .set es ep tb)->zqJ prog w a it es ord fp St->St 0 h'->s.heap.objs.size<=it->(∀ b ob,s.heap.get? b=some ob->h'.get? b=some ob)->(∀ b∈fp,b=a\/s.heap.objs.size<=b)->es.size<scanBound->
    Q (.ref it) {s with heap:=h',drawn:=d}):wpAny (model prog w) A (pyIter (.ref a)) Q E s:=by
 obtain ⟨ob,es,ep,tb,⟨h1,h2,h3⟩,h4,h5,⟨h6,h7,h8⟩,h9⟩:=g
 have tS:s.TypeIs (.ref a) "set":=⟨ob,h1,h2.1⟩
 have lta:a<s.heap.objs.size:=qaQ h1
 refine wpAny_pyIter_slot tS F.slot_set_iter (wpAny_call_entry F.slot_set_iter tS zfw ?_ (F.args_set_iter_1 _))
 unfold Builtin.«frozenset.__iter__»
 refine qaW (m:=Builtin.Frozenset.slot0 "__iter__" _) (qaX ?_)
 refine qaW (m:=Builtin.Frozenset.sizeOf a) ?_
 unfold Builtin.Frozenset.sizeOf
 refine qaW (wpAny_setEntries_of h1 h3 h7 (qaX ?_))
 refine qaW (m:=setDrawn a) ?_
 unfold setDrawn
 refine qaW (wpAny_setState_of h1 h3 h7 ?_)
 dsimp only
 unfold setsByText
 refine qaW (qaW (wpAny_askSetting (qaX (qaX ?_))))
 dsimp only
 have sobj: ∀ {h':Heap},(∀ b ob,s.heap.get? b=some ob->h'.get? b=some ob)->zjj h' a es ep tb:=fun k=>⟨⟨ob,k _ _ h1,h2,h3⟩,h7⟩
 by_cases dr:(!(model prog w).w.params.followText "set-order" && (!tb.plain && decide (es.size>1)))=true
 ·show wpAny _ _ (if (!(model prog w).w.params.followText "set-order" && (!tb.plain && decide (es.size>1)))=true then _ else _) _ _ _
  rw [qa4 dr]
  refine qaW (zey es.size (List.range es.size) s _ (by simp) fun ys d hp=> ?_)
  have hl:ys.length=es.size:=by simpa using hp.length_eq
  have small:es.size<=sizeLine:=fits_of_scanBound h6
  refine qaW ?_
  unfold newTuple
  refine qaC ?_ (by show (ys.map fun (i:Nat)=>rawInt i).toArray.size<=sizeLine;simp [hl];exact small)
  unfold setEpoch
  refine qaW (qaW (wpAny_setState_of (s:={s with heap:=_,drawn:=d}) (qag _ h1) h3 h7 (qaX ?_)))
  dsimp only
  refine qaW (qaC (qaX ⟨_,rfl,"set_iterator",_,⟨_,qar _ rfl,rfl⟩,zaI.lookup,?_⟩))
  have z1:(s.heap.push {cls:= .type "tuple",dict:=none,data:= .seq (ys.map fun (i:Nat)=>rawInt i).toArray}).objs.size=s.heap.objs.size+1:=qaL ..
  have kp: ∀ (o2:Obj) b ob,s.heap.get? b=some ob->((s.heap.push {cls:= .type "tuple",dict:=none,data:= .seq (ys.map fun (i:Nat)=>rawInt i).toArray}).push o2).get? b=some ob:=fun o2 b ob e=>qag _ (qag _ e)
  refine q _ es ep tb (ys.filterMap (es[·]?)) [(s.heap.push {cls:= .type "tuple",dict:=none,data:= .seq (ys.map fun (i:Nat)=>rawInt i).toArray}).objs.size,a,s.heap.objs.size] _ _ d ⟨ob,h1,h2,h3⟩ ⟨fun A' hA=>zjQ (tb:=tb) (ep:=ep) hA ?_ ?_ hp,?_,.head _⟩ ⟨?_,sobj (kp _),?_⟩ ?_ (kp _) (fun b hb=> ?_) h6
  ·rw [z1];exact qaR (Nat.lt_succ_of_lt lta)
  ·rw [z1];exact qaR (Nat.lt_succ_self _)
  ·refine (hp.filterMap _).trans ?_
   rw [filterMap_getElem?_range]
  ·exact qar _ rfl
  ·exact qag _ (qar _ rfl)
  ·rw [z1];exact Nat.le_succ _
  ·simp only [qaP,qaF,or_false] at hb
   rcases hb with z | z | z
   ·right;rw [z,z1];exact Nat.le_succ _
   ·exact .inl z
   ·right;rw [z];exact qaV _
 ·show wpAny _ _ (if (!(model prog w).w.params.followText "set-order" && (!tb.plain && decide (es.size>1)))=true then _ else _) _ _ _
  rw [qa5 dr]
  refine qaW (qaX ?_)
  unfold setEpoch
  refine qaW (qaW (wpAny_setState_of h1 h3 h7 (qaX ?_)))
  dsimp only
  refine qaW (qaC (qaX ⟨_,rfl,"set_iterator",_,⟨_,qar _ rfl,rfl⟩,zaI.lookup,?_⟩))
  have kp: ∀ (o2:Obj) b ob,s.heap.get? b=some ob->(s.heap.push o2).get? b=some ob:=fun o2 b ob e=>qag _ e
  have fpl: ∀ b∈[s.heap.objs.size,a],b=a\/s.heap.objs.size<=b:=fun b hb=>by
   simp only [qaP,qaF,or_false] at hb
   rcases hb with z | z
   ·right;rw [z];exact qaV _
   ·exact .inl z
  cases bt:w.params.followText "set-order" with
  | true=>
   exact q _ es ep tb _ [s.heap.objs.size,a] _ _ s.drawn ⟨ob,h1,h2,h3⟩ ⟨fun A' hA=>zlr (tb:=tb) (ep:=ep) hA (qaR lta) bt h7,zcH _ _,.head _⟩ ⟨qar _ rfl,sobj (kp _)⟩ (qaV _) (kp _) fpl h6
  | false=>
   have pl:(!tb.plain && decide (es.size>1))=false:=by
    rw [show (model prog w).w.params.followText "set-order"=false from bt] at dr
    simpa using dr
   have led:tb.led=true:=by
    rw [h9.led]
    unfold zc5
    rw [bt]
    rfl
   exact q _ es ep tb _ [s.heap.objs.size,a] _ _ s.drawn ⟨ob,h1,h2,h3⟩ ⟨fun A' hA=>zjY (tb:=tb) (ep:=ep) hA (qaR lta) h9.up led bt pl h7,.rfl,.head _⟩ ⟨qar _ rfl,sobj (kp _)⟩ (qaV _) (kp _) fpl h6
theorem zn9 {a:Addr} {S:Int->Bool} {n:Nat} {Q:List Value->Shared->Prop} (hh:A.handled=none) (g:zgU prog w s.heap a S n)
  (q: ∀ vs s' es ep tb,(∃ ob,s.heap.get? a=some ob/\ob.ExactSet/\ob.data= .set es ep tb)->List.Perm vs (es.toList.map (·.2))->(∀ b ob,s.heap.get? b=some ob->s'.heap.get? b=some ob)->s'.gens=s.gens->s'.os=s.os->Q vs s'):wpAny (model prog w) A (collect (.ref a)) Q E s:=by
 have tS: ∀ {h':Heap} {s':Shared},s'.heap=h'->(∀ b ob,s.heap.get? b=some ob->h'.get? b=some ob)->s'.TypeIs (.ref a) "set":=fun {h' s'} e k=>by
  obtain ⟨ob,es,ep,tb,⟨h1,h2,h3⟩,_⟩:=g
  exact ⟨ob,by rw [e];exact k _ _ h1,h2.1⟩
 have lta:a<s.heap.objs.size:=by
  obtain ⟨ob,es,ep,tb,⟨h1,h2,h3⟩,_⟩:=g
  exact qaQ h1
 unfold collect
 refine qaW (wpAny_runValue (codeAny_builtin F.entry_proto_collect ?_))
 rw [qap F.plain_proto_collect _]
 show wpAny _ _ (newList []>>=fun l=>again (.builtin "list.__iadd__" ⟨[l,.ref a],[]⟩)) _ _ _
 refine qaW (qaC (qaX ⟨plainId_quiet F.plain_list_iadd _,codeAny_builtin F.entry_list_iadd ?_⟩))
 rw [qap F.plain_list_iadd _]
 show wpAny _ _ (Builtin.List.listExtendWith (.ref s.heap.objs.size) (.ref a) (.ref s.heap.objs.size)) _ _ _
 unfold Builtin.List.listExtendWith
 have k1: ∀ b ob,s.heap.get? b=some ob->(s.heap.push {cls:= .type "list",data:= .seq ([]:List Value).toArray}).get? b=some ob:=fun b ob e=>qag _ e
 refine qaW (wpAny_typeOf (tS rfl k1) ?_)
 have nsame:Builtin.List.listSameRef (.ref s.heap.objs.size) (.ref a)=false:=by
  simp only [Builtin.List.listSameRef,beq_eq_false_iff_ne]
  exact fun z=>qaN _ (z▸lta)
 have nl:(Value.type "set"==Value.type "list")=false:=by decide
 have nt:(Value.type "set"==Value.type "tuple")=false:=by decide
 simp only [nsame,nl,nt,Bool.or_false,qax,if_false]
 refine qaW (zuC (g.move (fun ob e=>k1 _ _ e) (fun _=>rfl) rfl) fun it es ep tb ord fp St h2 d hob W st0 lit k2 fpl few=> ?_)
 refine qaW (qaO ?_)
 unfold Builtin.List.listLengthHint
 have k12: ∀ b ob,s.heap.get? b=some ob->h2.get? b=some ob:=fun b ob e=>k2 b ob (k1 b ob e)
 refine qaW (wpAny_specialOf (tS rfl k12) F.slot_set_len.lookup ?_)
 have sp:splitId "set.__len__"=some ("set","__len__"):=by decide +kernel
 dsimp only
 rw [sp]
 dsimp only
 refine qaW (wpAny_isInstance (tS rfl k12) sub_set_self ?_)
 rw [qa5 (by decide)]
 rw [qa4 ⋯]
 refine qaW (wpAny_typeOf (tS rfl k12) (qaX ?_))
 rw [qa4 ⋯]
 refine qaW (wpAny_rule ?_)
 have l2:h2.get? s.heap.objs.size=some {cls:= .type "list",data:= .seq ([]:List Value).toArray}:=k2 _ _ (qar _ rfl)
 refine qaW ?_
 unfold Builtin.List.listTouch
 show wpAny _ _ (updateSeq s.heap.objs.size (·.push .none)>>=fun _=>updateSeq s.heap.objs.size (·.pop)) _ _ _
 refine qaW (wpAny_updateSeq l2 rfl ?_)
 have l3:=qal (Obj.mapSeq (·.push Value.none)) l2 rfl
 refine wpAny_updateSeq l3 rfl ?_
 have l4:=qal (Obj.mapSeq (·.pop)) l3 rfl
 have oth: ∀ b ob,b≠s.heap.objs.size->h2.get? b=some ob->((h2.update s.heap.objs.size (Obj.mapSeq (·.push Value.none))).update s.heap.objs.size (Obj.mapSeq (·.pop))).get? b=some ob:=fun b ob hb e=>
  (qah _ _ (Ne.symm hb)).trans ((qah _ _ (Ne.symm hb)).trans e)
 have nfp:s.heap.objs.size∉fp:=fun z=>by
  rcases fpl _ z with z | z
  ·exact qaN _ (z▸lta)
  ·rw [show ({s with heap:=s.heap.push {cls:= .type "list",data:= .seq ([]:List Value).toArray}}:Shared).heap.objs.size=s.heap.objs.size+1 from qaL ..] at z
   exact qaN _ z
 have fin: ∀ (s':Shared) (vs:Array Value) (c:Nat),(∀ b ob,s.heap.get? b=some ob->s'.heap.get? b=some ob)->s'.gens=s.gens->s'.os=s.os->s'.heap.get? s.heap.objs.size=some {cls:= .type "list",dict:=none,data:= .seq vs c,slots:= #[]}->ItemsOf (fun i v=> ∃ e,ord[i]? = some e/\v=e.2) vs es.size->
   wpAny (model prog w) A (load s.heap.objs.size>>=fun o=>match o.data with | .seq xs _=>pure xs.toList | _=>unsupported "internal:collect") Q E s':=fun s' vs c k g1 g2 e it1=>by
  refine qaW (wpAny_load e (qaX (q vs.toList s' es ep tb ?_ ?_ k g1 g2)))
  ·obtain ⟨ob,o1,o2⟩:=hob
   obtain ⟨ob',es',ep',tb',⟨p1,p2,p3⟩,_⟩:=g
   have:=k1 _ _ p1
   rw [o1] at this
   cases this
   exact ⟨ob,p1,o2⟩
  ·have hl:ord.length=es.size:=by simpa using W.perm.length_eq
   have e2:vs.toList=ord.map (·.2):=by
    apply List.ext_getElem?
    intro i
    by_cases hi:i<es.size
    ·have hv0:i<vs.size:=by rw [it1.1];exact hi
     have hv:vs[i]? = some vs[i]:=by simp [hv0]
     obtain ⟨e,e1,e2⟩:=it1.2 i _ hv
     rw [List.getElem?_map,e1,qaj,hv,e2]
     rfl
    ·rw [List.getElem?_eq_none (by simp [it1.1];omega),List.getElem?_eq_none (by simp [hl];omega)]
   rw [e2]
   exact W.perm.map _
 have Wk:=(W.walks A.in1 hh).toS
 refine qaX ⟨plainId_quiet F.plain_extend_loop _,codeAny_extend_loopS Wk ?_ _ nfp _ es.size 0 _ _ _ rfl (Nat.zero_le _) ?_ l4 (ItemsOf.nil _) fun s' vs c mv e it1=> ?_⟩
 ·exact fits_of_scanBound few
 ·exact (W.walks A.in1 hh).frame 0 h2 _ st0 fun b hb ob e=>oth b ob (fun z=>nfp (z▸hb)) e
 ·refine fin s' vs c (fun b ob e'=>mv.heap b ob ?_ (oth b ob ?_ (k12 b ob e'))) mv.gens mv.os e it1
  ·intro z
   rcases qaP.mp z with z | z
   ·exact qaN _ (z▸qaQ e')
   ·simp only [qaP,qaF,or_false] at z
    have:=qaQ e'
    rw [z] at this
    exact qaN _ (qaw this (qaS (by rw [qaL];exact Nat.le_succ _) lit))
  ·exact fun z=>qaN _ (z▸qaQ e')
end
def zoF (x:Int):List Int->List Int
 | []=>[x]
 | y::r=>if x<=y then x::y::r else y::zoF x r
def zcv:List Int->List Int
 | []=>[]
 | x::r=>zoF x (zcv r)
theorem zfk (x:Int): ∀ l:List Int,List.Perm (zoF x l) (x::l)
 | []=> .rfl
 | y::r=>by
  unfold zoF
  split
  ·exact .rfl
  ·exact ((zfk x r).cons y).trans (.swap x y r)
theorem znH {x z:Int} {l:List Int}:z∈zoF x l↔z=x\/z∈l:=by rw [(zfk x l).mem_iff,qaP]
theorem zkI (x:Int): ∀ l:List Int,l.Pairwise (· <= ·)->(zoF x l).Pairwise (· <= ·)
 | [],_=>by unfold zoF;simp
 | y::r,h=>by
  obtain ⟨h1,h2⟩:=qay.mp h
  unfold zoF
  split
  ·rename_i hxy
   refine qay.mpr ⟨fun z hz=> ?_,h⟩
   rcases qaP.mp hz with e | hz
   ·rw [e];exact hxy
   ·exact Int.le_trans hxy (h1 z hz)
  ·rename_i hxy
   refine qay.mpr ⟨fun z hz=> ?_,zkI x r h2⟩
   rcases znH.mp hz with e | hz
   ·rw [e];omega
   ·exact h1 z hz
theorem zaF: ∀ l:List Int,List.Perm (zcv l) l
 | []=> .rfl
 | x::r=>(zfk x _).trans ((zaF r).cons x)
theorem zdq: ∀ l:List Int,(zcv l).Pairwise (· <= ·)
 | []=> .nil
 | x::r=>zkI x _ (zdq r)
theorem zeJ {a b:List Int} (hp:a.Perm b) (h:a.Pairwise (· <= ·)):a=zcv b:=W.ksm_same (hp.trans (zaF b).symm) h (zdq b)
def zfq (ns:List Int):List Int:=zcv (ns.foldl step_dedup [])
theorem zmw (ns:List Int): ∀ (acc:List Int) (k:Int),(ns.foldl step_dedup acc).any (· == k)=(acc.any (· == k) || ns.any (· == k)):=by
 induction ns with
 | nil=>intro acc k;simp
 | cons x r ih=>
  intro acc k
  rw [List.foldl_cons,ih,step_any]
  simp only [List.any_cons]
  have:(x==k)=decide (k=x):=by
   by_cases h:k=x
   ·subst h;simp
   ·have h': ¬x=k:=fun e=>h e.symm
    simp [h,h']
  rw [this,Bool.or_assoc]
theorem zkP {ns:List Int} {k:Int}:k∈ns.foldl step_dedup []↔k∈ns:=by
 have:=zmw ns [] k
 simp only [List.any_nil,Bool.false_or] at this
 have e: ∀ l:List Int,k∈l↔(l.any fun x=>x==k)=true:=fun l=>by
  rw [List.any_eq_true]
  constructor
  ·exact fun h=>⟨k,h,by simp⟩
  ·rintro ⟨x,h,c⟩
   have c:x=k:=by simpa using c
   rw [<- c]
   exact h
 rw [e,e,this]
theorem ze7 (ns:List Int): ∀ acc:List Int,acc.Nodup->(ns.foldl step_dedup acc).Nodup:=by
 induction ns with
 | nil=>intro acc h;exact h
 | cons x r ih=>
  intro acc h
  refine ih _ ?_
  unfold step_dedup
  split
  ·exact h
  ·rename_i hx
   rw [List.nodup_append]
   refine ⟨h,by simp,fun a ha b hb=> ?_⟩
   simp only [List.mem_singleton] at hb
   subst hb
   intro e
   subst e
   exact hx (List.any_eq_true.mpr ⟨a,ha,by simp⟩)
theorem zdo {ns:List Int} {k:Int}:k∈zfq ns↔k∈ns:=by unfold zfq;rw [(zaF _).mem_iff,zkP]
theorem zfp (ns:List Int):(zfq ns).Pairwise (· < ·):=by
 have h1:=zdq (ns.foldl step_dedup [])
 have h2:(zfq ns).Nodup:=(zaF _).nodup_iff.mpr (ze7 ns [] List.nodup_nil)
 exact (List.Pairwise.and h1 h2).imp fun ⟨a,b⟩=>by omega
theorem zeY (ns:List Int):firstMet (fun i=>ns.getD i 0) ns.length=ns.foldl step_dedup []:=by
 unfold firstMet
 congr 1
 apply List.ext_getElem?
 intro i
 by_cases hi:i<ns.length
 ·simp [hi,List.getD]
 ·rw [List.getElem?_eq_none (by simp;omega),List.getElem?_eq_none ⋯]
theorem ze0: ∀ {fm ms:List Int},fm.Nodup->(∀ k,k∈fm->k∈ms)->ms.length<=fm.length->List.Perm ms fm
 | [],ms,_,_,h=>by
  have:ms=[]:=List.length_eq_zero_iff.mp (by simpa using h)
  subst this
  exact .rfl
 | x::r,ms,nd,hm,h=>by
  obtain ⟨n1,n2⟩:=List.nodup_cons.mp nd
  have hx:=hm x (.head _)
  have p:=List.perm_cons_erase hx
  have hl:=p.length_eq
  rw [qaE] at hl h
  refine p.trans ((ze0 n2 (fun k hk=> ?_) ⋯).cons x)
  have hne:k≠x:=fun e=>n1 (e▸hk)
  rcases qaP.mp (p.mem_iff.mp (hm k (.tail _ hk))) with e | e
  ·exact absurd e hne
  ·exact e
section
variable {prog:Program} {w:World} {A:Around} {E:Value->Shared->Prop} {s:Shared}
theorem zhn {l l':List Value} {ns:List Int} (p:List.Perm l l') (h:IntsAre l' ns): ∃ ms,IntsAre l ms/\List.Perm ms ns:=by
 induction p generalizing ns with
 | nil=>exact ⟨ns,h,.rfl⟩
 | cons x _ ih=>
  cases h with
  | cons n t h=>
   obtain ⟨ms,h1,h2⟩:=ih h
   exact ⟨n::ms,.cons n t h1,h2.cons n⟩
 | swap x y l=>
  cases h with
  | cons n t h=>
   cases h with
   | cons n' t' h=>exact ⟨n'::n::_,.cons n' t' (.cons n t h),.swap _ _ _⟩
 | trans _ _ ih1 ih2=>
  obtain ⟨ms,h1,h2⟩:=ih2 h
  obtain ⟨ms',h3,h4⟩:=ih1 h1
  exact ⟨ms',h3,h4.trans h2⟩
theorem zfF: ∀ {es:List (Int×Value)},ElemsOf (intKind prog w) es-> ∃ ms,IntsAre (es.map (·.2)) ms/\ ∀ k,k∈ms↔ ∃ e∈es,(intKind prog w).is k e.2=true
 | [],_=>⟨[],.nil,fun k=>by simp⟩
 | e::r,h=>by
  obtain ⟨ms,h1,h2⟩:=zfF (ElemsOf.tail h)
  obtain ⟨⟨k,hk,_⟩,_⟩:=ElemsOf.head h
  obtain ⟨t,ht⟩:=Value.isInt_shape (k:=k) (v:=e.2) hk
  refine ⟨k::ms,by rw [qaM,ht];exact .cons k t h1,fun z=> ?_⟩
  rw [qaP,h2 z]
  constructor
  ·rintro (c | ⟨e',c1,c2⟩)
   ·exact ⟨e,.head _,by rw [c];exact hk⟩
   ·exact ⟨e',.tail _ c1,c2⟩
  ·rintro ⟨e',c1,c2⟩
   rcases qaP.mp c1 with c | c
   ·subst c;exact .inl ((intKind prog w).inj _ _ _ c2 hk)
   ·exact .inr ⟨e',c,c2⟩
theorem ze9 {x:Value} {Q:Value->Shared->Prop} (hc: ∀ E':Value->Shared->Prop,wpAny (model prog w) A.in1 (collect x) (fun vs s1=> ∃ ns,IntsAre vs ns/\vs.length<64/\ ∀ out e h',IntsAre out (zcv ns)->(∀ b ob,s1.heap.get? b=some ob->h'.get? b=some ob)->
      h'.get? s1.heap.objs.size=some (seqObj "list" out.toArray e)->Q (.ref s1.heap.objs.size) {s1 with heap:=h'}) E' s):wpAny (model prog w) A (call (.builtin "sorted") [x]) Q E s:=by
 refine Calls.call_function_entry kind_sorted plain_sorted entry_sorted (args_sorted1 _) ?_
 unfold Builtin.«sorted»
 refine qaW (m:=checkCount "sorted" 1 1 _) (qaX ?_)
 refine qaW (m:=collect x) (qaZ (hc _) (fun vs s1 ⟨ns,hI,h64,q⟩=> ?_) fun _ _ z=>z)
 have small:vs.length<=sizeLine:=qaS (Nat.le_of_lt h64) (by decide)
 refine qaW (wpAny_newList ?_ small)
 have at0:(s1.heap.push {cls:= .type "list",data:= .seq vs.toArray}).get? s1.heap.objs.size=some (seqObj "list" vs.toArray 0):=qar _ rfl
 refine qaW (qaO (wpAny_call_entry slot_list_sort ⟨_,at0,rfl⟩ entry_list_sort (list_sort_tree (s:={s1 with heap:=s1.heap.push {cls:= .type "list",data:= .seq vs.toArray}}) at0 hI h64 fun out ns' a1 a2 a3=>⟨_,rfl,?_⟩) (args_list_sort _)))
 obtain ⟨e,he⟩:=sortedHeap_at (out:=out) at0
 refine qaX ⟨_,rfl,q out.toList e _ ?_ (fun b ob eb=> ?_) (by simpa using he)⟩
 ·rw [<- zeJ a2 a3];exact a1
 ·have lt:=qaQ eb
  rw [sortedHeap_old (qaR lt) (by rw [qaL];exact Nat.lt_succ_of_lt lt)]
  exact qag _ eb
theorem zib {l:Addr} {vs:List Value} {Q:List Value->Shared->Prop} (hl:s.heap.IsTuple l vs.toArray) (small:vs.length<=sizeLine)
  (q: ∀ h',(∀ b ob,s.heap.get? b=some ob->h'.get? b=some ob)->Q vs {s with heap:=h'}):wpAny (model prog w) A (collect (.ref l)) Q E s:=by
 obtain ⟨ob,ho,hc,n,hd⟩:=id hl
 unfold collect
 refine qaW (wpAny_runValue (codeAny_builtin F.entry_proto_collect ?_))
 rw [qap F.plain_proto_collect _]
 show wpAny _ _ (newList []>>=fun d=>again (.builtin "list.__iadd__" ⟨[d,.ref l],[]⟩)) _ _ _
 refine qaW (qaC (qaX ⟨plainId_quiet F.plain_list_iadd _,codeAny_builtin F.entry_list_iadd ?_⟩))
 rw [qap F.plain_list_iadd _]
 show wpAny _ _ (Builtin.List.listExtendWith (.ref s.heap.objs.size) (.ref l) (.ref s.heap.objs.size)) _ _ _
 unfold Builtin.List.listExtendWith
 have ho':(s.heap.push {cls:= .type "list",data:= .seq ([]:List Value).toArray}).get? l=some ob:=qag _ ho
 have d0:(s.heap.push {cls:= .type "list",data:= .seq ([]:List Value).toArray}).get? s.heap.objs.size=some (seqObj "list" #[] 0):=qar _ rfl
 refine qaW (wpAny_typeOf (T:="tuple") ⟨ob,ho',hc⟩ ?_)
 rw [qa4 (by simp)]
 refine qaW (listItems_at ho' hd ?_)
 refine qaW (listItems_at d0 rfl ?_)
 rw [qa5 (by simp)]
 refine qaW (listUpdate_at (xs:= #[]) (n:=0) d0 rfl ?_ (Nat.zero_le _) (by show (#[]++vs.toArray).size<=sizeLine+1;simp;omega))
 refine qaX ?_
 show wpAny _ _ (load s.heap.objs.size>>=fun o=>match o.data with | .seq xs _=>pure xs.toList | _=>unsupported "internal:collect") _ _ _
 refine qaW (wpAny_load (get?_update_seq d0 _) ?_)
 have z:=q ((s.heap.push {cls:= .type "list",data:= .seq ([]:List Value).toArray}).update s.heap.objs.size (Obj.mapSeq fun x=>x++vs.toArray)) fun b ob e=>(qah _ _ (fun z=>qaN _ (z▸qaQ e))).trans (qag _ e)
 show wpAny _ _ (pure ((#[]:Array Value)++vs.toArray).toList) _ _ _
 rw [show ((#[]:Array Value)++vs.toArray).toList=vs by simp]
 exact qaX z
end
end LT
namespace L2
open LT
section
variable {X:Cx}
def zlE (P:Program) (w:World) (p:Addr) (ns:List Int):HO:= .ext fun h=>zgU P w h p (fun z=>(ns.foldl step_dedup []).any (· == z)) (ns.foldl step_dedup []).length
theorem zmp (ns:List Int):(ns.foldl step_dedup []).length<=ns.length:=by
 rw [<- zeY]
 exact firstMet_length_le _ _
theorem zlw (hc:X.calm=true):zaz X (.type "set") (fun xs H Q=> ∃ (a:Addr) (ns:List Int),xs=[.ref a]/\(SqL X.K H a (ns.map V.int)\/SqT X.K H a (ns.map V.int))/\ns.length<4000/\ ∀ p,H p=none->Q (.ref p) (upd H p (zlE X.prog X.w p ns))):=by
 intro pins s σ H xs us Q I r h
 obtain ⟨a,ns,rfl,hq,hl,q⟩:=h
 obtain ⟨u,rfl,rx⟩:=zcX r
 cases rx
 have fin: ∀ (items:Array Value),items.size=ns.length-> ∀ (h':Heap) (tk:Nat),zgU X.prog X.w h' s.heap.objs.size (fun z=>(firstMet (fun i=>ns.getD i 0) items.size).any (· == z)) (firstMet (fun i=>ns.getD i 0) items.size).length->(∀ b ob,s.heap.get? b=some ob->h'.get? b=some ob)->
   EP X pins σ Q (.ref s.heap.objs.size) {s with heap:=h',toks:=tk}:=fun items hz h' tk g k=>by
  rw [hz,zeY] at g
  refine ⟨.ref s.heap.objs.size,_,I.laid (t':=tk) (o:=zlE X.prog X.w s.heap.objs.size ns) k (qaV _) ⟨g,?_,fun h1 h2 z e=>z.move e (fun _=>rfl) rfl⟩,rfl,q _ (I.hok.fresh (qaV _))⟩
  obtain ⟨ob,es,ep,tb,⟨h1,_⟩,_⟩:=g
  exact ⟨ob,h1⟩
 have room:ns.length+1<scanBound:=by
  have:scanBound=4096:=rfl
  omega
 rcases hq with hq | hq
 ·obtain ⟨its,r',pl,_⟩:=I.list hq
  have hz:its.toArray.size=ns.length:=by rw [qaA, <-r'.length,qaH]
  exact zva (I.ok.hd hc) (.inl ⟨rfl,pl.isList⟩) (by simpa using zbt r') (by rw [hz];exact room) fun h' tk g k=>fin _ hz h' tk g k
 ·obtain ⟨its,r',pl,_⟩:=I.tuple hq
  have hz:its.toArray.size=ns.length:=by rw [qaA, <-r'.length,qaH]
  exact zva (I.ok.hd hc) (.inr ⟨rfl,pl⟩) (by simpa using zbt r') (by rw [hz];exact room) fun h' tk g k=>fin _ hz h' tk g k
theorem Inv.grown {pins:List (Addr×Obj)} {σ:St} {H:Hp} {s s':Shared} (I:Inv X pins σ H s) (ho:s'.os=s.os) (hg:s'.gens=s.gens) (k: ∀ b ob,s.heap.get? b=some ob->s'.heap.get? b=some ob):Inv X pins σ H s':=
 I.call' (ch:=[]) ho (Un.kept k) (I.hok.kept k) (by rw [hg];exact I.bare) fun b z=>nomatch z
theorem zm5 {out:List Value} {ms:List Int} (h:IntsAre out ms):zba (ms.map V.int) out:=zeQ h
theorem zeB (hc:X.calm=true):zaz X (.builtin "sorted") (fun xs H Q=> ∃ (p:Addr) (ns:List Int),xs=[.ref p]/\((((ns.foldl step_dedup []).length<64/\H p=some (zlE X.prog X.w p ns))/\ ∀ l,H l=none->Q (.ref l) (upd H l (.lst ((zfq ns).map V.int))))\/
    ((ns.length<64/\(SqL X.K H p (ns.map V.int)\/SqT X.K H p (ns.map V.int)))/\ ∀ l,H l=none->Q (.ref l) (upd H l (.lst ((zcv ns).map V.int)))))):=by
 intro pins s σ H xs us Q I r h
 obtain ⟨p,ns,rfl,h⟩:=h
 obtain ⟨u,rfl,rx⟩:=zcX r
 cases rx
 have fin: ∀ (s1:Shared) (ms:List Int),ms.length<=64->(∀ b ob,s.heap.get? b=some ob->s1.heap.get? b=some ob)->s1.gens=s.gens->s1.os=s.os->(∀ l,H l=none->Q (.ref l) (upd H l (.lst ((zcv ms).map V.int))))-> ∀ out e h',IntsAre out (zcv ms)->(∀ b ob,s1.heap.get? b=some ob->h'.get? b=some ob)->
   h'.get? s1.heap.objs.size=some (seqObj "list" out.toArray e)->EP X pins σ Q (.ref s1.heap.objs.size) {s1 with heap:=h'}:=fun s1 ms hm k g1 o1 q out e h' hi k2 e2=>by
  have I1:=I.grown o1 g1 k
  refine ⟨.ref s1.heap.objs.size,_,I1.laid (t':=s1.toks) (o:= .lst ((zcv ms).map V.int)) k2 (qaV _) ⟨?_,out,e,zm5 hi,e2⟩,rfl,q _ (I1.hok.fresh (qaV _))⟩
  rw [qaH,(zaF ms).length_eq]
  exact qaS hm (by decide)
 rcases h with ⟨⟨hl,hs⟩,q⟩ | ⟨⟨hl,hq⟩,q⟩
 ·obtain ⟨g,_⟩:=(show zbG X.prog X.w H s.heap p (zlE X.prog X.w p ns) from I.hok p _ hs)
  refine ze9 fun E'=>zn9 (show X.A.in1.handled=none from I.ok.hd hc) g fun vs s1 es ep tb hob pv k g1 o1=> ?_
  obtain ⟨ob',es',ep',tb',⟨a1,a2,a3⟩,h4,h5,⟨h6,h7,h8⟩,h9⟩:=g
  obtain ⟨ob,b1,b2,b3⟩:=hob
  rw [a1] at b1
  cases b1
  rw [a3] at b3
  cases b3
  obtain ⟨ms,m1,m2⟩:=zfF h4
  obtain ⟨ms',m3,m4⟩:=zhn pv m1
  have len:ms.length=(ns.foldl step_dedup []).length:=by
   rw [<- m1.length,qaH,qas]
   exact h8
  have pm:List.Perm ms (ns.foldl step_dedup []):=ze0 (ze7 ns [] List.nodup_nil) (fun z hz=>by
    rw [m2 z, <-h5 z]
    exact List.any_eq_true.mpr ⟨z,hz,by simp⟩) (Nat.le_of_eq len)
  have es1:zcv ms'=zfq ns:=by
   unfold zfq
   exact zeJ ((zaF ms').trans (m4.trans pm)) (zdq ms')
  have lm:ms'.length<64:=by
   rw [m4.length_eq,len]
   exact hl
  refine ⟨ms',m3,by rw [m3.length];omega,fun out e h' hi k2 e2=> ?_⟩
  exact fin s1 ms' ⋯ k g1 o1 (by rw [es1];exact q) out e h' hi k2 e2
 ·rcases hq with hq | hq
  ·obtain ⟨its,r',pl,hz⟩:=I.list hq
   have hi:=zbt r'
   have lz:its.length=ns.length:=by rw [<- r'.length,qaH]
   refine ze9 fun E'=>collect_list pl.isList ?_ (by rw [lz, <-qaH (f:=V.int)];exact hz)
   refine ⟨ns,hi,⋯,fun out e h' hi2 k2 e2=> ?_⟩
   refine fin {s with heap:=(s.heap.push (seqObj "list" #[] 0)).update s.heap.objs.size (Obj.mapSeq fun x=>x++its.toArray)} ns ⋯ (fun b ob eb=> ?_) rfl rfl q out e h' hi2 k2 e2
   exact (qah _ _ (fun z=>qaN _ (z▸qaQ eb))).trans (qag _ eb)
  ·obtain ⟨its,r',pl,hz⟩:=I.tuple hq
   have hi:=zbt r'
   have lz:its.length=ns.length:=by rw [<- r'.length,qaH]
   refine ze9 fun E'=>zib pl (by rw [lz, <-qaH (f:=V.int)];exact hz) fun h1 k1=> ?_
   refine ⟨ns,hi,⋯,fun out e h' hi2 k2 e2=> ?_⟩
   exact fin {s with heap:=h1} ns ⋯ k1 rfl rfl q out e h' hi2 k2 e2
theorem zlT (hc:X.calm=true):zaz X (.builtin "all") (fun xs H Q=> ∃ (a:Addr) (bs:List Bool),xs=[.ref a]/\SqL X.K H a (bs.map V.bl)/\Q (.bl (bs.all id)) H):=by
 intro pins s σ H xs us Q I r h
 obtain ⟨a,bs,rfl,hq,q⟩:=h
 obtain ⟨u,rfl,rx⟩:=zcX r
 cases rx
 obtain ⟨its,r',pl,hz⟩:=I.list hq
 have hlt:a<s.heap.objs.size:=by obtain ⟨_,e,_⟩:=pl.isList;exact qaQ e
 refine call_all_walk (wpAny_pyIter_list pl.isList ?_)
 refine ⟨s.heap.objs.size,[s.heap.objs.size,a],[s.heap.objs.size],its.toArray.size,_,_,fun i=>(bs[i]?).getD true,rfl,Walks.list (A:=X.A.in1) (I.ok.hd hc) _ a (qaR hlt) its.toArray,⟨⟨_,qar _ rfl,rfl,rfl⟩,pl.isList.push _⟩,fun i v s' Q' E' hP hQ=> ?_,fun h' tk hk=> ?_⟩
 ·have hv:its[i]? = some v:=by simpa using hP
  obtain ⟨hi,_⟩:=qac.mp hv
  have hlen:bs.length=its.length:=by rw [<- r'.length,qaH]
  have hb:(bs.map V.bl)[i]? = some (V.bl bs[i]):=by simp [hlen,hi]
  obtain ⟨u',hu,ru⟩:=r'.get hb
  rw [hv] at hu
  cases hu
  cases ru
  have e:(bs[i]?).getD true=bs[i]:=by simp [hlen,hi]
  have hQ:Q' ((bs[i]?).getD true) s':=hQ
  rw [e] at hQ
  exact wpAny_truthy_bool hQ
 ·have e:((List.range its.toArray.size).all fun i=>(bs[i]?).getD true)=bs.all id:=by
   have hlen:bs.length=its.length:=by rw [<- r'.length,qaH]
   rw [qaA, <-hlen]
   rw [Bool.eq_iff_iff,List.all_eq_true,List.all_eq_true]
   constructor
   ·intro h x hx
    obtain ⟨i,hi⟩:=List.mem_iff_getElem?.mp hx
    have hl:=(qac.mp hi).1
    have:=h i (by simpa using hl)
    rw [hi] at this
    exact this
   ·intro h i hi
    have hl:i<bs.length:=by simpa using hi
    have e1:bs[i]? = some bs[i]:=by simp [hl]
    rw [e1]
    exact h _ (List.getElem_mem hl)
  rw [e]
  refine ⟨.bl _,H,I.grown (s':={s with heap:=h',toks:=tk}) rfl rfl fun b ob eb=>hk b ob (fun z=> ?_) (qag _ eb),rfl,q⟩
  simp only [qaP,qaF,or_false] at z
  exact qaN _ (z▸qaQ eb)
theorem zlX (hc:X.calm=true):zaz X (.builtin "sum") (fun xs H Q=> ∃ (a:Addr) (ns:List Int),xs=[.ref a]/\SqL X.K H a (ns.map V.int)/\Q (.int ns.sum) H):=by
 intro pins s σ H xs us Q I r h
 obtain ⟨a,ns,rfl,hq,q⟩:=h
 obtain ⟨u,rfl,rx⟩:=zcX r
 cases rx
 obtain ⟨its,r',pl,hz⟩:=I.list hq
 have hi:=zbt r'
 obtain ⟨ys,hy⟩:=hi.allInts.items
 have hl:s.heap.IsList a (intItems ys):=hy▸pl.isList
 refine sum_intListG (I.ok.hd hc) hl fun h' tk t' hk=> ?_
 have e1:ns=ys.toList.map (·.1):=by
  rw [<- nums_intItems, <-hy]
  exact (show numsOf its.toArray.toList=ns from hi.numsOf).symm
 have e2:preSum (numAt ys) ys.size=ns.sum:=by rw [preSum_eq,List.take_of_length_le (by simp),e1]
 rw [e2]
 exact ⟨.int ns.sum,H,I.grown (s':={s with heap:=h',toks:=tk}) rfl rfl hk,⟨t',rfl⟩,q⟩
end
end L2
namespace L3
open L2 LT
section
variable {X:Cx} {E:XE} {e:Expr} {es:List Expr} {pos p:Pos} {fs:Sd->M (List D)} {x:Str}
theorem znz {id:String} {F:List D->M D} (hc:zaz X (.builtin id) (zgj X.K E F)) (hg:Gl X x) (hm:X.mg x=none) (hv:bootBuiltins x=some (.builtin id)) (ha:SA X E (e::es) fs) (hn:x≠"__name__":=by decide) (hdb:(x==("__debug__":Str))=false:=by decide)
  (he:starEach (e::es) X.env=(false,eval e X.env)::starEach es X.env:=by rfl) (hpl:(backTo pos (starEach es X.env)).any (·.1)=false:=by rfl):SE X E (.Call (.Name x p) (e::es) [] pos) (fun sd=>do let ds<-fs sd;F ds):=
 PE.imp (zd3 hc hg hm hv ha hn hdb he hpl) fun σ H Q ⟨ι,h,sd,L,hh,q⟩=>⟨ι,h,sd,L,hh,Fin.bind q fun ds h1 ι1 H1 e1 s1 hr1 q1 vs rv=>⟨ι1,h1,ds,rv,hr1,q1⟩⟩
theorem zmc {T:String} {F:List D->M D} (hc:zaz X (.type T) (zgj X.K E F)) (hg:Gl X x) (hm:X.mg x=none) (hv:bootBuiltins x=some (.type T)) (ha:SA X E (e::es) fs) (hn:x≠"__name__":=by decide) (hdb:(x==("__debug__":Str))=false:=by decide)
  (he:starEach (e::es) X.env=(false,eval e X.env)::starEach es X.env:=by rfl) (hpl:(backTo pos (starEach es X.env)).any (·.1)=false:=by rfl):SE X E (.Call (.Name x p) (e::es) [] pos) (fun sd=>do let ds<-fs sd;F ds):=
 PE.imp (zbL hc hg hm hv ha hn hdb he hpl) fun σ H Q ⟨ι,h,sd,L,hh,q⟩=>⟨ι,h,sd,L,hh,Fin.bind q fun ds h1 ι1 H1 e1 s1 hr1 q1 vs rv=>⟨ι1,h1,ds,rv,hr1,q1⟩⟩
noncomputable def zkw:D->M (List D)
 | .tup ds=>pure ds
 | .lst ds=>pure ds
 | .scr ds=>pure ds
 | .cel n=>zai n
 | _=>M.bad
theorem zcz {K:W.Frag} {ι:Io} {H:Hp} {h:Hh} {d:D} {v:V} {α:Type} {f:List D->M α} {P:α->Io->Hp->Prop} (hr:za8 K ι H h) (r:Rel K ι H d v) (q:Fin K E ι H ((do let ds<-zkw d;f ds) h) P):
  ∃ a vs ds,v= .ref a/\((SqL K H a vs/\ ∀ ts,d≠ .tup ts)\/(SqT K H a vs/\d= .tup ds))/\zas K ι H ds vs/\Fin K E ι H (f ds h) P:=by
 cases d with
 | tup ds=>
  obtain ⟨a,vs,e,h1,h2⟩:=zcV r
  exact ⟨a,vs,ds,e,.inr ⟨h1,rfl⟩,h2,q⟩
 | lst ds=>
  obtain ⟨a,vs,e,h1,h2⟩:=zd4 r
  exact ⟨a,vs,ds,e,.inl ⟨h1,fun _ z=>by cases z⟩,h2,q⟩
 | scr ds=>
  obtain ⟨a,vs,e,h1,h2⟩:=zlB r
  exact ⟨a,vs,ds,e,.inl ⟨h1,fun _ z=>by cases z⟩,h2,q⟩
 | cel n=>
  have q':Fin K E ι H (M.bind (zai n) f h) P:=q
  unfold M.bind at q'
  cases z:zai n h with
  | bad=>rw [z] at q';exact qa0 q'
  | exc c h'=>unfold zai at z;split at z<;>cases z
  | ok ds h'=>
   rw [z] at q'
   obtain ⟨rfl,z2⟩:=zcU z
   obtain ⟨a,vs,e,hn,hH,rl⟩:=hr.read r z2
   exact ⟨a,vs,ds,e,.inl ⟨SqL.of hH,fun _ z=>by cases z⟩,rl,q'⟩
 | _=>exact qa0 q
theorem znq {K:W.Frag} {H:Hp} {a:Addr} {vs:List V} {d:D} {ds:List D} (h:(SqL K H a vs/\ ∀ ts,d≠ .tup ts)\/(SqT K H a vs/\d= .tup ds)):SqL K H a vs\/SqT K H a vs:=h.imp And.left And.left
theorem zuV {K:W.Frag} {ι:Io} {H:Hp} {d:D} {xs:List V} (h:zas K ι H [d] xs): ∃ v,xs=[v]/\Rel K ι H d v:=by
 simp only [zas] at h
 obtain ⟨v,r,rfl,h1,rfl⟩:=h
 exact ⟨v,rfl,h1⟩
noncomputable def zmb {α:Type} (f:D->M α):List D->M α
 | [d]=>f d
 | _=>M.bad
theorem zbJ {α:Type} {K:W.Frag} {ι:Io} {H:Hp} {h:Hh} {f:D->M α} {ds:List D} {xs:List V} {P:α->Io->Hp->Prop} (rl:zas K ι H ds xs) (q:Fin K E ι H (zmb f ds h) P): ∃ d v,xs=[v]/\Rel K ι H d v/\Fin K E ι H (f d h) P:=by
 match ds,rl,q with
 | [d],rl,q=>
  obtain ⟨v,e,r⟩:=zuV rl
  exact ⟨d,v,e,r,q⟩
 | [],_,q=>exact qa0 q
 | _::_::_,_,q=>exact qa0 q
def zf6:List D->M D:=zmb fun d=>do let ds<-zkw d;pure (.int ds.length)
theorem zbc:zaz X (.builtin "len") (zgj X.K E zf6):=by
 refine zaz.imp zhY fun xs H Q ⟨ι,h,ds,rl,hr,q⟩=> ?_
 obtain ⟨d,v,e,r,q⟩:=zbJ rl q
 obtain ⟨a,vs,ds',e',hs,rl',q⟩:=zcz hr r q
 exact ⟨a,vs,by rw [e,e'],znq hs,Fin.out hr q _ (by rw [rl'.length];simp [Rel])⟩
def zcA:List D->M D:=zmb fun d=>do let ds<-zkw d;pure (.tup ds)
theorem za6:zaz X (.type "tuple") (zgj X.K E zcA):=by
 refine zaz.imp zga fun xs H Q ⟨ι,h,ds,rl,hr,q⟩=> ?_
 obtain ⟨d,v,e,r,q⟩:=zbJ rl q
 obtain ⟨a,vs,ds',e',hs,rl',q⟩:=zcz hr r q
 refine ⟨a,vs,by rw [e,e'],?_⟩
 rcases hs with ⟨hs,_⟩ | ⟨hs,hd⟩
 ·exact .inl ⟨hs,fun l hl=>zpj hr rl' q hl⟩
 ·exact .inr ⟨hs,Fin.out hr q _ (by rw [<- e', <-hd];exact r)⟩
def zqu:List D->M D:=zmb fun d=>do let ds<-zkw d;pure (.lst ds)
theorem zjS:zaz X (.type "list") (zgj X.K E zqu):=by
 refine zaz.imp zhx fun xs H Q ⟨ι,h,ds,rl,hr,q⟩=> ?_
 obtain ⟨d,v,e,r,q⟩:=zbJ rl q
 obtain ⟨a,vs,ds',e',hs,rl',q⟩:=zcz hr r q
 exact ⟨a,vs,by rw [e,e'],znq hs,fun l hl=>zo9 hr rl' q hl⟩
noncomputable def two2 (g:Int->Int->Int):List D->M D
 | [.int i,.int j]=>pure (.int (g i j))
 | _=>M.bad
theorem two2_inv {K:W.Frag} {ι:Io} {H:Hp} {h:Hh} {g:Int->Int->Int} {ds:List D} {xs:List V} {P:D->Io->Hp->Prop} (hr:za8 K ι H h) (rl:zas K ι H ds xs) (q:Fin K E ι H (two2 g ds h) P): ∃ i j,xs=[.int i,.int j]/\P (.int (g i j)) ι H:=by
 unfold two2 at q
 split at q
 ·simp only [zas,Rel] at rl
  obtain ⟨v,r,rfl,rfl,v',r',rfl,rfl,rfl⟩:=rl
  exact ⟨_,_,rfl,Fin.out hr q⟩
 ·exact qa0 q
def zpp:=two2 fun i j=>if j>i then j else i
def zmS:=two2 fun i j=>if j<i then j else i
theorem zkc (hc:X.calm=true):zaz X (.builtin "max") (zgj X.K E zpp):=by
 refine zaz.imp (zkH hc) fun xs H Q ⟨ι,h,ds,rl,hr,q⟩=> ?_
 obtain ⟨i,j,e,q⟩:=two2_inv hr rl q
 exact ⟨i,j,e,q _ (by simp [Rel])⟩
theorem zfI (hc:X.calm=true):zaz X (.builtin "min") (zgj X.K E zmS):=by
 refine zaz.imp (zlx hc) fun xs H Q ⟨ι,h,ds,rl,hr,q⟩=> ?_
 obtain ⟨i,j,e,q⟩:=two2_inv hr rl q
 exact ⟨i,j,e,q _ (by simp [Rel])⟩
noncomputable def zoh:List D->Option (List Bool)
 | []=>some []
 | .bl b::r=>(zoh r).map (b:: ·)
 | _=>none
noncomputable def zbO:List D->Option (List Int)
 | []=>some []
 | .int i::r=>(zbO r).map (i:: ·)
 | _=>none
theorem zgm {K:W.Frag} {ι:Io} {H:Hp}: ∀ {ds:List D} {vs:List V} {bs:List Bool},zas K ι H ds vs->zoh ds=some bs->vs=bs.map V.bl
 | [],_,_,h,e=>by simp only [zas] at h;subst h;cases e;rfl
 | d::ds,_,bs,h,e=>by
  simp only [zas] at h
  obtain ⟨v,r,rfl,h1,h2⟩:=h
  cases d with
  | bl b=>
   unfold zoh at e
   cases z:zoh ds with
   | none=>rw [z] at e;cases e
   | some cs=>
    rw [z] at e
    cases e
    simp only [Rel] at h1
    rw [h1,zgm h2 z]
    rfl
  | _=>cases e
theorem zbR {K:W.Frag} {ι:Io} {H:Hp}: ∀ {ds:List D} {vs:List V} {bs:List Int},zas K ι H ds vs->zbO ds=some bs->vs=bs.map V.int
 | [],_,_,h,e=>by simp only [zas] at h;subst h;cases e;rfl
 | d::ds,_,bs,h,e=>by
  simp only [zas] at h
  obtain ⟨v,r,rfl,h1,h2⟩:=h
  cases d with
  | int b=>
   unfold zbO at e
   cases z:zbO ds with
   | none=>rw [z] at e;cases e
   | some cs=>
    rw [z] at e
    cases e
    simp only [Rel] at h1
    rw [h1,zbR h2 z]
    rfl
  | _=>cases e
theorem Fin.ofOb {α β:Type} {K:W.Frag} {ι:Io} {H:Hp} {h:Hh} {o:Option α} {f:α->M β} {P:β->Io->Hp->Prop} (q:Fin K E ι H ((do let a<-L3.ofO o;f a) h) P): ∃ a,o=some a/\Fin K E ι H (f a h) P:=by
 cases o with
 | none=>exact qa0 q
 | some a=>exact ⟨a,rfl,q⟩
def zra:List D->M D:=zmb fun d=>match d with
 | .lst ds=>do let bs<-ofO (zoh ds);pure (.bl (bs.all id))
 | _=>M.bad
theorem zdU (hc:X.calm=true):zaz X (.builtin "all") (zgj X.K E zra):=by
 refine zaz.imp (zlT hc) fun xs H Q ⟨ι,h,ds,rl,hr,q⟩=> ?_
 obtain ⟨d,v,e,r,q⟩:=zbJ rl q
 cases d with
 | lst ds=>
  obtain ⟨a,vs,e',h1,h2⟩:=zd4 r
  obtain ⟨bs,eb,q⟩:=Fin.ofOb q
  have:=zgm h2 eb
  subst this
  exact ⟨a,bs,by rw [e,e'],h1,Fin.out hr q _ (by simp [Rel])⟩
 | _=>exact qa0 q
def zq5:List D->M D:=zmb fun d=>match d with
 | .lst ds=>do let bs<-ofO (zbO ds);pure (.int bs.sum)
 | _=>M.bad
theorem zg0 (hc:X.calm=true):zaz X (.builtin "sum") (zgj X.K E zq5):=by
 refine zaz.imp (zlX hc) fun xs H Q ⟨ι,h,ds,rl,hr,q⟩=> ?_
 obtain ⟨d,v,e,r,q⟩:=zbJ rl q
 cases d with
 | lst ds=>
  obtain ⟨a,vs,e',h1,h2⟩:=zd4 r
  obtain ⟨bs,eb,q⟩:=Fin.ofOb q
  have:=zbR h2 eb
  subst this
  exact ⟨a,bs,by rw [e,e'],h1,Fin.out hr q _ (by simp [Rel])⟩
 | _=>exact qa0 q
def ziE:List D->M D:=zmb fun d=>do
 let ds<-zkw d
 let ns<-ofO (zbO ds)
 if ns.length<64 then pure (.lst ((zcv ns).map D.int)) else M.bad
theorem zhS (hc:X.calm=true):zaz X (.builtin "sorted") (zgj X.K E ziE):=by
 refine zaz.imp (zeB hc) fun xs H Q ⟨ι,h,ds,rl,hr,q⟩=> ?_
 obtain ⟨d,v,e,r,q⟩:=zbJ rl q
 obtain ⟨a,vs,ds',e',hs,rl',q⟩:=zcz hr r q
 obtain ⟨ns,en,q⟩:=Fin.ofOb q
 have:=zbR rl' en
 subst this
 obtain ⟨hl,q⟩:=Fin.guard q
 exact ⟨a,ns,by rw [e,e'],.inr ⟨⟨hl,znq hs⟩,fun l hl=>zo9 hr (zct.mpr rfl) q hl⟩⟩
def zb6 (d:D):M D:=do
 let ds<-zkw d
 let ns<-ofO (zbO ds)
 if (ns.foldl step_dedup []).length<64/\ns.length<4000 then pure (.lst ((zfq ns).map D.int)) else M.bad
theorem zj2 {p1 p2 pos2:Pos} {f:Sd->M D} (hc:X.calm=true) (hg1:Gl X "sorted") (hm1:X.mg "sorted"=none) (hg2:Gl X "set") (hm2:X.mg "set"=none) (he:SE X E e f)
  (h1:starEach [.Call (.Name "set" p2) [e] [] pos2] X.env=[(false,eval (.Call (.Name "set" p2) [e] [] pos2) X.env)]:=by rfl) (h2:starEach [e] X.env=[(false,eval e X.env)]:=by rfl):
  SE X E (.Call (.Name "sorted" p1) [.Call (.Name "set" p2) [e] [] pos2] [] pos) (fun sd=>do let d<-f sd;zb6 d):=by
 refine PE.imp (zd3 (zeB hc) hg1 hm1 boot_sorted (zaU (zbL (zlw hc) hg2 hm2 PyProof.Rows.boot_set (zaU he zb5 h2) (he:=h2)) zb5 h1) (he:=h1)) fun σ H Q ⟨ι,h,sd,L,hh,q⟩=>⟨ι,h,sd,L,hh,Fin.bind q fun d h1 ι1 H1 e1 s1 hr1 q1 v rv=> ?_⟩
 obtain ⟨a,vs,ds',e',hs,rl',q2⟩:=zcz hr1 rv q1
 obtain ⟨ns,en,q3⟩:=Fin.ofOb q2
 have:=zbR rl' en
 subst this
 obtain ⟨hl,q4⟩:=Fin.guard q3
 refine ⟨a,ns,by rw [e'],znq hs,hl.2,fun p hp=> ?_⟩
 have hr2:za8 X.K ι1 (upd H1 p (zlE X.prog X.w p ns)) h1:=hr1.laid hp
 exact ⟨p,ns,rfl,.inl ⟨⟨hl.1,zaR⟩,fun l hl'=>zo9 hr2 (zct.mpr rfl) (Fin.step (hr1.laidS hp) q4) hl'⟩⟩
end
def tyD:D->M String
 | .non=>pure "NoneType"
 | .bl _=>pure "bool"
 | .int _=>pure "int"
 | .str _=>pure "str"
 | .tup _=>pure "tuple"
 | .lst _=>pure "list"
 | .dct=>pure "dict"
 | .cel n=>do let _<-zai n;pure "list"
 | _=>M.bad
def zme:List String:=["NoneType","bool","int","str","tuple","list","dict"]
def isB (T t:String):Bool:=t==T || (t=="bool" && T=="int")
def zi5 (T:String) (d:D):M D:=do let t<-tyD d;pure (.bl (isB T t))
def zj0 (T:String):Prop:= ∀ (K:W.Frag), ∀ t∈zme,W.kitOne K (.type t) (.type T)=some (isB T t)
def zvg (t T:String):Option Bool:=if ((Value.type t)==(Value.type T))=true then some true else if W.kitMeta T=true then (fastBuiltinMro t).map (·.contains (Value.type T)) else none
theorem zgo {T:String} (h:(zme.all fun t=>zvg t T==some (isB T t))=true):zj0 T:=fun K t ht=>by
 have:=List.all_eq_true.mp h t ht
 have e:W.kitOne K (.type t) (.type T)=zvg t T:=rfl
 rw [e]
 exact beq_iff_eq.mp this
theorem zqQ:zj0 "int":=zgo ⋯
theorem zn1:zj0 "bool":=zgo ⋯
theorem zdL:zj0 "tuple":=zgo ⋯
section
variable {X:Cx} {E:XE} {α:Type}
theorem zpS {K:W.Frag} {ι:Io} {H:Hp} {h:Hh} {d:D} {v:V} {f:String->M α} {P:α->Io->Hp->Prop} (hr:za8 K ι H h) (r:Rel K ι H d v) (q:Fin K E ι H ((do let t<-tyD d;f t) h) P):
  ∃ t,t∈zme/\zjo K H v (.type t)/\Fin K E ι H (f t h) P:=by
 cases d with
 | non=>simp only [Rel] at r;subst r;exact ⟨_,by decide,.non,q⟩
 | bl b=>simp only [Rel] at r;subst r;exact ⟨_,by decide,.bl b,q⟩
 | int b=>simp only [Rel] at r;subst r;exact ⟨_,by decide,.int b,q⟩
 | str b=>simp only [Rel] at r;subst r;exact ⟨_,by decide,.str b,q⟩
 | tup ds=>
  simp only [Rel] at r
  obtain ⟨a,vs,e,h1,h2⟩:=r
  subst e
  exact ⟨_,by decide,.tup h1.1,q⟩
 | lst ds=>
  simp only [Rel] at r
  obtain ⟨a,vs,e,h1,h2⟩:=r
  subst e
  exact ⟨_,by decide,.lst h1.1,q⟩
 | dct=>
  simp only [Rel] at r
  obtain ⟨a,e,h1,h2⟩:=r
  subst e
  exact ⟨_,by decide,.dK h1,q⟩
 | cel n=>
  have q':Fin K E ι H (M.bind (zai n) (fun _=>f "list") h) P:=by
   have e:(do let t<-tyD (.cel n);f t:M α)=(zai n>>=fun _=>f "list"):=by
    show ((zai n>>=fun _=>pure "list")>>=f)=_
    simp only [bind_assoc,pure_bind]
   rw [e] at q
   exact q
  unfold M.bind at q'
  cases z:zai n h with
  | bad=>rw [z] at q';exact qa0 q'
  | exc c h'=>unfold zai at z;split at z<;>cases z
  | ok ds h'=>
   rw [z] at q'
   obtain ⟨rfl,z2⟩:=zcU z
   obtain ⟨a,vs,e,hn,hH,rl⟩:=hr.read r z2
   subst e
   exact ⟨_,by decide,.lst hH,q'⟩
 | _=>exact qa0 q
theorem znh:zaz X (.builtin "isinstance") (fun xs H Q=> ∃ x t T b,xs=[x,.ty T]/\zjo X.K H x t/\W.kitOne X.K t (.type T)=some b/\Q (.bl b) H):=by
 intro pins s σ H xs us Q I r h
 obtain ⟨x,t,T,b,rfl,ty,e,q⟩:=h
 cases r with
 | cons r1 r2=>
  cases r2 with
  | cons r3 r4=>
   cases r4
   cases r3
   exact zkN I r1 ty e fun tk=>⟨.bl b,H,I.tok tk,rfl,q⟩
theorem zrf {a:Expr} {x:Str} {T:String} {p1 p2 pos:Pos} {fa:Sd->M D} (hk:zj0 T) (hg:Gl X "isinstance") (hm:X.mg "isinstance"=none) (hgT:Gl X x) (hmT:X.mg x=none) (hvT:bootBuiltins x=some (.type T)) (ha:SE X E a fa)
  (hn:x≠"__name__":=by decide) (hd:(x==("__debug__":Str))=false:=by decide)
  (h1:starEach [a,.Name x p2] X.env=(false,eval a X.env)::starEach [.Name x p2] X.env:=by rfl) (h2:starEach [.Name x p2] X.env=[(false,eval (.Name x p2) X.env)]:=by rfl)
  (hpl:(backTo pos (starEach [.Name x p2] X.env)).any (·.1)=false:=by rfl):
  SE X E (.Call (.Name "isinstance" p1) [a,.Name x p2] [] pos) (fun sd=>do let d<-fa sd;zi5 T d):=by
 refine PE.imp (zd3 znh hg hm PyProof.Rows.boot_isinstance (zaU ha (zaU (zls (v:= .ty T) hgT hmT hvT rfl hn hd) zb5 h2) h1) (he:=h1) (hpl:=hpl)) fun σ H Q ⟨ι,h,sd,L,hh,q⟩=>⟨ι,h,sd,L,hh,Fin.bind q fun d h1 ι1 H1 e1 s1 hr1 q1 v rv=> ?_⟩
 obtain ⟨t,ht,ty,q2⟩:=zpS hr1 rv q1
 exact ⟨v,.type t,T,isB T t,rfl,ty,hk X.K t ht,Fin.out hr1 q2 _ (by simp [Rel])⟩
noncomputable def zjN (xs:List D) (lo hi:Option Int):List D:=(xs.drop (HT.sIx xs.length 0 lo)).take (HT.sIx xs.length xs.length hi - HT.sIx xs.length 0 lo)
def dSl (d:D) (lo hi:Option Int):M D:=match d with
 | .tup ds=>pure (.tup (zjN ds lo hi))
 | .lst ds=>pure (.lst (zjN ds lo hi))
 | _=>M.bad
def zvx (K:W.Frag) (E:XE) (f:Sd->M (Option Int)):TO:=fun σ H Q=> ∃ ι h sd,zc1 K ι H sd σ/\za8 K ι H h/\Fin K E ι H (f sd h) fun o ι' H'=>Q o H'
abbrev SO (X:Cx) (E:XE) (e:Option Expr) (f:Sd->M (Option Int)):Prop:=PO X e (zvx X.K E f)
theorem PO.imp {e:Option Expr} {t t':TO} (h:PO X e t) (m: ∀ σ H Q,t' σ H Q->t σ H Q):PO X e t':=fun pins s σ H Q I q=>h pins s σ H Q I (m _ _ _ q)
def ziz:Sd->M (Option Int):=fun _=>pure none
def zqU:D->M (Option Int)
 | .int i=>pure (some i)
 | _=>M.bad
def zie (f:Sd->M D):Sd->M (Option Int):=fun sd=>do let d<-f sd;zqU d
theorem zir:SO X E none ziz:=PO.imp zp2 fun σ H Q ⟨ι,h,sd,L,hh,q⟩=>Fin.out hh q
theorem zix {e:Expr} {f:Sd->M D} (h:SE X E e f):SO X E (some e) (zie f):=by
 refine PO.imp (zqn h) fun σ H Q ⟨ι,h,sd,L,hh,q⟩=>⟨ι,h,sd,L,hh,Fin.bind q fun d h1 ι1 H1 e1 s1 hr1 q1 v rv=> ?_⟩
 cases d with
 | int i=>simp only [Rel] at rv;exact ⟨i,rv,Fin.out hr1 q1⟩
 | _=>exact qa0 q1
def cSl (f:Sd->M D) (lo hi:Sd->M (Option Int)):Sd->M D:=fun sd=>do let d<-f sd;let l<-lo sd;let u<-hi sd;dSl d l u
theorem zgO {e:Expr} {lo hi:Option Expr} {p2 pos:Pos} {f:Sd->M D} {fl fh:Sd->M (Option Int)} (he:SE X E e f) (hl:SO X E lo fl) (hu:SO X E hi fh):SE X E (.Subscript e (.Slice lo hi none p2) pos) (cSl f fl fh):=by
 refine PE.imp (zns (zpY.or (zsd.or zqL)) he hl hu) fun σ H Q ⟨ι,h,sd,L,hh,q⟩=>⟨ι,h,sd,L,hh,Fin.bind q fun d h1 ι1 H1 e1 s1 hr1 q1 v rv=> ?_⟩
 refine ⟨ι1,h1,sd,L.step s1,hr1,Fin.bind q1 fun l h2 ι2 H2 e2 s2 hr2 q2=> ?_⟩
 refine ⟨ι2,h2,sd,(L.step s1).step s2,hr2,Fin.bind q2 fun u h3 ι3 H3 e3 s3 hr3 q3=> ?_⟩
 have rv3:=(rv.step s2).step s3
 cases d with
 | tup ds=>
  obtain ⟨a,vs,e,k1,k2⟩:=zcV rv3
  by_cases hw:HT.sIx vs.length 0 l=0/\HT.sIx vs.length vs.length u=vs.length
  ·refine .inl ⟨a,vs,e,k1,hw,?_⟩
   have ec:zjN ds l u=ds:=by
    unfold zjN
    rw [k2.length,hw.1,hw.2, <-k2.length]
    simp
   refine Fin.out hr3 q3 _ ?_
   rw [ec, <-e]
   exact rv3
  ·refine .inr (.inl ⟨a,vs,e,k1,hw,fun p hp=>zpj hr3 ?_ q3 hp⟩)
   unfold zjN zom
   rw [k2.length]
   exact zas.take _ (zas.drop _ k2)
 | lst ds=>
  obtain ⟨a,vs,e,k1,k2⟩:=zd4 rv3
  refine .inr (.inr ⟨a,vs,e,k1,fun p hp=>zo9 hr3 ?_ q3 hp⟩)
  unfold zjN zom
  rw [k2.length]
  exact zas.take _ (zas.drop _ k2)
 | _=>exact qa0 q3
def zhQ (x y:D):M D:=match x,y with
 | .int i,.int j=>if (zcN i || zcN j)=true then pure (.int (i*j)) else M.bad
 | .tup xs,.int k=>if xs≠[]/\2<=k/\k<1000/\xs.length*k.toNat<=sizeLine then pure (.tup (List.replicate k.toNat xs).flatten) else M.bad
 | _,_=>M.bad
theorem zas.rep {K:W.Frag} {ι:Io} {H:Hp} {ds:List D} {vs:List V} (h:zas K ι H ds vs): ∀ n,zas K ι H (List.replicate n ds).flatten (List.replicate n vs).flatten
 | 0=>zas.nil
 | n+1=>by
  rw [List.replicate_succ,List.replicate_succ,List.flatten_cons,List.flatten_cons]
  exact zas.append h (zas.rep h n)
theorem zb0:OpR X (binaryOp .Mult) (zdX X.K E zhQ):=by
 refine OpR.imp (zrW.or zpx) fun x y H Q ⟨ι,h,d1,d2,r1,r2,hr,q⟩=> ?_
 unfold zhQ at q
 split at q
 ·simp only [Rel] at r1 r2
  obtain ⟨c,q⟩:=Fin.guard q
  refine .inl ⟨_,_,r1,r2,?_,Fin.out hr q _ (by simp [Rel])⟩
  rcases (Bool.or_eq_true _ _).mp c with z | z
  ·exact .inl (ze5 z)
  ·exact .inr (ze5 z)
 ·simp only [Rel] at r2
  obtain ⟨a,vs,e,k1,k2⟩:=zcV r1
  obtain ⟨⟨c1,c2,c3,c4⟩,q⟩:=Fin.guard q
  refine .inr ⟨a,_,vs,e,r2,k1,fun z=>c1 ?_,c2,c3,by rw [<- k2.length];exact c4,fun p hp=>zpj hr (k2.rep _) q hp⟩
  subst z
  exact List.eq_nil_of_length_eq_zero k2.length
 ·exact qa0 q
mutual
noncomputable def pdH (h:Hh):D->Option PyData
 | .non=>some .none
 | .bl b=>some (.bool b)
 | .int i=>some (.int i)
 | .str x=>some (.str x)
 | .tup xs=>(zkv h xs).map .tuple
 | .lst xs=>(zkv h xs).map .list
 | .cel n=>match h[n]? with
  | some (.lst ds)=>(pdL ds).map .list
  | _=>none
 | _=>none
noncomputable def zkv (h:Hh):List D->Option (List PyData)
 | []=>some []
 | x::xs=>match pdH h x,zkv h xs with
  | some a,some r=>some (a::r)
  | _,_=>none
end
mutual
theorem zla {pins:List (Addr×Obj)} {σ:L2.St} {H:Hp} {s:Shared} {ι:Io} {h:Hh} (I:Inv X pins σ H s) (hr:za8 X.K ι H h): ∀ {d:D} {v:V} {u:Value} {p:PyData},Rel X.K ι H d v->zbB v u->pdH h d=some p-> ∃ as,Reads s.heap u p as
 | .non,v,u,p,r,ru,e=>by simp only [Rel] at r;subst r;cases ru;simp only [pdH] at e;cases e;exact ⟨_,.none⟩
 | .bl b,v,u,p,r,ru,e=>by simp only [Rel] at r;subst r;cases ru;simp only [pdH] at e;cases e;exact ⟨_,.bool _⟩
 | .int i,v,u,p,r,ru,e=>by simp only [Rel] at r;subst r;obtain ⟨t,rfl⟩:=ru;simp only [pdH] at e;cases e;exact ⟨_,.int _ _⟩
 | .str i,v,u,p,r,ru,e=>by simp only [Rel] at r;subst r;obtain ⟨t,rfl⟩:=ru;simp only [pdH] at e;cases e;exact ⟨_,.str _ _⟩
 | .tup ds,v,u,p,r,ru,e=>by
  obtain ⟨a,vs,rfl,h1,h2⟩:=zcV r
  cases ru
  obtain ⟨its,rv,pl,_⟩:=I.tuple h1
  obtain ⟨o,ho,hc,n,hd⟩:=pl
  simp only [pdH] at e
  cases z:zkv h ds with
  | none=>rw [z] at e;cases e
  | some ps=>
   rw [z] at e;cases e
   obtain ⟨as,q⟩:=zit I hr h2 rv z
   exact ⟨_,.tuple ho hc hd (by simpa using q)⟩
 | .lst ds,v,u,p,r,ru,e=>by
  obtain ⟨a,vs,rfl,h1,h2⟩:=zd4 r
  cases ru
  obtain ⟨its,rv,pl,_⟩:=I.list h1
  obtain ⟨o,ho,hc,n,hd⟩:=pl.isList
  simp only [pdH] at e
  cases z:zkv h ds with
  | none=>rw [z] at e;cases e
  | some ps=>
   rw [z] at e;cases e
   obtain ⟨as,q⟩:=zit I hr h2 rv z
   exact ⟨_,.list ho hc hd (by simpa using q)⟩
 | .cel m,v,u,p,r,ru,e=>by
  simp only [pdH] at e
  cases z0:h[m]? with
  | none=>rw [z0] at e;cases e
  | some c=>
   rw [z0] at e
   cases c with
   | dit ks=>cases e
   | ins _ _=>cases e
   | dead=>cases e
   | dic _=>cases e
   | lst ds=>
    obtain ⟨a,vs,rfl,hn,hH,rl⟩:=hr.read r z0
    cases ru
    obtain ⟨its,rv,pl,_⟩:=I.list (SqL.of hH)
    obtain ⟨o,ho,hc,n,hd⟩:=pl.isList
    cases z:pdL ds with
    | none=>simp only [z] at e;cases e
    | some ps=>
     simp only [z] at e;cases e
     obtain ⟨as,q⟩:=zg2 I rl rv z
     exact ⟨_,.list ho hc hd (by simpa using q)⟩
 | .scr ds,_,_,_,_,_,e=>by simp only [pdH] at e;cases e
 | .set xs,_,_,_,_,_,e=>by simp only [pdH] at e;cases e
 | .dct,_,_,_,_,_,e=>by simp only [pdH] at e;cases e
 | .fn _,_,_,_,_,_,e=>by simp only [pdH] at e;cases e
 | .exn _,_,_,_,_,_,e=>by simp only [pdH] at e;cases e
theorem zit {pins:List (Addr×Obj)} {σ:L2.St} {H:Hp} {s:Shared} {ι:Io} {h:Hh} (I:Inv X pins σ H s) (hr:za8 X.K ι H h): ∀ {ds:List D} {vs:List V} {us:List Value} {ps:List PyData},zas X.K ι H ds vs->zba vs us->zkv h ds=some ps-> ∃ as,ReadsAll s.heap us ps as
 | [],vs,us,ps,r,ru,e=>by simp only [zas] at r;subst r;cases ru;simp only [zkv] at e;cases e;exact ⟨_,.nil⟩
 | d::ds,vs,us,ps,r,ru,e=>by
  simp only [zas] at r
  obtain ⟨v,vr,rfl,r1,r2⟩:=r
  cases ru with
  | cons ru1 ru2=>
   simp only [zkv] at e
   cases z:pdH h d with
   | none=>rw [z] at e;cases e
   | some a=>
    cases z2:zkv h ds with
    | none=>rw [z,z2] at e;cases e
    | some b=>
     rw [z,z2] at e
     cases e
     obtain ⟨as,q1⟩:=zla I hr r1 ru1 z
     obtain ⟨bs,q2⟩:=zit I hr r2 ru2 z2
     exact ⟨_,.cons q1 q2⟩
end
noncomputable def zs6 (x y:D):M D:=fun h=>match pdH h x,pdH h y with
 | some a,some b=>if zfY a b=true then .ok (.bl (PyData.eqv a b)) h else .bad
 | _,_=> .bad
theorem zrt (hu:X.A.units+60<cLine):OpR X (compareOp .Eq) (zdX X.K E zs6):=by
 intro pins s σ H x y v u Q I rx ry ⟨ι,h,d1,d2,r1,r2,hr,q⟩
 unfold zs6 at q
 cases e1:pdH h d1 with
 | none=>rw [e1] at q;exact qa0 q
 | some a=>
  cases e2:pdH h d2 with
  | none=>rw [e1,e2] at q;exact qa0 q
  | some b=>
   rw [e1,e2] at q
   dsimp only at q
   by_cases c:zfY a b=true
   ·rw [qa4 c] at q
    obtain ⟨c1,c2,c3⟩:=zgh c
    obtain ⟨as,ra⟩:=zla I hr r1 rx e1
    obtain ⟨bs,rb⟩:=zla I hr r2 ry e2
    exact SeqAt.compareEq_reads ra rb c1 c2 ⋯ ⟨.bl _,H,I,rfl,q ι H (zbT.refl _ _) hr (.bl _) (by simp [Rel])⟩
   ·rw [qa5 c] at q
    exact qa0 q
end
abbrev FE:=Sd->M D
abbrev FT:=Sd->M Bool
abbrev FA:=Sd->M (List D)
abbrev FS:=Sd->M Out
def cOp (F:D->D->M D) (a b:FE):FE:=fun sd=>do let x<-a sd;let y<-b sd;F x y
def cUn (F:D->M D) (a:FE):FE:=fun sd=>do let x<-a sd;F x
def zaA (F:List D->M D) (a:FA):FE:=fun sd=>do let ds<-a sd;F ds
def zdK (F:D->D->M D) (a b:FE):FT:=fun sd=>do let z<-(do let x<-a sd;let y<-b sd;F x y);zdZ z
def zhu (a:FE):FT:=fun sd=>do let x<-a sd;zdZ x
def zgJ (t:FT):FT:=fun sd=>do let c<-t sd;pure (!c)
def tOr (t u:FT):FT:=fun sd=>do let c<-t sd;if c=true then pure true else u sd
def zs7 (a b:FE):FE:=fun sd=>do let c<-(do let x<-a sd;zdZ x);if c=true then b sd else pure (.bl false)
def zua (a:FE):FE:=fun sd=>do let c<-(do let x<-a sd;zdZ x);pure (.bl (!c))
def cK (d:D):FE:=fun _=>pure d
def zan:FA:=fun _=>pure []
def zac (a:FE) (r:FA):FA:=fun sd=>do let x<-a sd;let r<-r sd;pure (x::r)
def zde (fs:FA):FE:=fun sd=>do let ds<-fs sd;fits ds.length;pure (.tup ds)
def zgV (fs:FA):FE:=fun sd=>do let ds<-fs sd;fits ds.length;pure (.lst ds)
def zho (fs:FA):FE:=fun sd=>do let ds<-fs sd;fits ds.length;zfn ds
def zfr:FS:=fun sd=>pure (.nx sd)
def zap (g g':FS):FS:=fun sd=>do let o<-g sd;andThen o g'
def zbU (i:Nat) (f:FE):FS:=fun sd=>do let d<-f sd;pure (.nx (sd.set i (some d)))
def zbS (f:FE):FS:=fun sd=>do let d<-f sd;pure (.rt d)
def sIf (t:FT) (g g':FS):FS:=fun sd=>do let c<-t sd;if c=true then g sd else g' sd
def zkm (fi:FA) (g:D->Sd->M Sd) (gb:FS):FS:=fun sd=>do let ds<-fi sd;za4 (fun x sd=>do let sd1<-g x sd;gb sd1) ds sd
def zn3 (f:FE) (g:D->Sd->M Sd):FS:=fun sd=>do let d<-f sd;let sd'<-g d sd;pure (.nx sd')
def ze2 (f:FE):FS:=fun sd=>do let _<-f sd;pure (.nx sd)
def iSq (f:FE):FA:=fun sd=>do let d<-f sd;zeD d
def zgW (fs:FA):FA:=fun sd=>do let ds<-fs sd;zmJ ds
def zn0 (fo fi:FE):D->Sd->M Sd:=fun d sd=>do let x<-fo sd;let y<-fi sd;zkB x y d;pure sd
section
variable {X:Cx} {E:XE} {a b e c:Expr} {es:List Expr} {pos p p1 p2:Pos} {fa fb f:FE} {fs:FA} {x:Str}
theorem zab (i:Nat) (hN:X.N[i]? = some x:=by rfl) (hv:Vis X.env.scope x:=by first | exact Or.inl rfl | exact Or.inr (Or.inl rfl) | exact Or.inr (Or.inr rfl)) (hd:(x==("__debug__":Str))=false:=by decide) (hcd:(x==("__classdict__":Str))=false:=by decide):SE X E (.Name x pos) (zaf i):=zse i hN hv hd hcd
theorem zag {i:Int} {j:Nat}:SE X E (.Constant (.int i) j pos) (cK (.int i)):=zrY
theorem zjL {i:Bool} {j:Nat}:SE X E (.Constant (.bool i) j pos) (cK (.bl i)):=ztR
theorem zdv {i:Str} {j:Nat}:SE X E (.Constant (.str i) j pos) (cK (.str i)):=zrj
theorem za7 {op:Operator} {F:D->D->M D} (ho:OpR X (binaryOp op) (zdX X.K E F)) (ha:SE X E a fa) (hb:SE X E b fb):SE X E (.BinOp a op b pos) (cOp F fa fb):=zt6 ho ha hb
theorem ziB {op:CmpOp} {F:D->D->M D} (ho:OpR X (compareOp op) (zdX X.K E F)) (ha:SE X E a fa) (hb:SE X E b fb) (hm:behindInMarks op b=false:=by rfl):SE X E (.Compare a [op] [b] pos) (cOp F fa fb):=zrF ho ha hb hm
theorem zaZ {op:CmpOp} {F:D->D->M D} (ho:OpR X (compareOp op) (zdX X.K E F)) (ha:SE X E a fa) (hb:SE X E b fb) (hm:behindInMarks op b=false:=by rfl):ST X E (.Compare a [op] [b] pos) (zdK F fa fb):=ztn ho ha hb hm
theorem zaW (ha:SE X E a fa) (hb:SE X E b fb) (hs:ziu b:=by intro _ _;rfl):SE X E (.Subscript a b pos) (cOp dIx fa fb):=zt8 zvG ha hb hs
theorem zl7 (ha:SE X E a fa):SE X E (.UnaryOp .USub a pos) (cUn zou fa):=zr5 ha
theorem zuP (ha:SE X E a fa):SE X E (.UnaryOp .Not a pos) (zua fa):=zsn ha
theorem zpM {op:BoolOp} (h:SE X E a fa):SE X E (.BoolOp op [a] pos) fa:=zr8 h
theorem zp6 {rest:List Expr} (ha:SE X E a fa) (hb:SE X E (.BoolOp .And (b::rest) pos) fb):SE X E (.BoolOp .And (a::b::rest) pos) (zs7 fa fb):=zsB ha hb
theorem zco (h:SE X E e f) (he: ∀ whole,isTrue e X.env whole=(do let v<-whole;standAt e.pos;holding [v] (truthy v)):=by intro _;rfl):ST X E e (zhu f):=zs9 h he
theorem zch {t:FT} (ha:ST X E a t):ST X E (.UnaryOp .Not a pos) (zgJ t):=zsV ha
theorem zeR {t:FT} (ha:ST X E a t):PW X (.BoolOp .Or [a] pos) (zjW X.K E t):=zte ha
theorem zeU {rest:List Expr} {t u:FT} (ha:ST X E a t) (hb:PW X (.BoolOp .Or (b::rest) pos) (zjW X.K E u)):PW X (.BoolOp .Or (a::b::rest) pos) (zjW X.K E (tOr t u)):=zuy ha hb
theorem zdG {op:BoolOp} {vs:List Expr} {t:FT} (h:PW X (.BoolOp op vs pos) (zjW X.K E t)):ST X E (.BoolOp op vs pos) t:=zqV h
theorem zkY {env:Env} (h: ∀ v p,e≠ .Starred v p):starEach (e::es) env=(false,eval e env)::starEach es env:=by
 cases e<;>first | rfl | exact absurd rfl (h _ _)
theorem zad:SA X E [] zan:=zsg
theorem zaa (ha:SE X E e fa) (hr:SA X E es fs) (hs:starEach (e::es) X.env=(false,eval e X.env)::starEach es X.env:=by exact zkY (fun _ _ z=>nomatch z)):SA X E (e::es) (zac fa fs):=zqm ha hr hs
theorem zbv {k} (h:SA X E es fs):SE X E (.Tuple es k pos) (zde fs):=zrm h
theorem zdu (h:SA X E es fs):SE X E (.List es pos) (zgV fs):=zsZ h
theorem zfN (h:SA X E es fs):SE X E (.List es pos) (zho fs):=zqD h
theorem zaE {id:String} {F:List D->M D} (hc:zaz X (.builtin id) (zgj X.K E F)) (hv:bootBuiltins x=some (.builtin id)) (hm:X.mg x=none) (ha:SA X E (e::es) fs) (hg:Gl X x:=by rfl) (hn:x≠"__name__":=by decide) (hdb:(x==("__debug__":Str))=false:=by decide)
  (he:starEach (e::es) X.env=(false,eval e X.env)::starEach es X.env:=by rfl) (hpl:(backTo pos (starEach es X.env)).any (·.1)=false:=by rfl):SE X E (.Call (.Name x p) (e::es) [] pos) (zaA F fs):=znz hc hg hm hv ha hn hdb he hpl
theorem zby {T:String} {F:List D->M D} (hc:zaz X (.type T) (zgj X.K E F)) (hv:bootBuiltins x=some (.type T)) (hm:X.mg x=none) (ha:SA X E (e::es) fs) (hg:Gl X x:=by rfl) (hn:x≠"__name__":=by decide) (hdb:(x==("__debug__":Str))=false:=by decide)
  (he:starEach (e::es) X.env=(false,eval e X.env)::starEach es X.env:=by rfl) (hpl:(backTo pos (starEach es X.env)).any (·.1)=false:=by rfl):SE X E (.Call (.Name x p) (e::es) [] pos) (zaA F fs):=zmc hc hg hm hv ha hn hdb he hpl
theorem zkl {T:String} (hk:zj0 T) (hvT:bootBuiltins x=some (.type T)) (hm:X.mg "isinstance"=none) (hmT:X.mg x=none) (ha:SE X E a fa) (hg:Gl X "isinstance":=by rfl) (hgT:Gl X x:=by rfl)
  (hn:x≠"__name__":=by decide) (hd:(x==("__debug__":Str))=false:=by decide)
  (h1:starEach [a,.Name x p2] X.env=(false,eval a X.env)::starEach [.Name x p2] X.env:=by rfl) (h2:starEach [.Name x p2] X.env=[(false,eval (.Name x p2) X.env)]:=by rfl)
  (hpl:(backTo pos (starEach [.Name x p2] X.env)).any (·.1)=false:=by rfl):SE X E (.Call (.Name "isinstance" p1) [a,.Name x p2] [] pos) (cUn (zi5 T) fa):=zrf hk hg hm hgT hmT hvT ha hn hd h1 h2 hpl
theorem zhs {pos2:Pos} (hc:X.calm=true) (hm1:X.mg "sorted"=none) (hm2:X.mg "set"=none) (he:SE X E e f) (hg1:Gl X "sorted":=by rfl) (hg2:Gl X "set":=by rfl)
  (h1:starEach [.Call (.Name "set" p2) [e] [] pos2] X.env=[(false,eval (.Call (.Name "set" p2) [e] [] pos2) X.env)]:=by rfl) (h2:starEach [e] X.env=[(false,eval e X.env)]:=by rfl):
  SE X E (.Call (.Name "sorted" p1) [.Call (.Name "set" p2) [e] [] pos2] [] pos) (cUn zb6 f):=zj2 hc hg1 hm1 hg2 hm2 he h1 h2
theorem zar {k:Nat} {g:Addr} {fd:FuncData} {ps:List Str} {n:Nat} {F:List D->M D} (G:zb8 X.prog X.w X.K X.mg X.base CX0 k g fd ps (zcu X.K n F)) (hr:zd9 k X.A) (hm:X.mg x=some (.ref g)) (hk:W.keepIn X.K (.ref g)=true) (hb:zaL X.K fd ps [])
  (ha:SA X E0x (e::es) fs) (hg:Gl X x:=by rfl) (hdb:(x==("__debug__":Str))=false:=by decide) (he:starEach (e::es) X.env=(false,eval e X.env)::starEach es X.env:=by rfl) (hpl:(backTo pos (starEach es X.env)).any (·.1)=false:=by rfl):
  SE X E0x (.Call (.Name x p) (e::es) [] pos) (zaA (zaq n F) fs):=zpn G hr hg hm hk hb ha hdb he hpl
theorem zbs:SSs X E [] zfr:=zsf
theorem zam {st:Stmt} {g:FS} (h1:SS X E st g):SSs X E [st] g:=zsY h1
theorem zah {st:Stmt} {rest:List Stmt} {g g':FS} (h1:SS X E st g) (h2:SSs X E rest g'):SSs X E (st::rest) (zap g g'):=zpo h1 h2
theorem zaN (he:SE X E e f):SS X E (.Return (some e) pos) (zbS f):=ztS he
theorem zfA {ys ns:List Stmt} {t:FT} {g g':FS} (hc:ST X E c t) (ha:SSs X E ys g) (hb:SSs X E ns g'):SS X E (.If c ys ns pos) (sIf t g g'):=zvL hc ha hb
theorem ze4 (he:SE X E e f) (hs:swapsWith e none pos.line X.env=pure false:=by rfl):SS X E (.Expr e pos) (ze2 f):=zsA he hs
theorem zaQ (i:Nat) (hN:X.N.Nodup) (he:SE X E e f) (hi:X.N[i]? = some x:=by rfl) (hx:Loc X.env.scope x:=by first | exact Or.inl rfl | exact Or.inr rfl) (hf:X.fn x=true\/X.env.scope.names.lookup x=some .local:=by first | exact Or.inl rfl | exact Or.inr rfl)
  (hs:swapsWith e (some (.Name x p)) pos.line X.env=pure false:=by rfl):SS X E (.Assign [.Name x p] e pos) (zbU i f):=zux i hN hi hx hf he hs
theorem zik {tg:Expr} {g:D->Sd->M Sd} (he:SE X E e f) (hg:SG X E tg g) (hs:swapsWithSole [tg] e pos.line X.env=pure false:=by rfl) (hw:swappedStores [tg] e X.env=pure none:=by rfl)
  (h1:(assignEach [tg] X.env).map (·.2)=[assign tg X.env]:=by rfl):SS X E (.Assign [tg] e pos) (zn3 f g):=zuq he hg hs hw h1
theorem zaj (i:Nat) (hN:X.N.Nodup) (hi:X.N[i]? = some x:=by rfl) (hx:Loc X.env.scope x:=by first | exact Or.inl rfl | exact Or.inr rfl) (hf:X.fn x=true\/X.env.scope.names.lookup x=some .local:=by first | exact Or.inl rfl | exact Or.inr rfl):SG X E (.Name x pos) (zaC i):=zqM i hN hi hx hf
theorem zbX:SGs X E [] zbW:=zpi
theorem zay {g:D->Sd->M Sd} {gs:List D->Sd->M Sd} (h1:SG X E e g) (h2:SGs X E es gs) (hs:(assignEach (e::es) X.env).map (·.2)=assign e X.env::(assignEach es X.env).map (·.2):=by rfl):SGs X E (e::es) (zav g gs):=znE h1 h2 hs
theorem zdc {k n:Nat} {gs:List D->Sd->M Sd} (hc:X.calm=true) (h:SGs X E es gs) (hn:(assignEach es X.env).length=n:=by rfl) (hst:(assignEach es X.env).findIdx? (·.1)=none:=by rfl):SG X E (.Tuple es k pos) (zbY n gs):=zsX hc h hn hst
theorem zos (ho:SE X E a fa) (hi:SE X E b fb) (ha: ∀ v,assign (.Subscript a b pos) X.env v=(do
      let ov<-holding [v] (eval a X.env)
      let iv<-holding [v,ov] (eval b X.env)
      standAt pos
      holding [v,ov,iv] (setItem ov iv v)
      release [v,ov,iv] []):=by intro _;rfl):SG X E (.Subscript a b pos) (zn0 fa fb):=zsh fun hs=>zrv ho hi hs ha
theorem zb3 {tg:Expr} (he:SE X E e f):SI X E tg e (iSq f):=zrg he
theorem zeF {tg:Expr} (hm:X.mg "range"=none) (ha:SA X E [a] fs) (hg:Gl X "range":=by rfl) (hs:starEach [a] X.env=[(false,eval a X.env)]:=by rfl):SI X E tg (.Call (.Name "range" p) [a] [] pos) (zgW fs):=zqp hg hm ha hs
theorem zfe {tg iter:Expr} {body:List Stmt} {fi:FA} {g:D->Sd->M Sd} {gb:FS} (hc:X.calm=true) (hp:PassesOwn (model X.prog X.w) X.A X.env X.xe) (hi:SI X E tg iter fi) (hg:SG X E tg g) (hb:SSs X E body gb)
  (hs: ∀ x,foldedSetIterable iter X.env x=pure x:=by intro _;rfl):SS X E (.For tg iter body [] pos) (zkm fi g gb):=zuZ hc hp hi hg hb hs
theorem zbC:SCs X E [] (fun _=>pure true):=zsj
theorem zdT {t:FT} (h:ST X E c t):SCs X E [c] t:=ztt h
theorem zbk {scope:Scope} {N:List Str} {src:List (Option Nat)} {tg iter elt:Expr} {ifs:List Expr} {fi:FA} {g:D->Sd->M Sd} {tc:FT} {te:FE} (hc:X.calm=true) (B:BOk X scope N src) (hk:zaD g src) (hi:SI X E tg iter fi)
  (hg: ∀ s H fp,SG (cxB X scope N s H fp) E tg g) (ht: ∀ s H fp,SCs (cxB X scope N s H fp) E ifs tc) (he: ∀ s H fp,SE (cxB X scope N s H fp) E elt te)
  (hs: ∀ x,foldedSetIterable iter X.env x=pure x:=by intro _;rfl):SE X E (.ListComp elt [⟨tg,iter,ifs,0⟩] scope pos) (zaw fi g tc te src):=zlR B hk hi hg ht he hs
theorem zdh {scope:Scope} {N:List Str} {src:List (Option Nat)} {tg iter elt:Expr} {ifs:List Expr} {fi:FA} {g:D->Sd->M Sd} {tc:FT} {te:FE} (i:Nat) {y:Str} {py spos:Pos} (hc:X.calm=true) (hN:X.N.Nodup) (B:BOk X scope N src) (hk:zaD g src) (hi:SI X E tg iter fi)
  (hg: ∀ s H fp,SG (cxB X scope N s H fp) E tg g) (ht: ∀ s H fp,SCs (cxB X scope N s H fp) E ifs tc) (he: ∀ s H fp,SE (cxB X scope N s H fp) E elt te)
  (hy:X.N[i]? = some y:=by rfl) (hx:Loc X.env.scope y:=by first | exact Or.inl rfl | exact Or.inr rfl) (hf:X.fn y=true\/X.env.scope.names.lookup y=some .local:=by first | exact Or.inl rfl | exact Or.inr rfl) (hsw:swapsWith (.ListComp elt [⟨tg,iter,ifs,0⟩] scope pos) (some (.Name y py)) spos.line X.env=pure true:=by rfl)
  (hs: ∀ x,foldedSetIterable iter X.env x=pure x:=by intro _;rfl):SS X E (.Assign [.Name y py] (.ListComp elt [⟨tg,iter,ifs,0⟩] scope pos) spos) (zbU i (zaw fi g tc te src)):=zlY i B hk hi hg ht he hN hy hx hf hsw hs
end
theorem za8.empty {K:W.Frag} {H:Hp}:za8 K ⟨[],[]⟩ H []:=⟨rfl,fun m n a h=>by simp at h,fun n a c h=>by simp at h,fun n h=>by simp at h,fun a h=>by cases h⟩
theorem ztJ {K:W.Frag} {F:List D->M D} {H:Hp} {a:Addr} {ns:List Int} (hS:SqL K H a (ns.map V.int)) (hm: ∃ h',F [.scr (ns.map D.int)] []= .ok (.bl true) h'):zcu K 1 F [.ref a] H (fun v _=>v= .bl true) fun _ _ _=>False:=by
 obtain ⟨h',e⟩:=hm
 refine ⟨rfl,⟨[],[]⟩,[],[.scr (ns.map D.int)],zas.cons ?_ zas.nil,za8.empty,?_⟩
 ·simp only [Rel]
  refine ⟨a,ns.map V.int,rfl,?_,zct.mpr rfl⟩
  rcases hS with h | h
  ·exact .inl ⟨h,fun z=>by rcases z with z | z<;>cases z⟩
  ·exact .inr (.inr h)
 ·rw [e]
  intro ι1 H1 s hr v rv
  simpa [Rel] using rv
section
variable {sd:Sd} {a b:FE} {fs:FA} {t u:FT} {g g':FS} {F:D->D->M D}
@[simp] theorem zcE:cOp F a b sd=(do let x<-a sd;let y<-b sd;F x y):=rfl
@[simp] theorem zps {F:D->M D}:cUn F a sd=(do let x<-a sd;F x):=rfl
@[simp] theorem zbw {F:List D->M D}:zaA F fs sd=(do let ds<-fs sd;F ds):=rfl
@[simp] theorem zeW:zdK F a b sd=(do let z<-(do let x<-a sd;let y<-b sd;F x y);zdZ z):=rfl
@[simp] theorem zrQ:zhu a sd=(do let x<-a sd;zdZ x):=rfl
@[simp] theorem zsc:zgJ t sd=(do let c<-t sd;pure (!c)):=rfl
@[simp] theorem ztW:tOr t u sd=(do let c<-t sd;if c=true then pure true else u sd):=rfl
@[simp] theorem zoK:zs7 a b sd=(do let c<-(do let x<-a sd;zdZ x);if c=true then b sd else pure (.bl false)):=rfl
@[simp] theorem zoj:zua a sd=(do let c<-(do let x<-a sd;zdZ x);pure (.bl (!c))):=rfl
@[simp] theorem zfy {d:D}:cK d sd=pure d:=rfl
@[simp] theorem zaY:zan sd=pure []:=rfl
@[simp] theorem zaG:zac a fs sd=(do let x<-a sd;let r<-fs sd;pure (x::r)):=rfl
@[simp] theorem zfG:zde fs sd=(do let ds<-fs sd;fits ds.length;pure (.tup ds)):=rfl
@[simp] theorem zhi:zgV fs sd=(do let ds<-fs sd;fits ds.length;pure (.lst ds)):=rfl
@[simp] theorem zgD:zho fs sd=(do let ds<-fs sd;fits ds.length;zfn ds):=rfl
@[simp] theorem zhX:zfr sd=pure (.nx sd):=rfl
@[simp] theorem zbh:zap g g' sd=(do let o<-g sd;andThen o g'):=rfl
@[simp] theorem zdb {i:Nat}:zbU i a sd=(do let d<-a sd;pure (.nx (sd.set i (some d)))):=rfl
@[simp] theorem zdg:zbS a sd=(do let d<-a sd;pure (.rt d)):=rfl
@[simp] theorem zkQ:sIf t g g' sd=(do let c<-t sd;if c=true then g sd else g' sd):=rfl
@[simp] theorem ziJ {fi:FA} {gt:D->Sd->M Sd}:zkm fi gt g sd=(do let ds<-fi sd;za4 (fun x sd=>do let sd1<-gt x sd;g sd1) ds sd):=rfl
@[simp] theorem zi2 {gt:D->Sd->M Sd}:zn3 a gt sd=(do let d<-a sd;let sd'<-gt d sd;pure (.nx sd')):=rfl
@[simp] theorem zpU:ze2 a sd=(do let _<-a sd;pure (.nx sd)):=rfl
@[simp] theorem zm9:iSq a sd=(do let d<-a sd;zeD d):=rfl
@[simp] theorem zhB:zgW fs sd=(do let ds<-fs sd;zmJ ds):=rfl
@[simp] theorem zl8 {d:D}:zn0 a b d sd=(do let x<-a sd;let y<-b sd;zkB x y d;pure sd):=rfl
@[simp] theorem zda {i:Nat} {d:D}:zaC i d sd=pure (sd.set i (some d)):=rfl
@[simp] theorem zgQ:andThen (.nx sd) g=g sd:=rfl
@[simp] theorem ztx {d:D}:andThen (.rt d) g=pure (.rt d):=rfl
@[simp] theorem zuj:zdn (.nx sd)=pure .non:=rfl
@[simp] theorem zgF {d:D}:zdn (.rt d)=pure d:=rfl
@[simp] theorem zeA {c:Bool}:zdZ (.bl c)=pure c:=rfl
@[simp] theorem ztG {lo hi:Sd->M (Option Int)}:cSl a lo hi sd=(do let d<-a sd;let l<-lo sd;let u<-hi sd;dSl d l u):=rfl
@[simp] theorem zqe:ziz sd=pure none:=rfl
@[simp] theorem zpN:zie a sd=(do let d<-a sd;zqU d):=rfl
@[simp] theorem zs8 {i:Int}:zqU (.int i)=pure (some i):=rfl
@[simp] theorem zt0 {ds:List D} {lo hi:Option Int}:dSl (.tup ds) lo hi=pure (.tup (zjN ds lo hi)):=rfl
@[simp] theorem zuK {i:Int}:zou (.int i)=pure (.int (-i)):=rfl
@[simp] theorem zdx {i j:Int}:zcb (.int i) (.int j)=pure (.int (i+j)):=rfl
@[simp] theorem zoT {xs ys:List D}:zcb (.tup xs) (.tup ys)=(do fits (xs.length+ys.length);pure (.tup (xs++ys))):=rfl
@[simp] theorem zoQ {xs ys:List D}:zcb (.lst xs) (.lst ys)=(do fits (xs.length+ys.length);pure (.lst (xs++ys))):=rfl
@[simp] theorem zpA {i j:Int}:zl9 (.int i) (.int j)=pure (.int (i - j)):=rfl
@[simp] theorem zuH {i j:Int}:zuG (.int i) (.int j)=pure (.int (Builtin.bitAnd i j)):=rfl
@[simp] theorem zvn {i j:Int}:dLt (.int i) (.int j)=pure (.bl (decide (i<j))):=rfl
@[simp] theorem zvr {i j:Int}:dGt (.int i) (.int j)=pure (.bl (decide (j<i))):=rfl
@[simp] theorem zvA {i j:Int}:dGe (.int i) (.int j)=pure (.bl (decide (j<=i))):=rfl
@[simp] theorem zsW {ds:List D}:zf6 [.tup ds]=pure (.int ds.length):=rfl
@[simp] theorem zov {ds:List D}:zf6 [.lst ds]=pure (.int ds.length):=rfl
@[simp] theorem zoo {ds:List D}:zf6 [.scr ds]=pure (.int ds.length):=rfl
@[simp] theorem zs5 {ds:List D}:zcA [.tup ds]=pure (.tup ds):=rfl
@[simp] theorem zh2 {ds:List D}:zcA [.lst ds]=pure (.tup ds):=rfl
@[simp] theorem zsl {ds:List D}:zqu [.tup ds]=pure (.lst ds):=rfl
@[simp] theorem zut {ds:List D}:zeD (.tup ds)=pure ds:=rfl
@[simp] theorem zr0 {ds:List D}:zeD (.lst ds)=pure ds:=rfl
@[simp] theorem zqt {F:List D->M D} {x:D}:zaq 1 F [x]=F [x]:=rfl
@[simp] theorem zbF {F:List D->M D} {x y:D}:zaq 2 F [x,y]=F [x,y]:=rfl
@[simp] theorem zp5 {F:List D->M D} {x y z:D}:zaq 3 F [x,y,z]=F [x,y,z]:=rfl
@[simp] theorem zc3 {body:D->Sd->M Out}:za4 body [] sd=pure (.nx sd):=rfl
theorem zcc {body:D->Sd->M Out} {x:D} {r:List D}:za4 body (x::r) sd=(do let o<-body x sd;match o with | .nx sd'=>za4 body r sd' | .ct sd'=>za4 body r sd' | .bk sd'=>pure (.nx sd') | .rt d=>pure (.rt d)):=rfl
@[simp] theorem zlt {gs:List D->Sd->M Sd} {x y:D}:zbY 2 gs (.tup [x,y]) sd=gs [x,y] sd:=rfl
@[simp] theorem zl6:zbW [] sd=pure sd:=rfl
@[simp] theorem ziK {gt:D->Sd->M Sd} {gs:List D->Sd->M Sd} {x:D} {r:List D}:zav gt gs (x::r) sd=(do let sd1<-gt x sd;gs r sd1):=rfl
@[simp] theorem zoN {n:Nat} {k:Int} {d:D}:zkB (.cel n) (.int k) d=(do let ds<-zai n;let j<-ofO (ixN ds.length k);zbo n (ds.set j d)):=rfl
@[simp] theorem zum {ds:List D} {i:Int}:dIx (.tup ds) (.int i)=ofO (atI ds i):=rfl
@[simp] theorem zmW {ds:List D} {i:Int}:dIx (.lst ds) (.int i)=ofO (atI ds i):=rfl
@[simp] theorem ztX {ds:List D} {i:Int}:dIx (.scr ds) (.int i)=ofO (atI ds i):=rfl
@[simp] theorem zlV {n:Nat} {i:Int}:dIx (.cel n) (.int i)=(do let ds<-zai n;ofO (atI ds i)):=rfl
@[simp] theorem zem {α:Type} {x:α}:ofO (some x)=pure x:=rfl
@[simp] theorem zj4 {x:D} {r:List D}:atI (x::r) 0=some x:=by unfold atI ixN;simp
@[simp] theorem zsT {x y:D} {r:List D}:atI (x::y::r) 1=some y:=by
 have:=zc0 (xs:=x::y::r) (j:=1) (v:=y) rfl
 simpa using this
end
theorem zaB {n:Nat} (h:n<=1000):fits n=pure ():=by
 unfold fits
 rw [qa4 (qaS h (by decide))]
theorem zjp {i j:Int} (h:(zcN i || zcN j)=true):zhQ (.int i) (.int j)=pure (.int (i*j)):=by
 show (if (zcN i || zcN j)=true then _ else _)=_
 rw [qa4 h]
theorem ziU {i:Int} (h: -1000000000000000<i) (h':i<1000000000000000):zcN i=true:=by unfold zcN;simp;omega
theorem zhT {i j:Int} (h: -1000000000000000<i) (h':i<1000000000000000):zhQ (.int i) (.int j)=pure (.int (i*j)):=zjp (by rw [ziU h h'];rfl)
theorem ze3 {i j:Int} (h: -1000000000000000<j) (h':j<1000000000000000):zhQ (.int i) (.int j)=pure (.int (i*j)):=zjp (by rw [ziU h h'];simp)
theorem zeo {i j:Int} (h:0<j):zo0 (.int i) (.int j)=pure (.int (i % j)):=by
 show (if (decide (0<j))=true then _ else _)=_
 rw [qa4 (by simpa using h)]
theorem zeM {i j:Int} (h:0<j) (h':j<2^64):zj3 (.int i) (.int j)=pure (.int (i / j)):=by
 show (if (decide (0<j) && decide (j<2^64))=true then _ else _)=_
 rw [qa4 (by rw [qaG];exact ⟨by simpa using h,by simpa using h'⟩)]
theorem zpT {i j:Int}:dEq (.int i) (.int j)=pure (.bl (i==j)):=by
 unfold dEq zjz
 simp only [pd]
 rw [qa4 (show zfY (.int i) (.int j)=true from rfl)]
 rfl
theorem zsN {i j:Int}:dNe (.int i) (.int j)=pure (.bl (!(i==j))):=by
 unfold dNe zjz
 simp only [pd]
 rw [qa4 (show zfY (.int i) (.int j)=true from rfl)]
 rfl
def wp {α:Type} (m:M α) (h:Hh) (P:α->Hh->Prop):Prop:= ∃ a h',m h= .ok a h'/\P a h'
section
variable {α β:Type} {h:Hh} {P P':α->Hh->Prop}
theorem zak {a:α}:wp (pure a:M α) h P↔P a h:=⟨fun ⟨b,h',e,q⟩=>by cases (show R.ok a h=R.ok b h' from e);exact q,fun q=>⟨a,h,rfl,q⟩⟩
theorem zal {m:M β} {f:β->M α}:wp (m>>=f) h P↔wp m h fun b h'=>wp (f b) h' P:=by
 constructor
 ·rintro ⟨a,h',e,q⟩
  have e:M.bind m f h= .ok a h':=e
  unfold M.bind at e
  cases z:m h with
  | ok b h1=>rw [z] at e;exact ⟨b,h1,z,a,h',e,q⟩
  | exc c h1=>rw [z] at e;cases e
  | bad=>rw [z] at e;cases e
 ·rintro ⟨b,h1,e,a,h',e2,q⟩
  refine ⟨a,h',?_,q⟩
  show M.bind m f h=_
  unfold M.bind
  rw [e]
  exact e2
theorem ziC {m:M α} (q:wp m h P) (k: ∀ a h',P a h'->P' a h'):wp m h P':=by
 obtain ⟨a,h',e,q⟩:=q
 exact ⟨a,h',e,k _ _ q⟩
theorem zbN {n:Nat} {ds:List D} {P:List D->Hh->Prop} (e:h[n]? = some (.lst ds)):wp (zai n) h P↔P ds h:=by
 unfold wp zai
 rw [e]
 exact ⟨fun ⟨b,h',e,q⟩=>by cases e;exact q,fun q=>⟨_,_,rfl,q⟩⟩
theorem zhW {n:Nat} {ds:List D} {P:Unit->Hh->Prop}:wp (zbo n ds) h P↔P () (h.set n (.lst ds)):=⟨fun ⟨b,h',e,q⟩=>by cases (show R.ok () (h.set n (.lst ds))=R.ok b h' from e);exact q,fun q=>⟨_,_,rfl,q⟩⟩
theorem zji {ds:List D} {P:D->Hh->Prop}:wp (zfn ds) h P↔P (.cel h.length) (h++[.lst ds]):=⟨fun ⟨b,h',e,q⟩=>by cases (show R.ok (D.cel h.length) (h++[C.lst ds])=R.ok b h' from e);exact q,fun q=>⟨_,_,rfl,q⟩⟩
end
theorem zep {f:D->M (Option D)} {k:D->Option D}: ∀ {ds:List D},(∀ x∈ds,f x=pure (k x))->zbV f ds=pure (ds.filterMap k)
 | [],_=>rfl
 | x::r,hf=>by
  rw [zbV,hf x qau,zep fun y hy=>hf y (qan _ hy)]
  simp only [pure_bind]
  cases e:k x<;>simp [qat,e]
theorem zfZ {fi:FA} {g:D->Sd->M Sd} {tc:FT} {te:FE} {src:List (Option Nat)} {sd:Sd} {ds:List D} {k:D->Option D} (hi:fi sd=pure ds) (hl:ds.length<=1000) (hf: ∀ x∈ds,za9 g tc te (zao src sd) x=pure (k x)):zaw fi g tc te src sd=pure (.lst (ds.filterMap k)):=by
 unfold zaw
 rw [hi]
 simp only [pure_bind]
 rw [zaB hl]
 simp only [pure_bind]
 rw [zep hf]
 simp only [pure_bind]
theorem ziG: ∀ bs:List Bool,zoh (bs.map D.bl)=some bs
 | []=>rfl
 | b::r=>by rw [qaM,zoh,ziG r];rfl
theorem zbi: ∀ bs:List Int,zbO (bs.map D.int)=some bs
 | []=>rfl
 | b::r=>by rw [qaM,zbO,zbi r];rfl
theorem zgc (bs:List Bool):zra [.lst (bs.map D.bl)]=pure (.bl (bs.all id)):=by
 show (do let bs<-ofO (zoh (bs.map D.bl));pure (.bl (bs.all id)):M D)=_
 rw [ziG]
 rfl
theorem zmx {d:D} {xs:List Int} (e:zkw d=pure (xs.map D.int)) (h:(xs.foldl step_dedup []).length<64) (h2:xs.length<4000):zb6 d=pure (.lst ((zfq xs).map D.int)):=by
 unfold zb6
 rw [e]
 show (do let ns<-ofO (zbO (xs.map D.int));if (ns.foldl step_dedup []).length<64/\ns.length<4000 then pure (.lst ((zfq ns).map D.int)) else M.bad:M D)=_
 rw [zbi]
 show (if (xs.foldl step_dedup []).length<64/\xs.length<4000 then (pure (.lst ((zfq xs).map D.int)):M D) else M.bad)=_
 rw [qa4 ⟨h,h2⟩]
theorem zhM {xs:List Int} (h:xs.length<64):zb6 (.lst (xs.map D.int))=pure (.lst ((zfq xs).map D.int)):=zmx rfl (Nat.lt_of_le_of_lt (zmp xs) h) ⋯
theorem zjZ {xs:List Int} (h:xs.length<64):ziE [.tup (xs.map D.int)]=pure (.lst ((zcv xs).map D.int)):=by
 show (do let ns<-ofO (zbO (xs.map D.int));if ns.length<64 then pure (.lst ((zcv ns).map D.int)) else M.bad:M D)=_
 rw [zbi]
 show (if xs.length<64 then (pure (.lst ((zcv xs).map D.int)):M D) else M.bad)=_
 rw [qa4 h]
def kn:D->Bool
 | .non | .bl _ | .int _ | .str _ | .tup _ | .lst _ | .dct=>true
 | _=>false
def isT:D->Bool
 | .tup _=>true
 | _=>false
def isI:D->Bool
 | .int _=>true
 | _=>false
theorem zjg {d:D} (k:kn d=true):zi5 "tuple" d=pure (.bl (isT d)):=by
 cases d<;>simp [kn] at k<;>simp [zi5,tyD,isB,isT]
theorem zqK {d:D} (k:kn d=true):zi5 "int" d=pure (.bl (isI d || (match d with | .bl _=>true | _=>false))):=by
 cases d<;>simp [kn] at k<;>simp [zi5,tyD,isB,isI]
theorem zsp {d:D} (k:kn d=true):zi5 "bool" d=pure (.bl (match d with | .bl _=>true | _=>false)):=by
 cases d<;>simp [kn] at k<;>simp [zi5,tyD,isB,isI]
mutual
noncomputable def zl4:D->Bool
 | .non | .bl _ | .int _=>true
 | .str x=>PyData.strOk x
 | .tup ds=>decide (ds.length<64) && ziA ds
 | .lst ds=>decide (ds.length<64) && ziA ds
 | _=>false
noncomputable def ziA:List D->Bool
 | []=>true
 | d::r=>zl4 d && ziA r
end
mutual
theorem zq2: ∀ {d:D},zl4 d=true-> ∃ p,pd d=some p/\p.canLay0=true
 | .non,_=>⟨.none,rfl,rfl⟩
 | .bl b,_=>⟨.bool b,rfl,rfl⟩
 | .int i,_=>⟨.int i,rfl,rfl⟩
 | .str x,g=>⟨.str x,rfl,by simpa [zl4,PyData.canLay0] using g⟩
 | .tup ds,g=>by
  have g2:ziA ds=true:=by simp [zl4] at g;exact g.2
  obtain ⟨ps,e,c⟩:=zf3 g2
  exact ⟨.tuple ps,by unfold pd;rw [e];rfl,c⟩
 | .lst ds,g=>by
  have g2:ziA ds=true:=by simp [zl4] at g;exact g.2
  obtain ⟨ps,e,c⟩:=zf3 g2
  exact ⟨.list ps,by unfold pd;rw [e];rfl,c⟩
 | .cel _,g=>by simp [zl4] at g
 | .set _,g=>by simp [zl4] at g
 | .dct,g=>by simp [zl4] at g
 | .fn _,g=>by simp [zl4] at g
 | .scr _,g=>by simp [zl4] at g
 | .exn _,g=>by simp [zl4] at g
theorem zf3: ∀ {ds:List D},ziA ds=true-> ∃ ps,pdL ds=some ps/\PyData.canLayAll0 ps=true
 | [],_=>⟨[],rfl,rfl⟩
 | d::r,g=>by
  simp [ziA] at g
  obtain ⟨p,e,c⟩:=zq2 g.1
  obtain ⟨ps,e2,c2⟩:=zf3 g.2
  exact ⟨p::ps,by unfold pdL;rw [e,e2],by simp [PyData.canLayAll0,c,c2]⟩
end
theorem zb7: ∀ xs:List Int,pdL (xs.map D.int)=some (xs.map PyData.int)
 | []=>rfl
 | x::r=>by rw [qaM,pdL,zb7 r];rfl
theorem zaV: ∀ xs:List Int,PyData.canLayAll0 (xs.map PyData.int)=true
 | []=>rfl
 | x::r=>by simp [PyData.canLayAll0,PyData.canLay0,zaV r]
theorem zbg: ∀ xs:List Int,PyData.depthAll (xs.map PyData.int)=0
 | []=>rfl
 | x::r=>by simp [PyData.depthAll,PyData.depth,zbg r]
theorem zd7: ∀ xs ys:List Int,PyData.eqvAll (xs.map PyData.int) (ys.map PyData.int)=(xs==ys)
 | [],[]=>rfl
 | [],_::_=>rfl
 | _::_,[]=>rfl
 | x::xs,y::ys=>by
  simp only [qaM,PyData.eqvAll,PyData.eqv,zd7 xs ys]
  rfl
theorem zjc (xs ys:List Int):dNe (.lst (xs.map D.int)) (.lst (ys.map D.int))=pure (.bl (!(xs==ys))):=by
 show zjz true _ _=_
 unfold zjz
 have e1:pd (.lst (xs.map D.int))=some (.list (xs.map PyData.int)):=by unfold pd;rw [zb7];rfl
 have e2:pd (.lst (ys.map D.int))=some (.list (ys.map PyData.int)):=by unfold pd;rw [zb7];rfl
 rw [e1,e2]
 have c:zfY (.list (xs.map PyData.int)) (.list (ys.map PyData.int))=true:=by
  unfold zfY
  simp [PyData.canLay0,zaV,PyData.depth,zbg]
 simp only [c,if_true,PyData.eqv,zd7]
theorem zeL (k:Int): ∀ xs:List Int,((xs.map PyData.int).any fun y=>PyData.eqv y (.int k))=xs.any (· == k)
 | []=>rfl
 | x::r=>by simp only [qaM,List.any_cons,zeL k r];rfl
theorem zgA (k:Int) (xs:List Int):dIn (.int k) (.tup (xs.map D.int))=pure (.bl (xs.any (· == k))):=by
 show zmP false (.int k) (.tup (xs.map D.int))=_
 unfold zmP
 simp only [pd]
 rw [zb7]
 have c:zky (.int k) (xs.map PyData.int)=true:=by
  unfold zky
  simp [PyData.canLay0,zaV,PyData.depth,zbg]
 simp only [c,if_true,zeL]
 rfl
end L3
namespace L2
open LT
section
variable {X:Cx}
end
end L2
namespace L3
open L2 LT
section
variable {X:Cx} {E:XE} {a b c o e:Expr} {pos apos cpos:Pos} {fa fb fc fo fe:FE}
def zdA:D->M Unit
 | .cel n=>do let _<-zai n;pure ()
 | _=>M.bad
def zdI (x y:D):M D:=match x with
 | .cel n=>do
  let ds<-zai n
  fits (ds.length+1)
  zbo n (ds++[y])
  pure .non
 | _=>M.bad
def zeO (fo fe:FE):FE:=fun sd=>do
 let x<-fo sd
 zdA x
 let y<-fe sd
 zdI x y
theorem zen {α:Type} {K:W.Frag} {ι:Io} {H:Hp} {h:Hh} {n:Nat} {f:List D->M α} {P:α->Io->Hp->Prop} (q:Fin K E ι H ((zai n>>=f) h) P): ∃ ds,h[n]? = some (.lst ds)/\Fin K E ι H (f ds h) P:=by
 have q':Fin K E ι H (M.bind (zai n) f h) P:=q
 unfold M.bind at q'
 cases z:zai n h with
 | bad=>rw [z] at q';exact qa0 q'
 | exc c h'=>unfold zai at z;split at z<;>cases z
 | ok ds h'=>
  rw [z] at q'
  obtain ⟨rfl,z2⟩:=zcU z
  exact ⟨ds,z2,q'⟩
theorem zgB (ho:SE X E o fo) (he:SE X E e fe)
  (hbase:attributeBase o "append" X.env (eval o X.env)=eval o X.env:=by rfl)
  (hfew:((backTo cpos (starEach [e] X.env)).all (fun x=> !x.1) && (backToKw cpos (keywordEach [] X.env)).all (fun x=>x.1.isSome)
    && decide (([e]:List Expr).length+([]:List Keyword).length+(if ([]:List Keyword).isEmpty then 0 else 1)<30))=true:=by rfl)
  (hline:(apos.endLine==cpos.line)=true:=by rfl) (hs:starEach [e] X.env=(false,eval e X.env)::starEach [] X.env:=by rfl) (hplain:(backTo cpos (starEach [] X.env)).any (·.1)=false:=by rfl):
  SE X E (.Call (.Attribute o "append" apos) [e] [] cpos) (zeO fo fe):=by
 refine PE.imp (zoc PySem.F.plainAttrs_list PySem.F.slot_list_append PySem.F.type_list_append zhr ho (zaU he zb5 hs) hbase hfew hline hs hplain) fun σ H Q ⟨ι,h,sd,L,hh,q⟩=>⟨ι,h,sd,L,hh,Fin.bind q fun d h1 ι1 H1 e1 s1 hr1 q1 v rv=> ?_⟩
 cases d with
 | cel n=>
  have q2:Fin X.K E ι1 H1 ((zai n>>=fun _=>fe sd>>=fun y=>zdI (.cel n) y) h1) (fun d ι' H'=> ∀ v,Rel X.K ι' H' d v->Q v H'):=by
   have ee:(zdA (.cel n)>>=fun _=>fe sd>>=fun y=>zdI (.cel n) y:M D)=(zai n>>=fun _=>fe sd>>=fun y=>zdI (.cel n) y):=by
    show ((zai n>>=fun _=>pure ())>>=fun _=>fe sd>>=fun y=>zdI (.cel n) y)=_
    simp only [bind_assoc,pure_bind]
   rw [<- ee]
   exact q1
  obtain ⟨ds,e2,q3⟩:=zen q2
  obtain ⟨a,vs,rfl,hn,hH,rl⟩:=hr1.read rv e2
  refine ⟨.inl ⟨rfl,vs,SqL.of hH⟩,ι1,h1,sd,L.step s1,hr1,Fin.bind q3 fun y h3 ι3 H3 e3 s3 hr3 q4 w rw'=> ?_⟩
  have rv3:=rv.step s3
  have q5:Fin X.K E ι3 H3 ((zai n>>=fun ds=>fits (ds.length+1)>>=fun _=>zbo n (ds++[y])>>=fun _=>pure D.non) h3) (fun d ι' H'=> ∀ v,Rel X.K ι' H' d v->Q v H'):=q4
  obtain ⟨ds3,e4,q6⟩:=zen q5
  obtain ⟨a3,vs3,ea,hn3,hH3,rl3⟩:=hr3.read rv3 e4
  cases ea
  obtain ⟨z,q7⟩:=Fin.fits q6
  refine ⟨a,vs3,w,rfl,rfl,hH3,by rw [<- rl3.length];omega,?_⟩
  have q8:Fin X.K E ι3 H3 (R.ok D.non (h3.set n (.lst (ds3++[y])))) (fun d ι' H'=> ∀ v,Rel X.K ι' H' d v->Q v H'):=q7
  exact q8 ι3 _ (hr3.cellS hn3) (hr3.cell hn3 (rl3.append (zas.cons rw' zas.nil))) _ (by simp [Rel])
 | _=>exact qa0 q1
end
end L3
namespace Att
open PySem.W PySem.Calls
theorem zfP: ∀ {ns:List Int} {i:Int},i∈ns->Builtin.Int.intBits i<=WData.weightAll (ns.map WData.int)
 | n::r,i,h=>by
  rw [qaM,WData.weightAll]
  rcases qaP.mp h with e | e
  ·subst e
   have:WData.weight (.int i)=Builtin.Int.intBits i:=by simp only [WData.weight,Builtin.Int.intBits]
   omega
  ·have:=zfP e
   omega
theorem zt4 {ns:List Int} (h:WData.layableAll [WData.list (ns.map WData.int)]=true): ∀ i∈ns,Builtin.Int.intBits i<=2^20:=by
 intro i hi
 have h2:WData.weight (WData.list (ns.map WData.int))<=2^20:=by
  simp only [WData.layableAll,List.all_cons,List.all_nil,Bool.and_true,WData.layable,qaG,qaD] at h
  exact h.2
 have h3:WData.weight (WData.list (ns.map WData.int))=WData.weightAll (ns.map WData.int):=by simp only [WData.weight]
 have:=zfP hi
 omega
end Att
namespace L2
end L2
namespace L3
open L2 LT
section
variable {X:Cx} {E:XE}
end
end L3
namespace PySem
open PySem.Sem (wp)
open PySem.AutoSeq1 (wpAny_loadPart')
section
variable {prog:Program} {w:World} {A:Around} {E:Value->Shared->Prop} {s:Shared}
theorem zf8 {Q:List Value->Shared->Prop} {r:Addr} {a b c:Int} {t u v:Tok} {n:Nat} (hh:A.handled=none) (hr:IsRange s.heap r a b c t u v) (hsmall:Builtin.Range.small a b c=true)
  (hn:Builtin.Range.rangeSize a b c=n) (hlen:n<=2^24)
  (hQ: ∀ h' tk acc,(∀ b o,s.heap.get? b=some o->h'.get? b=some o)->ItemsOf (fun i v=> ∃ t,v= .int (a+i*c) t) acc n->Q acc.toList {s with heap:=h',toks:=tk}):
  wpAny (model prog w) A (collect (.ref r)) Q E s:=by
 unfold collect
 refine qaW (wpAny_runValue (codeAny_builtin F.entry_proto_collect ?_))
 rw [qap F.plain_proto_collect _]
 show wpAny _ A.in1 (newList []>>=fun l=>again (.builtin "list.__iadd__" ⟨[l,.ref r],[]⟩)) _ _ s
 refine qaW (qaC ?_)
 refine qaX ⟨plainId_quiet F.plain_list_iadd _,codeAny_builtin F.entry_list_iadd ?_⟩
 rw [qap F.plain_list_iadd _]
 show wpAny _ A.in1 (Builtin.List.listExtendWith (.ref s.heap.objs.size) (.ref r) (.ref s.heap.objs.size)) _ _ _
 have hS:(s.heap.push {cls:= .type "list",data:= .seq ([]:List Value).toArray}).get? s.heap.objs.size=some {cls:= .type "list",data:= .seq #[] 0}:=qar _ rfl
 have znj: ∀ (h':Heap) (tk:Nat) (acc:Array Value) (c':Nat),(∀ b o,b≠s.heap.objs.size->(s.heap.push {cls:= .type "list",data:= .seq ([]:List Value).toArray}).get? b=some o->h'.get? b=some o)->h'.get? s.heap.objs.size=some {cls:= .type "list",dict:=none,data:= .seq acc c',slots:= #[]}->
   ItemsOf (fun i v=> ∃ t,v= .int (a+i*c) t) acc n->wpAny (model prog w) A (match Value.ref s.heap.objs.size with
   | Value.ref a=>do
     match (<- load a).data with
       | Data.seq xs _=>pure xs.toList
       | _=>unsupported "internal:collect"
   | _=>unsupported "internal:collect") Q E {s with heap:=h',toks:=tk}:=fun h' tk acc c' hk hS' hacc=>by
  show wpAny _ A (load s.heap.objs.size>>=_) _ _ _
  refine qaW (wpAny_load hS' ?_)
  refine qaX ?_
  exact hQ h' tk acc (fun b o e=>hk b o (qaR (qaQ e)) (qag _ e)) hacc
 refine qaZ (wpAny_extend_range (A:=A) (s:={s with heap:=s.heap.push {cls:= .type "list",data:= .seq ([]:List Value).toArray}}) (R:=fun res s'=>res= .ok (.ret (.ref s.heap.objs.size))/\ ∃ (h':Heap) (tk:Nat) (acc:Array Value) (c':Nat),s'={s with heap:=h',toks:=tk}/\
     (∀ b o,b≠s.heap.objs.size->(s.heap.push {cls:= .type "list",data:= .seq ([]:List Value).toArray}).get? b=some o->h'.get? b=some o)/\h'.get? s.heap.objs.size=some {cls:= .type "list",dict:=none,data:= .seq acc c',slots:= #[]}/\ItemsOf (fun i v=> ∃ t,v= .int (a+i*c) t) acc n)
   hh (qag _ hr) hsmall hn hlen s.heap.objs.size (.ref s.heap.objs.size) 0 hS fun h' tk acc c' hk hS' hacc=>⟨rfl,h',tk,acc,c',rfl,hk,hS',hacc⟩) (fun fin s' h=> ?_) (fun e s' h=> ?_)
 ·cases fin with
  | done f=>
   obtain ⟨e,h',tk,acc,c',rfl,hk,hS',hacc⟩:=h
   cases e
   exact znj h' tk acc c' hk hS' hacc
  | again c'=>exact ⟨h.1,codeAny_mono h.2 fun r s'' hr=>by obtain ⟨rfl,h',tk,acc,c',rfl,hk,hS',hacc⟩:=hr;exact znj h' tk acc c' hk hS' hacc⟩
 ·exact absurd h.1 (by simp)
end
theorem zbM (l:Addr) (a b c:Int) (t u v:Tok) (n:Nat) (hsmall:Builtin.Range.small a b c=true) (hn:Builtin.Range.rangeSize a b c=n) (hlen:n<=2^24):
  Meets (Builtin.«tuple.__new__» ⟨[.type "tuple",.ref l],[]⟩)
   (fun A R s=>A.in1.handled=none/\IsRange s.heap l a b c t u v/\ ∀ (h':Heap) (tk:Nat) (acc:Array Value),(∀ b o',s.heap.get? b=some o'->h'.get? b=some o')->ItemsOf (fun i v=> ∃ t,v= .int (a+i*c) t) acc n->R (.ok (.ret (.ref h'.objs.size))) {s with heap:=h'.push {cls:= .type "tuple",data:= .seq acc},toks:=tk}):=
 .of_wp fun prog w A R s h=>by
  obtain ⟨hp,g,d,tk,os⟩:=s;obtain ⟨hh,ht,h⟩:=h
  have hsub:=sub_tuple_self
  have hinit:=init_tuple_lookup
  have hmh:=madeHere_tuple
  have hT:Shared.TypeIs ⟨hp,g,d,tk,os⟩ (.ref l) "range":=⟨_,ht,rfl⟩
  wp_walk using wpAny_loadPart' ht,wpAny_typeOf hT,zf8 hh ht hsmall hn hlen
  intro h' tk' acc hk hacc
  show wpAny _ _ (Builtin.Tuple.tupleExact acc.toList.toArray>>=fun v=>ret v) _ _ _
  unfold Builtin.Tuple.tupleExact
  have hsz:acc.size<=sizeLine:=by
   have:acc.size=n:=hacc.1
   have:sizeLine=2^24:=rfl
   omega
  refine qaW (qaC ?_ (by show acc.toList.toArray.size<=sizeLine;simpa using hsz))
  refine qaX ⟨_,rfl,?_⟩
  have e:acc.toList.toArray=acc:=by simp
  rw [e]
  exact h h' tk' acc hk hacc
end PySem
namespace L2
open LT
theorem zc7: ∀ (ns:List Int) (us:List Value),ns.length=us.length->(∀ (j:Nat) u,us[j]? = some u-> ∃ t,u=Value.int (ns.getD j 0) t)->zba (ns.map V.int) us
 | [],[],_,_=> .nil
 | [],_::_,h,_=>by cases h
 | _::_,[],h,_=>by cases h
 | n::ns,u::us,h,hg=>by
  refine .cons ?_ (zc7 ns us (by simpa using h) fun j w e=> ?_)
  ·obtain ⟨t,e⟩:=hg 0 u rfl
   exact ⟨t,by simpa using e⟩
  ·obtain ⟨t,e⟩:=hg (j+1) w (by simpa using e)
   exact ⟨t,by simpa using e⟩
section
variable {X:Cx}
theorem zeS:zaz X (.type "range") (fun xs H Q=> ∃ j:Int,xs=[.int j]/\ ∀ p,H p=none->Q (.ref p) (upd H p (.rng 0 j))):=by
 intro pins s σ H xs us Q I r h
 obtain ⟨j,rfl,q⟩:=h
 obtain ⟨u,rfl,rx⟩:=zcX r
 obtain ⟨t,rfl⟩:=rx
 refine call_range_1 ?_
 exact ⟨.ref s.heap.objs.size,_,I.laid (t':=s.toks+1+1) (o:= .rng 0 j) (fun b ob q=>qag _ q) (qaV _) ⟨_,_,_,qar _ rfl⟩,rfl,q _ (I.hok.fresh (qaV _))⟩
theorem ziX {j:Int} (h0:0<=j):Builtin.Range.rangeSize 0 j 1=(j.toNat:Int):=by
 unfold Builtin.Range.rangeSize
 rw [qa4 (by decide)]
 split
 ·rw [Int.ediv_one];omega
 ·omega
theorem zge (hc:X.calm=true):zaz X (.type "tuple") (fun xs H Q=> ∃ (p:Addr) (j:Int),xs=[.ref p]/\H p=some (.rng 0 j)/\0<=j/\j<1000/\ ∀ l,H l=none->Q (.ref l) (upd H l (.tup (((List.range j.toNat).map fun (k:Nat)=>(k:Int)).map V.int)))):=by
 intro pins s σ H xs us Q I r h
 obtain ⟨p,j,rfl,hp,h0,h1,q⟩:=h
 obtain ⟨u,rfl,rx⟩:=zcX r
 cases rx
 obtain ⟨t,u',v,hr⟩:=(show zbG X.prog X.w H s.heap p (.rng 0 j) from I.hok p _ hp)
 refine callType_new F.called_tuple (by decide) (F.typeCall_tuple_1 _) (F.newCall_tuple_1 _) (fun obj=>F.args_object_init_2 obj _) F.entry_tuple_new
  (zbM p 0 j 1 t u' v j.toNat (small_one ⋯ ⋯ ⋯ ⋯) (ziX h0) ⋯) ⟨show X.A.in1.in1.handled=none from I.ok.hd hc,hr,fun h' tk acc hk hacc=>⟨⟨_,qar _ rfl,rfl⟩,?_⟩⟩
 have I1:Inv X pins σ H {s with heap:=h',toks:=tk}:=I.kept (t':=tk) hk
 have hl:acc.toList.length=j.toNat:=by rw [qas];exact hacc.1
 have I2:=I1.laid (t':=tk) (h':=h'.push {cls:= .type "tuple",data:= .seq acc}) (a:=h'.objs.size) (o:= .tup (((List.range j.toNat).map fun (k:Nat)=>(k:Int)).map V.int)) (fun b o e=>qag _ e) (qaV _)
  ⟨by rw [qaH,qaH,List.length_range];exact qaS (show j.toNat<=1000 by omega) (by decide),acc.toList,zc7 _ _ (by rw [qaH,List.length_range,hl]) (fun k w e=> ?_),by simpa using zkr.new _ _⟩
 ·exact ⟨.ref h'.objs.size,_,I2,rfl,q _ (I1.hok.fresh (qaV _))⟩
 ·have hk':k<j.toNat:=by rw [<- hl];exact (qac.mp e).1
  obtain ⟨t,et⟩:=hacc.2 k w (by simpa using e)
  refine ⟨t,?_⟩
  rw [et]
  simp [hk']
end
end L2
namespace L3
open L2 LT
section
variable {X:Cx} {E:XE} {e:Expr} {f:FE}
def zec:D->M D
 | .int j=>if 0<=j/\j<1000 then pure (.tup (zcW 0 j.toNat)) else M.bad
 | _=>M.bad
theorem zjF {K:W.Frag} {ι:Io} {H:Hp} {n:Nat}:zas K ι H (zcW 0 n) (((List.range n).map fun (k:Nat)=>(k:Int)).map V.int):=by
 have:zcW 0 n=((List.range n).map fun (k:Nat)=>(k:Int)).map D.int:=by unfold zcW;simp
 rw [this]
 exact zct.mpr rfl
theorem zjk {p1 p2 pos pos2:Pos} (hc:X.calm=true) (hm1:X.mg "tuple"=none) (hm2:X.mg "range"=none) (he:SE X E e f) (hg1:Gl X "tuple":=by rfl) (hg2:Gl X "range":=by rfl)
  (h1:starEach [.Call (.Name "range" p2) [e] [] pos2] X.env=[(false,eval (.Call (.Name "range" p2) [e] [] pos2) X.env)]:=by rfl) (h2:starEach [e] X.env=[(false,eval e X.env)]:=by rfl):
  SE X E (.Call (.Name "tuple" p1) [.Call (.Name "range" p2) [e] [] pos2] [] pos) (cUn zec f):=by
 refine PE.imp (zbL (zge hc) hg1 hm1 PyProof.Rows.boot_tuple (zaU (zbL zeS hg2 hm2 boot_range (zaU he zb5 h2) (he:=h2)) zb5 h1) (he:=h1)) fun σ H Q ⟨ι,h,sd,L,hh,q⟩=>⟨ι,h,sd,L,hh,Fin.bind q fun d h1 ι1 H1 e1 s1 hr1 q1 v rv=> ?_⟩
 cases d with
 | int j=>
  simp only [Rel] at rv
  obtain ⟨⟨c1,c2⟩,q2⟩:=Fin.guard q1
  refine ⟨j,by rw [rv],fun p hp=> ?_⟩
  have hr2:za8 X.K ι1 (upd H1 p (.rng 0 j)) h1:=hr1.laid hp
  exact ⟨p,j,rfl,zaR,c1,c2,fun l hl=>zpj hr2 zjF (Fin.step (hr1.laidS hp) q2) hl⟩
 | _=>exact qa0 q1
end
@[simp] theorem zaH {d:D} {r:Sd}:zaf 0 (some d::r)=pure d:=rfl
@[simp] theorem zaO {n:Nat} {x:Option D} {r:Sd}:zaf (n+1) (x::r)=zaf n r:=rfl
def zd1 (m:Int):Int->List D->Bool
 | _,[]=>true
 | l,.int i::r=>decide (l<=i) && decide (i<m) && zd1 m (i+1) r
 | _,_::_=>false
theorem zbP {m:Int}: ∀ {xs:List Int} {l:Int},zd1 m l (xs.map D.int)=true↔xs.Pairwise (· < ·)/\ ∀ x∈xs,l<=x/\x<m
 | [],l=>by simp [zd1]
 | x::r,l=>by
  rw [qaM,zd1,qaG,qaG,zbP (xs:=r) (l:=x+1),qay]
  simp only [qaD,qaP,forall_eq_or_imp]
  constructor
  ·rintro ⟨⟨h1,h2⟩,h3,h4⟩
   refine ⟨⟨fun y hy=> ?_,h3⟩,⟨h1,h2⟩,fun y hy=> ?_⟩
   ·have:=(h4 y hy).1;omega
   ·have:=h4 y hy;omega
  ·rintro ⟨⟨h1,h2⟩,⟨h3,h4⟩,h5⟩
   refine ⟨⟨h3,h4⟩,h2,fun y hy=> ?_⟩
   have a1:=h1 y hy
   have a2:=h5 y hy
   omega
theorem zgC {m:Int}: ∀ {ts:List D} {l:Int},zd1 m l ts=true->ts.all isI=true
 | [],_,_=>rfl
 | d::r,l,h=>by
  cases d<;>first
   | (simp [zd1] at h;done)
   | (rw [zd1,qaG] at h;rw [List.all_cons,zgC h.2];rfl)
theorem zii: ∀ {ts:List D},ts.all isI=true-> ∃ xs:List Int,ts=xs.map D.int
 | [],_=>⟨[],rfl⟩
 | d::r,h=>by
  rw [List.all_cons,qaG] at h
  obtain ⟨xs,e⟩:=zii h.2
  cases d<;>first
   | (simp [isI] at h;done)
   | (rename_i i;exact ⟨i::xs,by rw [e];rfl⟩)
theorem zeK {m:Int}: ∀ {ts:List D} {l:Int},zd1 m l ts=true->l<=m->(ts.length:Int)<=m - l
 | [],l,_,h=>by simp;omega
 | d::r,l,h,hl=>by
  cases d<;>first
   | (simp [zd1] at h;done)
   | (rename_i i
      rw [zd1,qaG,qaG,qaD,qaD] at h
      have:=zeK h.2 ⋯
      simp
      omega)
def Bx (b:Nat) (h:Hh):Prop:= ∃ z:Int,h[b]? = some (.lst [.int z])
def Ext (b:Nat) (h h':Hh):Prop:=Bx b h'/\ ∀ (n:Nat) (c:C),n≠b->h[n]? = some c->h'[n]? = some c
theorem Ext.refl {b:Nat} {h:Hh} (q:Bx b h):Ext b h h:=⟨q,fun _ _ _ e=>e⟩
theorem Ext.trans {b:Nat} {h h1 h2:Hh} (p:Ext b h h1) (q:Ext b h1 h2):Ext b h h2:=⟨q.1,fun n c hn e=>q.2 n c hn (p.2 n c hn e)⟩
theorem Bx.set {b:Nat} {h:Hh} {z:Int} (q:Bx b h):Ext b h (h.set b (.lst [.int z])):=by
 obtain ⟨y,e⟩:=q
 have hl:=(qac.mp e).1
 exact ⟨⟨z,qai hl⟩,fun n c hn e=>by rw [qao (Ne.symm hn)];exact e⟩
theorem Bx.push {b:Nat} {h:Hh} {c:C} (q:Bx b h):Ext b h (h++[c]):=by
 obtain ⟨y,e⟩:=q
 have hl:=(qac.mp e).1
 refine ⟨⟨y,by rw [qad hl];exact e⟩,fun n c' hn e=> ?_⟩
 rw [qad (qac.mp e).1]
 exact e
theorem zbZ {j:Int} (h0:0<=j) (h:j<1000):zmJ [.int j]=pure (zcW 0 j.toNat):=by
 show (if zdE j=true then _ else _)=_
 rw [qa4 (by unfold zdE;simp;omega)]
theorem zgz {n:Nat} {d:D} (h:d∈zcW 0 n): ∃ i:Int,d= .int i/\0<=i/\i<n:=by
 unfold zcW at h
 obtain ⟨k,hk,e⟩:=qaU.mp h
 have:=List.mem_range.mp hk
 exact ⟨0+(k:Int),e.symm,⋯,⋯⟩
theorem zee {n:Nat}:(zcW 0 n).length=n:=by unfold zcW;simp
theorem zcx (n:Nat):zcW 0 n=((List.range n).map fun (k:Nat)=>(k:Int)).map D.int:=by unfold zcW;simp
theorem zaJ {α:Type} {c:Prop} [Decidable c] {a b:M α} {h:Hh} {P:α->Hh->Prop}:wp (if c then a else b) h P↔if c then wp a h P else wp b h P:=by split<;>exact Iff.rfl
theorem ziv {m:Int} (h0:0<=m) (h:m<=1000):zsM (.int 1) (.int m)=pure (.int (1*2^m.toNat)):=by
 show (if zq7 1 m=true then _ else _)=_
 rw [qa4 (by unfold zq7;simp;omega)]
theorem zqB {i m:Int} (h0:0<=m):zuL (.int i) (.int m)=pure (.int (i / 2^m.toNat)):=by
 show (if decide (0<=m)=true then _ else _)=_
 rw [qa4 (by simpa using h0)]
theorem zlN:ztj (.int 10) (.int 12)=pure (.int 1000000000000):=by
 unfold ztj dII
 simp only
 rw [qa4 (by decide)]
 rfl
theorem zqI (i:Int):Builtin.bitAnd i 1=i % 2:=by
 exact bitAnd_m1 i
theorem zeb {f:D->M (Option D)} {k:D->Option D} {h:Hh}: ∀ {ds:List D} {P:List D->Hh->Prop},(∀ x∈ds,wp (f x) h fun o h'=>o=k x/\h'=h)->P (ds.filterMap k) h->wp (zbV f ds) h P
 | [],P,_,q=>by rw [zbV,zak];exact q
 | x::r,P,hf,q=>by
  rw [zbV,zal]
  refine ziC (hf x qau) ?_
  rintro o h' ⟨rfl,rfl⟩
  rw [zal]
  refine zeb (k:=k) (fun y hy=>hf y (qan _ hy)) ?_
  rw [zak]
  cases e:k x with
  | none=>rw [qat,e] at q;exact q
  | some y=>rw [qat,e] at q;exact q
theorem zj5 {fi:FA} {g:D->Sd->M Sd} {tc:FT} {te:FE} {src:List (Option Nat)} {sd:Sd} {ds:List D} {k:D->Option D} {h:Hh} {P:D->Hh->Prop} (hi:fi sd=pure ds) (hl:ds.length<=1000) (hf: ∀ x∈ds,wp (za9 g tc te (zao src sd) x) h fun o h'=>o=k x/\h'=h) (q:P (.lst (ds.filterMap k)) h):wp (zaw fi g tc te src sd) h P:=by
 unfold zaw
 rw [hi]
 simp only [pure_bind]
 rw [zaB hl]
 simp only [pure_bind]
 rw [zal]
 refine zeb hf ?_
 rw [zak]
 exact q
theorem zqx {xs:List Int} {i:Int} (h:xs.Pairwise (· < ·)) (hi:i∉xs):(zcv (xs++[i])).Pairwise (· < ·):=by
 have hn:(xs++[i]).Nodup:=by
  rw [List.nodup_append]
  refine ⟨h.imp fun z=>by omega,by simp,fun a ha b hb=> ?_⟩
  simp at hb
  subst hb
  exact fun z=>hi (z▸ha)
 have hn2:(zcv (xs++[i])).Nodup:=(zaF _).nodup_iff.mpr hn
 exact ((zdq (xs++[i])).and hn2).imp fun ⟨a,b⟩=>by omega
theorem zpZ {xs:List D} {z:D} (h:xs.getLast? = some z):atI xs (-1)=some z:=by
 obtain ⟨ys,e⟩:=List.getLast?_eq_some_iff.mp h
 subst e
 exact zm6 ys z
end L3
namespace L2
open L3
theorem zbG.there {P:Program} {w:World} {H:Hp} {h:Heap} {a:Addr} {o:HO} (x:zbG P w H h a o): ∃ ob,h.get? a=some ob:=by
 cases o with
 | lst xs=>obtain ⟨_,_,_,_,e⟩:=x;exact ⟨_,e⟩
 | tup xs=>obtain ⟨_,_,_,ob,e,_⟩:=x;exact ⟨ob,e⟩
 | dK kvs=>obtain ⟨_,_,_,_,ob,_,_,e,_⟩:=x;exact ⟨ob,e⟩
 | dT kvs=>obtain ⟨_,_,_,_,ob,_,_,e,_⟩:=x;exact ⟨ob,e⟩
 | set S n=>obtain ⟨ob,_,_,_,e,_⟩:=x;exact ⟨ob,e⟩
 | ins C dx fs=>obtain ⟨_,_,_,e,_⟩:=x;exact ⟨_,e⟩
 | own y=>exact x
 | xd fs=>obtain ⟨_,⟨ob,_,_,e,_⟩,_⟩:=x;exact ⟨ob,e⟩
 | rng lo hi=>obtain ⟨_,_,_,e⟩:=x;exact ⟨_,e⟩
 | frz ob u=>exact ⟨ob,x.1⟩
 | tbl ps=>exact ⟨_,x⟩
 | met f y=>exact ⟨_,x⟩
 | ext φ=>exact x.2.1
structure HS (H H':Hp) (h:Heap):Prop where
 free: ∀ b o,h.get? b=some o->H b=none->H' b=none
 tups: ∀ b xs,H b=some (.tup xs)->H' b=some (.tup xs)
 frzs: ∀ b o u,H b=some (.frz o u)->H' b=some (.frz o u)
 tbls: ∀ b ps,H b=some (.tbl ps)-> ∃ more,H' b=some (.tbl (ps++more))
structure FlB (P:Program) (w:World) (l:List Env) (H:Hp) (h:Heap) (H':Hp) (B:Heap):Prop where
 old: ∀ b o,h.get? b=some o->b∉frs l-> ∃ o',B.get? b=some o'/\(H b=none->o'=o)
 trk: ∀ b u,H' b=some u-> ∃ o,B.get? b=some o
 ok:HOk P w H' B
structure Fl (P:Program) (w:World) (l:List Env) (H:Hp) (s:Shared) (a C:Addr) (fl:Value) (H':Hp) (s':Shared):Prop where
 os:s'.os=s.os
 bare:AllBare s'.gens
 base: ∃ B:Heap,Fly B l a (.ref C) fl s'.heap/\FlB P w l H s.heap H' B
 slot: ∀ b o,s.heap.get? b=some o->H b=none->b∈frs l-> ∃ sl,s'.heap.get? b=some {o with slots:=sl}
 hs:HS H H' s.heap
section
variable {P:Program} {w:World} {l:List Env} {H H':Hp} {s s':Shared} {a C:Addr} {fl:Value}
theorem Fl.un (y:Fl P w l H s a C fl H' s'):Un (frs l) [] H H' s.heap s'.heap:=by
 obtain ⟨B,y1,y2⟩:=y.base
 refine ⟨fun b o e n hb _=> ?_,fun b o e n hb _=>y.slot b o e n hb,fun b o e n _=>y.hs.free b o e n,fun b o e _=> ?_,y.hs.tups,y.hs.frzs,y.hs.tbls⟩
 ·obtain ⟨o',e',q⟩:=y2.old b o e hb
  rw [<- q n]
  exact y1.stays b o' e'
 ·by_cases hb:b∈frs l
  ·obtain ⟨_,o',e',_⟩:=y1.frames.mem hb
   exact ⟨o',e'⟩
  ·obtain ⟨o',e',_⟩:=y2.old b o e hb
   exact ⟨o',y1.stays b o' e'⟩
theorem Fl.hok (y:Fl P w l H s a C fl H' s'):HOk P w H' s'.heap:=by
 obtain ⟨B,y1,y2⟩:=y.base
 exact y2.ok.kept y1.stays
theorem Fl.exc (y:Fl P w l H s a C fl H' s'): ∃ head,ziy s'.heap a (.ref C) head:=by
 obtain ⟨B,y1,y2⟩:=y.base
 obtain ⟨hd,z,_⟩:=y1.exc
 exact ⟨hd,z⟩
theorem Fl.fresh (y:Fl P w l H s a C fl H' s'):s.heap.get? a=none/\H' a=none/\a∉frs l:=by
 obtain ⟨B,y1,y2⟩:=y.base
 have nf:a∉frs l:=fun z=>by
  obtain ⟨_,o,e,n⟩:=y1.frames.mem z
  obtain ⟨_,⟨ob,vs,e2,_,_,d,_⟩,_⟩:=y1.exc
  rw [e] at e2
  cases e2
  exact n vs d
 refine ⟨?_,?_,nf⟩
 ·cases q:s.heap.get? a with
  | none=>rfl
  | some o=>
   obtain ⟨o',e,_⟩:=y2.old a o q nf
   rw [y1.new] at e
   cases e
 ·cases q:H' a with
  | none=>rfl
  | some u=>
   obtain ⟨o',e⟩:=y2.trk a u q
   rw [y1.new] at e
   cases e
theorem Fl.mv {B h':Heap} {fl':Value} (os:s'.os=s.os) (bare:AllBare s'.gens) (slot: ∀ b o,s.heap.get? b=some o->H b=none->b∈frs l-> ∃ sl,s'.heap.get? b=some {o with slots:=sl}) (hs:HS H H' s.heap)
  (fr:s'.heap.FunFrames B l) (z:Fly B l a (.ref C) fl' h') (y:FlB P w l H s.heap H' B) (u:s'.heap.UpToSlots h'):Fl P w l H s a C fl' H' {s' with heap:=h'}:=by
 refine ⟨os,bare,⟨B,z,y⟩,fun b o e n hb=> ?_,hs⟩
 obtain ⟨sl,e2⟩:=slot b o e n hb
 obtain ⟨_,o2,e3,n3⟩:=fr.mem hb
 rw [e2] at e3
 cases e3
 obtain ⟨sl',e4⟩:=u b _ e2 n3
 exact ⟨sl',e4⟩
section
variable {M:Model} {A:Around} {E:Value->Shared->Prop} {env:Env} {outer:List Env} {L:Addr} {Q:Unit->Shared->Prop}
theorem Fl.note (y:Fl P w (env::outer) H s a C .none H' s') (hfr:A.frames=some (env::outer)) (hf:env.frame=some L) (k: ∀ h',Fl P w (env::outer) H s a C (rawInt L) H' {s' with heap:=h'}->Q () {s' with heap:=h'}):
  wpAny M A (noteFrame (.ref a) env) Q E s':=by
 obtain ⟨B,y1,y2⟩:=y.base
 exact zly hfr hf y1 fun h' z u=>k h' (Fl.mv y.os y.bare y.slot y.hs y1.frames z y2 u)
theorem Fl.off (y:Fl P w l H s a C fl H' s') (k: ∀ h',Fl P w l H s a C .none H' {s' with heap:=h'}->Q () {s' with heap:=h'}):wpAny M A (setFlight (.ref a) none) Q E s':=by
 obtain ⟨B,y1,y2⟩:=y.base
 exact zei y1 fun h' z u=>k h' (Fl.mv y.os y.bare y.slot y.hs y1.frames z y2 fun b o e n=>⟨o.slots,u b o e n⟩)
end
end
structure zfd (X:Cx):Prop where
 stk:X.stack=X.env::X.outer
 frm:X.env.frame=some X.env.locals
 ex:X.ex=[]
theorem zfd.frs {X:Cx} (z:zfd X):frs X.stack=X.env.locals::frs X.outer:=by
 rw [z.stk]
 unfold L2.frs
 rw [qat,z.frm]
section
variable {X:Cx} {pins:List (Addr×Obj)} {σ:St} {H H':Hp} {s s':Shared} {a C:Addr} {M:Model} {E:Value->Shared->Prop} {Q:Unit->Shared->Prop}
theorem Inv.below (I:Inv X pins σ H s) {b:Addr} {o:Obj} (e:X.s₀.heap.get? b=some o):b≠X.env.locals:=qaR (qaw (qaQ e) I.ok.above)
theorem Fl.leave (z:zfd X) (I:Inv X pins σ H s) (y:Fl X.prog X.w X.stack H s a C .none H' s') (k: ∀ s2,Fl X.prog X.w X.outer X.H₀ X.s₀ a C .none H' s2->Q () s2):wpAny M X.A (leaving X.env (.ref a)) Q E s':=by
 have nex: ∀ b,b∉X.ex:=fun b h=>by rw [z.ex] at h;cases h
 obtain ⟨B,y1,y2⟩:=y.base
 have hfr:=I.ok.frames
 rw [z.stk] at hfr y1
 refine znw hfr z.frm y1 fun h' q u=>k _ ?_
 have nin: ∀ b o,X.s₀.heap.get? b=some o->b∉frs X.outer->b∉frs X.stack:=fun b o e hb hm=>by
  rw [z.frs] at hm
  rcases qaP.mp hm with r | r
  ·exact I.below e r
  ·exact hb r
 refine ⟨y.os.trans I.os,y.bare,⟨B,q,fun b o e hb=> ?_,y2.trk,y2.ok⟩,fun b o e n hb=> ?_,fun b o e n=> ?_,fun b xs e=>y.hs.tups b xs (I.base.tups b xs e),fun b o v e=>y.hs.frzs b o v (I.base.frzs b o v e),fun b ps e=> ?_⟩
 ·obtain ⟨o1,e1⟩:=I.base.there b o e (nex b)
  obtain ⟨o2,e2,q2⟩:=y2.old b o1 e1 (nin b o e hb)
  refine ⟨o2,e2,fun n=> ?_⟩
  have e3:=I.base.keep b o e n hb (nex b)
  rw [e1] at e3
  cases e3
  exact q2 (I.base.free b o e n (nex b))
 ·obtain ⟨sl,e1⟩:=I.base.slot b o e n hb (nex b)
  have hb2:b∈frs X.stack:=by rw [z.frs];exact qan _ hb
  obtain ⟨sl2,e2⟩:=y.slot b _ e1 (I.base.free b o e n (nex b)) hb2
  obtain ⟨_,o3,e3,n3⟩:=y1.frames.mem (by rw [<- z.stk];exact hb2)
  rw [e2] at e3
  cases e3
  obtain ⟨sl4,e4⟩:=u b _ e2 n3
  exact ⟨sl4,e4⟩
 ·obtain ⟨o1,e1⟩:=I.base.there b o e (nex b)
  exact y.hs.free b o1 e1 (I.base.free b o e n (nex b))
 ·obtain ⟨m1,e1⟩:=I.base.tbls b ps e
  obtain ⟨m2,e2⟩:=y.hs.tbls b _ e1
  exact ⟨m1++m2,by rw [e2,Array.append_assoc]⟩
theorem Fl.made {h':Heap} {vs:List Value} (z:zfd X) (I:Inv X pins σ H s) (m:Heap.MadeExcOf s.heap h' a (.ref C) vs) (k: ∀ s2,Fl X.prog X.w X.outer X.H₀ X.s₀ a C .none H s2->Q () s2):wpAny M X.A (leaving X.env (.ref a)) Q E {s with heap:=h'}:=by
 have nex: ∀ b,b∉X.ex:=fun b h=>by rw [z.ex] at h;cases h
 have hfr:=I.ok.frames
 have hl:=I.stack
 have hin: ∀ env∈X.stack, ∀ b,env.frame=some b->b∈frs X.stack:=fun env he b hb=>List.mem_filterMap.mpr ⟨env,he,hb⟩
 have hl2:=W.funFrames_hide hl hin
 have hl3:h'.FunFrames (W.hideAll s.heap (frs X.stack)) X.stack:=hl2.of_keeps fun b o e _=>⟨o,m.keeps b o e,rfl⟩
 have inB: ∀ {b:Addr} {o:Obj},s.heap.get? b=some o->b∉frs X.stack->(W.hideAll s.heap (frs X.stack)).get? b=some o:=fun e n=>W.hideAll_get _ e n
 have ofB: ∀ {b:Addr} {o:Obj},(W.hideAll s.heap (frs X.stack)).get? b=some o->s.heap.get? b=some o:=fun e=>W.of_hideAll _ e
 have trk: ∀ b u,H b=some u->b∉frs X.stack:=fun b u e hm=>by rw [I.stkFree b hm] at e;cases e
 have newB:(W.hideAll s.heap (frs X.stack)).get? a=none:=by
  cases q:(W.hideAll s.heap (frs X.stack)).get? a with
  | none=>rfl
  | some o=>have:=ofB q;rw [m.new] at this;cases this
 have hst:=z.stk
 refine zis (B:=W.hideAll s.heap (frs X.stack)) (by rw [<- hst];exact hfr) (by rw [<- hst];exact hl3) z.frm (zm1 m) (fun b o e=>m.keeps b o (ofB e)) newB fun h2 q u=>k _ ?_
 have nin: ∀ b o,X.s₀.heap.get? b=some o->b∉frs X.outer->b∉frs X.stack:=fun b o e hb hm=>by
  rw [z.frs] at hm
  rcases qaP.mp hm with r | r
  ·exact I.below e r
  ·exact hb r
 refine ⟨I.os,I.bare,⟨_,q,fun b o e hb=> ?_,fun b v e=> ?_,fun b v e=> ?_⟩,fun b o e n hb=> ?_,fun b o e n=>I.base.free b o e n (nex b),I.base.tups,I.base.frzs,I.base.tbls⟩
 ·obtain ⟨o1,e1⟩:=I.base.there b o e (nex b)
  refine ⟨o1,inB e1 (nin b o e hb),fun n=> ?_⟩
  have e3:=I.base.keep b o e n hb (nex b)
  rw [e1] at e3
  cases e3
  rfl
 ·obtain ⟨o,e1⟩:=(I.hok b v e).there
  exact ⟨o,inB e1 (trk b v e)⟩
 ·refine (I.hok b v e).stay (fun c o hc e1=>inB e1 ?_) (fun _ r=>r) fun _ _ r=>r
  rcases hc with rfl | hc
  ·exact trk _ v e
  ·exact trk _ _ hc
 ·obtain ⟨sl,e1⟩:=I.base.slot b o e n hb (nex b)
  have hb2:b∈frs X.stack:=by rw [z.frs];exact qan _ hb
  obtain ⟨_,o3,e3,n3⟩:=hl.mem hb2
  rw [e1] at e3
  cases e3
  obtain ⟨sl4,e4⟩:=u b _ (m.keeps b _ e1) n3
  exact ⟨sl4,e4⟩
end
def CXE (P:Program) (w:World):CXT:=fun outer H s E e s'=> ∃ a C H',e= .ref a/\Fl P w outer H s a C .none H' s'/\E e (some C) H'
end L2
namespace L3
open L2
def zb2 (K:W.Frag) (c:String) (C:Addr):Prop:=W.nsIn K mainGlobals (c:Str)=some (some (.ref C))
def zrd (K:W.Frag) (E:XE):XK:=fun _ oc H'=> ∃ c C,oc=some C/\zb2 K c C/\E c H'
def ztu (K:W.Frag) (E:XK):XE:=fun c H'=> ∀ C v,zb2 K c C->E v (some C) H'
def zqT (X:Cx) (E:XE):Prop:= ∀ (pins:List (Addr×Obj)) (σ:St) (H:Hp) (s:Shared) (h':Heap) (a C:Addr) (c:String) (vs:List Value),Inv X pins σ H s->zb2 X.K c C->Heap.MadeExcOf s.heap h' a (.ref C) vs->E c H->X.xe (.ref a) {s with heap:=h'}
section
variable {P:Program} {w:World} {K:W.Frag} {mg:Str->Option Value} {base:Heap} {N:List Str} {qual:Str} {scope:Scope} {f:Addr} {cd:Value} {A:Around} {outer:List Env} {s:Shared} {H:Hp} {E:XK}
theorem zot:zfd (zh8 (CXE P w) P w K mg base N qual scope f cd A outer s H E):=⟨rfl,rfl,rfl⟩
theorem zin:zdM (CXE P w) (zh8 (CXE P w) P w K mg base N qual scope f cd A outer s H E) (zrd K (ztu K E)):=by
 intro pins σ H1 s1 e s2 I h
 obtain ⟨a,C,H2,rfl,y,c,C',e1,hc,he⟩:=h
 cases e1
 exact Fl.leave zot I y fun s3 y3=>⟨a,C,H2,rfl,y3,he _ _ hc⟩
theorem zi7:zqT (zh8 (CXE P w) P w K mg base N qual scope f cd A outer s H E) (ztu K E):=by
 intro pins σ H1 s1 h' a C c vs I hc m he
 exact Fl.made zot I m fun s3 y3=>⟨a,C,H1,rfl,y3,he _ _ hc⟩
end
noncomputable def noX {α:Type} (m:M α):M α:=fun h=>match m h with
 | .exc _ _=> .bad
 | r=>r
theorem Fin.noX {α:Type} {K:W.Frag} {E E':XE} {ι:Io} {H:Hp} {m:M α} {h:Hh} {P:α->Io->Hp->Prop} (q:Fin K E ι H (L3.noX m h) P):Fin K E' ι H (m h) P:=by
 unfold L3.noX at q
 cases e:m h with
 | ok a h'=>rw [e] at q;exact q
 | exc c h'=>rw [e] at q;exact qa0 q
 | bad=>rw [e] at q;exact q
def spE (K:W.Frag) (n:Nat) (F:List D->M D):Sp:=fun vs H Q E=>vs.length=n/\ ∃ ι h ds,zas K ι H ds vs/\za8 K ι H h/\Fin K (ztu K E) ι H (F ds h) fun d ι' H'=> ∀ v,Rel K ι' H' d v->Q v H'
section
variable {P:Program} {w:World} {K:W.Frag} {mg:Str->Option Value} {base:Heap}
theorem zmE {x qual:Str} {st:Stmt} {f:Addr} {fd:FuncData} {N ps:List Str} {k:Nat} {G:Sd->M Out} (F:Fun K x qual st f fd) (S:zat N ps (zae st))
  (hb: ∀ (cdv:Value) (A:Around) (outer:List Env) (s:Shared) (H:Hp) (E:XK),zd9 k (A.deeper (envOfC qual (zae st) s.heap.objs.size f cdv))->SSs (zh8 (CXE P w) P w K mg base N qual (zae st) f cdv A outer s H E) (ztu K E) (zcP st) G):
  zb8 P w K mg base (CXE P w) (k+1) f fd ps (spE K ps.length (zdm N.length G)):=by
 obtain ⟨oc,od,kV,doc,pm,an,cdv,ct,osl,rfl,lk,hcd⟩:=F.ex
 refine zsR lk hcd S (fun vs H Q E h=>h.1) fun A outer s H vs Q E hr ⟨hl,ι,h,ds,rl,hh,q⟩=>⟨_,hb cdv A outer s H E hr,ι,h,zfE N.length ds,zeh rl,hh,?_⟩
 refine Fin.bind q fun o h1 ι1 H1 e1 s1 hr1 q1=> ?_
 cases o with
 | nx sd=>exact fun σ' _=>Fin.out hr1 q1 _ (by simp [Rel])
 | rt d=>exact fun v rv=>Fin.out hr1 q1 v rv
 | bk sd=>exact qa0 q1
 | ct sd=>exact qa0 q1
end
section
variable {X:Cx} {E:XE} {e:Expr} {es:List Expr} {pos p:Pos}
theorem Fin.exmono {α:Type} {K:W.Frag} {E E':XE} {ι:Io} {H:Hp} {r:R α} {P:α->Io->Hp->Prop} (m: ∀ c H',E c H'->E' c H') (q:Fin K E ι H r P):Fin K E' ι H r P:=by
 cases r with
 | ok a h'=>exact q
 | exc c h'=>exact fun ι2 H2 t hr=>m _ _ (q ι2 H2 t hr)
 | bad=>exact q
theorem znx {k:Nat} {f:Addr} {fd:FuncData} {ps:List Str} {n:Nat} {F:List D->M D} {fs:Sd->M (List D)} {x:Str} (G:zb8 X.prog X.w X.K X.mg X.base (CXE X.prog X.w) k f fd ps (spE X.K n F)) (hx:zdM (CXE X.prog X.w) X (zrd X.K E)) (hr:zd9 k X.A) (hg:Gl X x) (hm:X.mg x=some (.ref f)) (hk:W.keepIn X.K (.ref f)=true) (hb:zaL X.K fd ps [])
  (ha:SA X E (e::es) fs) (hdb:(x==("__debug__":Str))=false:=by decide) (he:starEach (e::es) X.env=(false,eval e X.env)::starEach es X.env:=by rfl) (hpl:(backTo pos (starEach es X.env)).any (·.1)=false:=by rfl):
  SE X E (.Call (.Name x p) (e::es) [] pos) (zaA (zaq n F) fs):=by
 refine PE.imp (ziD G hr hg hm hk hb (dvs:=[]) .nil hx ha hdb he hpl) fun σ H Q ⟨ι,h,sd,L,hh,q⟩=>⟨ι,h,sd,L,hh,Fin.bind q fun ds h1 ι1 H1 e1 s1 hr1 q1 vs rv=> ?_⟩
 show spE X.K n F (vs++[]) H1 Q _
 rw [List.append_nil]
 unfold zaq at q1
 by_cases hl:ds.length=n
 ·rw [qa4 hl] at q1
  exact ⟨by rw [<- rv.length];exact hl,ι1,h1,ds,rv,hr1,Fin.exmono (fun c H' z C v hc=>⟨c,C,rfl,hc,z⟩) q1⟩
 ·rw [qa5 hl] at q1
  exact qa0 q1
theorem znp {k:Nat} {f:Addr} {fd:FuncData} {ps:List Str} {n:Nat} {F:List D->M D} {fs:Sd->M (List D)} {x:Str} (G:zb8 X.prog X.w X.K X.mg X.base CX0 k f fd ps (zcu X.K n F)) (hr:zd9 k X.A) (hg:Gl X x) (hm:X.mg x=some (.ref f)) (hk:W.keepIn X.K (.ref f)=true) (hb:zaL X.K fd ps [])
  (ha:SA X E (e::es) fs) (hdb:(x==("__debug__":Str))=false:=by decide) (he:starEach (e::es) X.env=(false,eval e X.env)::starEach es X.env:=by rfl) (hpl:(backTo pos (starEach es X.env)).any (·.1)=false:=by rfl):
  SE X E (.Call (.Name x p) (e::es) [] pos) (zaA (zaq n fun ds=>noX (F ds)) fs):=by
 refine PE.imp (ziD G hr hg hm hk hb (dvs:=[]) .nil (E:=fun _ _ _=>False) zrI ha hdb he hpl) fun σ H Q ⟨ι,h,sd,L,hh,q⟩=>⟨ι,h,sd,L,hh,Fin.bind q fun ds h1 ι1 H1 e1 s1 hr1 q1 vs rv=> ?_⟩
 show zcu X.K n F (vs++[]) H1 Q _
 rw [List.append_nil]
 unfold zaq at q1
 by_cases hl:ds.length=n
 ·rw [qa4 hl] at q1
  exact ⟨by rw [<- rv.length];exact hl,ι1,h1,ds,rv,hr1,Fin.noX q1⟩
 ·rw [qa5 hl] at q1
  exact qa0 q1
end
end L3
namespace L2
open L3
structure zd8 (k:Nat) (A:Around):Prop where
 dp:A.depth+3*k+5<recursionLimit
 un:A.units+16*k+200<cLine
theorem zd8.of {k:Nat} {A:Around} (r:zd9 k A):zd8 k A:=⟨r.dp,r.un⟩
theorem zd8.deeper {k:Nat} {A:Around} (r:zd8 (k+1) A) (env:Env):zd8 k (A.deeper env):=
 ⟨by have:=r.dp;show A.depth+1+3*k+5<_;omega,by have:=r.un;show A.units+3+16*k+200<_;omega⟩
structure FnH (P:Program) (w:World) (K:W.Frag) (mg:Str->Option Value) (base:Heap) (k:Nat) (f:Addr) (fd:FuncData) (ps:List Str) (sp:Sp):Prop where
 len: ∀ vs H Q E,sp vs H Q E->vs.length=ps.length
 run: ∀ (A:Around) (outer:List Env) (s:Shared) (H:Hp) (args:Args) (us:List Value) (vs:List V) (Q:VK),zd8 k A->zrc P w K mg base A outer s H->BindsTo s fd args (ps.zip us)->zba vs us->sp vs H Q E0->
  codeAny (model P w) A (.call (.ref f) args) (CR CX0 outer P w H s Q E0) s
theorem zru {P:Program} {w:World} {K:W.Frag} {mg:Str->Option Value} {base:Heap} {k:Nat} {f:Addr} {name qual:Str} {params:Arguments} {body:List Stmt} {scope:Scope} {dV kV doc pm cdv ct oc:Value} {an od:Option Addr}
  {osl:Array (Option Value)} {N ps:List Str} {sp:Sp} (lk:K.lookup f=some ⟨oc,od,.func (W.fnOf name qual params body scope dV kV doc pm an cdv ct),osl⟩) (hcd:W.codeIn K cdv qual=true) (S:zat N ps scope)
  (len: ∀ vs H Q E,sp vs H Q E->vs.length=ps.length)
  (hbody: ∀ (A:Around) (outer:List Env) (s:Shared) (H:Hp) (vs:List V) (Q:VK),zd8 k (A.deeper (envOfC qual scope s.heap.objs.size f cdv))->sp vs H Q E0->
    ∃ t,PSs ({zh8 CX0 P w K mg base N qual scope f cdv A outer s H E0 with calm:=false}:Cx).nox body t/\t {nx:=fun _ H'=>Q .non H',rt:=Q} (zef N vs) H):
  FnH P w K mg base (k+1) f (W.fnOf name qual params body scope dV kV doc pm an cdv ct) ps sp:=by
 refine ⟨len,fun A outer s H args us vs Q hr e0 hb r hsp=> ?_⟩
 have hl:=len _ _ _ _ hsp
 have KX:K.In s.heap:=e0.mod.kin.keeps fun b o e=>(e0.bs b o e).1
 have lim:s.heap.NoLimit:=e0.mod.nolimit.keeps fun b o e=>(e0.bs b o e).1
 have hkind: ∀ y∈ps.zip us,scope.names.lookup y.1=some .local\/(scope.names.lookup y.1=some .cell/\((cellsFrom (s.heap.objs.size+1) scope.names []).lookup y.1).isSome=true):=fun ⟨n,v⟩ hy=>by
  rcases S.par n (List.of_mem_zip hy).1 with q | q
  ·exact .inl q
  ·exact .inr ⟨q,W.cellsFrom_some _ _ _ (.inl q)⟩
 refine codeAny_call_function (by have:=hr.dp;omega) (KX _ _ lk) rfl S.co S.gen rfl (W.codeRec_of KX hcd) (hb _ _ _ _ ?_)
 refine wpAny_newFunctionEnv_cells S.kind hkind fun env he s1 x=> ?_
 subst he
 refine ⟨lim.keeps x.toInCall.keep,codeAny_func ?_⟩
 obtain ⟨t,ht,hq⟩:=hbody A outer s H vs Q (hr.deeper _) hsp
 have I:Inv {zh8 CX0 P w K mg base N qual scope f cdv A outer s H E0 with calm:=false} [] (zef N vs) H s1:=zhG (cm:=false) S (fun z=>by cases z) e0 hl r x
 refine qaZ (ht.nox [] s1 (zef N vs) H _ I hq) (fun fl s' hs=> ?_) fun e s' hs=>hs
 have fin: ∀ {σ':St} {H':Hp} {v:V} {u:Value},Inv {zh8 CX0 P w K mg base N qual scope f cdv A outer s H E0 with calm:=false} [] σ' H' s'->zbB v u->Q v H'->CE outer P w H s Q u s':=
  fun {σ' H' v u} J rv q=>⟨v,H',J.os,J.bare,J.base,J.hok,rv,q⟩
 cases fl with
 | ret u=>
  obtain ⟨v,σ',H',J,rv,q⟩:=hs
  exact fin J rv q
 | next=>
  obtain ⟨σ',H',J,q⟩:=hs
  exact fin (v:=V.non) (u:=Value.none) J rfl q
 | brk=>
  obtain ⟨_,_,_,q⟩:=hs
  exact qa0 q
 | cont=>
  obtain ⟨_,_,_,q⟩:=hs
  exact qa0 q
section
variable {X:Cx} {pins:List (Addr×Obj)} {σ:St} {H H':Hp} {s s':Shared} {a:Addr} {o:Obj}
theorem Inv.track (I:Inv X pins σ H s) (hH:H a=none) (ho:s.heap.get? a=some o) (h0:X.s₀.heap.get? a=none) (hL:a≠X.env.locals) (hc: ∀ x c,X.env.cells.lookup x=some c->c≠a) (hp: ∀ p∈X.pn++pins,p.1≠a):
  Inv X pins σ (upd H a (.frz o (.own 0))) s:=by
 have un: ∀ {b:Addr} {u:HO},H b=some u->upd H a (.frz o (.own 0)) b=some u:=fun e=>by rw [zax (zaM e hH)];exact e
 refine ⟨I.ok,I.os,I.bare,⟨I.base.keep,I.base.slot,fun b ob e n hx=> ?_,I.base.there,fun b xs e=>un (I.base.tups b xs e),fun b ob u e=>un (I.base.frzs b ob u e),fun b ps e=> ?_⟩,I.loc,I.cell,?_,fun x c e=> ?_,fun p q=> ?_,fun b u e=> ?_,I.len⟩
 ·rw [zax (fun z=>by subst z;rw [h0] at e;cases e)]
  exact I.base.free b ob e n hx
 ·obtain ⟨m,e1⟩:=I.base.tbls b ps e
  exact ⟨m,un e1⟩
 ·rw [zax (Ne.symm hL)]
  exact I.free
 ·rw [zax (hc x c e)]
  exact I.freeC x c e
 ·obtain ⟨e1,e2,e3⟩:=I.pin p q
  exact ⟨e1,by rw [zax (hp p q)];exact e2,e3⟩
 ·by_cases hb:b=a
  ·subst hb
   rw [zaR] at e
   cases e
   exact ⟨ho,o,ho⟩
  ·rw [zax hb] at e
   exact (I.hok b u e).stay (fun _ _ _ z=>z) (fun c z=>un z) fun c xs z=>un z
theorem zqr {M:Model} {A:Around} {E:Value->Shared->Prop} {i:Nat} {x:Str} {pos:Pos} {Q:Unit->Shared->Prop} (I:Inv X pins σ H s) (hN:X.N.Nodup) (hi:X.N[i]? = some x) (hk:X.env.scope.names.lookup x=some .local)
  (h: ∀ s',Inv X pins (σ.set i none) H s'->Q () s'):wpAny M A (do bindName X.env x .none;unbindBehindTheSuite X.env x pos) Q E s:=by
 obtain ⟨m,hn,hl⟩:=id I.loc
 have hcls:(X.env.scope.kind== .class || (X.env.scope.kind== .module && X.env.locals != X.env.globals))=false:=by rw [I.ok.kind];rfl
 have hiσ:i<σ.length:=by rw [I.len];exact (qac.mp hi).1
 have cne:=I.cne
 refine wpAny_nameGoes_keeps hk hn hcls fun h' v hn' hs=> ?_
 obtain ⟨oL,_,_,hoL,_⟩:=id hn
 refine h _ ⟨I.ok,I.os,I.bare,⟨fun b ob e n hb hx=> ?_,fun b ob e n hb hx=> ?_,I.base.free,fun b ob e hx=> ?_,I.base.tups,I.base.frzs,I.base.tbls⟩,⟨_,hn',fun j y v' e1 e2 e3=> ?_⟩,fun y c e=> ?_,I.free,I.freeC,fun p hp=> ?_,fun b ob e=> ?_,by simpa using I.len⟩
 ·exact (hs.2 b (I.below e)).trans (I.base.keep b ob e n hb hx)
 ·obtain ⟨sl,e1⟩:=I.base.slot b ob e n hb hx
  exact ⟨sl,(hs.2 b (I.below e)).trans e1⟩
 ·obtain ⟨o',e1⟩:=I.base.there b ob e hx
  exact ⟨o',(hs.2 b (I.below e)).trans e1⟩
 ·by_cases hj:j=i
  ·subst hj
   rw [qai hiσ] at e2
   cases e2
  ·rw [qao (Ne.symm hj)] at e2
   obtain ⟨u',r',q⟩:=hl j y v' e1 e2 e3
   refine ⟨u',r',?_⟩
   rcases q with ⟨k,e⟩ | ⟨k,c,e,z⟩
   ·refine .inl ⟨k,?_⟩
    have:y≠x:=fun e=>hj (zgr hN e1 (e▸hi))
    simp [this,e]
   ·exact .inr ⟨k,c,e,z.sameBut hs (cne y c e)⟩
 ·obtain ⟨w',z⟩:=I.cell y c e
  exact ⟨w',z.sameBut hs (cne y c e)⟩
 ·obtain ⟨e,n,ne,nf,d⟩:=I.pin p hp
  exact ⟨(hs.2 p.1 ne).trans e,n,ne,nf,d⟩
 ·refine (I.hok b ob e).stay (fun c w' hc q=>(hs.2 c ?_).trans q) (fun _ q=>q) fun _ _ q=>q
  rintro rfl
  rcases hc with rfl | hc
  ·rw [I.free] at e;cases e
  ·rw [I.free] at hc;cases hc
end
section
variable {X:Cx} {pins:List (Addr×Obj)} {σ:St} {H H':Hp} {s s':Shared} {a C CE:Addr} {ce en:Str} {pce pos:Pos} {b₀:Stmt} {suite:List Stmt} {j:Nat} {Q:Flow->Shared->Prop} {E:Value->Shared->Prop}
theorem Fl.caught (z:zfd X) (I:Inv X pins σ H s) (y:Fl X.prog X.w X.stack H s a C .none H' s') (hN:X.N.Nodup) (hj:X.N[j]? = some en) (hen:X.env.scope.names.lookup en=some .local) (hg:Gl X ce) (hm:X.mg ce=some (.ref CE)) (hx:W.exmOne X.K (.ref C) (.ref CE)=some true)
  (k: ∀ s6,Inv X pins (σ.set j (some (.ref a))) H' s6->(∃ head,ziy s6.heap a (.ref C) head)->wpAny (model X.prog X.w) (X.A.mark (some (.ref a))) (execs (b₀::suite) X.env)
    (fun f s4=>wpAny (model X.prog X.w) X.A (do bindName X.env en .none;unbindBehindTheSuite X.env en pos) (fun _ s5=>Q f s5) E s4) (fun _ _=>False) s6) (hd:(ce==("__debug__":Str))=false:=by decide):
  wpAny (model X.prog X.w) X.A (noteFrame (.ref a) X.env) (fun _ s2=>wpAny (model X.prog X.w) X.A (setFlight (.ref a) none) (fun _ s3=>
    wpAny (model X.prog X.w) X.A (handleBy (.ref a) X.env [.ExceptHandler (some (.Name ce pce)) (some en) (b₀::suite) pos]) Q E s3) E s2) E s':=by
 have hfr:=I.ok.frames
 rw [z.stk] at hfr y
 refine y.note hfr z.frm fun h3 y3=> ?_
 refine y3.off fun h4 y4=> ?_
 have ev: ∀ {hp fl},Fl X.prog X.w (X.env::X.outer) H s a C fl H' {s' with heap:=hp}->Inv X pins σ H' {s' with heap:=hp}:=fun {hp fl} y=>by
  have u:=y.un
  rw [<- z.stk] at u
  exact I.call' y.os u y.hok y.bare fun b q=>absurd q (by simp)
 have I4:=ev y4
 obtain ⟨hd4,x4⟩:=y4.exc
 have LT:W.Looks (model X.prog X.w) h4 (typeOf (.ref a)) (.ref C):=by
  obtain ⟨ob,vs,e1,e2,_⟩:=x4
  exact e2▸(W.Looks.ld e1).andThen .now
 refine wpAny_handleBy_cons (codeAny_handlers_test ?_) (by intro q;cases q)
 refine Calls.Name_function_global I4.ok.kind hg (Calls.loadGlobal_global (by rw [I4.ok.glob];exact I4.mod.glob.keeps I4.bk) hm ?_) hd
 refine (W.exm_one I4.kIn LT hx).here ?_
 refine codeAny_handlers_suite_as ?_
 refine y4.off fun h5 y5=> ?_
 have I5:=ev y5
 obtain ⟨hd5,x5⟩:=y5.exc
 have na:a≠X.env.locals/\ ∀ x c,X.env.cells.lookup x=some c->c≠a:=by
  obtain ⟨f1,f2,f3⟩:=y.fresh
  refine ⟨fun q=> ?_,fun x c e q=> ?_⟩
  ·obtain ⟨m,⟨oL,_,_,hoL,_⟩,_⟩:=I.loc
   rw [<- q,f1] at hoL
   cases hoL
  ·obtain ⟨v,oc,hoc,_⟩:=I.cell x c e
   rw [q,f1] at hoc
   cases hoc
 refine zhL I5 hN hj (.inl hen) (v:= .ref a) rfl (fun s6 I6 ⟨b,sb,hb⟩=> ?_) (.inr hen)
 refine qaZ (k s6 I6 ⟨hd5,x5.keep fun ob e=>(sb.2 a fun q=> ?_).trans e⟩) (fun _ _ q=>q) fun _ _ q=>q.elim
 rcases hb with hb | hb
 ·exact na.1 (q.trans hb)
 ·exact na.2 en b hb q.symm
end
abbrev zmf:List Value:=[.type "ValueError",.type "Exception",.type "BaseException",.type "object"]
theorem zqW {K:W.Frag} {h:Heap} {mg:Str->Option Value} {x:Str} {C:Addr} {bm:List Value} {nid:String} (X:K.In h) (hm:mg x=some (.ref C)) (q:W.excIn K C bm nid=true):OwnCls x C bm nid mg h:=by
 refine ⟨hm,?_⟩
 unfold W.excIn at q
 split at q
 ·rename_i dd cdt sl lk
  split at q
  ·rename_i C2 tl y0 y1 y2 y3 nn y5 hmro hsl
   simp only [qaG,beq_iff_eq,Bool.not_eq_true'] at q
   obtain ⟨⟨⟨⟨⟨rfl,rfl⟩,q3⟩,q4⟩,q5⟩,q6⟩:=q
   obtain ⟨z1,z2,z3,z4,z5,z6,z7,z8,z9,z10,z11⟩:=cdt
   dsimp only at hmro q3 q5 q6
   subst hmro q3
   obtain rfl:sl= #[y0,y1,y2,y3,some (.builtin nn),y5]:=by
    obtain ⟨ll⟩:=sl
    dsimp only at hsl
    rw [hsl]
   exact ⟨tl,z4,z1,z5,z2,z6,z7,z8,z9,z10,dd,y0,y1,y2,y3,y5,_,X _ _ lk,.of_isNs (W.isNs_of_in X q5),W.nsMap_none_of_in X q5 q6,W.tail_of_in X q4⟩
  ·cases q
 ·cases q
def Cx.re (X:Cx) (pn:List (Addr×Obj)) (xe:Value->Shared->Prop):Cx:={X with pn:=pn,xe:=xe}
section
variable {X:Cx} {pins pins':List (Addr×Obj)} {σ:St} {H H':Hp} {s s':Shared} {xe:Value->Shared->Prop}
theorem Inv.re (I:Inv X pins σ H s) (xe:Value->Shared->Prop):Inv (X.re (X.pn++pins) xe) [] σ H s:=
 ⟨⟨I.ok.mod,I.ok.kind,I.ok.glob,I.ok.blt,I.ok.above,I.ok.inj,I.ok.has,I.ok.cab,I.ok.hd,I.ok.hx,I.ok.frames,I.ok.stk,I.ok.exf,I.ok.bs,I.ok.bsz,I.ok.noex,I.ok.exfs,I.ok.funs,I.ok.frf⟩,I.os,I.bare,I.base,I.loc,I.cell,I.free,I.freeC,fun p hp=>I.pin p (by simpa [Cx.re] using hp),I.hok,I.len⟩
theorem Inv.unre (I:Inv (X.re (X.pn++pins) xe) pins' σ H s):Inv X pins σ H s:=
 ⟨⟨I.ok.mod,I.ok.kind,I.ok.glob,I.ok.blt,I.ok.above,I.ok.inj,I.ok.has,I.ok.cab,I.ok.hd,I.ok.hx,I.ok.frames,I.ok.stk,I.ok.exf,I.ok.bs,I.ok.bsz,I.ok.noex,I.ok.exfs,I.ok.funs,I.ok.frf⟩,I.os,I.bare,I.base,I.loc,I.cell,I.free,I.freeC,fun p hp=>I.pin p (List.mem_append_left _ hp),I.hok,I.len⟩
theorem SP.unre {D:zoX} {f:Flow} (h:SP (X.re (X.pn++pins) xe) pins' D f s'):SP X pins D f s':=by
 cases f with
 | next=>obtain ⟨σ',H',I,q⟩:=h;exact ⟨σ',H',I.unre,q⟩
 | brk=>obtain ⟨σ',H',I,q⟩:=h;exact ⟨σ',H',I.unre,q⟩
 | cont=>obtain ⟨σ',H',I,q⟩:=h;exact ⟨σ',H',I.unre,q⟩
 | ret u=>obtain ⟨v,σ',H',I,r,q⟩:=h;exact ⟨v,σ',H',I.unre,r,q⟩
end
end L2
namespace L3
open L2
section
variable {X:Cx} {pins:List (Addr×Obj)} {σ:L2.St} {H:Hp} {s:Shared} {a C:Addr} {o:Obj} {vs:Array Value} {head:Value} {c:String} {gk en pe:Str} {p1 p2 p3:Pos} {j k:Nat} {fk:Addr} {fdk:FuncData} {Fk:List D->M D} {Qv:VK} {ι:Io} {h:Hh}
theorem zkF (I:Inv X pins σ H s) (hH:H a=none) (ho:s.heap.get? a=some o) (ob:o.cls= .ref C/\o.dict=none/\o.data= .fields vs/\vs[2]? = some .none/\vs[1]? = some head)
  (h0:X.s₀.heap.get? a=none) (hL:a≠X.env.locals) (hcl: ∀ x c,X.env.cells.lookup x=some c->c≠a) (hp: ∀ p∈X.pn++pins,p.1≠a) (hj:X.N[j]? = some en) (hσ:σ[j]? = some (some (.ref a))) (hen:X.env.scope.names.lookup en=some .local)
  (FH:FnH X.prog X.w X.K X.mg X.base k fk fdk [pe] (zcu X.K 1 Fk)) (hb:zaL X.K fdk [pe] []) (hg:Gl X gk) (hm:X.mg gk=some (.ref fk)) (kp:W.keepIn X.K (.ref fk)=true) (hr:zd8 k X.A) (hc:zb2 X.K c C) (hh:za8 X.K ι H h)
  (q:Fin X.K E0x ι (upd H a (.frz o (.own 0))) (Fk [.exn c] h) fun d ι' H'=> ∀ v,Rel X.K ι' H' d v->Qv v H') (hd:(gk==("__debug__":Str))=false:=by decide) (hd2:(en==("__debug__":Str))=false:=by decide):
  wpAny (model X.prog X.w) (X.A.mark (some (.ref a))) (eval (.Call (.Name gk p1) [.Name en p2] [] p3) X.env) (fun u s8=> ∃ v H8,Inv X pins σ H8 s8/\zbB v u/\Qv v H8) (fun _ _=>False) s:=by
 have It:=I.track hH ho h0 hL hcl hp
 have E0':=It.env0
 refine wpAny_Call_Name_kw (Calls.Name_function_global I.ok.kind hg (Calls.loadGlobal_global (by rw [I.ok.glob];exact I.mod.glob.keeps I.bk) hm ?_) hd)
 refine W.callWith_K (h₀:=X.base) I.ok.mod.kin kp ?_
 refine Calls.spliced_cons ?_
 obtain ⟨m,hn,hl⟩:=It.loc
 obtain ⟨u,r,l⟩:=hl j en (.ref a) hj hσ (.inl hen)
 obtain rfl:u=Value.ref a:=r
 have hme:m en=some (.ref a):=by
  rcases l with ⟨_,e⟩ | ⟨e,_⟩
  ·exact e
  ·exfalso
   have e':X.env.scope.names.lookup en=some .cell\/X.env.scope.names.lookup en=some .free:=e
   rw [hen] at e'
   rcases e' with e' | e'<;>cases e'
 refine wpAny_Name (wpAny_loadName_local I.ok.kind hen hn hme ?_) hd2
 refine Calls.spliced_nil ⟨It.kIn,?_⟩
 have e0:zrc X.prog X.w X.K X.mg X.base (X.A.mark (some (.ref a))) X.stack s (upd H a (.frz o (.own 0))):=
  ⟨It.ok.frames,E0'.mod,E0'.bs,E0'.bsz,E0'.funs,E0'.frf,E0'.hok,E0'.bare,.inr ⟨a,o,.ref C,head,vs,rfl,zaR,ob⟩⟩
 have sp:zcu X.K 1 Fk [.ref a] (upd H a (.frz o (.own 0))) Qv E0:=
  ⟨rfl,ι,h,[.exn c],zas.cons (by simp only [Rel];exact ⟨a,o,C,head,vs,rfl,⟨zaR,hh.nin hH⟩,hc,ob⟩) zas.nil,hh.laid hH,q⟩
 refine wpAny_call (codeAny_mono (FH.run (X.A.mark (some (.ref a))) X.stack s _ ⟨[.ref a],[]⟩ [.ref a] [.ref a] Qv ⟨hr.dp,hr.un⟩ e0 (hb s [.ref a] It.kIn rfl) (.cons rfl .nil) sp) fun r s' hq=> ?_)
 cases r with
 | error e=>exact qa0 hq
 | ok fl=>
  cases fl with
  | ret u=>exact It.after hq
  | next=>exact qa0 hq
  | brk=>exact qa0 hq
  | cont=>exact qa0 hq
end
noncomputable def zgE (known:List String) (gb:FS) (Fk:List D->M D):FS:=fun sd h=>match gb sd h with
 | .exc c h1=>if known.contains c=true then (do let d<-noX (Fk [.exn c]);pure (.rt d):M Out) h1 else .bad
 | r=>r
section
variable {X:Cx} {E:XE} {body:List Stmt} {ce en gk pe x:Str} {pce p1 p2 p3 p4 p5 hp pos:Pos} {CE fk:Addr} {fdk:FuncData} {Fk:List D->M D} {gb:FS} {j k i:Nat} {known:List String}
theorem znA {st:Stmt} {fin:Sd->D->M Out} {gt:FS} (hgt: ∀ sd h,gt sd h=match gb sd h with
      | .exc c h1=>if known.contains c=true then (do let d<-noX (Fk [.exn c]);fin sd d:M Out) h1 else .bad
      | r=>r)
  (z:zfd X) (hN:X.N.Nodup) (hj:X.N[j]? = some en) (hen:X.env.scope.names.lookup en=some .local) (hg:Gl X ce) (hm:X.mg ce=some (.ref CE))
  (hkn: ∀ c∈known, ∀ C,zb2 X.K c C->W.exmOne X.K (.ref C) (.ref CE)=some true) (hd:(ce==("__debug__":Str))=false)
  (hb: ∀ pn xe E',zdM (CXE X.prog X.w) (X.re pn xe) (zrd X.K E')->SSs (X.re pn xe) E' body gb)
  (hst: ∀ (X':Cx) (pins:List (Addr×Obj)) (σ:L2.St) (H:Hp) (s:Shared) (a:Addr) (D0:zoX) (sd:Sd) (Q:Flow->Shared->Prop) (Ef:Value->Shared->Prop) (pn:List (Addr×Obj)) (xe:Value->Shared->Prop),X'=X.re pn xe->Inv X' pins (σ.set j (some (.ref a))) H s->sd.length=X.N.length->
    (∀ Qv:VK,(∀ d ι' H' h',za8 X.K ι' H' h'->Fin X.K E ι' H' (fin sd d h') (zeH X.K D0)-> ∀ v,Rel X.K ι' H' d v->Qv v H')->
      wpAny (model X.prog X.w) (X.A.mark (some (.ref a))) (eval (.Call (.Name gk p1) [.Name en p2] [] p3) X.env) (fun u s8=> ∃ v H8,Inv X' pins (σ.set j (some (.ref a))) H8 s8/\zbB v u/\Qv v H8) (fun _ _=>False) s)->
    (∀ f s9,SP X' pins D0 f s9->Q f s9)->
    wpAny (model X.prog X.w) (X.A.mark (some (.ref a))) (execs [st] X.env) (fun f s4=>wpAny (model X.prog X.w) X.A (do bindName X.env en .none;unbindBehindTheSuite X.env en hp) (fun _ s5=>Q f s5) Ef s4) (fun _ _=>False) s)
  (FH:FnH X.prog X.w X.K X.mg X.base k fk fdk [pe] (zcu X.K 1 Fk)) (hbk:zaL X.K fdk [pe] []) (hgk:Gl X gk) (hmk:X.mg gk=some (.ref fk)) (kp:W.keepIn X.K (.ref fk)=true) (hr:zd8 k X.A) (hd2:(gk==("__debug__":Str))=false) (hd3:(en==("__debug__":Str))=false):
  SS X E (.Try body [.ExceptHandler (some (.Name ce pce)) (some en) [st] hp] [] [] pos) gt:=by
 intro pins s σ H D0 I ⟨ι,h,sd,L,hh,q⟩
 refine wpAny_Try_except ?_
 rw [hgt] at q
 let xe':Value->Shared->Prop:=fun e s₁=>wpAny (model X.prog X.w) X.A (noteFrame e X.env) (fun _ s₂=>wpAny (model X.prog X.w) X.A (setFlight e none) (fun _ s₃=>wpAny (model X.prog X.w) X.A (handleBy e X.env [.ExceptHandler (some (.Name ce pce)) (some en) [st] hp]) (SP X pins D0) X.xe s₃) X.xe s₂) X.xe s₁
 cases hres:gb sd h with
 | bad=>rw [hres] at q;exact qa0 q
 | ok o1 h1=>
  rw [hres] at q
  have run:=hb (X.pn++pins) xe'
   E0x (fun pins' σ' H1 s1 e s2 I1 hx=>by obtain ⟨a,C,H2,_,_,c,C',_,_,w⟩:=hx;exact w.elim) [] s σ H D0 (I.re _) ⟨ι,h,sd,L,hh,by rw [hres];exact q⟩
  refine qaZ run (fun f s1 hs=> ?_) fun _ _ w=>w
  have hs':=hs.unre
  cases f with
  | next=>exact wpAny_execs_nil hs'
  | ret u=>exact hs'
  | brk=>exact hs'
  | cont=>exact hs'
 | exc c h1=>
  rw [hres] at q
  by_cases hk:known.contains c=true
  ·simp only [hk,if_true] at q
   have run:=hb (X.pn++pins) xe'
    (fun c' H'=>c'=c/\ ∃ ι',zbT ι H ι' H'/\za8 X.K ι' H' h1) (fun pins' σ' H1 s1 e s2 I1 hx=>by
      obtain ⟨a,C,H2,rfl,y,c',C',e1,hc,rfl,ι',st1,hr1⟩:=hx
      cases e1
      have z':zfd (X.re (X.pn++pins) xe'):=⟨z.stk,z.frm,z.ex⟩
      obtain ⟨f1,f2,f3⟩:=y.fresh
      refine Fl.caught (X:=X.re (X.pn++pins) xe') (b₀:=st) (suite:=[]) (pce:=pce) (pos:=hp) (Q:=SP X pins D0) (E:=X.xe) z' I1 y hN hj hen hg hm (hkn c' (by simpa using hk) C hc) (fun s6 I6 ⟨head,x6⟩=> ?_) hd
      obtain ⟨o,vs,ho,ob⟩:=x6
      have hnil: ∀ b,b∉X.ex:=fun b h=>by rw [z.ex] at h;cases h
      refine hst _ pins' σ' H2 s6 a D0 sd (SP X pins D0) X.xe _ _ rfl I6 (L.1.trans I.len) (fun Qv hQ=> ?_) fun f s9 w=>w.unre
      have hσ:(σ'.set j (some (V.ref a)))[j]? = some (some (.ref a)):=qai (by rw [I1.len];exact (qac.mp hj).1)
      refine zkF (X:=X.re _ _) I6 f2 ho ob ?_ (fun w=> ?_) (fun x c e w=> ?_) (fun p hp w=> ?_) hj hσ hen FH hbk hgk hmk kp hr hc hr1 ?_ hd2 hd3
      · cases w:X.s₀.heap.get? a with
        | none=>exact w
        | some ob=>
          obtain ⟨o',e'⟩:=I1.base.there a ob w (hnil a)
          rw [f1] at e'
          cases e'
      · obtain ⟨m,⟨oL,_,_,hoL,_⟩,_⟩:=I1.loc
        have hoL:s1.heap.get? X.env.locals=some oL:=hoL
        rw [<- show a=X.env.locals from w,f1] at hoL
        cases hoL
      · obtain ⟨v,oc,hoc,_⟩:=I1.cell x c e
        rw [w,f1] at hoc
        cases hoc
      · have e:=(I1.pin p hp).1
        rw [w,f1] at e
        cases e
      · have q1:=Fin.step (st1.trans (hr1.laidS (o:= .frz o (.own 0)) f2)) q
        exact Fin.noX (Fin.bind q1 fun d h' ι8 H8 e8 s8 hr8 q8 v rv=>hQ d ι8 H8 h' hr8 q8 v rv))
    [] s σ H {nx:=fun _ _=>False,rt:=fun _ _=>False} (I.re _) ⟨ι,h,sd,L,hh,by rw [hres];exact fun ι' H' st1 hr1=>⟨rfl,ι',st1,hr1⟩⟩
   refine qaZ run (fun f s1 hs=> ?_) fun _ _ w=>w
   cases f with
   | next=>obtain ⟨_,_,_,w⟩:=hs;exact w.elim
   | brk=>obtain ⟨_,_,_,w⟩:=hs;exact w.elim
   | cont=>obtain ⟨_,_,_,w⟩:=hs;exact w.elim
   | ret u=>obtain ⟨_,_,_,_,_,w⟩:=hs;exact w.elim
  ·simp only [hk] at q
   exact qa0 q
theorem zrz (z:zfd X) (hN:X.N.Nodup) (hj:X.N[j]? = some en) (hen:X.env.scope.names.lookup en=some .local) (hg:Gl X ce) (hm:X.mg ce=some (.ref CE))
  (hkn: ∀ c∈known, ∀ C,zb2 X.K c C->W.exmOne X.K (.ref C) (.ref CE)=some true)
  (hb: ∀ pn xe E',zdM (CXE X.prog X.w) (X.re pn xe) (zrd X.K E')->SSs (X.re pn xe) E' body gb)
  (FH:FnH X.prog X.w X.K X.mg X.base k fk fdk [pe] (zcu X.K 1 Fk)) (hbk:zaL X.K fdk [pe] []) (hgk:Gl X gk) (hmk:X.mg gk=some (.ref fk)) (kp:W.keepIn X.K (.ref fk)=true) (hr:zd8 k X.A)
  (hd:(ce==("__debug__":Str))=false:=by decide) (hd2:(gk==("__debug__":Str))=false:=by decide) (hd3:(en==("__debug__":Str))=false:=by decide):
  SS X E (.Try body [.ExceptHandler (some (.Name ce pce)) (some en) [.Return (some (.Call (.Name gk p1) [.Name en p2] [] p3)) p4] hp] [] [] pos) (zgE known gb Fk):=by
 refine znA (fin:=fun _ d=>pure (.rt d)) (p1:=p1) (p2:=p2) (p3:=p3) (fun sd h=>rfl) z hN hj hen hg hm hkn hd hb (fun X' pins σ H s a D0 sd Q Ef pn xe hX I6 hl ev hQ=> ?_) FH hbk hgk hmk kp hr hd2 hd3
 subst hX
 refine wpAny_execs_cons ?_
 refine wpAny_Return_some (qaZ (ev (fun v H'=>D0.rt v H') fun d ι' H' h' hr1 q v rv=>Fin.out hr1 q v rv) (fun u s8 hv=> ?_) fun _ _ w=>w)
 obtain ⟨v,H8,I8,rv,qv⟩:=hv
 exact zqr (X:=X.re pn xe) I8 hN hj hen fun s9 I9=>hQ _ s9 ⟨v,_,H8,I9,rv,qv⟩
def zhh (c:String):FS:=fun _ h=> .exc c h
theorem zqq {c:String} {C:Addr} {nid:String} {msg:Str} {jj:Nat} {np cpos:Pos} (hc:X.calm=true) (hp:zqT X E) (hX:W.excIn X.K C zmf "ValueError.__new__"=true) (hcl:zb2 X.K c C) (hg:Gl X (c:Str)) (hd:((c:Str)==("__debug__":Str))=false:=by decide):
  SS X E (.Raise (some (.Call (.Name (c:Str) np) [.Constant (.str msg) jj p2] [] cpos)) none pos) (zhh c):=by
 intro pins s σ H D0 I ⟨ι,h,sd,L,hh,q⟩
 have hE:E c H:=q ι H (zbT.refl _ _) hh
 have hm:X.mg (c:Str)=some (.ref C):=W.mg_of I.ok.mod.kin I.ok.mod.glob hcl
 obtain ⟨tl,N,nm,qq,bs,hdct,sn,sub,ab,col,dd,k0,k1,k2,k3,k5,mN,hC,hNs,hni,T⟩:=(zqW (x:=(c:Str)) I.ok.mod.kin hm hX).obj
 refine wpAny_Raise_call_subT (C:=C) (nm:=nm) (q:=qq) (N:=N) (bs:=bs) (bm:=tl) (hdct:=hdct) (sn:=sn) (sub:=sub) (ab:=ab) (col:=col) (dd:=dd) (k0:=k0) (k1:=k1) (k2:=k2) (k3:=k3) (k5:=k5)
  PySem.F.excBase_ValueError (mN:=mN) (T.hasType PySem.F.excBase_ValueError.hasBase) (I.ok.hd hc) rfl hni (zif I hg hm ⟨rfl,?_⟩ hd)
 refine Calls.evalArgs_plain (x:=eval (.Constant (.str msg) jj p2) X.env) (rest:=[]) ?_
 refine Calls.spliced_cons (thn (zoL pins s σ H (fun v H1=>H1=H) I rfl) fun u s1 hu=> ?_)
 obtain ⟨v,H1,I1,rv,rfl⟩:=hu
 refine Calls.spliced_nil ⟨rfl,by show 1<=sizeLine;decide,I1.bk _ _ hC,hNs.keeps I1.bk,T.keeps I1.bk,fun h' e m=> ?_⟩
 exact hp pins σ H1 s1 h' e C c _ I1 hcl m hE
end
end L3
namespace L3
open PySem.W
theorem zhd {K:Frag} {C:Addr} {name:Str} {a g:Value} (hc:(clsIn K C).isSome=true) (ha:findIn K (.ref C) name=some (some a)) (hg:specialIn K a "__get__"=some (some g)) (ht:takesIn K a=some true):findObj K C none name=some (.bind g a):=by
 obtain ⟨cd,hc⟩:=Option.isSome_iff_exists.mp hc
 unfold findObj
 rw [hc,Option.bind_some,ha,Option.bind_some]
 simp [hg,ht]
section
variable {prog:Program} {w:World} {A:Around} {E:Value->Shared->Prop} {s:Shared} {K:Frag} {x D:Addr} {ox:Obj}
theorem zkA {Q:Option Value->Shared->Prop} (X:K.In s.heap) (I:InstAt s.heap x ox D none) (hc:(clsIn K D).isSome=true) (hga:findIn K (.ref D) "__getattribute__"=some (some (.builtin "BaseException.__getattribute__"))) (hk:findIn K (.ref D) "__getattr__"=some none)
  (ha:findIn K (.ref D) "__class__"=some (some (.builtin "object.__class__"))) (hn:specialIn K (.builtin "object.__class__") "__get__"=some (some (.builtin "getset_descriptor.__get__"))) (htk:takesIn K (.builtin "object.__class__")=some true)
  (hm:mroIn K D (.type "object")=some true) (hmB:mroIn K D (.type "BaseException")=some true) (h:Q (some (.ref D)) {s with toks:=s.toks+1}):wpAny (model prog w) A (getAttr? (.ref x) "__class__") Q E s:=by
 obtain ⟨hh,g,d,t,os⟩:=s
 have L0:=I.type (M:=model prog w)
 have L1:=looks_findIn (M:=model prog w) X hga
 have L2:=looks_findIn (M:=model prog w) X hk
 have L3:=looks_find (M:=model prog w) X I (zhd hc ha hn htk)
 have LB:Looks (model prog w) hh (isInstance (.ref x) (.type "BaseException")) true:=L0.andThen (looks_mroIn X hmB)
 have f3:=PySem.F.attr_ValueError.ga.bind (.ref x)
 have hx2:(Value.builtin "BaseException.__getattribute__"==Value.builtin "object.__getattribute__")=false:=by decide +kernel
 unfold getAttr? getAttrBy? getAttrBy
 refine qaW (wpAny_mkText (qaW (wpAny_attempt (qaO (qaW (L0.at (qaW (L1.at ?_))))))))
 dsimp only
 rw [hx2,Bool.and_false,qa5 Bool.false_ne_true]
 unfold getAttrByItsOwn hookBefore
 rw [qa4 (show onTheHeap (Value.ref D)=true from rfl)]
 refine qaW (L2.at ?_)
 refine qaW (wpAny_attempt (qaO ?_))
 unfold callGetattribute
 rw [qa5 (by simp)]
 unfold boundAndCalled
 rw [f3]
 refine qaW (qaX ?_)
 refine wpAny_call (codeAny_call_builtin PySem.F.attr_ValueError.ga.plain PySem.F.entry_bexc_ga ?_)
 have kd:builtinKind "BaseException.__getattribute__"=some .slot:=by decide +kernel
 have sp:splitId "BaseException.__getattribute__"=some ("BaseException","__getattribute__"):=by decide +kernel
 have ag:=PySem.F.args_bexc_ga (.ref x) (.str "__class__" t)
 simp only [checkBuiltinCall,kd,sp]
 refine qaW (LB.at ?_)
 rw [qa5 (by decide)]
 refine wpAny_of_eq (a:=()) ag ?_
 unfold Builtin.«object.__getattribute__»
 refine qaW (qaX ?_)
 refine qaW (qaX ?_)
 refine qaW (L0.at ?_)
 refine qaW (L3.at ?_)
 dsimp only
 unfold Builtin.ObjectAttr.bindTo
 dsimp only
 refine qaW (qaO (wpAny_call (class_get (s:=⟨hh,g,d,t+1,os⟩) X I hm ?_)))
 refine qaX ?_
 dsimp only
 refine wpAny_of_eq (a:=Value.ref D) rfl ?_
 exact qaX h
end
end L3
namespace L3
open L2
def kxb (K:W.Frag) (C:Addr):Bool:=(W.clsIn K C).isSome && W.findIn K (.ref C) "__getattribute__"==some (some (.builtin "BaseException.__getattribute__")) && W.findIn K (.ref C) "__getattr__"==some none && W.findIn K (.ref C) "__class__"==some (some (.builtin "object.__class__"))
 && W.specialIn K (.builtin "object.__class__") "__get__"==some (some (.builtin "getset_descriptor.__get__")) && W.takesIn K (.builtin "object.__class__")==some true && W.mroIn K C (.type "object")==some true && W.mroIn K C (.type "BaseException")==some true
theorem znL {K:W.Frag} {x C:Addr} {ox:Obj} (h:kxb K C=true):W.KitX K (.ref x) (.ref C) (fun h=>W.InstAt h x ox C none):=by
 unfold kxb at h
 simp only [qaG,beq_iff_eq] at h
 obtain ⟨⟨⟨⟨⟨⟨⟨h1,h2⟩,h3⟩,h4⟩,h5⟩,h6⟩,h7⟩,h8⟩:=h
 refine ⟨fun _ _ _ I=>I.type,fun M hp X _=> ?_,fun hp tp dd its n sl X htp=> ?_,fun X I k=>zkA X I h1 h2 h3 h4 h5 h6 h7 h8 k⟩
 ·obtain ⟨cd,hc⟩:=Option.isSome_iff_exists.mp h1
  unfold W.clsIn at hc
  split at hc
  ·rename_i lk
   intro A' Q' E' s' k q
   unfold isType loadHead
   exact qaW (wpAny_loadPart (k _ _ (X _ _ lk)) (qaX q))
  ·cases hc
 ·refine Bool.eq_false_iff.mpr fun q=> ?_
  have e:C=tp:=Value.ref.inj (beq_iff_eq.mp q)
  subst e
  obtain ⟨cd,hc⟩:=Option.isSome_iff_exists.mp h1
  unfold W.clsIn at hc
  split at hc
  ·rename_i lk
   have z:=(X _ _ lk).symm.trans htp
   cases z
  ·cases hc
structure zuM (K:W.Frag) (CE:Addr) (names:List String) (c:String) (C:Addr):Prop where
 exc:W.excIn K C zmf "ValueError.__new__"=true
 cov:W.exmOne K (.ref C) (.ref CE)=some true
 kx:kxb K C=true
 ve:W.kitOne K (.ref C) (.type "ValueError")=some true
 one: ∀ c'∈names, ∀ C',zb2 K c' C'->W.kitOne K (.ref C) (.ref C')=some (c==c')
def zmR (K:W.Frag) (CE:Addr) (names:List String):Prop:= ∀ c∈names, ∀ C,zb2 K c C->zuM K CE names c C
def zms (K:W.Frag) (CE:Addr) (tab:List (String×Addr)):Bool:=tab.all fun p=>W.nsIn K mainGlobals (p.1:Str)==some (some (.ref p.2)) && W.excIn K p.2 zmf "ValueError.__new__" && W.exmOne K (.ref p.2) (.ref CE)==some true && kxb K p.2 && W.kitOne K (.ref p.2) (.type "ValueError")==some true
 && tab.all fun r=>W.kitOne K (.ref p.2) (.ref r.2)==some (p.1==r.1)
theorem zmR.of {K:W.Frag} {CE:Addr} {tab:List (String×Addr)} (h:zms K CE tab=true):zmR K CE (tab.map (·.1)):=by
 unfold zms at h
 rw [List.all_eq_true] at h
 have key: ∀ c∈tab.map (·.1), ∀ C,zb2 K c C->(c,C)∈tab:=fun c hc C hC=>by
  obtain ⟨p,hp,rfl⟩:=qaU.mp hc
  have h1:=h p hp
  simp only [qaG,beq_iff_eq] at h1
  have e:=h1.1.1.1.1.1
  unfold zb2 at hC
  rw [hC] at e
  cases e
  exact hp
 intro c hc C hC
 have h1:=h _ (key c hc C hC)
 simp only [qaG,beq_iff_eq,List.all_eq_true] at h1
 obtain ⟨⟨⟨⟨⟨a1,a2⟩,a3⟩,a4⟩,a5⟩,a6⟩:=h1
 exact ⟨a2,a3,a4,a5,fun c' hc' C' hC'=>a6 _ (key c' hc' C' hC')⟩
theorem zmR.known {K:W.Frag} {CE:Addr} {names:List String} (h:zmR K CE names): ∀ c∈names, ∀ C,zb2 K c C->W.exmOne K (.ref C) (.ref CE)=some true:=fun c hc C hC=>(h c hc C hC).cov
def zku (names:List String) (T:String):D->M D
 | .exn c=>if names.contains c && names.contains T then pure (.bl (c==T)) else M.bad
 | _=>M.bad
def zsS (names:List String):D->M D
 | .exn c=>if names.contains c then pure (.bl true) else M.bad
 | _=>M.bad
section
variable {X:Cx} {E:XE}
theorem ziR:zaz X (.builtin "isinstance") (fun xs H Q=> ∃ a o C vs x u b,xs=[.ref a,x]/\H a=some (.frz o (.own 0))/\(o.cls= .ref C/\o.dict=none/\o.data= .fields vs)/\kxb X.K C=true/\zbB x u/\(∀ u',zbB x u'->u'=u)/\W.kitOne X.K (.ref C) u=some b/\Q (.bl b) H):=by
 intro pins s σ H xs us Q I r h
 obtain ⟨a,o,C,vs,x,u,b,rfl,hH,⟨o1,o2,o3⟩,hk,hu,hu2,e,q⟩:=h
 cases r with
 | cons r1 r2=>
  cases r2 with
  | cons r3 r4=>
   cases r4
   cases r1
   have:=hu2 _ r3
   subst this
   have ho:=(I.hok a _ hH).1
   refine W.kia_one (znL (x:=a) (ox:=o) hk) I.kIn ⟨ho,o1,by unfold W.notCls;rw [o3],by rw [o2];trivial⟩ e (fun z=>nomatch z) fun tk=>⟨.bl b,H,I.tok tk,rfl,q⟩
variable {a:Expr} {p1 p2 pos:Pos} {fa:FE} {CE CC:Addr} {names:List String}
theorem zfl {c':String} (hx:zmR X.K CE names) (hc':names.contains c'=true) (hcl:zb2 X.K c' CC) (hm:X.mg "isinstance"=none) (hmC:X.mg (c':Str)=some (.ref CC)) (ha:SE X E a fa) (hg:Gl X "isinstance":=by rfl) (hgC:Gl X (c':Str):=by rfl)
  (hd:((c':Str)==("__debug__":Str))=false:=by decide)
  (h1:starEach [a,.Name (c':Str) p2] X.env=(false,eval a X.env)::starEach [.Name (c':Str) p2] X.env:=by rfl) (h2:starEach [.Name (c':Str) p2] X.env=[(false,eval (.Name (c':Str) p2) X.env)]:=by rfl)
  (hpl:(backTo pos (starEach [.Name (c':Str) p2] X.env)).any (·.1)=false:=by rfl):
  SE X E (.Call (.Name "isinstance" p1) [a,.Name (c':Str) p2] [] pos) (cUn (zku names c') fa):=by
 refine PE.imp (zd3 ziR hg hm PyProof.Rows.boot_isinstance (zaU ha (zaU (zqE (v:= .ref CC) hgC hmC rfl hd) zb5 h2) h1) (he:=h1) (hpl:=hpl)) fun σ H Q ⟨ι,h,sd,L,hh,q⟩=>⟨ι,h,sd,L,hh,Fin.bind q fun d h1 ι1 H1 e1 s1 hr1 q1 v rv=> ?_⟩
 cases d with
 | exn c=>
  obtain ⟨hg1,q2⟩:=Fin.guard (show Fin X.K E ι1 H1 ((if (names.contains c && names.contains c')=true then (pure (.bl (c==c')):M D) else M.bad) h1) _ from q1)
  rw [qaG] at hg1
  simp only [Rel] at rv
  obtain ⟨b,o,C,head,vs,rfl,⟨r1,_⟩,r2,r3,r4,r5,_⟩:=rv
  have ok:=hx c (by simpa using hg1.1) C r2
  exact ⟨b,o,C,vs,.ref CC,.ref CC,c==c',rfl,r1,⟨r3,r4,r5⟩,ok.kx,rfl,fun u' z=>z,ok.one c' (by simpa using hc') CC hcl,Fin.out hr1 q2 _ (by simp [Rel])⟩
 | _=>exact qa0 q1
theorem zrs (hx:zmR X.K CE names) (hm:X.mg "isinstance"=none) (hmT:X.mg "ValueError"=none) (ha:SE X E a fa) (hg:Gl X "isinstance":=by rfl) (hgT:Gl X "ValueError":=by rfl)
  (h1:starEach [a,.Name "ValueError" p2] X.env=(false,eval a X.env)::starEach [.Name "ValueError" p2] X.env:=by rfl) (h2:starEach [.Name "ValueError" p2] X.env=[(false,eval (.Name "ValueError" p2) X.env)]:=by rfl)
  (hpl:(backTo pos (starEach [.Name "ValueError" p2] X.env)).any (·.1)=false:=by rfl):
  SE X E (.Call (.Name "isinstance" p1) [a,.Name "ValueError" p2] [] pos) (cUn (zsS names) fa):=by
 refine PE.imp (zd3 ziR hg hm PyProof.Rows.boot_isinstance (zaU ha (zaU (zls (v:= .ty "ValueError") hgT hmT ⋯ rfl) zb5 h2) h1) (he:=h1) (hpl:=hpl)) fun σ H Q ⟨ι,h,sd,L,hh,q⟩=>⟨ι,h,sd,L,hh,Fin.bind q fun d h1 ι1 H1 e1 s1 hr1 q1 v rv=> ?_⟩
 cases d with
 | exn c=>
  obtain ⟨hg1,q2⟩:=Fin.guard (show Fin X.K E ι1 H1 ((if names.contains c=true then (pure (.bl true):M D) else M.bad) h1) _ from q1)
  simp only [Rel] at rv
  obtain ⟨b,o,C,head,vs,rfl,⟨r1,_⟩,r2,r3,r4,r5,_⟩:=rv
  have ok:=hx c (by simpa using hg1) C r2
  exact ⟨b,o,C,vs,.ty "ValueError",.type "ValueError",true,rfl,r1,⟨r3,r4,r5⟩,ok.kx,rfl,fun u' z=>z,ok.ve,Fin.out hr1 q2 _ (by simp [Rel])⟩
 | _=>exact qa0 q1
end
end L3
namespace L3
section
variable {prog:Program} {w:World} {A:Around} {E:Value->Shared->Prop} {s:Shared}
theorem zna {l:Addr} {xs:Array (Int×Tok)} {Q:Value->Shared->Prop} (hh:zqN A s.heap) (hl:s.heap.IsList l (intItems xs))
  (k: ∀ h' tk t',(∀ b o,s.heap.get? b=some o->h'.get? b=some o)->Q (.int (preSum (numAt xs) xs.size) t') {s with heap:=h',toks:=tk}):wpAny (model prog w) A (call (.builtin "sum") [.ref l]) Q E s:=by
 refine call_sum_walkG (iter_intList hl fun s₂ e st hfp hlI=> ?_)
 subst e
 rcases hh with hh | ⟨ha,cls,head,hh,hX⟩
 ·refine ⟨_,_,_,_,_,_,numAt xs,rfl,Walks.list (A:=A.in1) hh _ l hlI (intItems xs),st,hfp,(fun _ _=>intItems_at),fun h' tk t' hk=> ?_⟩
  simpa [intItems] using k h' tk t' (old_kept hk)
 ·obtain ⟨ob,vs,x1,x2⟩:=id hX
  have hX2:=hX.keep (h':=s.heap.push {cls:= .type "list_iterator",data:= .fields #[.ref l,.int 0 0]}) fun o e=>qag _ e
  refine ⟨_,_,_,_,_,_,numAt xs,rfl,zf0 (A:=A.in1) (ha:=ha) (cls:=cls) (head:=head) hh _ l hlI (qaR (qaQ x1)) (intItems xs),⟨st.1,st.2,hX2⟩,fun b hb=> ?_,(fun _ _=>intItems_at),fun h' tk t' hk=> ?_⟩
  ·simp only [qaP,qaF,or_false] at hb
   rcases hb with z | z | z
   ·exact hfp b (by simp [z])
   ·exact hfp b (by simp [z])
   ·rw [z]
    show ha<(s.heap.push _).objs.size
    rw [qaL]
    exact Nat.lt_succ_of_lt (qaQ x1)
  ·simpa [intItems] using k h' tk t' (old_kept hk)
end
end L3
namespace L2
open L3
section
variable {X:Cx}
theorem zkg:MtM X "list.extend" (fun x vs H Q=> ∃ l b xs zs,x= .ref l/\vs=[.ref b]/\H l=some (.lst xs)/\SqT X.K H b zs/\xs.length+zs.length<=sizeLine/\Q .non (upd H l (.lst (xs++zs)))):=by
 intro pins s σ H x vs v us Q I rx rv h
 obtain ⟨l,b,xs,zs,rfl,rfl,hH,hB,hz,q⟩:=h
 cases rx
 obtain ⟨u,rfl,ru⟩:=zcX rv
 cases ru
 obtain ⟨z,its,n,r,hl,e⟩:=I.lstM hH
 obtain ⟨its2,r2,⟨ob,e2,c2,n2,d2⟩,z2⟩:=I.tuple hB
 have l2:=r2.length
 have hsz:its.toArray.size+its2.toArray.size<=sizeLine:=by rw [qaA,qaA];omega
 refine wpAny_call (codeAny_call_builtin F.slot_list_extend.plain F.entry_list_extend (F.slot_list_extend.check _ _ _ _ _ _ _ _ ⟨_,e,rfl⟩ (F.args_list_extend_2 _ _) ?_))
 unfold Builtin.«list.extend»
 refine qaW (qaX ?_)
 unfold Builtin.List.listExtendWith
 refine qaW (wpAny_typeOf ⟨ob,e2,c2⟩ ?_)
 have h1:(Builtin.List.listSameRef (.ref l) (.ref b) || Value.type "tuple"==Value.type "list" || Value.type "tuple"==Value.type "tuple")=true:=by simp
 simp only [h1,if_true]
 unfold Builtin.List.listItems
 refine qaW (qaW (wpAny_seqItems e2 d2 (qaX ?_)))
 refine qaW (qaW (wpAny_seqItems e rfl (qaX ?_)))
 rw [qa5 (by rw [zoe hsz,Bool.and_false];exact Bool.false_ne_true)]
 refine qaW (wpAny_updateSeq e rfl ?_ (by rw [qaA];omega))
 refine qaX ?_
 refine ⟨.non,_,I.lset (its':=its++its2) hH e (by simp) (r.append r2) ?_,rfl,q⟩
 rw [qav]
 omega
theorem zmt:zaz X (.builtin "sum") (fun xs H Q=> ∃ (a:Addr) (ns:List Int),xs=[.ref a]/\SqL X.K H a (ns.map V.int)/\Q (.int ns.sum) H):=by
 intro pins s σ H xs us Q I r h
 obtain ⟨a,ns,rfl,hq,q⟩:=h
 obtain ⟨u,rfl,rx⟩:=zcX r
 cases rx
 obtain ⟨its,r',pl,hz⟩:=I.list hq
 have hi:=zbt r'
 obtain ⟨ys,hy⟩:=hi.allInts.items
 have hl:s.heap.IsList a (intItems ys):=hy▸pl.isList
 refine zna I.hand hl fun h' tk t' hk=> ?_
 have e1:ns=ys.toList.map (·.1):=by
  rw [<- nums_intItems, <-hy]
  exact (show numsOf its.toArray.toList=ns from hi.numsOf).symm
 have e2:preSum (numAt ys) ys.size=ns.sum:=by rw [preSum_eq,List.take_of_length_le (by simp),e1]
 rw [e2]
 exact ⟨.int ns.sum,H,I.grown (s':={s with heap:=h',toks:=tk}) rfl rfl hk,⟨t',rfl⟩,q⟩
theorem zfO: ∀ {bs:List Bool} {its:List Value},zba (bs.map V.bl) its->its=bs.map Value.bool
 | [],_,h=>by cases h;rfl
 | b::bs,_,h=>by
  cases h with
  | cons r t=>cases r;rw [zfO t];rfl
theorem zkz:MtR X "list.index" (fun x vs H Q=> ∃ (l:Addr) (bs:List Bool) (j:Nat),x= .ref l/\vs=[.bl true]/\SqL X.K H l (bs.map V.bl)/\bs[j]? = some true/\(∀ m,m<j->bs[m]? = some false)/\Q (.int (j:Int)) H):=by
 intro pins s σ H x vs v us Q I rx rv h
 obtain ⟨l,bs,j,rfl,rfl,hq,hj,hno,q⟩:=h
 cases rx
 obtain ⟨u,rfl,ru⟩:=zcX rv
 cases ru
 obtain ⟨its,r,pl,hz⟩:=I.list hq
 have eit:=zfO r
 subst eit
 obtain ⟨ob,e1,c1,n1,d1⟩:=pl.isList
 obtain ⟨cc,dd,dt,sl⟩:=ob
 dsimp only at c1 d1
 subst c1 d1
 have hlt:j<bs.length:=(qac.mp hj).1
 rw [qaH] at hz
 have sz:(j:Int)<2^63 - 1:=by
  have:sizeLine<2^40:=by decide
  omega
 refine call_meets F.slot_list_index ⟨_,e1,rfl⟩ F.entry_list_index (F.args_list_index_2 _ _)
  (PySem.SeqAt.list_indexAt l _ n1 dd sl (.bool true) (fun v=>match v with | .bool b=>b | _=>false) j (by simpa using hlt) sz ?_ ?_) ⟨e1,fun y hy=> ?_,⟨.int j,H,I.tok _,⟨_,rfl⟩,q⟩⟩
 ·have:=(qac.mp hj).2
  simp [this]
 ·intro m hm hmj
  have:=(qac.mp (hno m hmj)).2
  simp [this]
 ·obtain ⟨b,_,rfl⟩:=qaU.mp (List.mem_toArray.mp hy)
  have:=PySem.SeqAt.EqAt.bool_bool (A:=X.A.in1) (s:=s) b true
  simpa using this
end
end L2
namespace L3
open L2
def zvv (f:FE):FE:=fun sd=>noX (f sd)
def zvt (f:FS):FS:=fun sd=>noX (f sd)
section
variable {X:Cx} {E:XE} {a e o:Expr} {es:List Expr} {pos p cpos apos:Pos} {f fo fe fa:FE} {fs:FA} {x:Str}
theorem zgq {k:Nat} {g:Addr} {fd:FuncData} {ps:List Str} {n:Nat} {F:List D->M D} (G:zb8 X.prog X.w X.K X.mg X.base (CXE X.prog X.w) k g fd ps (spE X.K n F)) (hx:zdM (CXE X.prog X.w) X (zrd X.K E)) (hr:zd9 k X.A) (hm:X.mg x=some (.ref g)) (hk:W.keepIn X.K (.ref g)=true) (hb:zaL X.K fd ps [])
  (ha:SA X E (e::es) fs) (hg:Gl X x:=by rfl) (hdb:(x==("__debug__":Str))=false:=by decide) (he:starEach (e::es) X.env=(false,eval e X.env)::starEach es X.env:=by rfl) (hpl:(backTo pos (starEach es X.env)).any (·.1)=false:=by rfl):
  SE X E (.Call (.Name x p) (e::es) [] pos) (zaA (zaq n F) fs):=znx G hx hr hg hm hk hb ha hdb he hpl
theorem zgP {k:Nat} {g:Addr} {fd:FuncData} {ps:List Str} {n:Nat} {F:List D->M D} (G:zb8 X.prog X.w X.K X.mg X.base CX0 k g fd ps (zcu X.K n F)) (hr:zd9 k X.A) (hm:X.mg x=some (.ref g)) (hk:W.keepIn X.K (.ref g)=true) (hb:zaL X.K fd ps [])
  (ha:SA X E (e::es) fs) (hg:Gl X x:=by rfl) (hdb:(x==("__debug__":Str))=false:=by decide) (he:starEach (e::es) X.env=(false,eval e X.env)::starEach es X.env:=by rfl) (hpl:(backTo pos (starEach es X.env)).any (·.1)=false:=by rfl):
  SE X E (.Call (.Name x p) (e::es) [] pos) (zaA (zaq n fun ds=>noX (F ds)) fs):=znp G hr hg hm hk hb ha hdb he hpl
theorem zmI {c:String} {C CE:Addr} {names:List String} {msg:Str} {jj:Nat} {np p2:Pos} (hc:X.calm=true) (hp:zqT X E) (hX:zmR X.K CE names) (hn:names.contains c=true) (hcl:zb2 X.K c C) (hg:Gl X (c:Str):=by rfl) (hd:((c:Str)==("__debug__":Str))=false:=by decide):
  SS X E (.Raise (some (.Call (.Name (c:Str) np) [.Constant (.str msg) jj p2] [] cpos)) none pos) (zhh c):=zqq (nid:="") hc hp (hX c (by simpa using hn) C hcl).exc hcl hg hd
theorem zqj {scope:Scope} {N:List Str} {src:List (Option Nat)} {tg iter elt:Expr} {ifs:List Expr} {fi:FA} {g:D->Sd->M Sd} {tc:FT} {te:FE} (B:BOk X scope N src) (hk:zaD g src) (hi:SI X E tg iter fi)
  (hg: ∀ s H fp,SG (cxB X scope N s H fp) E tg g) (ht: ∀ s H fp,SCs (cxB X scope N s H fp) E ifs tc) (he: ∀ s H fp,SE (cxB X scope N s H fp) E elt te)
  (hs: ∀ x,foldedSetIterable iter X.env x=pure x:=by intro _;rfl):SE X E (.ListComp elt [⟨tg,iter,ifs,0⟩] scope pos) (zaw fi g tc te src):=zlR B hk hi hg ht he hs
def zp1:List D->M D
 | [.int i]=>pure (.int i)
 | [.bl b]=>pure (.int (if b then 1 else 0))
 | _=>M.bad
theorem zjX:zaz X (.type "int") (zgj X.K E zp1):=by
 refine zaz.imp zkW fun xs H Q ⟨ι,h,ds,rl,hr,q⟩=> ?_
 unfold zp1 at q
 split at q
 ·simp only [zas,Rel] at rl
  obtain ⟨v,r,rfl,rfl,rfl⟩:=rl
  exact .inl ⟨_,rfl,Fin.out hr q _ (by simp [Rel])⟩
 ·simp only [zas,Rel] at rl
  obtain ⟨v,r,rfl,rfl,rfl⟩:=rl
  exact .inr ⟨_,rfl,Fin.out hr q _ (by simp [Rel])⟩
 ·exact qa0 q
theorem zjK:zaz X (.builtin "sum") (zgj X.K E zq5):=by
 refine zaz.imp zmt fun xs H Q ⟨ι,h,ds,rl,hr,q⟩=> ?_
 obtain ⟨d,v,e,r,q⟩:=zbJ rl q
 cases d with
 | lst ds=>
  obtain ⟨a,vs,e',h1,h2⟩:=zd4 r
  obtain ⟨ns,en,q⟩:=Fin.ofOb q
  have:=zbR h2 en
  subst this
  exact ⟨a,ns,by rw [e,e'],h1,Fin.out hr q _ (by simp [Rel])⟩
 | _=>exact qa0 q
def zrp:D->M D
 | .lst ds=>do
  let bs<-ofO (zoh ds)
  let j<-ofO (bs.findIdx? id)
  pure (.int j)
 | _=>M.bad
theorem zql {jj:Nat} {p2:Pos} (ho:SE X E o fo)
  (hbase:attributeBase o "index" X.env (eval o X.env)=eval o X.env:=by rfl)
  (hfew:((backTo cpos (starEach [.Constant (.bool true) jj p2] X.env)).all (fun x=> !x.1) && (backToKw cpos (keywordEach [] X.env)).all (fun x=>x.1.isSome)
    && decide (([.Constant (.bool true) jj p2]:List Expr).length+([]:List Keyword).length+(if ([]:List Keyword).isEmpty then 0 else 1)<30))=true:=by rfl)
  (hline:(apos.endLine==cpos.line)=true:=by rfl) (hs:starEach [.Constant (.bool true) jj p2] X.env=(false,eval (.Constant (.bool true) jj p2) X.env)::starEach [] X.env:=by rfl) (hplain:(backTo cpos (starEach [] X.env)).any (·.1)=false:=by rfl):
  SE X E (.Call (.Attribute o "index" apos) [.Constant (.bool true) jj p2] [] cpos) (cUn zrp fo):=by
 refine PE.imp (zoc PySem.F.plainAttrs_list PySem.F.slot_list_index PySem.F.type_list_index zkz ho (zaU zs2 zb5 hs) hbase hfew hline hs hplain) fun σ H Q ⟨ι,h,sd,L,hh,q⟩=>⟨ι,h,sd,L,hh,Fin.bind q fun d h1 ι1 H1 e1 s1 hr1 q1 v rv=> ?_⟩
 cases d with
 | lst ds=>
  obtain ⟨a,vs,e',h1',h2⟩:=zd4 rv
  obtain ⟨bs,en,q2⟩:=Fin.ofOb q1
  obtain ⟨j,ej,q3⟩:=Fin.ofOb q2
  have:=zgm h2 en
  subst this
  subst e'
  refine ⟨.inl ⟨rfl,_,h1'⟩,a,bs,j,rfl,rfl,h1',?_,fun m hm=> ?_,Fin.out hr1 q3 _ (by simp [Rel])⟩
  ·obtain ⟨h3,h4,_⟩:=List.findIdx?_eq_some_iff_getElem.mp ej
   rw [qaf h3]
   simpa using h4
  ·obtain ⟨h3,h4,h5⟩:=List.findIdx?_eq_some_iff_getElem.mp ej
   rw [qaf ⋯]
   simpa using h5 m hm
 | _=>exact qa0 q1
def zdB (x y:D):M D:=match x,y with
 | .cel n,.tup zs=>do
  let ds<-zai n
  fits (ds.length+zs.length)
  zbo n (ds++zs)
  pure .non
 | _,_=>M.bad
def zil (fo fe:FE):FE:=fun sd=>do
 let x<-fo sd
 zdA x
 let y<-fe sd
 zdB x y
theorem znU (ho:SE X E o fo) (he:SE X E e fe)
  (hbase:attributeBase o "extend" X.env (eval o X.env)=eval o X.env:=by rfl)
  (hfew:((backTo cpos (starEach [e] X.env)).all (fun x=> !x.1) && (backToKw cpos (keywordEach [] X.env)).all (fun x=>x.1.isSome)
    && decide (([e]:List Expr).length+([]:List Keyword).length+(if ([]:List Keyword).isEmpty then 0 else 1)<30))=true:=by rfl)
  (hline:(apos.endLine==cpos.line)=true:=by rfl) (hs:starEach [e] X.env=(false,eval e X.env)::starEach [] X.env:=by rfl) (hplain:(backTo cpos (starEach [] X.env)).any (·.1)=false:=by rfl):
  SE X E (.Call (.Attribute o "extend" apos) [e] [] cpos) (zil fo fe):=by
 refine PE.imp (zoc PySem.F.plainAttrs_list PySem.F.slot_list_extend PySem.F.type_list_extend zkg ho (zaU he zb5 hs) hbase hfew hline hs hplain) fun σ H Q ⟨ι,h,sd,L,hh,q⟩=>⟨ι,h,sd,L,hh,Fin.bind q fun d h1 ι1 H1 e1 s1 hr1 q1 v rv=> ?_⟩
 cases d with
 | cel n=>
  have q2:Fin X.K E ι1 H1 ((zai n>>=fun _=>fe sd>>=fun y=>zdB (.cel n) y) h1) (fun d ι' H'=> ∀ v,Rel X.K ι' H' d v->Q v H'):=by
   have ee:(zdA (.cel n)>>=fun _=>fe sd>>=fun y=>zdB (.cel n) y:M D)=(zai n>>=fun _=>fe sd>>=fun y=>zdB (.cel n) y):=by
    show ((zai n>>=fun _=>pure ())>>=fun _=>fe sd>>=fun y=>zdB (.cel n) y)=_
    simp only [bind_assoc,pure_bind]
   rw [<- ee]
   exact q1
  obtain ⟨ds,e2,q3⟩:=zen q2
  obtain ⟨a,vs,rfl,hn,hH,rl⟩:=hr1.read rv e2
  refine ⟨.inl ⟨rfl,vs,SqL.of hH⟩,ι1,h1,sd,L.step s1,hr1,Fin.bind q3 fun y h3 ι3 H3 e3 s3 hr3 q4 w rw'=> ?_⟩
  have rv3:=rv.step s3
  cases y with
  | tup zs=>
   have q5:Fin X.K E ι3 H3 ((zai n>>=fun ds=>fits (ds.length+zs.length)>>=fun _=>zbo n (ds++zs)>>=fun _=>pure D.non) h3) (fun d ι' H'=> ∀ v,Rel X.K ι' H' d v->Q v H'):=q4
   obtain ⟨ds3,e4,q6⟩:=zen q5
   obtain ⟨a3,vs3,ea,hn3,hH3,rl3⟩:=hr3.read rv3 e4
   cases ea
   obtain ⟨b,ws,eb,hb,rlb⟩:=zcV rw'
   obtain ⟨z,q7⟩:=Fin.fits q6
   refine ⟨a,b,vs3,ws,rfl,by rw [eb],hH3,hb,by rw [<- rl3.length, <-rlb.length];exact z,?_⟩
   have q8:Fin X.K E ι3 H3 (R.ok D.non (h3.set n (.lst (ds3++zs)))) (fun d ι' H'=> ∀ v,Rel X.K ι' H' d v->Q v H'):=q7
   exact q8 ι3 _ (hr3.cellS hn3) (hr3.cell hn3 (rl3.append rlb)) _ (by simp [Rel])
  | _=>exact qa0 q4
 | _=>exact qa0 q1
end
section
variable {P:Program} {w:World} {K:W.Frag} {mg:Str->Option Value} {base:Heap}
theorem zsk {x qual:Str} {st:Stmt} {f:Addr} {fd:FuncData} {N ps:List Str} {k:Nat} {G:Sd->M Out} (F:Fun K x qual st f fd) (S:zat N ps (zae st))
  (hb: ∀ (cdv:Value) (A:Around) (outer:List Env) (s:Shared) (H:Hp),zd8 k (A.deeper (envOfC qual (zae st) s.heap.objs.size f cdv))->SSs ({zh8 CX0 P w K mg base N qual (zae st) f cdv A outer s H E0 with calm:=false}:Cx).nox E0x (zcP st) G):
  FnH P w K mg base (k+1) f fd ps (zcu K ps.length (zdm N.length G)):=by
 obtain ⟨oc,od,kV,doc,pm,an,cdv,ct,osl,rfl,lk,hcd⟩:=F.ex
 refine zru lk hcd S (fun vs H Q E h=>h.1) fun A outer s H vs Q hr ⟨hl,ι,h,ds,rl,hh,q⟩=>⟨_,hb cdv A outer s H hr,ι,h,zfE N.length ds,zeh rl,hh,?_⟩
 refine Fin.bind q fun o h1 ι1 H1 e1 s1 hr1 q1=> ?_
 cases o with
 | nx sd=>exact fun σ' _=>Fin.out hr1 q1 _ (by simp [Rel])
 | rt d=>exact fun v rv=>Fin.out hr1 q1 v rv
 | bk sd=>exact qa0 q1
 | ct sd=>exact qa0 q1
end
section
variable {X:Cx} {E:XE} {body:List Stmt} {ce en gk pe x:Str} {pce p1 p2 p3 p4 p5 hp pos:Pos} {CE fk:Addr} {fdk:FuncData} {Fk:List D->M D} {gb:FS} {k:Nat} {known:List String}
theorem zsz (j:Nat) (z:zfd X) (hN:X.N.Nodup) (hm:X.mg ce=some (.ref CE)) (hkn:zmR X.K CE known)
  (FH:FnH X.prog X.w X.K X.mg X.base k fk fdk [pe] (zcu X.K 1 Fk)) (hbk:zaL X.K fdk [pe] []) (hmk:X.mg gk=some (.ref fk)) (kp:W.keepIn X.K (.ref fk)=true) (hr:zd8 k X.A)
  (hb: ∀ pn xe E',zdM (CXE X.prog X.w) (X.re pn xe) (zrd X.K E')->SSs (X.re pn xe) E' body gb)
  (hj:X.N[j]? = some en:=by rfl) (hen:X.env.scope.names.lookup en=some .local:=by rfl) (hg:Gl X ce:=by rfl) (hgk:Gl X gk:=by rfl)
  (hd:(ce==("__debug__":Str))=false:=by decide) (hd2:(gk==("__debug__":Str))=false:=by decide) (hd3:(en==("__debug__":Str))=false:=by decide):
  SS X E (.Try body [.ExceptHandler (some (.Name ce pce)) (some en) [.Return (some (.Call (.Name gk p1) [.Name en p2] [] p3)) p4] hp] [] [] pos) (zgE known gb Fk):=zrz z hN hj hen hg hm hkn.known hb FH hbk hgk hmk kp hr hd hd2 hd3
end
structure Fns (X:Cx) (n:Nat) (addrs:List Addr) (Fs:List (List D->M D)):Prop where
 len:Fs.length=addrs.length
 ok: ∀ (m:Nat) (F:List D->M D) (a:Addr),Fs[m]? = some F->addrs[m]? = some a-> ∃ k fd ps,zb8 X.prog X.w X.K X.mg X.base (CXE X.prog X.w) k a fd ps (spE X.K n F)/\zd9 k X.A/\W.keepIn X.K (.ref a)=true/\zaL X.K fd ps []
section
variable {X:Cx} {E:XE} {e ix:Expr} {es fes:List Expr} {pos p q3 q4:Pos} {fi:FE} {fs:FA} {x:Str}
end
end L3
namespace L2
def Itd (lo:Int) (n:Nat):It:=⟨fun i _=>i<n,fun i H x H'=>H'=H/\x= .int (lo - i),fun i _=>n<=i⟩
theorem zlv {P:Program} {w:World} {K:W.Frag} {tg:Expr} (it:Addr) (lo:Int) (n:Nat):zq8 P w K tg (Itd lo n) [it] it (fun i h=>IsRangeIter h it (lo - (i:Nat)) ((n:Int) - (i:Nat)) (-1)) where
 mem:=by simp
 obj:=fun i h st b hb=>by
  have e:b=it:=by simpa using hb
  subst e
  exact ⟨_,st,fun v z=>by
    have z':Data.fields _=Data.cell v:=z
    cases z'⟩
 keep:=fun i h h' st k=>k it (by simp) _ st
 item:=by
  intro X hP hw hK i pins s σ H E I hf st hg
  subst hP hw hK
  obtain ⟨f0,f1,f2,f3,f4,f5⟩:=hf it (by simp)
  refine wpAny_pyNext_range_item st (by have:i<n:=hg;omega) fun h' st' kk=> ?_
  have e1:lo - (i:Nat)+ -1=lo - ((i+1:Nat):Int):=by omega
  have e2:(n:Int) - (i:Nat) - 1=(n:Int) - ((i+1:Nat):Int):=by omega
  rw [e1,e2] at st'
  have I1:Inv X pins σ H {s with heap:=h',toks:=s.toks+1}:=I.turned (fun b o hb e=>(kk.2 b hb).trans e) f0 f1 f3 f4 f5
  exact ⟨_,rfl,znK (s:={s with heap:=h',toks:=s.toks+1}) (n:="range_iterator") st' rfl rfl (by decide) ⟨.int (lo - i),H,I1,⟨s.toks,rfl⟩,⟨rfl,rfl⟩,st',fun b hb=>(hf b hb).1⟩⟩
 done:=by
  intro X hP hw hK i pins s σ H E I hf st hg
  subst hP hw hK
  obtain ⟨f0,f1,f2,f3,f4,f5⟩:=hf it (by simp)
  exact L3.zhZ I.hand st (by have:n<=i:=hg;omega) fun h' eb=>⟨rfl,I.turned (t':=s.toks) (fun b o hb e=>eb b o hb e) f0 f1 f3 f4 f5⟩
 self:=fun _ _ _ _ _ st h=>wpAny_pyIter_rangeiter st h
theorem zhm {a b:Int}:Builtin.Range.rangeSize a b (-1)=((a - b).toNat:Int):=by
 unfold Builtin.Range.rangeSize
 rw [qa5 (by decide)]
 split
 ·rw [show (-(-1):Int)=1 by decide,Int.ediv_one];omega
 ·omega
theorem zjP {a b:Int} (ha: -1000<=a) (ha':a<1000) (hb: -1000<=b) (hb':b<1000):Builtin.Range.small a b (-1)=true:=by
 unfold Builtin.Range.small
 rw [zhm]
 simp only [Builtin.Range.rangeFitsLong,qaG,Bool.or_eq_true,qaD,beq_iff_eq,show ¬(-1:Int)>0 by decide,if_false]
 omega
section
variable {X:Cx} {tg:Expr}
def zuO (ta:TA):TI:=fun σ H R=>ta σ H fun vs H1=> ∃ i j:Int,vs=[.int i,.int j,.int (-1)]/\(-1000<=i/\i<1000/\ -1000<=j/\j<1000)/\R (Itd i (i - j).toNat) H1
theorem zmk {a b c:Expr} {ta:TA} {p pos:Pos} (hg:Gl X "range") (hm:X.mg "range"=none) (ha:PA X [a,b,c] ta) (hs:starEach [a,b,c] X.env=[(false,eval a X.env),(false,eval b X.env),(false,eval c X.env)]:=by rfl) (hs2:starEach [b,c] X.env=[(false,eval b X.env),(false,eval c X.env)]:=by rfl):
  PI X tg (.Call (.Name "range" p) [a,b,c] [] pos) (zuO ta):=by
 intro pins s σ H R I h
 refine Call_ (zh7 I hg hm boot_range (PyProof.Rows.callWith_type1 (thn (ha pos pins s σ H _ I h) fun us s1 ⟨vs,H1,I1,r1,q1⟩=> ?_) (by rw [hs,hs2]) (by rw [hs2];rfl)))
 obtain ⟨i,j,e,⟨q1,q2,q3,q4⟩,q⟩:=q1
 subst e
 cases r1 with
 | cons r rr=>
  cases rr with
  | cons r' rr=>
   cases rr with
   | cons r'' rr=>
    cases rr
    obtain ⟨t,rfl⟩:=r
    obtain ⟨t',rfl⟩:=r'
    obtain ⟨t'',rfl⟩:=r''
    refine call_range_3 (by decide) ?_ (Or.inl (PyProof.noPylong_small (by decide)))
    refine wpAny_pyIter_range (IsRange.new ..) (zjP q1 q2 q3 q4) ?_
    have I2:Inv X pins σ H1 {s1 with heap:=s1.heap.push {cls:= .type "range",data:= .fields #[.int i t,.int j t',.int (-1) t'']},toks:=s1.toks}:=I1.kept fun b o e=>qag _ e
    refine ⟨(s1.heap.push {cls:= .type "range",data:= .fields #[.int i t,.int j t',.int (-1) t'']}).objs.size,[(s1.heap.push {cls:= .type "range",data:= .fields #[.int i t,.int j t',.int (-1) t'']}).objs.size],_,_,H1,rfl,
      I2.kept (t':=s1.toks) fun b o e=>qag _ e,zlv _ i (i - j).toNat,?_,fun b hb=> ?_,q⟩
    ·have e1:i - ((0:Nat):Int)=i:=by simp
     have e2:(((i - j).toNat:Nat):Int) - ((0:Nat):Int)=Builtin.Range.rangeSize i j (-1):=by rw [zhm];simp
     show IsRangeIter _ _ (i - ((0:Nat):Int)) ((((i - j).toNat:Nat):Int) - ((0:Nat):Int)) (-1)
     rw [e1,e2]
     exact qar _ rfl
    ·have e:b=(s1.heap.push {cls:= .type "range",data:= .fields #[.int i t,.int j t',.int (-1) t'']}).objs.size:=by simpa using hb
     subst e
     exact I2.fpOk (qaV _) (I2.hok.fresh (qaV _))
theorem zhc (hc:X.calm=true):zaz X (.type "list") (fun xs H Q=> ∃ (p:Addr) (j:Int),xs=[.ref p]/\H p=some (.rng 0 j)/\0<=j/\j<1000/\ ∀ l,H l=none->Q (.ref l) (upd H l (.lst (((List.range j.toNat).map fun (k:Nat)=>(k:Int)).map V.int)))):=by
 intro pins s σ H xs us Q I r h
 obtain ⟨p,j,rfl,hp,h0,h1,q⟩:=h
 obtain ⟨u,rfl,rx⟩:=zcX r
 cases rx
 obtain ⟨t,u',v,hr⟩:=(show zbG X.prog X.w H s.heap p (.rng 0 j) from I.hok p _ hp)
 refine call_list_range (I.ok.hd hc) hr (small_one ⋯ ⋯ ⋯ ⋯) (ziX h0) ⋯ fun h' tk acc c' hk hS hacc=> ?_
 have hl:acc.toList.length=j.toNat:=by rw [qas];exact hacc.1
 have I2:=I.laid (t':=tk) (h':=h') (a:=s.heap.objs.size) (o:= .lst (((List.range j.toNat).map fun (k:Nat)=>(k:Int)).map V.int)) hk (qaV _)
  (show zbG X.prog X.w _ h' _ (.lst _) from ⟨by rw [qaH,qaH,List.length_range];exact qaS (show j.toNat<=1000 by omega) (by decide),acc.toList,c',zc7 _ _ (by rw [qaH,List.length_range,hl]) (fun k w e=> ?_),by simpa using hS⟩)
 ·exact ⟨.ref s.heap.objs.size,_,I2,rfl,q _ (I.hok.fresh (qaV _))⟩
 ·have hk':k<j.toNat:=by rw [<- hl];exact (qac.mp e).1
  obtain ⟨t,et⟩:=hacc.2 k w (by simpa using e)
  refine ⟨t,?_⟩
  rw [et]
  simp [hk']
end
end L2
namespace L3
open L2
section
variable {X:Cx} {E:XE} {e o:Expr} {f fo fe:FE} {pos apos cpos:Pos}
noncomputable def zeE (tc:FT) (gb:FS):Nat->FS
 | 0,_=>M.bad
 | n+1,sd=>do
  let b<-tc sd
  if b=true then
   let o<-gb sd
   match o with
   | .nx sd'=>zeE tc gb n sd'
   | .ct sd'=>zeE tc gb n sd'
   | .bk sd'=>pure (.nx sd')
   | .rt d=>pure (.rt d)
  else pure (.nx sd)
def zlc (n:Nat) (tc:FT) (gb:FS):FS:=zeE tc gb n
theorem zpG {c:Expr} {body:List Stmt} {tc:FT} {gb:FS} (n:Nat) (hp:PassesOwn (model X.prog X.w) X.A X.env X.xe) (hc:ST X E c tc) (hb:SSs X E body gb):SS X E (.While c body [] pos) (zlc n tc gb):=by
 refine PS.imp (znn hp hc hb) fun D0 σ H ⟨ι,h,sd,L,hh,q⟩=> ?_
 refine ⟨fun m σ' H'=> ∃ ι' h' sd',zc1 X.K ι' H' sd' σ'/\za8 X.K ι' H' h'/\Fin X.K E ι' H' (zeE tc gb m sd' h') (zeH X.K D0),⟨n,ι,h,sd,L,hh,q⟩,?_⟩
 rintro m σ2 H2 ⟨ι2,h2,sd2,L2,hr2,q2⟩
 cases m with
 | zero=>exact qa0 q2
 | succ m=>
  refine ⟨ι2,h2,sd2,L2,hr2,Fin.bind q2 fun b h3 ι3 H3 e3 s3 hr3 q3=> ?_⟩
  cases b with
  | true=>
   refine ⟨fun σ' H'=> ∃ ι' h' sd',zc1 X.K ι' H' sd' σ'/\za8 X.K ι' H' h'/\Fin X.K E ι' H' (zeE tc gb m sd' h') (zeH X.K D0),fun σ' H' p=>⟨m,⋯,p⟩,ι3,h3,sd2,L2.step s3,hr3,Fin.bind q3 fun o h7 ι7 H7 e7 s7 hr7 q7=> ?_⟩
   cases o with
   | nx sd'=>exact fun σ' L'=>⟨ι7,h7,sd',L',hr7,q7⟩
   | ct sd'=>exact fun σ' L'=>⟨ι7,h7,sd',L',hr7,q7⟩
   | bk sd'=>exact fun σ' L'=>Fin.out (E:=E) (P:=zeH X.K D0) hr7 q7 σ' L'
   | rt d=>exact fun v rv=>Fin.out (E:=E) (P:=zeH X.K D0) hr7 q7 v rv
  | false=>exact Fin.out (E:=E) (P:=zeH X.K D0) hr3 q3 σ2 (L2.step s3)
noncomputable def zj8 (lo:Int) (n:Nat):List D:=(List.range n).map fun (k:Nat)=>D.int (lo - (k:Int))
theorem znM {K:W.Frag} {ι:Io} {H:Hp} {lo:Int} {n:Nat}:zq4 K ι H (Itd lo n) (zj8 lo n) where
 go:=fun ι' H' i s hi=>by show i<n;simpa [zj8] using hi
 yld:=fun ι' H' _ i x H2 s _ hi ⟨e,y⟩=>by
  subst e y
  have hi:i<n:=by simpa [zj8] using hi
  refine ⟨.inl rfl,.int (lo - i),?_,by simp [Rel]⟩
  simp [zj8,hi]
 stop:=fun ι' H' s=>by
  show n<=(zj8 lo n).length
  simp [zj8]
def zn6:List D->M (List D)
 | [.int i,.int j,.int c]=>if (-1000<=i/\i<1000/\ -1000<=j/\j<1000)/\c= -1 then pure (zj8 i (i - j).toNat) else M.bad
 | _=>M.bad
def zp9 (fs:FA):FA:=fun sd=>do let ds<-fs sd;zn6 ds
theorem zs0 {tg a b c:Expr} {p:Pos} {fs:FA} (hm:X.mg "range"=none) (ha:SA X E [a,b,c] fs) (hg:Gl X "range":=by rfl) (hs:starEach [a,b,c] X.env=[(false,eval a X.env),(false,eval b X.env),(false,eval c X.env)]:=by rfl) (hs2:starEach [b,c] X.env=[(false,eval b X.env),(false,eval c X.env)]:=by rfl):
  SI X E tg (.Call (.Name "range" p) [a,b,c] [] pos) (zp9 fs):=by
 refine PI.imp (zmk hg hm ha hs hs2) fun σ H Q ⟨ι,h,sd,L,hh,q⟩=>⟨ι,h,sd,L,hh,Fin.bind q fun ds h1 ι1 H1 e1 s1 hr1 q1 vs rv=> ?_⟩
 unfold zn6 at q1
 split at q1
 ·rename_i i j c'
  simp only [zas,Rel] at rv
  obtain ⟨v,r,rfl,rfl,v',r',rfl,rfl,v'',r'',rfl,rfl,rfl⟩:=rv
  by_cases hj:(-1000<=i/\i<1000/\ -1000<=j/\j<1000)/\c'= -1
  ·rw [qa4 hj] at q1
   obtain ⟨hj,rfl⟩:=hj
   exact ⟨i,j,rfl,hj,Fin.out hr1 q1 _ znM⟩
  ·rw [qa5 hj] at q1
   exact qa0 q1
 ·exact qa0 q1
def zgx:D->M D
 | .int j=>if 0<=j/\j<1000 then pure (.lst (zcW 0 j.toNat)) else M.bad
 | _=>M.bad
theorem zlK {p1 p2 pos pos2:Pos} (hc:X.calm=true) (hm1:X.mg "list"=none) (hm2:X.mg "range"=none) (he:SE X E e f) (hg1:Gl X "list":=by rfl) (hg2:Gl X "range":=by rfl)
  (h1:starEach [.Call (.Name "range" p2) [e] [] pos2] X.env=[(false,eval (.Call (.Name "range" p2) [e] [] pos2) X.env)]:=by rfl) (h2:starEach [e] X.env=[(false,eval e X.env)]:=by rfl):
  SE X E (.Call (.Name "list" p1) [.Call (.Name "range" p2) [e] [] pos2] [] pos) (cUn zgx f):=by
 refine PE.imp (zbL (zhc hc) hg1 hm1 PyProof.Rows.boot_list (zaU (zbL zeS hg2 hm2 boot_range (zaU he zb5 h2) (he:=h2)) zb5 h1) (he:=h1)) fun σ H Q ⟨ι,h,sd,L,hh,q⟩=>⟨ι,h,sd,L,hh,Fin.bind q fun d h1 ι1 H1 e1 s1 hr1 q1 v rv=> ?_⟩
 cases d with
 | int j=>
  simp only [Rel] at rv
  obtain ⟨⟨c1,c2⟩,q2⟩:=Fin.guard q1
  refine ⟨j,by rw [rv],fun p hp=> ?_⟩
  have hr2:za8 X.K ι1 (upd H1 p (.rng 0 j)) h1:=hr1.laid hp
  exact ⟨p,j,rfl,zaR,c1,c2,fun l hl=>zo9 hr2 zjF (Fin.step (hr1.laidS hp) q2) hl⟩
 | _=>exact qa0 q1
end
end L3
namespace L3
open PySem.Sem (wp)
open PySem.AutoSeq1 (wpAny_loadPart')
section
variable {prog:Program} {w:World} {A:Around} {E:Value->Shared->Prop} {s:Shared}
end
end L3
namespace L3
section
variable {prog:Program} {w:World} {A:Around} {E:Value->Shared->Prop} {s:Shared}
end
end L3
namespace L2
section
variable {X:Cx} {pins:List (Addr×Obj)} {σ:St} {H:Hp} {s:Shared} {h':Heap}
end
section
variable {X:Cx} {elts:List Expr} {k:Nat} {tpos:Pos}
end
end L2
namespace L3
open L2
section
variable {X:Cx} {E:XE} {elts:List Expr} {k:Nat} {tpos pos:Pos}
end
end L3
namespace L3
def pLt (p q:Int×List Int):Bool:=if p.1=q.1 then HT.zbd p.2 q.2 else decide (p.1<q.1)
theorem zdP: ∀ xs:List Int,HT.zbd xs xs=false
 | []=>rfl
 | x::r=>by rw [HT.zbf,qa4 rfl,zdP r]
section
open PySem.SeqAt
open PySem.AutoSeq1 (wpAny_loadPart')
open PySem.MeetsSeq PySem.MeetsSeq2 PySem.MeetsSeq3
def ztw (A:Around) (s:Shared) (a b:Value) (e l:Bool):Prop:=EqAt A s a b e/\(e=false-> ∀ (prog:Program) (w:World) (E Q:Value->Shared->Prop),Q (.bool l) s->wpAny (model prog w) A (richCompare .Lt a b) Q E s)
theorem zh6 (l b:Addr) (a0 a1 b0 b1:Value) (n n2:Nat) (dd dd2:Option Addr) (sl sl2:Array (Option Value)) (e0 l0 e1 l1:Bool):
  Meets (Builtin.«tuple.__lt__» ⟨[.ref l,.ref b],[]⟩)
   (fun A R s=>s.heap.get? l=some {cls:= .type "tuple",dict:=dd,data:= .seq #[a0,a1] n,slots:=sl}/\s.heap.get? b=some {cls:= .type "tuple",dict:=dd2,data:= .seq #[b0,b1] n2,slots:=sl2}/\
     ztw A.in1 s a0 b0 e0 l0/\ztw A.in1 s a1 b1 e1 l1/\R (.ok (.ret (.bool (if e0=true then (if e1=true then false else l1) else l0)))) s):=
 .of_wp fun prog w A R s h=>by
  obtain ⟨hp,g,d,tk,os⟩:=s;obtain ⟨hl,hb,c0,c1,h⟩:=h
  have f2:=AutoSeq1.sub_tuple_tuple
  wp_walk using wpAny_loadPart' hl,wpAny_loadPart' hb,wpAny_forIn_list _ (fun rest b s'=>b.1=none/\s'=⟨hp,g,d,tk,os⟩/\
    (rest=[(a0,b0),(a1,b1)]\/(rest=[(a1,b1)]/\e0=true)\/(rest=[]/\e0=true/\e1=true))) _
  case turn=>
   rintro ⟨y,x⟩ rest b s' ⟨hb',rfl,hz⟩
   rcases hz with hz | ⟨hz,z0⟩ | ⟨hz,_⟩
   ·cases hz
    refine qaW (c0.1 prog w _ _ ?_)
    cases e0 with
    | true=>
     wp_walk
     exact ⟨rfl,rfl,.inr (.inl ⟨rfl,rfl⟩)⟩
    | false=>
     have hri:=c0.2 rfl prog w
     wp_walk using hri
     exact ⟨_,rfl,by simpa using h⟩
   ·cases hz
    subst z0
    refine qaW (c1.1 prog w _ _ ?_)
    cases e1 with
    | true=>
     wp_walk
     exact ⟨rfl,rfl,.inr (.inr ⟨rfl,rfl,rfl⟩)⟩
    | false=>
     have hri:=c1.2 rfl prog w
     wp_walk using hri
     exact ⟨_,rfl,by simpa using h⟩
   ·cases hz
  case fin=>
   rintro ⟨b1',b2'⟩ s' ⟨hb',rfl,hz⟩
   simp only at hb'
   subst hb'
   rcases hz with hz | ⟨hz,_⟩ | ⟨_,z0,z1⟩
   ·cases hz
   ·cases hz
   ·subst z0 z1
    wp_walk
    exact ⟨_,rfl,by simpa [Builtin.Tuple.tupleCompareSizes] using h⟩
  case h=>
   exact ⟨rfl,rfl,.inl rfl⟩
section
variable {prog:Program} {w:World} {A:Around} {E:Value->Shared->Prop} {s:Shared}
theorem ztd {l b:Addr} {a0 a1 b0 b1:Value} {e0 l0 e1 l1:Bool} {Q:Value->Shared->Prop} (hl:IsTup s.heap l #[a0,a1]) (hb:IsTup s.heap b #[b0,b1]) (c0:ztw A.in1 s a0 b0 e0 l0) (c1:ztw A.in1 s a1 b1 e1 l1)
  (hu:A.units<cLine) (h:Q (.bool (if e0=true then (if e1=true then false else l1) else l0)) s):wpAny (model prog w) A (richCompare .Lt (.ref l) (.ref b)) Q E s:=by
 obtain ⟨⟨cls,dd,data,sl⟩,ho,hc,n,hd⟩:=id hl
 obtain ⟨⟨cls2,dd2,data2,sl2⟩,ho2,hc2,n2,hd2⟩:=id hb
 simp only at hc hd hc2 hd2
 subst hc hd hc2 hd2
 exact richCompare_meets_room (op:= .Lt) ⟨_,ho,rfl⟩ ⟨_,ho2,rfl⟩ PySem.F.slot_tuple_lt PySem.F.entry_tuple_lt (PySem.F.args_tuple_lt_2 _ _) (zh6 l b a0 a1 b0 b1 n n2 dd dd2 sl sl2 e0 l0 e1 l1)
  ⟨ho,ho2,c0,c1,show Value.bool _≠Value.notImplemented/\Q (.bool _) s from ⟨(fun x=>nomatch x),h⟩⟩ hu
theorem zgi: ∀ {xs:List Value} {ns:List Int},IntsAre xs ns-> ∀ (j:Nat) (h:j<xs.length), ∃ (t:Tok) (i:Int),ns[j]? = some i/\xs[j]= .int i t
 | _,_,.nil,j,h=>by cases h
 | _,_,.cons a t r,0,_=>⟨t,a,rfl,rfl⟩
 | _,_,.cons a t r,j+1,h=>by
  obtain ⟨t',i,e1,e2⟩:=zgi r j (Nat.lt_of_succ_lt_succ h)
  exact ⟨t',i,e1,e2⟩
theorem zgg: ∀ {xs:List Value} {ns ms:List Int},IntsAre xs ns->IntsAre xs ms->ns=ms
 | _,_,_,.nil,h=>by cases h;rfl
 | _,_,_,.cons a t r,h=>by
  cases h with
  | cons _ _ r'=>rw [zgg r r']
theorem zkD {q r:Addr} {xs ys:List Value} {ns ms:List Int} (hq:IsTup s.heap q xs.toArray) (hr:IsTup s.heap r ys.toArray) (hi:IntsAre xs ns) (hj:IntsAre ys ms) (hu:A.units<cLine):EqAt A s (.ref q) (.ref r) (ns==ms):=by
 by_cases hqr:q=r
 ·subst hqr
  obtain ⟨o,e,_,n,d⟩:=hq
  obtain ⟨o',e',_,n',d'⟩:=hr
  rw [e] at e'
  cases e'
  rw [d] at d'
  injection d' with d' _
  have:xs=ys:=by simpa using d'
  subst this
  rw [zgg hi hj]
  simpa using EqAt.same (A:=A) (s:=s) (.ref q)
 ·have l1:=hi.length
  have l2:=hj.length
  have hc:=RcAt.tuples (A:=A) (s:=s) (e:=fun j=>ns[j]? == ms[j]?) hq hr hu fun j h1 h2=>by
   have h1':j<xs.length:=by simpa using h1
   have h2':j<ys.length:=by simpa using h2
   obtain ⟨t,i,e1,e2⟩:=zgi hi j h1'
   obtain ⟨u,k,e3,e4⟩:=zgi hj j h2'
   have g1:xs.toArray[j]= .int i t:=by simpa using e2
   have g2:ys.toArray[j]= .int k u:=by simpa using e4
   rw [g1,g2,e1,e3]
   have:(some i==some k)=(i==k):=rfl
   rw [this]
   exact EqAt.int_int i t k u
  have he:((List.range (min xs.toArray.size ys.toArray.size)).all (fun j=>ns[j]? == ms[j]?) && xs.toArray.size==ys.toArray.size)=(ns==ms):=by
   rw [Bool.eq_iff_iff,qaG,List.all_eq_true,beq_iff_eq,beq_iff_eq]
   simp only [qaA,beq_iff_eq,List.mem_range]
   constructor
   ·rintro ⟨h1,h2⟩
    refine List.ext_getElem? fun j=> ?_
    by_cases hjl:j<ns.length
    ·exact h1 j ⋯
    ·rw [List.getElem?_eq_none ⋯,List.getElem?_eq_none ⋯]
   ·intro e
    subst e
    exact ⟨fun _ _=>rfl,⋯⟩
  rw [<- he]
  exact EqAt.of_refs hqr hc
end
def zfc (h:Heap) (v:Value) (p:Int×List Int):Prop:= ∃ (a q:Addr) (t:Tok) (its:List Value),v= .ref a/\IsTup h a #[.int p.1 t,.ref q]/\IsTup h q its.toArray/\IntsAre its p.2
theorem zfc.keep {h h':Heap} {v:Value} {p:Int×List Int} (k: ∀ b o,h.get? b=some o->h'.get? b=some o):zfc h v p->zfc h' v p:=fun ⟨a,q,t,its,e,⟨o,x1,x2⟩,⟨o',y1,y2⟩,z⟩=>⟨a,q,t,its,e,⟨o,k _ _ x1,x2⟩,⟨o',k _ _ y1,y2⟩,z⟩
theorem znV {prog:Program} {w:World} {A:Around} {E:Value->Shared->Prop} {s:Shared} {u v:Value} {p q:Int×List Int} {Q:Value->Shared->Prop} (hv:zfc s.heap v p) (hu:zfc s.heap u q) (hr:A.units+2<cLine) (h:Q (.bool (pLt p q)) s):wpAny (model prog w) A (richCompare .Lt v u) Q E s:=by
 obtain ⟨a,x,t,its,rfl,ha,hx,hi⟩:=hv
 obtain ⟨b,y,t',its',rfl,hb,hy,hj⟩:=hu
 have r1:A.in1.units<cLine:=by rw [Around.in1_units];omega
 refine ztd (e0:=(p.1==q.1)) (l0:=decide (p.1<q.1)) (e1:=(p.2==q.2)) (l1:=HT.zbd p.2 q.2) ha hb ⟨EqAt.int_int _ _ _ _,fun _ prog w E Q hq=>HT.zgk _ _ _ _ _ _ prog w E Q hq⟩
  ⟨zkD hx hy hi hj r1,fun _ prog w E Q hq=>HT.zkh hx hy (by simpa using hi) (by simpa using hj) r1 hq⟩ ⋯ ?_
 have e:(if (p.1==q.1)=true then (if (p.2==q.2)=true then false else HT.zbd p.2 q.2) else decide (p.1<q.1))=pLt p q:=by
  unfold pLt
  by_cases h1:p.1=q.1
  ·rw [qa4 (by simpa using h1),qa4 h1]
   by_cases h2:p.2=q.2
   ·rw [qa4 (by simpa using h2),h2,zdP]
   ·rw [qa5 (by simpa using h2)]
  ·rw [qa5 (by simpa using h1),qa5 h1]
 rw [e]
 exact h
end
end L3
namespace L3
section
variable {prog:Program} {w:World} {A:Around} {R:Result->Shared->Prop} {I:Addr} {fp wr:List Addr} {n:Nat} {P:Nat->Value->Prop} {St:Nat->Heap->Prop} {h0:Heap}
def zqF (prog:Program) (w:World) (A:Around) (h0:Heap) (P:Nat->Value->Prop) (bt:Nat->Nat->Bool):Prop:=
 ∀ i j vi vj (s:Shared) (Q:Value->Shared->Prop) (E:Value->Shared->Prop),(∀ b o,h0.get? b=some o->s.heap.get? b=some o)->P i vi->P j vj->Q (.bool (bt i j)) s->wpAny (model prog w) A (richCompare .Lt vi vj) Q E s
theorem zlP (W:Walks prog w A.in1 I fp wr n P St) (bt:Nat->Nat->Bool) (hcmp:zqF prog w A.in1 h0 P bt) (S:Addr) (hSf:S∉fp) (h0w: ∀ b o,h0.get? b=some o->b∉wr/\b≠S):
  ∀ (k j:Nat) (s:Shared) (vb:Value) (c:Nat),n - (j+1)=k->j+1<=n->St (j+1) s.heap->P (argBest bt j) vb->(∀ b o,h0.get? b=some o->s.heap.get? b=some o)->
  s.heap.get? S=some {cls:= .type "list",dict:=none,data:= .seq #[vb,vb] c,slots:= #[]}->
  (∀ v h' tk,P (argBest bt (n - 1)) v->(∀ b o,b∉wr->b≠S->s.heap.get? b=some o->h'.get? b=some o)->R (.ok (.ret v)) {s with heap:=h',toks:=tk})->
  codeAny (model prog w) A (.builtin "min.loop" ⟨[.ref I,.none,.ref S],[]⟩) R s:=by
 have hSw:S∉wr:=fun h=>hSf (W.sub _ h)
 have hname:(toString "min"++toString ".loop":String)="min.loop":=by decide
 intro k
 induction k with
 | zero=>
  intro j s vb c hk hj hst hPb hx hS hR
  have hin:j+1=n:=by omega
  refine codeAny_builtin F.entry_min_loop ?_
  rw [qap F.plain_min_loop _]
  show wpAny _ A.in1 (seqItems? (.ref S)>>=_) _ _ s
  refine qaW (wpAny_seqItems hS rfl ?_)
  show wpAny _ A.in1 (tryCatch (pyNext (.ref I)) _>>=_) _ _ s
  refine qaW (wpAny_tryCatch (W.done s _ _ (hin▸hst) fun h' tk hk'=> ?_))
  show wpAny _ A.in1 (updateSeq S (fun _=> #[])>>=_) _ _ _
  refine qaW (wpAny_updateSeq (hk' S _ hSw hS) rfl (qaW (wpAny_letGo (qaX ?_))))
  exact hR vb _ tk (by rw [<- hin];exact hPb) fun b o hbw hbS e=>(qah _ _ (Ne.symm hbS)).trans (hk' b o hbw e)
 | succ k ih=>
  intro j s vb c hk hj hst hPb hx hS hR
  have hlt:j+1<n:=by omega
  refine codeAny_builtin F.entry_min_loop ?_
  rw [qap F.plain_min_loop _]
  show wpAny _ A.in1 (seqItems? (.ref S)>>=_) _ _ s
  refine qaW (wpAny_seqItems hS rfl ?_)
  show wpAny _ A.in1 (tryCatch (pyNext (.ref I)) _>>=_) _ _ s
  refine qaW (wpAny_tryCatch (W.item (j+1) s _ _ hlt hst fun v h' tk hP hst' hk'=> ?_))
  have hS':=hk' S _ hSw hS
  have hx': ∀ b o,h0.get? b=some o->h'.get? b=some o:=fun b o e=>hk' b o (h0w b o e).1 (hx b o e)
  show wpAny _ A.in1 (tryCatch (holding [v,v] (richCompare .Lt v vb>>=_)) _>>=_) _ _ _
  refine qaW (wpAny_tryCatch (qaO (qaW (hcmp (j+1) (argBest bt j) v vb _ _ _ hx' hP hPb ?_))))
  refine qaW (qaO (wpAny_truthy_bool ?_))
  refine qaW (wpAny_letGo (qaX ?_))
  cases hb:bt (j+1) (argBest bt j) with
  | true=>
   simp only [if_true]
   refine qaW (wpAny_updateSeq hS' rfl (qaW (wpAny_letGo ?_)))
   rw [hname]
   refine qaX ⟨plainId_quiet F.plain_min_loop _,ih (j+1) _ v _ ⋯ hlt (W.frame _ _ _ hst' fun b hbf o e=> ?_) (by simp only [argBest,hb,if_true];exact hP) (fun b o e=> ?_) (qal _ hS' rfl)
     fun v' h'' tk'' hP' hk''=> ?_⟩
   ·exact (qah _ _ (fun h:S=b=>hSf (by rw [h];exact hbf))).trans e
   ·exact (qah _ _ (Ne.symm (h0w b o e).2)).trans (hx' b o e)
   ·exact hR v' h'' tk'' hP' fun b o hbw hbS e=>hk'' b o hbw hbS ((qah _ _ (Ne.symm hbS)).trans (hk' b o hbw e))
  | false=>
   simp only [qax,if_false]
   refine qaW (wpAny_letGo ?_)
   rw [hname]
   exact qaX ⟨plainId_quiet F.plain_min_loop _,ih (j+1) _ vb c ⋯ hlt hst' (by simp only [argBest,hb,qax,if_false];exact hPb) hx' hS' fun v' h'' tk'' hP' hk''=>
     hR v' h'' tk'' hP' fun b o hbw hbS e=>hk'' b o hbw hbS (hk' b o hbw e)⟩
end
section
variable {prog:Program} {w:World} {A:Around} {E:Value->Shared->Prop} {s:Shared}
theorem zre {x:Value} {Q:Value->Shared->Prop}
  (h:wpAny (model prog w) A.in1 (pyIter x) (fun it s₂=> ∃ I fp wr n P St bt h0,it= .ref I/\Walks prog w A.in1 I fp wr n P St/\St 0 s₂.heap/\(∀ b∈fp,b<s₂.heap.objs.size)/\0<n/\zqF prog w A.in1 h0 P bt/\(∀ b o,h0.get? b=some o->b∉wr/\s₂.heap.get? b=some o)/\
    ∀ v h' tk,P (argBest bt (n - 1)) v->(∀ b o,b∉wr->s₂.heap.get? b=some o->h'.get? b=some o)->Q v {s₂ with heap:=h',toks:=tk}) E s):
  wpAny (model prog w) A (call (.builtin "min") [x]) Q E s:=by
 have hname:(toString "min"++toString ".loop":String)="min.loop":=by decide
 refine call_function_tree F.kind_min F.plain_min F.entry_min (F.args_min1 _) ?_
 show wpAny _ A.in1 (Builtin.Builtins.bindParams "min" ["key","default"] 0 ⟨[],[]⟩>>=_) _ _ s
 refine qaW (wpAny_of_eq (show Builtin.Builtins.bindParams "min" ["key","default"] 0 ⟨[],[]⟩=pure [none,none] from rfl) ?_)
 refine qaW (qaX ?_)
 refine qaW (qaZ h (fun it s₂ h₂=> ?_) fun _ _ e=>e)
 obtain ⟨I,fp,wr,n,P,St,bt,h0,rfl,W,hst,hfp,hn,hcmp,hx,hQ⟩:=h₂
 refine qaW (qaC ?_)
 have hSf:s₂.heap.objs.size∉fp:=fun hm=>qaN _ (hfp _ hm)
 have hSw:s₂.heap.objs.size∉wr:=fun h=>hSf (W.sub _ h)
 have h0w: ∀ b o,h0.get? b=some o->b∉wr/\b≠s₂.heap.objs.size:=fun b o e=>⟨(hx b o e).1,qaR (qaQ (hx b o e).2)⟩
 rw [hname]
 refine qaX ⟨plainId_quiet F.plain_min_loop _,?_⟩
 refine codeAny_builtin F.entry_min_loop ?_
 rw [qap F.plain_min_loop _]
 show wpAny _ A.in1 (seqItems? (.ref s₂.heap.objs.size)>>=_) _ _ _
 refine qaW (wpAny_seqItems (qar _ rfl) rfl ?_)
 show wpAny _ A.in1 (tryCatch (pyNext (.ref I)) _>>=_) _ _ _
 refine qaW (wpAny_tryCatch (W.item 0 _ _ _ hn (W.frame _ _ _ hst fun b _ o e=>qag _ e) fun v h' tk hP hst' hk'=> ?_))
 have hS':=hk' s₂.heap.objs.size _ hSw (qar _ rfl)
 show wpAny _ A.in1 (updateSeq s₂.heap.objs.size (fun _=> #[v,v])>>=_) _ _ _
 refine qaW (wpAny_updateSeq hS' rfl ?_)
 rw [hname]
 refine qaX ⟨plainId_quiet F.plain_min_loop _,zlP W bt hcmp s₂.heap.objs.size hSf h0w _ 0 _ v _ rfl hn (W.frame _ _ _ hst' fun b hbf o e=> ?_) hP (fun b o e=> ?_) (qal _ hS' rfl) fun v' h'' tk'' hP' hk''=> ?_⟩
 ·exact (qah _ _ (fun h:s₂.heap.objs.size=b=>hSf (by rw [h];exact hbf))).trans e
 ·exact (qah _ _ (Ne.symm (h0w b o e).2)).trans (hk' b o (h0w b o e).1 (qag _ (hx b o e).2))
 ·exact hQ v' h'' tk'' hP' fun b o hbw e=>hk'' b o hbw (qaR (qaQ e)) ((qah _ _ (Ne.symm (qaR (qaQ e)))).trans (hk' b o hbw (qag _ e)))
theorem zm4 {l:Addr} {items:Array Value} {bt:Nat->Nat->Bool} {Q:Value->Shared->Prop} (hh:zqN A s.heap) (hl:s.heap.IsList l items) (hn:0<items.size) (hc:zqF prog w A.in1 s.heap (fun i v=>items[i]? = some v) bt)
  (k: ∀ v h' tk,items[argBest bt (items.size - 1)]? = some v->(∀ b o,s.heap.get? b=some o->h'.get? b=some o)->Q v {s with heap:=h',toks:=tk}):wpAny (model prog w) A (call (.builtin "min") [.ref l]) Q E s:=by
 have hlt:l<s.heap.objs.size:=by obtain ⟨_,e,_⟩:=hl;exact qaQ e
 have hlI:l≠s.heap.objs.size:=qaR hlt
 refine zre (wpAny_pyIter_list hl ?_)
 have hfp: ∀ b∈[s.heap.objs.size,l],b<(s.heap.push {cls:= .type "list_iterator",data:= .fields #[.ref l,.int 0 0]}).objs.size:=fun b hb=>by
  rw [qaL]
  simp only [qaP,qaF,or_false] at hb
  rcases hb with rfl | rfl
  ·exact Nat.lt_succ_self _
  ·exact Nat.lt_succ_of_lt hlt
 have st1:(s.heap.push {cls:= .type "list_iterator",data:= .fields #[.ref l,.int 0 0]}).IsListIter s.heap.objs.size l 0:=⟨_,qar _ rfl,rfl,rfl⟩
 have hx: ∀ b o,s.heap.get? b=some o->b∉[s.heap.objs.size]/\(s.heap.push {cls:= .type "list_iterator",data:= .fields #[.ref l,.int 0 0]}).get? b=some o:=fun b o e=>
  ⟨fun hm=>qaN _ (by simp only [qaP,qaF,or_false] at hm;exact hm▸qaQ e),qag _ e⟩
 rcases hh with hh | ⟨ha,cls,head,hh,hX⟩
 ·exact ⟨_,_,_,_,_,_,bt,s.heap,rfl,Walks.list (A:=A.in1) hh _ l hlI items,⟨st1,hl.push _⟩,hfp,hn,hc,hx,fun v h' tk hv hk=>k v h' tk hv fun b o e=>hk b o (hx b o e).1 (hx b o e).2⟩
 ·obtain ⟨ob,vs,x1,x2⟩:=id hX
  have hX2:=hX.keep (h':=s.heap.push {cls:= .type "list_iterator",data:= .fields #[.ref l,.int 0 0]}) fun o e=>qag _ e
  refine ⟨_,_,_,_,_,_,bt,s.heap,rfl,zf0 (A:=A.in1) (ha:=ha) (cls:=cls) (head:=head) hh _ l hlI (qaR (qaQ x1)) items,⟨st1,hl.push _,hX2⟩,fun b hb=> ?_,hn,hc,hx,fun v h' tk hv hk=>k v h' tk hv fun b o e=>hk b o (hx b o e).1 (hx b o e).2⟩
  simp only [qaP,qaF,or_false] at hb
  rcases hb with z | z | z
  ·exact hfp b (by simp [z])
  ·exact hfp b (by simp [z])
  ·rw [z]
   show ha<(s.heap.push _).objs.size
   rw [qaL]
   exact Nat.lt_succ_of_lt (qaQ x1)
end
end L3
namespace L2
open L3
section
variable {X:Cx}
def zm7 (K:W.Frag) (H:Hp) (v:V) (p:Int×List Int):Prop:= ∃ a q,v= .ref a/\SqT K H a [.int p.1,.ref q]/\SqT K H q (p.2.map V.int)
theorem zlL {pins:List (Addr×Obj)} {σ:St} {H:Hp} {s:Shared} (I:Inv X pins σ H s) {v:V} {u:Value} {p:Int×List Int} (h:zm7 X.K H v p) (r:zbB v u):zfc s.heap u p:=by
 obtain ⟨a,q,rfl,h1,h2⟩:=h
 cases r
 obtain ⟨its,r1,p1,_⟩:=I.tuple h1
 obtain ⟨its2,r2,p2,_⟩:=I.tuple h2
 obtain ⟨u1,u2,rfl,e1,e2⟩:=zmN r1
 obtain ⟨t,rfl⟩:=e1
 cases e2
 exact ⟨a,q,t,its2,rfl,p1,p2,zbt r2⟩
theorem zlM (hu:X.A.units+60<cLine):zaz X (.builtin "min") (fun xs H Q=> ∃ (a:Addr) (vs:List V) (ps:List (Int×List Int)),xs=[.ref a]/\SqL X.K H a vs/\ps.length=vs.length/\0<vs.length/\(∀ (i:Nat) v p,vs[i]? = some v->ps[i]? = some p->zm7 X.K H v p)/\
    ∀ v,vs[argBest (fun i j=>pLt (ps.getD i (0,[])) (ps.getD j (0,[]))) (ps.length - 1)]? = some v->Q v H):=by
 intro pins s σ H xs us Q I r h
 obtain ⟨a,vs,ps,rfl,hq,hlen,hpos,hp,q⟩:=h
 obtain ⟨u,rfl,rx⟩:=zcX r
 cases rx
 obtain ⟨its,r',pl,hz⟩:=I.list hq
 have hlen':=r'.length
 have back: ∀ (i:Nat) u,its.toArray[i]? = some u-> ∃ v,vs[i]? = some v/\zbB v u:=fun i u e=>by
  have e':its[i]? = some u:=by simpa using e
  have hi:i<vs.length:=by have:=(qac.mp e').1;omega
  obtain ⟨u',hu',ru⟩:=r'.get (x:=vs[i]) (i:=i) (by simp [hi])
  rw [e'] at hu'
  cases hu'
  exact ⟨vs[i],by simp [hi],ru⟩
 have key: ∀ (i:Nat) u,its.toArray[i]? = some u->zfc s.heap u (ps.getD i (0,[])):=fun i u e=>by
  obtain ⟨v,ev,ru⟩:=back i u e
  have hi:i<ps.length:=by have:=(qac.mp ev).1;omega
  refine zlL I (hp i v _ ev ?_) ru
  simp [List.getD,hi]
 refine L3.zm4 I.hand pl.isList (by simp;omega) (bt:=fun i j=>pLt (ps.getD i (0,[])) (ps.getD j (0,[]))) (fun i j vi vj s' Q E hk hi hj hQ=>znV ((key i vi hi).keep hk) ((key j vj hj).keep hk) (by rw [Around.in1_units];omega) hQ) fun v h' tk hv hk=> ?_
 have hs:its.toArray.size - 1=ps.length - 1:=by simp;omega
 rw [hs] at hv
 obtain ⟨v0,ev,ru⟩:=back _ _ hv
 exact ⟨v0,H,I.grown (s':={s with heap:=h',toks:=tk}) rfl rfl hk,ru,q v0 ev⟩
end
end L2
namespace L3
open L2
section
variable {X:Cx} {E:XE}
def zhJ:D->Option (Int×List Int)
 | .tup [.int i,.tup ds]=>(zbO ds).map fun ns=>(i,ns)
 | _=>none
def zdR:List D->Option (List (Int×List Int))
 | []=>some []
 | d::r=>(zhJ d).bind fun p=>(zdR r).map fun ps=>p::ps
def zdd (ps:List (Int×List Int)):Nat:=argBest (fun i j=>pLt (ps.getD i (0,[])) (ps.getD j (0,[]))) (ps.length - 1)
def zno:List D->M D:=zmb fun d=>do
 let ds<-zkw d
 let ps<-ofO (match d with | .tup _=>none | _=>zdR ds)
 ofO (ds[zdd ps]?)
theorem zjU {K:W.Frag} {ι:Io} {H:Hp} {d:D} {v:V} {p:Int×List Int} (r:Rel K ι H d v) (e:zhJ d=some p):zm7 K H v p:=by
 unfold zhJ at e
 split at e
 ·rename_i i ds
  cases z:zbO ds with
  | none=>rw [z] at e;cases e
  | some ns=>
   rw [z] at e
   cases e
   obtain ⟨a,vs,rfl,h1,h2⟩:=zcV r
   simp only [zas] at h2
   obtain ⟨v1,r1,rfl,g1,v2,r2,rfl,g2,rfl⟩:=h2
   simp only [Rel] at g1
   subst g1
   obtain ⟨q,ws,rfl,k1,k2⟩:=zcV g2
   have:=zbR k2 z
   subst this
   exact ⟨a,q,rfl,h1,k1⟩
 ·cases e
theorem zfK {K:W.Frag} {ι:Io} {H:Hp}: ∀ {ds:List D} {vs:List V} {ps:List (Int×List Int)},zas K ι H ds vs->zdR ds=some ps->ps.length=vs.length/\ ∀ (i:Nat) v p,vs[i]? = some v->ps[i]? = some p->zm7 K H v p
 | [],vs,ps,h,e=>by
  simp only [zas] at h
  subst h
  cases e
  exact ⟨rfl,fun i v p e1=>by simp at e1⟩
 | d::r,vs,ps,h,e=>by
  simp only [zas] at h
  obtain ⟨v,r',rfl,h1,h2⟩:=h
  unfold zdR at e
  cases z:zhJ d with
  | none=>rw [z] at e;cases e
  | some p=>
   rw [z] at e
   cases z2:zdR r with
   | none=>rw [z2] at e;cases e
   | some qs=>
    rw [z2] at e
    cases e
    obtain ⟨g1,g2⟩:=zfK h2 z2
    refine ⟨by simp [g1],fun i v' p' e1 e2=> ?_⟩
    cases i with
    | zero=>
     simp at e1 e2
     subst e1 e2
     exact zjU h1 z
    | succ i=>
     simp at e1 e2
     exact g2 i v' p' e1 e2
theorem zfL (hu:X.A.units+60<cLine):zaz X (.builtin "min") (zgj X.K E zno):=by
 refine zaz.imp (zlM hu) fun xs H Q ⟨ι,h,ds,rl,hr,q⟩=> ?_
 obtain ⟨d,v,e,r,q⟩:=zbJ rl q
 obtain ⟨a,vs,ds',e',hs,rl',q⟩:=zcz hr r q
 obtain ⟨ps,ep,q⟩:=Fin.ofOb q
 obtain ⟨x,ex⟩: ∃ x,ds'[zdd ps]? = some x:=by
  cases ex:ds'[zdd ps]? with
  | none=>rw [ex] at q;exact qa0 q
  | some x=>exact ⟨x,rfl⟩
 rw [ex] at q
 rcases hs with ⟨hs,hd⟩ | ⟨hs,hd⟩
 ·have ep':zdR ds'=some ps:=by
   cases d with
   | tup ts=>exact absurd rfl (hd ts)
   | _=>exact ep
  obtain ⟨g1,g2⟩:=zfK rl' ep'
  have hlt:=(qac.mp ex).1
  have hl:=rl'.length
  refine ⟨a,vs,ps,by rw [e,e'],hs,g1,⋯,g2,fun v0 ev=> ?_⟩
  obtain ⟨w,ew,rw'⟩:=zas.get rl' ex
  have ev':vs[zdd ps]? = some v0:=ev
  rw [ew] at ev'
  cases ev'
  exact Fin.out hr q _ rw'
 ·subst hd
  cases ep
end
section
variable {X:Cx} {E:XE}
def zvk (d:D):M Bool:=do let ds<-zkw d;pure (!ds.isEmpty)
def zvb (f:FE):FT:=fun sd=>do let d<-f sd;zvk d
end
end L3
section
namespace TS
set_option autoImplicit false
open PyProof
abbrev Ga:Bool->Keyed->Array Keyed->Nat->Nat->Nat->StateT SortSt Sem (Option Nat):=sortPriv% PySem.Builtin.gallop
abbrev Lt:Keyed->Keyed->StateT SortSt Sem (Option Bool):=sortPriv% PySem.Builtin.lt
abbrev El:Array Keyed->Nat->StateT SortSt Sem Keyed:=sortPriv% PySem.Builtin.elem
structure Cx where
 prog:Program
 w:World
 A:Around
 E:Value->Shared->Prop
 s:Shared
 kd:SortKind
 O:KeyOrd
 ky:Value->O.α
 ok:Value->Prop
 cmp: ∀ (E':Value->Shared->Prop) (x y:Value) (Q:Bool->Shared->Prop),ok x->ok y->Q (O.blt (ky x) (ky y)) s->wpAny (model prog w) A (keyLt' kd x y) Q E' s
abbrev Cx.wp (c:Cx) {α:Type} (m:StateT SortSt Sem α) (Q:α->SortSt->Prop) (st:SortSt):Prop:=wpS (model c.prog c.w) c.A c.E c.s m Q st
noncomputable def Cx.lt (c:Cx) (x y:Keyed):Bool:=c.O.blt (c.ky x.1) (c.ky y.1)
def Cx.le (c:Cx) (x y:Keyed):Prop:=c.lt y x=false
section
variable {c:Cx}
theorem Cx.le_refl (x:Keyed):c.le x x:=c.O.irrefl _
theorem Cx.le_of_lt {x y:Keyed} (h:c.lt x y=true):c.le x y:=KeyOrd.klt_asymm (O:=c.O) h
theorem Cx.le_trans {x y z:Keyed} (h:c.le x y) (h2:c.le y z):c.le x z:=KeyOrd.kle_trans (O:=c.O) h h2
theorem Cx.lt_of_le_lt {x y z:Keyed} (h:c.le x y) (h2:c.lt y z=true):c.lt x z=true:=KeyOrd.klt_of_kle_of_klt (O:=c.O) h h2
theorem zkO {x y:Keyed} {Q:Option Bool->SortSt->Prop} {st:SortSt} (hk:kindOf st=c.kd) (hx:c.ok x.1) (hy:c.ok y.1) (h:Q (some (c.lt x y)) st):c.wp (Lt x y) Q st:=by
 have e:=lt'_eq x y
 unfold lt' at e
 show wpS _ _ _ _ (Lt x y) Q st
 unfold Lt
 rw [e]
 refine qa2 (wpS_get ?_)
 rw [hk]
 refine qa2 (wpS_lift (wpAny_attempt (c.cmp _ _ _ _ hx hy ⟨rfl,?_⟩)))
 exact qa3 h
theorem zcg {arr:Array Keyed} {i:Nat} {x:Keyed} {Q:Keyed->SortSt->Prop} {st:SortSt} (hx:arr[i]? = some x) (h:Q x st):c.wp (El arr i) Q st:=by
 have e:=elem'_eq arr i
 unfold elem' at e
 show wpS _ _ _ _ (El arr i) Q st
 unfold El
 rw [e,hx]
 exact qa3 h
noncomputable def pb (c:Cx) (left:Bool) (key x:Keyed):Bool:=if left then c.lt x key else !c.lt key x
theorem ziF {left:Bool} {key:Keyed} {arr:Array Keyed} {i:Nat} {x:Keyed} {Q:Option Bool->SortSt->Prop} {st:SortSt} (hk:kindOf st=c.kd) (hx:arr[i]? = some x) (okk:c.ok key.1) (okx:c.ok x.1)
  (h:Q (some (pb c left key x)) st):
  c.wp (El arr i>>=fun x=>if left=true then Lt x key else Lt key x>>=fun r=>pure (Option.map (fun x=> !x) r)) Q st:=by
 refine qa2 (zcg hx ?_)
 unfold pb at h
 cases left with
 | true=>exact zkO hk okx okk h
 | false=>exact qa2 (zkO hk okk okx (qa3 h))
theorem zh4 {left:Bool} {key:Keyed} {arr:Array Keyed} {base n hint:Nat} {Q:Option Nat->SortSt->Prop} {st:SortSt} (f:Nat->Keyed) (hk:kindOf st=c.kd) (okk:c.ok key.1)
  (hf: ∀ i,i<n->arr[base+i]? = some (f i)/\c.ok (f i).1)
  (hm: ∀ i j,i<=j->j<n->pb c left key (f j)=true->pb c left key (f i)=true) (hh:hint<n)
  (h: ∀ k,k<=n->(∀ i,i<k->pb c left key (f i)=true)->(∀ i,k<=i->i<n->pb c left key (f i)=false)->Q (some k) st):
  c.wp (Ga left key arr base n hint) Q st:=by
 show wpS _ _ _ _ (Ga left key arr base n hint) Q st
 have hmf: ∀ i j,i<=j->j<n->pb c left key (f i)=false->pb c left key (f j)=false:=by
  intro i j hij hj hi
  cases e:pb c left key (f j) with
  | false=>rfl
  | true=>rw [hm i j hij hj e] at hi;exact hi
 have third: ∀ (lo hi:Nat) (st':SortSt),st'=st->lo<=hi->hi<=n->(∀ i,i<lo->pb c left key (f i)=true)->(∀ i,hi<=i->i<n->pb c left key (f i)=false)->
   c.wp (forIn [:n] ((none:Option (Option Nat)),lo,hi) fun x __s=>
       if __s.snd.fst>=__s.snd.snd then pure (ForInStep.done (none,__s.snd.fst,__s.snd.snd))
       else (El arr (base+(__s.snd.fst+(__s.snd.snd - __s.snd.fst) / 2))>>=fun x=>if left=true then Lt x key else Lt key x>>=fun r=>pure (Option.map (fun x=> !x) r))>>=fun __x=>
         match __x with
           | some more=>
             if more=true then pure (ForInStep.yield (none,__s.snd.fst+(__s.snd.snd - __s.snd.fst) / 2+1,__s.snd.snd))
             else pure (ForInStep.yield (none,__s.snd.fst,__s.snd.fst+(__s.snd.snd - __s.snd.fst) / 2))
           | x=>pure (ForInStep.done (some none,__s.snd.fst,__s.snd.snd)))
    (fun r st'=>st'=st/\r.1=none/\r.2.2<=n/\(∀ i,i<r.2.2->pb c left key (f i)=true)/\(∀ i,r.2.2<=i->i<n->pb c left key (f i)=false)) st':=by
  intro lo hi st' est hlh hhn h1 h2
  refine wpS_forRange (I:=fun x r st'=>st'=st/\r.1=none/\r.2.1<=r.2.2/\r.2.2<=n/\r.2.2 - r.2.1<=n - x/\(∀ i,i<r.2.1->pb c left key (f i)=true)/\(∀ i,r.2.2<=i->i<n->pb c left key (f i)=false)) ?_ ?_ ⟨est,rfl,hlh,hhn,by show hi - lo<=n - 0;omega,h1,h2⟩
  ·rintro i ⟨r,lo,hi⟩ st' _ hi2 ⟨rfl,rfl,a1,a2,a3,a4,a5⟩
   dsimp only at a1 a2 a3 a4 a5 ⊢
   split
   ·refine qa3 ⟨rfl,rfl,a2,?_,a5⟩
    intro j hj
    exact a4 j (by dsimp only at hj;omega)
   ·obtain ⟨g1,g2⟩:=hf (lo+(hi - lo) / 2) ⋯
    refine qa2 (ziF hk g1 okk g2 ?_)
    dsimp only
    cases e:pb c left key (f (lo+(hi - lo) / 2)) with
    | true=>
     rw [qa4 rfl]
     refine qa3 ⟨rfl,rfl,?_,a2,?_,?_,a5⟩
     ·dsimp only;omega
     ·dsimp only;omega
     ·intro j hj;exact hm j _ (by dsimp only at hj;omega) ⋯ e
    | false=>
     rw [qa5 (by simp)]
     refine qa3 ⟨rfl,rfl,?_,?_,?_,a4,?_⟩
     ·dsimp only;omega
     ·dsimp only;omega
     ·dsimp only;omega
     ·intro j hj hjn;exact hmf _ j hj hjn e
  ·rintro ⟨r,lo,hi⟩ st' ⟨rfl,rfl,a1,a2,a3,a4,a5⟩
   refine ⟨rfl,rfl,a2,?_,a5⟩
   dsimp only at a1 a3 a4 ⊢
   intro j hj;exact a4 j ⋯
 obtain ⟨g1,g2⟩:=hf hint hh
 refine qa2 ?_
 dsimp only
 refine ziF hk g1 okk g2 ?_
 dsimp only
 cases e:pb c left key (f hint) with
 | true=>
  rw [qa4 rfl]
  refine qa2 (wpS_mono (wpS_forRange (I:=fun x r st'=>st'=st/\r.1=(none:Option (Option Nat))/\x+1<=r.2.2/\r.2.1<r.2.2/\hint+r.2.1<n/\pb c left key (f (hint+r.2.1))=true)
    (Q:=fun r st'=>st'=st/\r.1=none/\r.2.1<r.2.2/\hint+r.2.1<n/\pb c left key (f (hint+r.2.1))=true/\(n<=hint+r.2.2\/pb c left key (f (hint+r.2.2))=false)) ?_ ?_ ⟨rfl,rfl,qaV _,Nat.zero_lt_one,hh,by exact e⟩) ?_)
  ·rintro i ⟨r,lo,hi⟩ st' _ hi2 ⟨rfl,rfl,a1,a2,a3,a4⟩
   dsimp only at a1 a2 a3 a4 ⊢
   split
   ·exact qa3 ⟨rfl,rfl,a2,a3,a4,.inl (by dsimp only;omega)⟩
   ·obtain ⟨g1,g2⟩:=hf (hint+hi) ⋯
    refine qa2 (ziF hk g1 okk g2 ?_)
    dsimp only
    cases e:pb c left key (f (hint+hi)) with
    | true=>
     rw [qa5 (by simp)]
     exact qa3 ⟨rfl,rfl,by dsimp only;omega,by dsimp only;omega,by dsimp only;omega,e⟩
    | false=>
     rw [qa4 (by simp)]
     exact qa3 ⟨rfl,rfl,a2,a3,a4,.inr e⟩
  ·rintro ⟨r,lo,hi⟩ st' ⟨rfl,rfl,a1,a2,a3,a4⟩
   exact ⟨rfl,rfl,a2,a3,a4,.inl (by dsimp only at a1 ⊢; omega)⟩
  ·rintro ⟨r,lo,hi⟩ st' ⟨rfl,rfl,a2,a3,a4,a5⟩
   dsimp only at a2 a3 a4 a5 ⊢
   refine qa2 (wpS_mono (third _ _ _ rfl ⋯ ⋯ (fun i hi2=>hm i _ ⋯ a3 a4) ?_) ?_)
   ·intro i h1 h2
    rcases a5 with a5 | a5
    ·omega
    ·by_cases hq:hint+hi<n
     ·exact hmf _ i ⋯ h2 a5
     ·omega
   ·rintro ⟨r,lo,hi⟩ st' ⟨rfl,rfl,b1,b2,b3⟩
    exact qa3 (h _ b1 b2 b3)
 | false=>
  rw [qa5 (by simp)]
  refine qa2 (wpS_mono (wpS_forRange (I:=fun x r st'=>st'=st/\r.1=(none:Option (Option Nat))/\x+1<=r.2.2/\r.2.1<r.2.2/\r.2.1<=hint/\pb c left key (f (hint - r.2.1))=false)
    (Q:=fun r st'=>st'=st/\r.1=none/\r.2.1<r.2.2/\r.2.1<=hint/\pb c left key (f (hint - r.2.1))=false/\(hint<r.2.2\/pb c left key (f (hint - r.2.2))=true)) ?_ ?_ ⟨rfl,rfl,qaV _,Nat.zero_lt_one,Nat.zero_le _,by exact e⟩) ?_)
  ·rintro i ⟨r,lo,hi⟩ st' _ hi2 ⟨rfl,rfl,a1,a2,a3,a4⟩
   dsimp only at a1 a2 a3 a4 ⊢
   split
   ·exact qa3 ⟨rfl,rfl,a2,a3,a4,.inl (by dsimp only;omega)⟩
   ·obtain ⟨g1,g2⟩:=hf (hint - hi) ⋯
    refine qa2 (ziF hk g1 okk g2 ?_)
    dsimp only
    cases e:pb c left key (f (hint - hi)) with
    | false=>
     rw [qa5 (by simp)]
     exact qa3 ⟨rfl,rfl,by dsimp only;omega,by dsimp only;omega,by dsimp only;omega,e⟩
    | true=>
     rw [qa4 rfl]
     exact qa3 ⟨rfl,rfl,a2,a3,a4,.inr e⟩
  ·rintro ⟨r,lo,hi⟩ st' ⟨rfl,rfl,a1,a2,a3,a4⟩
   exact ⟨rfl,rfl,a2,a3,a4,.inl (by dsimp only at a1 ⊢; omega)⟩
  ·rintro ⟨r,lo,hi⟩ st' ⟨rfl,rfl,a2,a3,a4,a5⟩
   dsimp only at a2 a3 a4 a5 ⊢
   refine qa2 (wpS_mono (third _ _ _ rfl ⋯ ⋯ ?_ (fun i h1 h2=>hmf _ i h1 h2 a4)) ?_)
   ·intro i h1
    rcases a5 with a5 | a5
    ·omega
    ·exact hm i _ ⋯ ⋯ a5
   ·rintro ⟨r,lo,hi⟩ st' ⟨rfl,rfl,b1,b2,b3⟩
    exact qa3 (h _ b1 b2 b3)
end
end TS
end
section
namespace TS
set_option autoImplicit false
open PyProof
abbrev ML:Array Keyed->Array Keyed->StateT SortSt Sem (Array Keyed):=sortPriv% PySem.Builtin.mergeLo
abbrev MH:Array Keyed->Array Keyed->StateT SortSt Sem (Array Keyed):=sortPriv% PySem.Builtin.mergeHi
abbrev Sg:Nat->StateT SortSt Sem Unit:=sortPriv% PySem.Builtin.setMinGallop
structure Sm (st st':SortSt):Prop where
 k:kindOf st'=kindOf st
 a:arrOf st'=arrOf st
 p:pendingOf st'=pendingOf st
 f:failedOf st'=failedOf st
theorem Sm.refl (st:SortSt):Sm st st:=⟨rfl,rfl,rfl,rfl⟩
theorem Sm.g {st st':SortSt} (h:Sm st st') (n:Nat):Sm st (SortSt.mk' (kindOf st') (arrOf st') (pendingOf st') n (failedOf st')):=⟨h.k,h.a,h.p,h.f⟩
structure Mg (r:Keyed->Keyed->Prop) (O L R T:List Keyed):Prop where
 s:O.Pairwise r
 l: ∀ x,x∈O-> ∀ y,y∈L->r x y
 r: ∀ x,x∈O-> ∀ y,y∈R->r x y
 p:(O++(L++R)).Perm T
section
variable {r:Keyed->Keyed->Prop} {O L R T X:List Keyed}
theorem Mg.symm (h:Mg r O L R T):Mg r O R L T:=⟨h.s,h.r,h.l,(List.Perm.append_left O List.perm_append_comm).trans h.p⟩
theorem Mg.stepL (h:Mg r O (X++L) R T) (hX:(X++L).Pairwise r) (hR: ∀ x,x∈X-> ∀ y,y∈R->r x y):Mg r (O++X) L R T:=by
 rw [qaq] at hX
 refine ⟨?_,?_,?_,?_⟩
 ·rw [qaq]
  exact ⟨h.s,hX.1,fun x hx y hy=>h.l x hx y (List.mem_append_left _ hy)⟩
 ·intro x hx y hy
  rcases qaK.mp hx with hx | hx
  ·exact h.l x hx y (qak _ hy)
  ·exact hX.2.2 x hx y hy
 ·intro x hx y hy
  rcases qaK.mp hx with hx | hx
  ·exact h.r x hx y hy
  ·exact hR x hx y hy
 ·have:=h.p
  simpa [List.append_assoc] using this
theorem Mg.fin (h:Mg r O L R T) (hs:(L++R).Pairwise r):(O++(L++R)).Pairwise r/\(O++(L++R)).Perm T:=by
 refine ⟨?_,h.p⟩
 rw [qaq]
 refine ⟨h.s,hs,fun x hx y hy=> ?_⟩
 rcases qaK.mp hy with hy | hy
 ·exact h.l x hx y hy
 ·exact h.r x hx y hy
end
section
variable {c:Cx}
theorem zjJ {g:Nat} {Q:Unit->SortSt->Prop} {st:SortSt} (h:Q () (SortSt.mk' (kindOf st) (arrOf st) (pendingOf st) g (failedOf st))):c.wp (Sg g) Q st:=by
 exact wpS_modify h
theorem zeg {n:String} {Q:Unit->SortSt->Prop} {st:SortSt} (h:Q () st):c.wp (liftM (rule n):StateT SortSt Sem Unit) Q st:=
 wpS_lift (wpAny_rule ⟨rfl,h⟩)
def srt (c:Cx) (a:Array Keyed):Prop:=a.toList.Pairwise c.le
def okA (c:Cx) (a:Array Keyed):Prop:= ∀ x,x∈a.toList->c.ok x.1
theorem zbE {a:Array Keyed} (h:okA c a) {i:Nat} (hi:i<a.size): ∃ x,a[i]? = some x/\c.ok x.1:=
 ⟨a[i],getElem?_pos a i hi,h _ (by simp)⟩
theorem zev {a:Array Keyed} (h:srt c a) {i j:Nat} {x y:Keyed} (hij:i<=j) (hx:a[i]? = some x) (hy:a[j]? = some y):c.le x y:=by
 rcases Nat.lt_or_ge i j with hlt | hge
 ·obtain ⟨hj,rfl⟩:=qab.mp hy
  obtain ⟨hi,rfl⟩:=qab.mp hx
  have:=List.pairwise_iff_getElem.mp h i j (by simpa using hi) (by simpa using hj) hlt
  simpa using this
 ·have:i=j:=by omega
  subst this
  rw [hx] at hy
  cases hy
  exact Cx.le_refl _
structure MgA (c:Cx) (a b out:Array Keyed) (ia ib:Nat):Prop where
 m:Mg c.le out.toList (a.toList.drop ia) (b.toList.drop ib) (a.toList++b.toList)
 z:out.size=ia+ib
 la:ia<=a.size
 lb:ib<=b.size
def Fi (c:Cx) (a b res:Array Keyed):Prop:=srt c res/\res.toList.Perm (a.toList++b.toList)
theorem zdQ {l:List Keyed} {i k:Nat} {x:Keyed} (h:x∈(l.drop i).take k): ∃ j,j<k/\l[i+j]? = some x:=by
 obtain ⟨j,hj,e⟩:=List.getElem_of_mem h
 refine ⟨j,by simp at hj;omega,?_⟩
 rw [List.getElem_take,List.getElem_drop] at e
 rw [qaf (by simp at hj;omega),e]
theorem zf2 {l:List Keyed} {i:Nat} {x:Keyed} (h:x∈l.drop i): ∃ j,l[i+j]? = some x:=by
 obtain ⟨j,hj,e⟩:=List.getElem_of_mem h
 refine ⟨j,?_⟩
 rw [List.getElem_drop] at e
 rw [qaf (by simp at hj;omega),e]
variable {a b out:Array Keyed} {ia ib k:Nat}
theorem MgA.appA (h:MgA c a b out ia ib) (ha:srt c a) (hb:srt c b) {y:Keyed} (hy:b[ib]? = some y) (hk:ia+k<=a.size)
  (hx: ∀ i x,i<k->a[ia+i]? = some x->c.le x y):MgA c a b (out++a.extract ia (ia+k)) (ia+k) ib:=by
 refine ⟨?_,?_,hk,h.lb⟩
 ·have e:a.toList.drop ia=(a.toList.drop ia).take k++a.toList.drop (ia+k):=by
   rw [<- List.drop_drop];exact (qam k _).symm
  have hm:=h.m
  rw [e] at hm
  have e2:(out++a.extract ia (ia+k)).toList=out.toList++(a.toList.drop ia).take k:=by
   simp [List.extract,Nat.add_sub_cancel_left]
  rw [e2]
  refine hm.stepL (by rw [<- e];exact List.Pairwise.sublist (List.drop_sublist _ _) ha) ?_
  intro x hxm z hz
  obtain ⟨j,hj,ej⟩:=zdQ hxm
  obtain ⟨i,ei⟩:=zf2 hz
  rw [qaj] at ej ei
  exact Cx.le_trans (hx j x hj ej) (zev hb (Nat.le_add_right _ _) hy ei)
 ·rw [Array.size_append,qaz,h.z]
  omega
theorem MgA.appB (h:MgA c a b out ia ib) (ha:srt c a) (hb:srt c b) {x:Keyed} (hx:a[ia]? = some x) (hk:ib+k<=b.size)
  (hy: ∀ i y,i<k->b[ib+i]? = some y->c.le y x):MgA c a b (out++b.extract ib (ib+k)) ia (ib+k):=by
 refine ⟨?_,?_,h.la,hk⟩
 ·have e:b.toList.drop ib=(b.toList.drop ib).take k++b.toList.drop (ib+k):=by
   rw [<- List.drop_drop];exact (qam k _).symm
  have hm:=h.m.symm
  rw [e] at hm
  have e2:(out++b.extract ib (ib+k)).toList=out.toList++(b.toList.drop ib).take k:=by
   simp [List.extract,Nat.add_sub_cancel_left]
  rw [e2]
  refine (hm.stepL (by rw [<- e];exact List.Pairwise.sublist (List.drop_sublist _ _) hb) ?_).symm
  intro x hxm z hz
  obtain ⟨j,hj,ej⟩:=zdQ hxm
  obtain ⟨i,ei⟩:=zf2 hz
  rw [qaj] at ej ei
  exact Cx.le_trans (hy j x hj ej) (zev ha (Nat.le_add_right _ _) hx ei)
 ·rw [Array.size_append,qaz,h.z]
  omega
theorem zgn {i:Nat} {x:Keyed} (hx:a[i]? = some x):out.push x=out++a.extract i (i+1):=by
 obtain ⟨hi,rfl⟩:=qab.mp hx
 apply Array.ext'
 simp only [Array.toList_push,Array.toList_append,Array.toList_extract,List.extract,Nat.add_sub_cancel_left]
 rw [qae (by simpa using hi)]
 simp
theorem MgA.pushA (h:MgA c a b out ia ib) (ha:srt c a) (hb:srt c b) {x y:Keyed} (hx:a[ia]? = some x) (hy:b[ib]? = some y) (hxy:c.le x y):MgA c a b (out.push x) (ia+1) ib:=by
 rw [zgn hx]
 refine h.appA ha hb hy (qab.mp hx).1 ?_
 intro i z hi hz
 have:i=0:=by omega
 subst this
 rw [Nat.add_zero,hx] at hz
 cases hz
 exact hxy
theorem MgA.pushB (h:MgA c a b out ia ib) (ha:srt c a) (hb:srt c b) {x y:Keyed} (hx:a[ia]? = some x) (hy:b[ib]? = some y) (hxy:c.le y x):MgA c a b (out.push y) ia (ib+1):=by
 rw [zgn hy]
 refine h.appB ha hb hx (qab.mp hy).1 ?_
 intro i z hi hz
 have:i=0:=by omega
 subst this
 rw [Nat.add_zero,hy] at hz
 cases hz
 exact hxy
theorem MgA.done (h:MgA c a b out ia ib) (ha:srt c a) (hb:srt c b) (he:ia=a.size\/ib=b.size):Fi c a b (out++a.extract ia++b.extract ib):=by
 have e:(out++a.extract ia++b.extract ib).toList=out.toList++(a.toList.drop ia++b.toList.drop ib):=by
  simp [List.extract,List.take_of_length_le]
 have hs:(a.toList.drop ia++b.toList.drop ib).Pairwise c.le:=by
  rcases he with he | he
  ·rw [List.drop_eq_nil_of_le (by simp [he]),List.nil_append]
   exact List.Pairwise.sublist (List.drop_sublist _ _) hb
  ·rw [List.drop_eq_nil_of_le (as:=b.toList) (by simp [he]),List.append_nil]
   exact List.Pairwise.sublist (List.drop_sublist _ _) ha
 obtain ⟨h1,h2⟩:=h.m.fin hs
 exact ⟨by unfold srt;rw [e];exact h1,by rw [e];exact h2⟩
theorem MgA.last (h:MgA c a b out ia ib) (_ha:srt c a) (hb:srt c b) (he:ia+1=a.size) (hl: ∀ x,a[ia]? = some x-> ∀ y,y∈b.toList->c.le y x):Fi c a b (out++b.extract ib++a.extract ia):=by
 have e:(out++b.extract ib++a.extract ia).toList=out.toList++(b.toList.drop ib++a.toList.drop ia):=by
  simp [List.extract,List.take_of_length_le]
 have ed:a.toList.drop ia=[a[ia]]:=by
  rw [qae (by simp;omega),List.drop_eq_nil_of_le (by simp;omega)]
  simp
 have hs:(b.toList.drop ib++a.toList.drop ia).Pairwise c.le:=by
  rw [ed,qaq]
  refine ⟨List.Pairwise.sublist (List.drop_sublist _ _) hb,List.pairwise_singleton _ _,?_⟩
  intro x hx y hy
  rw [List.mem_singleton.mp hy]
  exact hl _ (getElem?_pos a ia ⋯) x (List.mem_of_mem_drop hx)
 obtain ⟨h1,h2⟩:=h.m.symm.fin hs
 exact ⟨by unfold srt;rw [e];exact h1,by rw [e];exact h2⟩
end
end TS
end
section
namespace TS
set_option autoImplicit false
open PyProof
section
variable {c:Cx} {a b:Array Keyed}
theorem zaJ {α:Type} {p:Prop} [Decidable p] {x y:StateT SortSt Sem α} {Q:α->SortSt->Prop} {st:SortSt} (h1:p->c.wp x Q st) (h2: ¬p->c.wp y Q st):c.wp (if p then x else y) Q st:=by
 by_cases h:p
 ·rw [qa4 h];exact h1 h
 ·rw [qa5 h];exact h2 h
theorem zbl {α:Type} {i j:Nat} {x y:StateT SortSt Sem α} {Q:α->SortSt->Prop} {st:SortSt} (h1:i=j->c.wp x Q st) (h2: ¬i=j->c.wp y Q st):c.wp (if (i==j)=true then x else y) Q st:=
 zaJ (fun h=>h1 (by simpa using h)) (fun h=>h2 (by simpa using h))
theorem zqa {st:SortSt} {base n hint:Nat} {y:Keyed} {Q:Option Nat->SortSt->Prop} (hk:kindOf st=c.kd) (oy:c.ok y.1) (hi:hint<n)
  (ha: ∀ i j x z,i<=j->j<n->a[base+i]? = some x->a[base+j]? = some z->c.le x z) (oa: ∀ i,i<n-> ∃ x,a[base+i]? = some x/\c.ok x.1)
  (h: ∀ k,k<=n->(∀ i x,i<k->a[base+i]? = some x->c.le x y)->(∀ i x,k<=i->i<n->a[base+i]? = some x->c.lt y x=true)->Q (some k) st):
  c.wp (Ga false y a base n hint) Q st:=by
 refine zh4 (fun i=>a[base+i]?.getD y) hk oy ?_ ?_ hi ?_
 ·intro i hi2
  obtain ⟨x,ex,ox⟩:=oa i hi2
  exact ⟨by rw [ex];rfl,by rw [ex];exact ox⟩
 ·intro i j hij hj hp
  obtain ⟨x,ex,ox⟩:=oa i ⋯
  obtain ⟨z,ez,oz⟩:=oa j hj
  rw [ez] at hp
  rw [ex]
  have hxz:=ha i j x z hij hj ex ez
  simp only [pb,qax,if_false,Bool.not_eq_true',Option.getD_some] at hp ⊢
  exact Cx.le_trans (c:=c) hxz hp
 ·intro k hk1 h1 h2
  refine h k hk1 ?_ ?_
  ·intro i x hi2 ex
   have:=h1 i hi2
   rw [ex] at this
   simpa [pb,Cx.le] using this
  ·intro i x hi2 hin ex
   have:=h2 i hi2 hin
   rw [ex] at this
   simpa [pb] using this
theorem zs1 {st:SortSt} {ib n hint:Nat} {x:Keyed} {Q:Option Nat->SortSt->Prop} (hk:kindOf st=c.kd) (ox:c.ok x.1) (hi:hint<n)
  (hb: ∀ i j y z,i<=j->j<n->b[ib+i]? = some y->b[ib+j]? = some z->c.le y z) (ob: ∀ i,i<n-> ∃ y,b[ib+i]? = some y/\c.ok y.1)
  (h: ∀ k,k<=n->(∀ i y,i<k->b[ib+i]? = some y->c.lt y x=true)->(∀ i y,k<=i->i<n->b[ib+i]? = some y->c.le x y)->Q (some k) st):
  c.wp (Ga true x b ib n hint) Q st:=by
 refine zh4 (fun i=>b[ib+i]?.getD x) hk ox ?_ ?_ hi ?_
 ·intro i hi2
  obtain ⟨y,ey,oy⟩:=ob i ⋯
  exact ⟨by rw [ey];rfl,by rw [ey];exact oy⟩
 ·intro i j hij hj hp
  obtain ⟨y,ey,oy⟩:=ob i ⋯
  obtain ⟨z,ez,oz⟩:=ob j ⋯
  rw [ez] at hp
  rw [ey]
  have hyz:=hb i j y z hij hj ey ez
  simp only [pb,if_true,Option.getD_some] at hp ⊢
  exact Cx.lt_of_le_lt (c:=c) hyz hp
 ·intro k hk1 h1 h2
  refine h k hk1 ?_ ?_
  ·intro i y hi2 ey
   have:=h1 i hi2
   rw [ey] at this
   simpa [pb] using this
  ·intro i y hi2 hin ey
   have:=h2 i hi2 hin
   rw [ey] at this
   simpa [pb,Cx.le] using this
theorem znC {st:SortSt} {ia:Nat} {y:Keyed} {Q:Option Nat->SortSt->Prop} (hk:kindOf st=c.kd) (ha:srt c a) (oa:okA c a) (oy:c.ok y.1) (hi:ia<a.size)
  (h: ∀ k,ia+k<=a.size->(∀ i x,i<k->a[ia+i]? = some x->c.le x y)->(∀ i x,k<=i->a[ia+i]? = some x->c.lt y x=true)->Q (some k) st):
  c.wp (Ga false y a ia (a.size - ia) 0) Q st:=
 zqa hk oy ⋯ (fun i j x z hij _ hx hz=>zev ha ⋯ hx hz) (fun i hi=>zbE oa ⋯) fun k h1 h2 h3=>h k ⋯ h2 (fun i x hi hx=>h3 i x hi (by have:=(qab.mp hx).1;omega) hx)
theorem zjl {st:SortSt} {ib n hint:Nat} {x:Keyed} {Q:Option Nat->SortSt->Prop} (hk:kindOf st=c.kd) (hb:srt c b) (ob:okA c b) (ox:c.ok x.1) (hi:hint<n) (hn:ib+n<=b.size)
  (h: ∀ k,k<=n->(∀ i y,i<k->b[ib+i]? = some y->c.lt y x=true)->(∀ i y,k<=i->i<n->b[ib+i]? = some y->c.le x y)->Q (some k) st):
  c.wp (Ga true x b ib n hint) Q st:=
 zs1 hk ox hi (fun i j x z hij _ hx hz=>zev hb ⋯ hx hz) (fun i hi=>zbE ob ⋯) h
abbrev StL:=ForInStep (Option (Array Keyed)×Array Keyed×Nat×Nat×Nat×Nat×Nat)
structure Ex (c:Cx) (a b:Array Keyed) (N:Nat) (Q:StL->SortSt->Prop) (st:SortSt):Prop where
 d1: ∀ res t,Fi c a b res->Q (.done (some res,t)) st
 d2: ∀ o i j t,MgA c a b o i j->i+1<a.size->j<b.size->N<=o.size->Q (.done (none,o,i,j,t)) st/\Q (.yield (none,o,i,j,t)) st
 hl: ∀ (o:Array Keyed) (i j:Nat),MgA c a b o i j->i+1=a.size->Fi c a b (o++b.extract j++a.extract i)
 ha:srt c a
 hb:srt c b
 oa:okA c a
 ob:okA c b
 hk:kindOf st=c.kd
noncomputable def T4 (a b o:Array Keyed) (i j g k l:Nat):StateT SortSt Sem StL:=El a i>>=fun z=>
 if (i+1+1==a.size)=true then pure (.done (some (o.push z++b.extract j++a.extract (i+1)),o.push z,i+1,j,g,k,l))
 else if (decide (k<7) && decide (l<7))=true then pure (.done (none,o.push z,i+1,j,g,k,l)) else pure (.yield (none,o.push z,i+1,j,g,k,l))
noncomputable def T3 (a b o:Array Keyed) (i j g k v:Nat):StateT SortSt Sem StL:=El b j>>=fun y=>
 if (j+1==b.size)=true then pure (.done (some (o.push y++a.extract i++b.extract (j+1)),o.push y,i,j+1,g,k,v))
 else El a i>>=fun z=>Ga true z b (j+1) (b.size - (j+1)) 0>>=fun x=>match x with
  | some l=>if l>0 then
    if (j+1+l==b.size)=true then pure (.done (some (o.push y++b.extract (j+1) (j+1+l)++a.extract i++b.extract (j+1+l)),o.push y++b.extract (j+1) (j+1+l),i,j+1+l,g,k,l))
    else T4 a b (o.push y++b.extract (j+1) (j+1+l)) i (j+1+l) g k l
   else T4 a b (o.push y) i (j+1) g k l
  | _=>pure (.done (some (o.push y++a.extract i++b.extract (j+1)),o.push y,i,j+1,g,k,v))
noncomputable def T2 (a b o:Array Keyed) (i j g u v:Nat):StateT SortSt Sem StL:=El b j>>=fun y=>Ga false y a i (a.size - i) 0>>=fun x=>match x with
  | some k=>if k>0 then
    if (i+k+1==a.size)=true then pure (.done (some (o++a.extract i (i+k)++b.extract j++a.extract (i+k)),o++a.extract i (i+k),i+k,j,g,k,v))
    else if (i+k==a.size)=true then pure (.done (some (o++a.extract i (i+k)++a.extract (i+k)++b.extract j),o++a.extract i (i+k),i+k,j,g,k,v))
    else T3 a b (o++a.extract i (i+k)) (i+k) j g k v
   else T3 a b o i j g k v
  | _=>pure (.done (some (o++a.extract i++b.extract j),o,i,j,g,u,v))
section
variable {N:Nat} {Q:StL->SortSt->Prop} {st:SortSt} {o:Array Keyed} {i j g k l u v:Nat}
theorem zsL (x:Ex c a b N Q st) (m:MgA c a b o i j) (b1:i+1<a.size) (b2:j<b.size) (b3:N<=o.size) {z w:Keyed} (ew:b[j]? = some w) (ez:a[i]? = some z) (lzw:c.le z w):c.wp (T4 a b o i j g k l) Q st:=by
 refine qa2 (zcg ez ?_)
 have m2:=m.pushA x.ha x.hb ez ew lzw
 have d:=fun b1=>x.d2 _ _ _ (g,k,l) m2 b1 b2 (by rw [Array.size_push];omega)
 refine zbl (fun p3=>qa3 (x.d1 _ _ (x.hl _ _ _ m2 p3))) (fun p3=>zaJ (fun _=>qa3 (d ⋯).1) (fun _=>qa3 (d ⋯).2))
theorem zrC (x:Ex c a b N Q st) (m:MgA c a b o i j) (b1:i+1<a.size) (b2:j<b.size) (b3:N<=o.size) {y z:Keyed} (ey:b[j]? = some y) (ez:a[i]? = some z) (oz:c.ok z.1) (lyz:c.le y z):c.wp (T3 a b o i j g k v) Q st:=by
 refine qa2 (zcg ey ?_)
 have m2:=m.pushB x.ha x.hb ez ey lyz
 have b4:N<=(o.push y).size:=by rw [Array.size_push];omega
 refine zbl (fun p=>qa3 (x.d1 _ _ (m2.done x.ha x.hb (.inr p)))) (fun p=> ?_)
 refine qa2 (zcg ez (qa2 (zjl x.hk x.hb x.ob oz ⋯ ⋯ ?_)))
 intro l hl1 hl2 hl3
 have m3:=m2.appB x.ha x.hb ez ⋯ (fun i y hi hy=>Cx.le_of_lt (hl2 i y hi hy))
 refine zaJ (fun l0=>zbl (fun p2=>qa3 (x.d1 _ _ (m3.done x.ha x.hb (.inr p2)))) (fun p2=> ?_)) (fun l0=> ?_)
 ·obtain ⟨w,ew,ow⟩:=zbE x.ob (i:=j+1+l) ⋯
  exact zsL x m3 b1 ⋯ (by rw [Array.size_append];omega) ew ez (hl3 l w (qaV _) ⋯ ew)
 ·have el:l=0:=by omega
  subst el
  obtain ⟨w,ew,ow⟩:=zbE x.ob (i:=j+1) ⋯
  exact zsL x m2 b1 ⋯ b4 ew ez (hl3 0 w (qaV _) ⋯ ew)
theorem zrN (x:Ex c a b N Q st) (m:MgA c a b o i j) (b1:i+1<a.size) (b2:j<b.size) (b3:N<=o.size):c.wp (T2 a b o i j g u v) Q st:=by
 obtain ⟨y,ey,oy⟩:=zbE x.ob b2
 refine qa2 (zcg ey (qa2 (znC x.hk x.ha x.oa oy ⋯ ?_)))
 intro k hk1 hk2 hk3
 have m2:=m.appA x.ha x.hb ey hk1 hk2
 refine zaJ (fun k0=>zbl (fun q=>qa3 (x.d1 _ _ (x.hl _ _ _ m2 q))) (fun q=>zbl (fun q2=>qa3 (x.d1 _ _ (m2.done x.ha x.hb (.inl q2)))) (fun q2=> ?_))) (fun k0=> ?_)
 ·obtain ⟨z,ez,oz⟩:=zbE x.oa (i:=i+k) ⋯
  exact zrC x m2 ⋯ b2 (by rw [Array.size_append];omega) ey ez oz (Cx.le_of_lt (hk3 k z (qaV _) ez))
 ·have ek:k=0:=by omega
  subst ek
  obtain ⟨z,ez,oz⟩:=zbE x.oa (i:=i) ⋯
  exact zrC x m b1 b2 b3 ey ez oz (Cx.le_of_lt (hk3 0 z (qaV _) ez))
end
abbrev S5:=Option (Array Keyed)×Array Keyed×Nat×Nat×Nat
abbrev S6:=Option (Array Keyed)×Array Keyed×Nat×Nat×Nat×Nat
abbrev S7:=Option (Array Keyed)×Array Keyed×Nat×Nat×Nat×Nat×Nat
noncomputable def zu9 (st:SortSt):Nat:=(sortPriv% PySem.Builtin.SortState.minGallop) st
noncomputable def A1 (a b:Array Keyed) (g:Nat) (o:Array Keyed) (i j u v:Nat):StateT SortSt Sem (ForInStep S6):=El b j>>=fun y=>El a i>>=fun z=>Lt y z>>=fun x=>match x with
 | some w=>if w=true then El b j>>=fun y=>if (j+1==b.size)=true then pure (.done (some (o.push y++a.extract i++b.extract (j+1)),o.push y,i,j+1,0,v+1)) else if v+1>=g then pure (.done (none,o.push y,i,j+1,0,v+1)) else pure (.yield (none,o.push y,i,j+1,0,v+1))
  else El a i>>=fun z=>if (i+1+1==a.size)=true then pure (.done (some (o.push z++b.extract j++a.extract (i+1)),o.push z,i+1,j,u+1,0)) else if u+1>=g then pure (.done (none,o.push z,i+1,j,u+1,0)) else pure (.yield (none,o.push z,i+1,j,u+1,0))
 | _=>pure (.done (some (o++a.extract i++b.extract j),o,i,j,u,v))
noncomputable def A2 (a b:Array Keyed) (o:Array Keyed) (i j g u v:Nat):StateT SortSt Sem (ForInStep S7):=
 if g>1 then Sg (g - 1)>>=fun _=>T2 a b o i j (g - 1) u v else Sg g>>=fun _=>T2 a b o i j g u v
noncomputable def A5 (r:S7):StateT SortSt Sem (ForInStep S5):=match r.1 with
 | some x=>pure (.done (some x,r.2.1,r.2.2.1,r.2.2.2.1,r.2.2.2.2.1))
 | none=>Sg (r.2.2.2.2.1+1)>>=fun _=>pure (.yield (none,r.2.1,r.2.2.1,r.2.2.2.1,r.2.2.2.2.1+1))
noncomputable def A4 (a b:Array Keyed) (g:Nat) (r:S6):StateT SortSt Sem (ForInStep S5):=match r.1 with
 | some x=>pure (.done (some x,r.2.1,r.2.2.1,r.2.2.2.1,g))
 | none=>(liftM (rule "list.sort.gallop"):StateT SortSt Sem Unit)>>=fun _=>forIn [0:a.size+b.size] ((none,r.2.1,r.2.2.1,r.2.2.2.1,g+1,r.2.2.2.2.1,r.2.2.2.2.2):S7) (fun _ r=>A2 a b r.2.1 r.2.2.1 r.2.2.2.1 r.2.2.2.2.1 r.2.2.2.2.2.1 r.2.2.2.2.2.2)>>=fun r=>A5 r
noncomputable def A3 (a b:Array Keyed) (o:Array Keyed) (i j g:Nat):StateT SortSt Sem (ForInStep S5):=
 forIn [0:a.size+b.size] ((none,o,i,j,0,0):S6) (fun _ r=>A1 a b g r.2.1 r.2.2.1 r.2.2.2.1 r.2.2.2.2.1 r.2.2.2.2.2)>>=fun r=>A4 a b g r
noncomputable def ML' (a b:Array Keyed):StateT SortSt Sem (Array Keyed):=(liftM (rule "list.sort.merge-lo"):StateT SortSt Sem Unit)>>=fun _=>El b 0>>=fun y=>
 if (1==b.size)=true then pure (#[y]++a.extract 0++b.extract 1) else if (0+1==a.size)=true then pure (#[y]++b.extract 1++a.extract 0)
 else get>>=fun st=>forIn [0:a.size+b.size] ((none, #[y],0,1,zu9 st):S5) (fun _ r=>A3 a b r.2.1 r.2.2.1 r.2.2.2.1 r.2.2.2.2)>>=fun r=>match r.1 with
  | some x=>pure x
  | none=>liftM (unsupported "internal:list.sort.merge-bound":Sem (Array Keyed))
theorem bnd {α β:Type} {m m':StateT SortSt Sem α} {f f':α->StateT SortSt Sem β} (h:m=m') (h2: ∀ x,f x=f' x):(m>>=f)=(m'>>=f'):=by
 rw [h,funext h2]
theorem znj {β:Type} {n:Nat} {x:β} {f f':Nat->β->StateT SortSt Sem (ForInStep β)} (h: ∀ i r,f i r=f' i r):forIn [0:n] x f=forIn [0:n] x f':=by
 rw [show f=f' from funext fun i=>funext (h i)]
theorem zuX (a b:Array Keyed):ML a b=ML' a b:=by
 refine bnd rfl fun _=>bnd rfl fun y=> ?_
 by_cases h1:(1==b.size)=true
 ·exact (qa4 h1).trans (qa4 h1).symm
 refine (qa5 h1).trans (Eq.trans ?_ (qa5 h1).symm)
 by_cases h2:(0+1==a.size)=true
 ·exact (qa4 h2).trans (qa4 h2).symm
 refine (qa5 h2).trans (Eq.trans ?_ (qa5 h2).symm)
 refine bnd rfl fun st=>bnd (znj fun _ r=> ?_) fun r=> ?_
 ·refine bnd (znj fun _ r=> ?_) fun r'=> ?_
  ·rfl
  ·obtain ⟨q,r'⟩:=r'
   cases q with
   | some x=>rfl
   | none=>
    refine bnd rfl fun _=>bnd (znj fun _ r=> ?_) fun r3=> ?_
    ·rfl
    ·obtain ⟨q,r'⟩:=r3
     cases q with
     | some x=>rfl
     | none=>rfl
 ·obtain ⟨q,r⟩:=r
  cases q with
  | some x=>rfl
  | none=>rfl
def Lo (c:Cx) (a b:Array Keyed) (N:Nat) (o:Array Keyed) (i j:Nat):Prop:=MgA c a b o i j/\i+1<a.size/\j<b.size/\N<=o.size
theorem zuY {st1:SortSt} {o:Array Keyed} {i j g u v N:Nat} {Q:ForInStep S6->SortSt->Prop} (hk:kindOf st1=c.kd) (ha:srt c a) (hb:srt c b) (oa:okA c a) (ob:okA c b)
  (hl: ∀ (o:Array Keyed) (i j:Nat),MgA c a b o i j->i+1=a.size->Fi c a b (o++b.extract j++a.extract i)) (m:Lo c a b N o i j)
  (d1: ∀ res t,Fi c a b res->Q (.done (some res,t)) st1) (d2: ∀ o i j t,Lo c a b (N+1) o i j->Q (.done (none,o,i,j,t)) st1/\Q (.yield (none,o,i,j,t)) st1):c.wp (A1 a b g o i j u v) Q st1:=by
 obtain ⟨m1,b1,b2,b3⟩:=m
 obtain ⟨y,ey,oy⟩:=zbE ob b2
 obtain ⟨z,ez,oz⟩:=zbE oa (i:=i) ⋯
 refine qa2 (zcg ey (qa2 (zcg ez (qa2 (zkO hk oy oz ?_)))))
 refine zaJ (fun eq=>qa2 (zcg ey ?_)) (fun eq=>qa2 (zcg ez ?_))
 ·have m2:=m1.pushB ha hb ez ey (Cx.le_of_lt eq)
  have d:=fun t q=>d2 _ _ _ t ⟨m2,b1,q,by rw [Array.size_push];omega⟩
  exact zbl (fun q=>qa3 (d1 _ _ (m2.done ha hb (.inr q)))) (fun q=>zaJ (fun _=>qa3 (d _ ⋯).1) (fun _=>qa3 (d _ ⋯).2))
 ·have m2:=m1.pushA ha hb ez ey (by simpa [Cx.le] using eq)
  have d:=fun t q=>d2 _ _ _ t ⟨m2,q,b2,by rw [Array.size_push];omega⟩
  exact zbl (fun q=>qa3 (d1 _ _ (hl _ _ _ m2 q))) (fun q=>zaJ (fun _=>qa3 (d _ ⋯).1) (fun _=>qa3 (d _ ⋯).2))
theorem zt5 {st st1:SortSt} {o:Array Keyed} {i j g u v N:Nat} {Q:ForInStep S7->SortSt->Prop} (s0:Sm st st1) (hk:kindOf st=c.kd) (ha:srt c a) (hb:srt c b) (oa:okA c a) (ob:okA c b)
  (hl: ∀ (o:Array Keyed) (i j:Nat),MgA c a b o i j->i+1=a.size->Fi c a b (o++b.extract j++a.extract i)) (m:Lo c a b N o i j)
  (d1: ∀ st' res t,Sm st st'->Fi c a b res->Q (.done (some res,t)) st') (d2: ∀ st' o i j t,Sm st st'->Lo c a b N o i j->Q (.done (none,o,i,j,t)) st'/\Q (.yield (none,o,i,j,t)) st'):c.wp (A2 a b o i j g u v) Q st1:=by
 have E:=fun g=>Ex.mk (c:=c) (a:=a) (b:=b) (N:=N) (st:=SortSt.mk' (kindOf st1) (arrOf st1) (pendingOf st1) g (failedOf st1)) (Q:=Q) (fun res t f=>d1 _ res t (s0.g _) f) (fun o i j t m b1 b2 b3=>d2 _ o i j t (s0.g _) ⟨m,b1,b2,b3⟩) hl ha hb oa ob ((s0.g g).k.trans hk)
 exact zaJ (fun _=>qa2 (zjJ (zrN (E _) m.1 m.2.1 m.2.2.1 m.2.2.2))) (fun _=>qa2 (zjJ (zrN (E _) m.1 m.2.1 m.2.2.1 m.2.2.2)))
theorem ztP {st:SortSt} {Q:Array Keyed->SortSt->Prop} (hk:kindOf st=c.kd) (ha:srt c a) (hb:srt c b) (oa:okA c a) (ob:okA c b) (na:0<a.size) (nb:0<b.size)
  (hfirst: ∀ x y,a[0]? = some x->b[0]? = some y->c.le y x) (hlast: ∀ x,a[a.size - 1]? = some x-> ∀ y,y∈b.toList->c.le y x)
  (h: ∀ res st',Sm st st'->Fi c a b res->Q res st'):c.wp (ML a b) Q st:=by
 rw [zuX]
 obtain ⟨y0,ey0,oy0⟩:=zbE ob nb
 obtain ⟨x0,ex0,ox0⟩:=zbE oa na
 have hl: ∀ (o:Array Keyed) (i j:Nat),MgA c a b o i j->i+1=a.size->Fi c a b (o++b.extract j++a.extract i):=by
  intro o i j hm hi
  refine hm.last ha hb hi ?_
  intro x hx
  exact hlast x (by rw [<- hi];exact hx)
 have hst:MgA c a b #[y0] 0 1:=by
  have:=(MgA.mk (c:=c) (a:=a) (b:=b) (out:= #[]) (ia:=0) (ib:=0) ⟨List.Pairwise.nil,by simp,by simp,by simp⟩ rfl (Nat.zero_le _) (Nat.zero_le _)).pushB ha hb ex0 ey0 (hfirst _ _ ex0 ey0)
  exact this
 refine qa2 (zeg (qa2 (zcg ey0 (zbl (fun h1=>qa3 (h _ _ (Sm.refl _) (hst.done ha hb (.inr h1)))) (fun h1=>zbl (fun h2=>qa3 (h _ _ (Sm.refl _) (hl _ _ _ hst h2))) (fun h2=> ?_))))))
 refine qa2 (wpS_get ?_)
 refine qa2 (wpS_mono (wpS_forRange (I:=fun x r st'=>r.1=none/\Sm st st'/\Lo c a b (x+1) r.2.1 r.2.2.1 r.2.2.2.1) (Q:=fun r st'=> ∃ res,r.1=some res/\Sm st st'/\Fi c a b res) ?_ ?_ ⟨rfl,Sm.refl _,hst,show 0+1<a.size by omega,show 1<b.size by omega,qaV _⟩) ?_)
 ·rintro xo r st1 - hx1 ⟨-, s1,m1⟩
  refine qa2 (wpS_mono (wpS_forRange (I:=fun x r st'=>r.1=none/\Sm st st'/\Lo c a b (xo+1+x) r.2.1 r.2.2.1 r.2.2.2.1)
    (Q:=fun r st'=>(∃ res,r.1=some res/\Sm st st'/\Fi c a b res)\/(r.1=none/\Sm st st'/\Lo c a b (xo+2) r.2.1 r.2.2.1 r.2.2.2.1)) ?_ ?_ ⟨rfl,s1,m1⟩) ?_)
  ·rintro x r st1 - hx2 ⟨-, s1,m1⟩
   refine zuY (s1.k.trans hk) ha hb oa ob hl m1 (fun res t f=> .inl ⟨res,rfl,s1,f⟩) fun o i j t m=>⟨.inr ⟨rfl,s1,m.1,m.2.1,m.2.2.1,?_⟩,⟨rfl,s1,m⟩⟩
   have:=m.2.2.2
   show xo+2<=o.size
   omega
  ·rintro r st1 ⟨e,s1,m1,b1,b2,b3⟩
   refine .inr ⟨e,s1,m1,b1,b2,?_⟩
   omega
  ·rintro ⟨r,t⟩ st1 (⟨res,e,s1,f1⟩ | ⟨e,s1,m1⟩)
   ·cases e
    exact qa3 ⟨res,rfl,s1,f1⟩
   cases e
   refine qa2 (zeg ?_)
   refine qa2 (wpS_mono (wpS_forRange (I:=fun x r st'=>r.1=none/\Sm st st'/\Lo c a b (xo+2) r.2.1 r.2.2.1 r.2.2.2.1)
     (Q:=fun r st'=>(∃ res,r.1=some res/\Sm st st'/\Fi c a b res)\/(r.1=none/\Sm st st'/\Lo c a b (xo+2) r.2.1 r.2.2.1 r.2.2.2.1)) ?_ ?_ ⟨rfl,s1,m1⟩) ?_)
   ·rintro x r st1 - hx2 ⟨-, s0,m1⟩
    exact zt5 s0 hk ha hb oa ob hl m1 (fun st' res t s0 f=> .inl ⟨res,rfl,s0,f⟩) (fun st' o i j t s0 m=>⟨.inr ⟨rfl,s0,m⟩,⟨rfl,s0,m⟩⟩)
   ·rintro r st1 ⟨e,s1,m1⟩
    exact .inr ⟨e,s1,m1⟩
   ·rintro ⟨r,t⟩ st1 (⟨res,e,s1,f1⟩ | ⟨e,s1,m1⟩)
    ·cases e
     exact qa3 ⟨res,rfl,s1,f1⟩
    cases e
    exact qa2 (zjJ (qa3 ⟨rfl,s1.g _,m1⟩))
 ·rintro r st1 ⟨e,s1,m1,b1,b2,b3⟩
  have z1:=m1.z
  omega
 ·rintro ⟨r,t⟩ st1 ⟨res,e,s1,f1⟩
  cases e
  exact qa3 (h _ _ s1 f1)
end
end TS
end
section
namespace TS
set_option autoImplicit false
open PyProof
section
variable {c:Cx} {a b out:Array Keyed} {na nb at':Nat}
structure MgH (c:Cx) (a b out:Array Keyed) (na nb:Nat):Prop where
 m:Mg (fun x y=>c.le y x) out.toList (a.toList.take na).reverse (b.toList.take nb).reverse (a.toList++b.toList)
 z:out.size+na+nb=a.size+b.size
 la:na<=a.size
 lb:nb<=b.size
theorem zfM {l:List Keyed} {i n:Nat} (h:i<=n):(l.take n).reverse=((l.take n).drop i).reverse++(l.take i).reverse:=by
 rw [<- List.reverse_append]
 congr 1
 have:l.take i=(l.take n).take i:=by rw [List.take_take,Nat.min_eq_left h]
 rw [this,qam]
theorem zhk {l:Array Keyed} (n:Nat) (h:srt c l):((l.toList.take n).reverse).Pairwise (fun x y=>c.le y x):=by
 rw [List.pairwise_reverse]
 exact List.Pairwise.sublist (List.take_sublist _ _) h
theorem zdj {l:List Keyed} {i n:Nat} {x:Keyed} (h:x∈((l.take n).drop i).reverse): ∃ j,i<=j/\j<n/\l[j]? = some x:=by
 rw [List.mem_reverse] at h
 obtain ⟨j,e⟩:=zf2 h
 have hj:=qac.mp e
 obtain ⟨hj,e2⟩:=hj
 rw [List.length_take] at hj
 rw [List.getElem_take] at e2
 exact ⟨i+j,⋯,⋯,by rw [qaf ⋯,e2]⟩
theorem zeC {l:List Keyed} {n:Nat} {x:Keyed} (h:x∈(l.take n).reverse): ∃ j,j<n/\l[j]? = some x:=by
 obtain ⟨j,_,h2,h3⟩:=zdj (i:=0) (by simpa using h)
 exact ⟨j,h2,h3⟩
theorem zlg {i n:Nat}:(out++(a.extract i n).reverse).toList=out.toList++((a.toList.take n).drop i).reverse:=by
 simp [List.extract,List.drop_take]
theorem MgH.appA (h:MgH c a b out na nb) (ha:srt c a) (hb:srt c b) {y:Keyed} (n0:0<nb) (hy:b[nb - 1]? = some y) (hk:at'<=na)
  (hx: ∀ i x,at'<=i->i<na->a[i]? = some x->c.le y x):MgH c a b (out++(a.extract at' na).reverse) at' nb:=by
 have hla:=h.la
 refine ⟨?_,?_,⋯,h.lb⟩
 ·have hm:=h.m
  have hp:=zhk na ha
  rw [zfM hk] at hm hp
  rw [zlg]
  refine hm.stepL hp ?_
  intro x hxm z hz
  obtain ⟨j,j1,j2,ej⟩:=zdj hxm
  obtain ⟨i,i1,ei⟩:=zeC hz
  rw [qaj] at ej ei
  exact Cx.le_trans (zev hb ⋯ ei hy) (hx j x j1 j2 ej)
 ·have:=h.z
  rw [Array.size_append,Array.size_reverse,qaz]
  omega
theorem MgH.appB (h:MgH c a b out na nb) (ha:srt c a) (hb:srt c b) {x:Keyed} (n0:0<na) (hx:a[na - 1]? = some x) (hk:at'<=nb)
  (hy: ∀ i y,at'<=i->i<nb->b[i]? = some y->c.le x y):MgH c a b (out++(b.extract at' nb).reverse) na at':=by
 have hlb:=h.lb
 refine ⟨?_,?_,h.la,⋯⟩
 ·have hm:=h.m.symm
  have hp:=zhk nb hb
  rw [zfM hk] at hm hp
  rw [zlg]
  refine (hm.stepL hp ?_).symm
  intro y hym z hz
  obtain ⟨j,j1,j2,ej⟩:=zdj hym
  obtain ⟨i,i1,ei⟩:=zeC hz
  rw [qaj] at ej ei
  exact Cx.le_trans (zev ha ⋯ ei hx) (hy j y j1 j2 ej)
 ·have:=h.z
  rw [Array.size_append,Array.size_reverse,qaz]
  omega
theorem zjv {x:Keyed} (n0:0<na) (hx:a[na - 1]? = some x):out.push x=out++(a.extract (na - 1) na).reverse:=by
 rw [zgn hx,Nat.sub_add_cancel n0]
 congr 1
 apply Array.ext'
 obtain ⟨hi,rfl⟩:=qab.mp hx
 rw [Array.toList_reverse]
 simp only [Array.toList_extract,List.extract]
 rw [show na - (na - 1)=1 by omega,qae (by simpa using hi)]
 simp
theorem MgH.pushA (h:MgH c a b out na nb) (ha:srt c a) (hb:srt c b) {x y:Keyed} (n0:0<nb) (n1:0<na) (hx:a[na - 1]? = some x) (hy:b[nb - 1]? = some y) (hxy:c.le y x):MgH c a b (out.push x) (na - 1) nb:=by
 rw [zjv n1 hx]
 refine h.appA ha hb n0 hy (Nat.sub_le _ _) ?_
 intro i z h1 h2 hz
 have:i=na - 1:=by omega
 subst this
 rw [hx] at hz
 cases hz
 exact hxy
theorem MgH.pushB (h:MgH c a b out na nb) (ha:srt c a) (hb:srt c b) {x y:Keyed} (n0:0<nb) (n1:0<na) (hx:a[na - 1]? = some x) (hy:b[nb - 1]? = some y) (hxy:c.le x y):MgH c a b (out.push y) na (nb - 1):=by
 rw [zjv n0 hy]
 refine h.appB ha hb n1 hx (Nat.sub_le _ _) ?_
 intro i z h1 h2 hz
 have:i=nb - 1:=by omega
 subst this
 rw [hy] at hz
 cases hz
 exact hxy
theorem zmd {r:List Keyed} {O L R T:List Keyed} (h:Mg (fun x y=>c.le y x) O L R T) (hs:(L++R).Pairwise (fun x y=>c.le y x)) (e:r=(O++(L++R)).reverse):r.Pairwise c.le/\r.Perm T:=by
 obtain ⟨h1,h2⟩:=h.fin hs
 subst e
 exact ⟨by rw [List.pairwise_reverse];exact h1,(List.reverse_perm _).trans h2⟩
theorem MgH.done (h:MgH c a b out na nb) (ha:srt c a) (hb:srt c b) (he:na=0\/nb=0):Fi c a b (a.extract 0 na++b.extract 0 nb++out.reverse):=by
 have hs:((b.toList.take nb).reverse++(a.toList.take na).reverse).Pairwise (fun x y=>c.le y x):=by
  rcases he with he | he
  ·subst he;simpa using zhk nb hb
  ·subst he;simpa using zhk na ha
 exact zmd h.m.symm hs (by simp [List.extract])
theorem MgH.first (h:MgH c a b out na nb) (ha:srt c a) (_hb:srt c b) (he:nb=1) (hl: ∀ y,b[0]? = some y-> ∀ x,x∈a.toList->c.le y x):Fi c a b (b.extract 0 nb++a.extract 0 na++out.reverse):=by
 subst he
 have hlb:=h.lb
 have ed:b.toList.take 1=[b[0]]:=by
  obtain ⟨l⟩:=b
  cases l with
  | nil=>simp at hlb
  | cons x l=>simp
 have hs:((a.toList.take na).reverse++(b.toList.take 1).reverse).Pairwise (fun x y=>c.le y x):=by
  rw [ed,qaq]
  refine ⟨zhk na ha,List.pairwise_singleton _ _,?_⟩
  intro x hx y hy
  rw [List.mem_singleton.mp hy]
  exact hl _ (getElem?_pos b 0 ⋯) x (List.mem_of_mem_take (List.mem_reverse.mp hx))
 exact zmd h.m hs (by simp [List.extract])
abbrev H5:=Option (Array Keyed)×Nat×Nat×Array Keyed×Nat
abbrev H6:=Option (Array Keyed)×Nat×Nat×Array Keyed×Nat×Nat
abbrev H7:=Option (Array Keyed)×Nat×Nat×Array Keyed×Nat×Nat×Nat
def Hi (c:Cx) (a b:Array Keyed) (N:Nat) (p q:Nat) (o:Array Keyed):Prop:=MgH c a b o p q/\0<p/\1<q/\N<=o.size
structure Ey (c:Cx) (a b:Array Keyed) (N:Nat) (Q:ForInStep H7->SortSt->Prop) (st:SortSt):Prop where
 d1: ∀ res t,Fi c a b res->Q (.done (some res,t)) st
 d2: ∀ p q o t,Hi c a b N p q o->Q (.done (none,p,q,o,t)) st/\Q (.yield (none,p,q,o,t)) st
 hl: ∀ (o:Array Keyed) (i j:Nat),MgH c a b o i j->j=1->Fi c a b (b.extract 0 j++a.extract 0 i++o.reverse)
 ha:srt c a
 hb:srt c b
 oa:okA c a
 ob:okA c b
 hk:kindOf st=c.kd
noncomputable def U4 (a b:Array Keyed) (p q:Nat) (o:Array Keyed) (g k l:Nat):StateT SortSt Sem (ForInStep H7):=El a (p - 1)>>=fun z=>
 if (p - 1==0)=true then pure (.done (some (a.extract 0 (p - 1)++b.extract 0 q++(o.push z).reverse),p - 1,q,o.push z,g,k,l))
 else if (decide (k<7) && decide (l<7))=true then pure (.done (none,p - 1,q,o.push z,g,k,l)) else pure (.yield (none,p - 1,q,o.push z,g,k,l))
noncomputable def U3 (a b:Array Keyed) (p q:Nat) (o:Array Keyed) (g k v:Nat):StateT SortSt Sem (ForInStep H7):=El b (q - 1)>>=fun y=>
 if (q - 1==1)=true then pure (.done (some (b.extract 0 (q - 1)++a.extract 0 p++(o.push y).reverse),p,q - 1,o.push y,g,k,v))
 else El a (p - 1)>>=fun z=>Ga true z b 0 (q - 1) (q - 1 - 1)>>=fun x=>match x with
  | some l=>if q - 1 - l>0 then
    if (l==1)=true then pure (.done (some (b.extract 0 l++a.extract 0 p++(o.push y++(b.extract l (q - 1)).reverse).reverse),p,l,o.push y++(b.extract l (q - 1)).reverse,g,k,q - 1 - l))
    else if (l==0)=true then pure (.done (some (a.extract 0 p++b.extract 0 l++(o.push y++(b.extract l (q - 1)).reverse).reverse),p,l,o.push y++(b.extract l (q - 1)).reverse,g,k,q - 1 - l))
    else U4 a b p l (o.push y++(b.extract l (q - 1)).reverse) g k (q - 1 - l)
   else U4 a b p (q - 1) (o.push y) g k (q - 1 - l)
  | _=>pure (.done (some (a.extract 0 p++b.extract 0 (q - 1)++(o.push y).reverse),p,q - 1,o.push y,g,k,v))
noncomputable def U2 (a b:Array Keyed) (p q:Nat) (o:Array Keyed) (g u v:Nat):StateT SortSt Sem (ForInStep H7):=El b (q - 1)>>=fun y=>Ga false y a 0 p (p - 1)>>=fun x=>match x with
  | some k=>if p - k>0 then
    if (k==0)=true then pure (.done (some (a.extract 0 k++b.extract 0 q++(o++(a.extract k p).reverse).reverse),k,q,o++(a.extract k p).reverse,g,p - k,v))
    else U3 a b k q (o++(a.extract k p).reverse) g (p - k) v
   else U3 a b p q o g (p - k) v
  | _=>pure (.done (some (a.extract 0 p++b.extract 0 q++o.reverse),p,q,o,g,u,v))
noncomputable def Z1 (a b:Array Keyed) (g:Nat) (p q:Nat) (o:Array Keyed) (u v:Nat):StateT SortSt Sem (ForInStep H6):=El b (q - 1)>>=fun y=>El a (p - 1)>>=fun z=>Lt y z>>=fun x=>match x with
 | some w=>if w=true then El a (p - 1)>>=fun z=>if (p - 1==0)=true then pure (.done (some (a.extract 0 (p - 1)++b.extract 0 q++(o.push z).reverse),p - 1,q,o.push z,u+1,0)) else if u+1>=g then pure (.done (none,p - 1,q,o.push z,u+1,0)) else pure (.yield (none,p - 1,q,o.push z,u+1,0))
  else El b (q - 1)>>=fun y=>if (q - 1==1)=true then pure (.done (some (b.extract 0 (q - 1)++a.extract 0 p++(o.push y).reverse),p,q - 1,o.push y,0,v+1)) else if v+1>=g then pure (.done (none,p,q - 1,o.push y,0,v+1)) else pure (.yield (none,p,q - 1,o.push y,0,v+1))
 | _=>pure (.done (some (a.extract 0 p++b.extract 0 q++o.reverse),p,q,o,u,v))
noncomputable def Z2 (a b:Array Keyed) (p q:Nat) (o:Array Keyed) (g u v:Nat):StateT SortSt Sem (ForInStep H7):=
 if g>1 then Sg (g - 1)>>=fun _=>U2 a b p q o (g - 1) u v else Sg g>>=fun _=>U2 a b p q o g u v
noncomputable def Z5 (r:H7):StateT SortSt Sem (ForInStep H5):=match r.1 with
 | some x=>pure (.done (some x,r.2.1,r.2.2.1,r.2.2.2.1,r.2.2.2.2.1))
 | none=>Sg (r.2.2.2.2.1+1)>>=fun _=>pure (.yield (none,r.2.1,r.2.2.1,r.2.2.2.1,r.2.2.2.2.1+1))
noncomputable def Z4 (a b:Array Keyed) (g:Nat) (r:H6):StateT SortSt Sem (ForInStep H5):=match r.1 with
 | some x=>pure (.done (some x,r.2.1,r.2.2.1,r.2.2.2.1,g))
 | none=>(liftM (rule "list.sort.gallop"):StateT SortSt Sem Unit)>>=fun _=>forIn [0:a.size+b.size] ((none,r.2.1,r.2.2.1,r.2.2.2.1,g+1,r.2.2.2.2.1,r.2.2.2.2.2):H7) (fun _ r=>Z2 a b r.2.1 r.2.2.1 r.2.2.2.1 r.2.2.2.2.1 r.2.2.2.2.2.1 r.2.2.2.2.2.2)>>=fun r=>Z5 r
noncomputable def Z3 (a b:Array Keyed) (p q:Nat) (o:Array Keyed) (g:Nat):StateT SortSt Sem (ForInStep H5):=
 forIn [0:a.size+b.size] ((none,p,q,o,0,0):H6) (fun _ r=>Z1 a b g r.2.1 r.2.2.1 r.2.2.2.1 r.2.2.2.2.1 r.2.2.2.2.2)>>=fun r=>Z4 a b g r
noncomputable def MH' (a b:Array Keyed):StateT SortSt Sem (Array Keyed):=(liftM (rule "list.sort.merge-hi"):StateT SortSt Sem Unit)>>=fun _=>El a (a.size - 1)>>=fun z=>
 if (a.size - 1==0)=true then pure (a.extract 0 (a.size - 1)++b.extract 0 b.size++(#[z]:Array Keyed).reverse) else if (b.size==1)=true then pure (b.extract 0 b.size++a.extract 0 (a.size - 1)++(#[z]:Array Keyed).reverse)
 else get>>=fun st=>forIn [0:a.size+b.size] ((none,a.size - 1,b.size, #[z],zu9 st):H5) (fun _ r=>Z3 a b r.2.1 r.2.2.1 r.2.2.2.1 r.2.2.2.2)>>=fun r=>match r.1 with
  | some x=>pure x
  | none=>liftM (unsupported "internal:list.sort.merge-bound":Sem (Array Keyed))
theorem zt2 (a b:Array Keyed):MH a b=MH' a b:=by
 refine bnd rfl fun _=>bnd rfl fun y=> ?_
 by_cases h1:(a.size - 1==0)=true
 ·exact (qa4 h1).trans (qa4 h1).symm
 refine (qa5 h1).trans (Eq.trans ?_ (qa5 h1).symm)
 by_cases h2:(b.size==1)=true
 ·exact (qa4 h2).trans (qa4 h2).symm
 refine (qa5 h2).trans (Eq.trans ?_ (qa5 h2).symm)
 refine bnd rfl fun st=>bnd (znj fun _ r=> ?_) fun r=> ?_
 ·refine bnd (znj fun _ r=> ?_) fun r'=> ?_
  ·rfl
  ·obtain ⟨q,r'⟩:=r'
   cases q with
   | some x=>rfl
   | none=>
    refine bnd rfl fun _=>bnd (znj fun _ r=> ?_) fun r3=> ?_
    ·rfl
    ·obtain ⟨q,r'⟩:=r3
     cases q with
     | some x=>rfl
     | none=>rfl
 ·obtain ⟨q,r⟩:=r
  cases q with
  | some x=>rfl
  | none=>rfl
section
variable {N:Nat} {Q:ForInStep H7->SortSt->Prop} {st:SortSt} {o:Array Keyed} {p q g k l u v:Nat}
theorem zst (x:Ey c a b N Q st) (m:Hi c a b N p q o) {z w:Keyed} (ew:b[q - 1]? = some w) (ez:a[p - 1]? = some z) (lwz:c.le w z):c.wp (U4 a b p q o g k l) Q st:=by
 obtain ⟨m,b1,b2,b3⟩:=m
 refine qa2 (zcg ez ?_)
 have m2:=m.pushA x.ha x.hb ⋯ b1 ez ew lwz
 have d:=fun b1=>x.d2 _ _ _ (g,k,l) ⟨m2,b1,b2,by rw [Array.size_push];omega⟩
 exact zbl (fun p3=>qa3 (x.d1 _ _ (m2.done x.ha x.hb (.inl p3)))) (fun p3=>zaJ (fun _=>qa3 (d ⋯).1) (fun _=>qa3 (d ⋯).2))
theorem zso (x:Ey c a b N Q st) (m:Hi c a b N p q o) {y z:Keyed} (ey:b[q - 1]? = some y) (ez:a[p - 1]? = some z) (oz:c.ok z.1) (lzy:c.le z y):c.wp (U3 a b p q o g k v) Q st:=by
 obtain ⟨m,b1,b2,b3⟩:=m
 have lb:=m.lb
 refine qa2 (zcg ey ?_)
 have m2:=m.pushB x.ha x.hb ⋯ b1 ez ey lzy
 have b4:N<=(o.push y).size:=by rw [Array.size_push];omega
 refine zbl (fun t=>qa3 (x.d1 _ _ (x.hl _ _ _ m2 t))) (fun t=> ?_)
 refine qa2 (zcg ez (qa2 (zjl x.hk x.hb x.ob oz ⋯ ⋯ ?_)))
 intro l hl1 hl2 hl3
 simp only [Nat.zero_add] at hl2 hl3
 have m3:=m2.appB x.ha x.hb b1 ez hl1 (fun i y h1 h2 hy=>hl3 i y h1 h2 hy)
 refine zaJ (fun l0=>zbl (fun t2=>qa3 (x.d1 _ _ (x.hl _ _ _ m3 t2))) (fun t2=>zbl (fun t3=>qa3 (x.d1 _ _ (m3.done x.ha x.hb (.inr t3)))) (fun t3=> ?_))) (fun l0=> ?_)
 ·obtain ⟨f,ef,of⟩:=zbE x.ob (i:=l - 1) ⋯
  exact zst x ⟨m3,b1,⋯,by rw [Array.size_append];omega⟩ ef ez (Cx.le_of_lt (hl2 (l - 1) f ⋯ ef))
 ·have el:l=q - 1:=by omega
  subst el
  obtain ⟨f,ef,of⟩:=zbE x.ob (i:=q - 1 - 1) ⋯
  exact zst x ⟨m2,b1,⋯,b4⟩ ef ez (Cx.le_of_lt (hl2 _ f ⋯ ef))
theorem ztp (x:Ey c a b N Q st) (m:Hi c a b N p q o):c.wp (U2 a b p q o g u v) Q st:=by
 obtain ⟨m,b1,b2,b3⟩:=m
 have la:=m.la
 have lb:=m.lb
 obtain ⟨y,ey,oy⟩:=zbE x.ob (i:=q - 1) ⋯
 refine qa2 (zcg ey (qa2 (zqa x.hk oy ⋯ (fun i j x' z hij _ hx hz=>zev x.ha ⋯ hx hz) (fun i hi=>zbE x.oa ⋯) ?_)))
 intro k hk1 hk2 hk3
 simp only [Nat.zero_add] at hk2 hk3
 have m2:=m.appA x.ha x.hb ⋯ ey hk1 (fun i x h1 h2 hx=>Cx.le_of_lt (hk3 i x h1 h2 hx))
 refine zaJ (fun k0=>zbl (fun w=>qa3 (x.d1 _ _ (m2.done x.ha x.hb (.inl w)))) (fun w=> ?_)) (fun k0=> ?_)
 ·obtain ⟨z,ez,oz⟩:=zbE x.oa (i:=k - 1) ⋯
  exact zso x ⟨m2,⋯,b2,by rw [Array.size_append];omega⟩ ey ez oz (hk2 (k - 1) z ⋯ ez)
 ·have ek:k=p:=by omega
  subst ek
  obtain ⟨z,ez,oz⟩:=zbE x.oa (i:=k - 1) ⋯
  exact zso x ⟨m,b1,b2,b3⟩ ey ez oz (hk2 (k - 1) z ⋯ ez)
end
theorem zul {st1:SortSt} {o:Array Keyed} {p q g u v N:Nat} {Q:ForInStep H6->SortSt->Prop} (hk:kindOf st1=c.kd) (ha:srt c a) (hb:srt c b) (oa:okA c a) (ob:okA c b)
  (hl: ∀ (o:Array Keyed) (i j:Nat),MgH c a b o i j->j=1->Fi c a b (b.extract 0 j++a.extract 0 i++o.reverse)) (m:Hi c a b N p q o)
  (d1: ∀ res t,Fi c a b res->Q (.done (some res,t)) st1) (d2: ∀ p q o t,Hi c a b (N+1) p q o->Q (.done (none,p,q,o,t)) st1/\Q (.yield (none,p,q,o,t)) st1):c.wp (Z1 a b g p q o u v) Q st1:=by
 obtain ⟨m1,b1,b2,b3⟩:=m
 have la:=m1.la
 have lb:=m1.lb
 obtain ⟨y,ey,oy⟩:=zbE ob (i:=q - 1) ⋯
 obtain ⟨z,ez,oz⟩:=zbE oa (i:=p - 1) ⋯
 refine qa2 (zcg ey (qa2 (zcg ez (qa2 (zkO hk oy oz ?_)))))
 refine zaJ (fun eq=>qa2 (zcg ez ?_)) (fun eq=>qa2 (zcg ey ?_))
 ·have m2:=m1.pushA ha hb ⋯ b1 ez ey (Cx.le_of_lt eq)
  have d:=fun t w=>d2 _ _ _ t ⟨m2,w,b2,by rw [Array.size_push];omega⟩
  exact zbl (fun w=>qa3 (d1 _ _ (m2.done ha hb (.inl w)))) (fun w=>zaJ (fun _=>qa3 (d _ ⋯).1) (fun _=>qa3 (d _ ⋯).2))
 ·have m2:=m1.pushB ha hb ⋯ b1 ez ey (by simpa [Cx.le] using eq)
  have d:=fun t w=>d2 _ _ _ t ⟨m2,b1,w,by rw [Array.size_push];omega⟩
  exact zbl (fun w=>qa3 (d1 _ _ (hl _ _ _ m2 w))) (fun w=>zaJ (fun _=>qa3 (d _ ⋯).1) (fun _=>qa3 (d _ ⋯).2))
theorem zuk {st st1:SortSt} {o:Array Keyed} {p q g u v N:Nat} {Q:ForInStep H7->SortSt->Prop} (s0:Sm st st1) (hk:kindOf st=c.kd) (ha:srt c a) (hb:srt c b) (oa:okA c a) (ob:okA c b)
  (hl: ∀ (o:Array Keyed) (i j:Nat),MgH c a b o i j->j=1->Fi c a b (b.extract 0 j++a.extract 0 i++o.reverse)) (m:Hi c a b N p q o)
  (d1: ∀ st' res t,Sm st st'->Fi c a b res->Q (.done (some res,t)) st') (d2: ∀ st' p q o t,Sm st st'->Hi c a b N p q o->Q (.done (none,p,q,o,t)) st'/\Q (.yield (none,p,q,o,t)) st'):c.wp (Z2 a b p q o g u v) Q st1:=by
 have E:=fun g=>Ey.mk (c:=c) (a:=a) (b:=b) (N:=N) (st:=SortSt.mk' (kindOf st1) (arrOf st1) (pendingOf st1) g (failedOf st1)) (Q:=Q) (fun res t f=>d1 _ res t (s0.g _) f) (fun p q o t m=>d2 _ p q o t (s0.g _) m) hl ha hb oa ob ((s0.g g).k.trans hk)
 exact zaJ (fun _=>qa2 (zjJ (ztp (E _) m))) (fun _=>qa2 (zjJ (ztp (E _) m)))
theorem zuQ {st:SortSt} {Q:Array Keyed->SortSt->Prop} (hk:kindOf st=c.kd) (ha:srt c a) (hb:srt c b) (oa:okA c a) (ob:okA c b) (na:0<a.size) (nb:0<b.size)
  (hfirst: ∀ y,b[0]? = some y-> ∀ x,x∈a.toList->c.le y x) (hlast: ∀ x y,a[a.size - 1]? = some x->b[b.size - 1]? = some y->c.le y x)
  (h: ∀ res st',Sm st st'->Fi c a b res->Q res st'):c.wp (MH a b) Q st:=by
 rw [zt2]
 obtain ⟨y0,ey0,oy0⟩:=zbE ob (i:=b.size - 1) ⋯
 obtain ⟨x0,ex0,ox0⟩:=zbE oa (i:=a.size - 1) ⋯
 have hl: ∀ (o:Array Keyed) (i j:Nat),MgH c a b o i j->j=1->Fi c a b (b.extract 0 j++a.extract 0 i++o.reverse):=fun o i j hm hi=>hm.first ha hb hi hfirst
 have hst:MgH c a b #[x0] (a.size - 1) b.size:=by
  have:=(MgH.mk (c:=c) (a:=a) (b:=b) (out:= #[]) (na:=a.size) (nb:=b.size) ⟨List.Pairwise.nil,by simp,by simp,by
    simp only [List.nil_append]
    rw [<- qas, <-qas,List.take_length,List.take_length]
    exact (List.reverse_perm _).append (List.reverse_perm _)⟩ (by simp) (qaV _) (qaV _)).pushA ha hb nb na ex0 ey0 (hlast _ _ ex0 ey0)
  exact this
 refine qa2 (zeg (qa2 (zcg ex0 (zbl (fun h1=>qa3 (h _ _ (Sm.refl _) (hst.done ha hb (.inl h1)))) (fun h1=>zbl (fun h2=>qa3 (h _ _ (Sm.refl _) (hl _ _ _ hst h2))) (fun h2=> ?_))))))
 refine qa2 (wpS_get ?_)
 refine qa2 (wpS_mono (wpS_forRange (I:=fun x r st'=>r.1=none/\Sm st st'/\Hi c a b (x+1) r.2.1 r.2.2.1 r.2.2.2.1) (Q:=fun r st'=> ∃ res,r.1=some res/\Sm st st'/\Fi c a b res) ?_ ?_ ⟨rfl,Sm.refl _,hst,show 0<a.size - 1 by omega,show 1<b.size by omega,qaV _⟩) ?_)
 ·rintro xo r st1 - hx1 ⟨-, s1,m1⟩
  refine qa2 (wpS_mono (wpS_forRange (I:=fun x r st'=>r.1=none/\Sm st st'/\Hi c a b (xo+1+x) r.2.1 r.2.2.1 r.2.2.2.1)
    (Q:=fun r st'=>(∃ res,r.1=some res/\Sm st st'/\Fi c a b res)\/(r.1=none/\Sm st st'/\Hi c a b (xo+2) r.2.1 r.2.2.1 r.2.2.2.1)) ?_ ?_ ⟨rfl,s1,m1⟩) ?_)
  ·rintro x r st1 - hx2 ⟨-, s1,m1⟩
   refine zul (s1.k.trans hk) ha hb oa ob hl m1 (fun res t f=> .inl ⟨res,rfl,s1,f⟩) fun p q o t m=>⟨.inr ⟨rfl,s1,m.1,m.2.1,m.2.2.1,?_⟩,⟨rfl,s1,m⟩⟩
   have:=m.2.2.2
   show xo+2<=o.size
   omega
  ·rintro r st1 ⟨e,s1,m1,b1,b2,b3⟩
   refine .inr ⟨e,s1,m1,b1,b2,?_⟩
   omega
  ·rintro ⟨r,t⟩ st1 (⟨res,e,s1,f1⟩ | ⟨e,s1,m1⟩)
   ·cases e
    exact qa3 ⟨res,rfl,s1,f1⟩
   cases e
   refine qa2 (zeg ?_)
   refine qa2 (wpS_mono (wpS_forRange (I:=fun x r st'=>r.1=none/\Sm st st'/\Hi c a b (xo+2) r.2.1 r.2.2.1 r.2.2.2.1)
     (Q:=fun r st'=>(∃ res,r.1=some res/\Sm st st'/\Fi c a b res)\/(r.1=none/\Sm st st'/\Hi c a b (xo+2) r.2.1 r.2.2.1 r.2.2.2.1)) ?_ ?_ ⟨rfl,s1,m1⟩) ?_)
   ·rintro x r st1 - hx2 ⟨-, s0,m1⟩
    exact zuk s0 hk ha hb oa ob hl m1 (fun st' res t s0 f=> .inl ⟨res,rfl,s0,f⟩) (fun st' p q o t s0 m=>⟨.inr ⟨rfl,s0,m⟩,⟨rfl,s0,m⟩⟩)
   ·rintro r st1 ⟨e,s1,m1⟩
    exact .inr ⟨e,s1,m1⟩
   ·rintro ⟨r,t⟩ st1 (⟨res,e,s1,f1⟩ | ⟨e,s1,m1⟩)
    ·cases e
     exact qa3 ⟨res,rfl,s1,f1⟩
    cases e
    exact qa2 (zjJ (qa3 ⟨rfl,s1.g _,m1⟩))
 ·rintro r st1 ⟨e,s1,m1,b1,b2,b3⟩
  have z1:=m1.z
  omega
 ·rintro ⟨r,t⟩ st1 ⟨res,e,s1,f1⟩
  cases e
  exact qa3 (h _ _ s1 f1)
end
end TS
end
section
namespace TS
set_option autoImplicit false
open PyProof
abbrev MAt:Nat->StateT SortSt Sem Bool:=sortPriv% PySem.Builtin.mergeAt
theorem zoM {s:Nat}: ∀ (l:List Keyed) (n:Nat) (xs:Array Keyed),s+n+l.length<=xs.size-> ∀ k:Nat,
  ((l.zipIdx n).foldl (fun a x=>a.setIfInBounds (s+x.2) x.1) xs)[k]? = if s+n<=k/\k<s+n+l.length then l[k - (s+n)]? else xs[k]?
 | [],n,xs,_,k=>by rw [qa5 (by simp)];rfl
 | x::l,n,xs,h,k=>by
  rw [qaE] at h
  rw [List.zipIdx_cons,List.foldl_cons,zoM l (n+1) _ (by rw [Array.size_setIfInBounds];omega)]
  dsimp only
  rw [qaE,Array.getElem?_setIfInBounds]
  by_cases h1:k=s+n
  ·subst h1
   rw [qa5 ⋯,qa4 rfl,qa4 ⋯,qa4 ⋯,Nat.sub_self]
   rfl
  ·by_cases h2:s+n<=k/\k<s+n+(l.length+1)
   ·rw [qa4 h2,qa4 ⋯]
    obtain ⟨d,hd⟩: ∃ d,k - (s+n)=d+1:=⟨k - (s+n) - 1,⋯⟩
    rw [hd,List.getElem?_cons_succ]
    congr 1
    omega
   ·rw [qa5 h2,qa5 ⋯,qa5 ⋯]
structure Loc (xs ys:Array Keyed) (lo hi:Nat):Prop where
 p:ys.toList.Perm xs.toList
 o: ∀ i,i<lo\/hi<=i->ys[i]? = xs[i]?
theorem Loc.refl (xs:Array Keyed) (lo hi:Nat):Loc xs xs lo hi:=⟨List.Perm.refl _,fun _ _=>rfl⟩
theorem Loc.trans {xs ys zs:Array Keyed} {lo hi:Nat} (h:Loc xs ys lo hi) (h2:Loc ys zs lo hi):Loc xs zs lo hi:=⟨h2.p.trans h.p,fun i hi=>(h2.o i hi).trans (h.o i hi)⟩
theorem Loc.size {xs ys:Array Keyed} {lo hi:Nat} (h:Loc xs ys lo hi):ys.size=xs.size:=by simpa using h.p.length_eq
theorem Loc.wide {xs ys:Array Keyed} {lo hi lo' hi':Nat} (h:Loc xs ys lo hi) (h1:lo'<=lo) (h2:hi<=hi'):Loc xs ys lo' hi':=⟨h.p,fun i hi=>h.o i ⋯⟩
section
variable {c:Cx}
def sg (c:Cx) (xs:Array Keyed) (lo hi:Nat):Prop:= ∀ i j x y,lo<=i->i<=j->j<hi->xs[i]? = some x->xs[j]? = some y->c.le x y
theorem zlo {xs:Array Keyed} {lo hi:Nat} (h:sg c xs lo hi) (hi2:hi<=xs.size):srt c (xs.extract lo hi):=by
 unfold srt
 rw [List.pairwise_iff_getElem]
 intro i j hi1 hj1 hij
 simp only [qas,qaz] at hi1 hj1
 have e: ∀ m (hm:m<(xs.extract lo hi).toList.length),xs[lo+m]? = some (xs.extract lo hi).toList[m]:=by
  intro m hm
  simp only [qas,qaz] at hm
  rw [Array.getElem_toList,Array.getElem_extract]
  exact getElem?_pos _ _ _
 exact h (lo+i) (lo+j) _ _ ⋯ ⋯ ⋯ (e i _) (e j _)
theorem ze1 {xs:Array Keyed} {lo hi:Nat} {x:Keyed} (h:x∈(xs.extract lo hi).toList): ∃ p,lo<=p/\p<hi/\xs[p]? = some x:=by
 obtain ⟨m,hm,e⟩:=List.getElem_of_mem h
 simp only [qas,qaz] at hm
 rw [Array.getElem_toList,Array.getElem_extract] at e
 exact ⟨lo+m,⋯,⋯,by rw [<- e];exact getElem?_pos _ _ _⟩
theorem zea {xs:Array Keyed} {lo hi i:Nat} {x:Keyed} (h:(xs.extract lo hi)[i]? = some x):lo+i<hi/\xs[lo+i]? = some x:=by
 obtain ⟨hm,e⟩:=qab.mp h
 simp only [qaz] at hm
 rw [Array.getElem_extract] at e
 exact ⟨⋯,by rw [<- e];exact getElem?_pos _ _ _⟩
theorem zjm {xs:Array Keyed} {lo hi:Nat} (h:okA c xs):okA c (xs.extract lo hi):=by
 intro x hx
 obtain ⟨p,_,_,e⟩:=ze1 hx
 obtain ⟨hp,rfl⟩:=qab.mp e
 exact h _ (by simp)
noncomputable def znI (xs m:Array Keyed) (s:Nat):Array Keyed:=m.toList.zipIdx.foldl (fun a x=>a.setIfInBounds (s+x.2) x.1) xs
theorem zgG {xs m:Array Keyed} {s:Nat} (h:s+m.size<=xs.size) (k:Nat):(znI xs m s)[k]? = if s<=k/\k<s+m.size then m[k - s]? else xs[k]? := by
 have:=zoM (s:=s) m.toList 0 xs (by simpa using h) k
 simpa [znI] using this
theorem zjA {xs m:Array Keyed} {s mid e:Nat} (h1:s<=mid) (h2:mid<=e) (he:e<=xs.size) (hm:m.toList.Perm ((xs.extract s mid).toList++(xs.extract mid e).toList)):Loc xs (znI xs m s) s e/\m.size=e - s:=by
 have hs:m.size=e - s:=by
  have:=hm.length_eq
  simp only [qav,qas,qaz] at this
  omega
 refine ⟨⟨?_,?_⟩,hs⟩
 ·have e1:(znI xs m s).toList=xs.toList.take s++(m.toList++xs.toList.drop e):=by
   apply List.ext_getElem?
   intro k
   rw [qaj,zgG ⋯]
   by_cases a1:k<s
   ·rw [qa5 ⋯,qad (by simp;omega),List.getElem?_take,qa4 a1,qaj]
   ·rw [qaa (by simp;omega)]
    have e3:(xs.toList.take s).length=s:=by simp;omega
    rw [e3]
    by_cases a2:k<e
    ·rw [qa4 ⋯,qad (by simp;omega),qaj]
    ·rw [qa5 ⋯,qaa (by simp;omega),List.getElem?_drop,qaj]
     congr 1
     simp only [qas]
     omega
  have e2:xs.toList=xs.toList.take s++(((xs.extract s mid).toList++(xs.extract mid e).toList)++xs.toList.drop e):=by
   apply List.ext_getElem?
   intro k
   by_cases a1:k<s
   ·rw [qad (by simp;omega),List.getElem?_take,qa4 a1]
   ·rw [qaa (by simp;omega)]
    have e3:(xs.toList.take s).length=s:=by simp;omega
    rw [e3]
    by_cases a2:k<e
    ·rw [qad (by simp;omega)]
     by_cases a3:k<mid
     ·rw [qad (by simp;omega),qaj,qaj,Array.getElem?_extract,qa4 ⋯]
      congr 1;omega
     ·rw [qaa (by simp;omega),qaj,qaj,Array.getElem?_extract,qa4 (by simp;omega)]
      congr 1;simp;omega
    ·rw [qaa (by simp;omega),List.getElem?_drop]
     congr 1
     simp
     omega
  rw [e1]
  conv=>rhs;rw [e2]
  exact List.Perm.append_left _ (List.Perm.append_right _ hm)
 ·intro i hi
  rw [zgG ⋯,qa5 ⋯]
theorem zpt {xs m:Array Keyed} {sa s mid e hi:Nat} (h0:sa<=s) (h1:s<=mid) (h2:mid<=e) (h3:e<=hi) (he:hi<=xs.size) (hm:m.toList.Perm ((xs.extract s mid).toList++(xs.extract mid e).toList)) (hsr:srt c m)
  (ha:sg c xs sa mid) (hb:sg c xs mid hi)
  (g1: ∀ i j x y,sa<=i->i<s->mid<=j->j<hi->xs[i]? = some x->xs[j]? = some y->c.le x y)
  (g2: ∀ i j x y,sa<=i->i<mid->e<=j->j<hi->xs[i]? = some x->xs[j]? = some y->c.le x y):sg c (znI xs m s) sa hi:=by
 obtain ⟨hl,hs⟩:=zjA h1 h2 ⋯ hm
 have mem: ∀ i x,s<=i->i<e->(znI xs m s)[i]? = some x-> ∃ p,s<=p/\p<e/\xs[p]? = some x:=by
  intro i x i1 i2 ex
  rw [zgG ⋯,qa4 ⋯] at ex
  obtain ⟨hx,rfl⟩:=qab.mp ex
  have:=hm.mem_iff.mp (show m[i - s]∈m.toList by simp)
  rcases qaK.mp this with h | h
  ·obtain ⟨p,p1,p2,p3⟩:=ze1 h
   exact ⟨p,p1,⋯,p3⟩
  ·obtain ⟨p,p1,p2,p3⟩:=ze1 h
   exact ⟨p,⋯,p2,p3⟩
 have fir: ∀ i p x y,sa<=i->i<s->s<=p->p<hi->xs[i]? = some x->xs[p]? = some y->c.le x y:=by
  intro i p x y i1 i2 p1 p2 ex ey
  by_cases hp:p<mid
  ·exact ha i p x y i1 ⋯ hp ex ey
  ·exact g1 i p x y i1 i2 ⋯ p2 ex ey
 have las: ∀ p j x y,sa<=p->p<e->e<=j->j<hi->xs[p]? = some x->xs[j]? = some y->c.le x y:=by
  intro p j x y p1 p2 j1 j2 ex ey
  by_cases hp:p<mid
  ·exact g2 p j x y p1 hp j1 j2 ex ey
  ·exact hb p j x y ⋯ ⋯ j2 ex ey
 intro i j x y i1 i2 i3 ex ey
 by_cases a1:i<s
 ·rw [hl.o i (.inl a1)] at ex
  by_cases b1:j<s
  ·rw [hl.o j (.inl b1)] at ey
   exact ha i j x y i1 i2 ⋯ ex ey
  ·by_cases b2:j<e
   ·obtain ⟨p,p1,p2,p3⟩:=mem j y ⋯ b2 ey
    exact fir i p x y i1 a1 p1 ⋯ ex p3
   ·rw [hl.o j (.inr ⋯)] at ey
    exact fir i j x y i1 a1 ⋯ i3 ex ey
 ·by_cases a2:i<e
  ·by_cases b2:j<e
   ·rw [zgG ⋯,qa4 ⋯] at ex ey
    exact zev hsr ⋯ ex ey
   ·obtain ⟨p,p1,p2,p3⟩:=mem i x ⋯ a2 ex
    rw [hl.o j (.inr ⋯)] at ey
    exact las p j x y ⋯ p2 ⋯ i3 p3 ey
  ·rw [hl.o i (.inr ⋯)] at ex
   rw [hl.o j (.inr ⋯)] at ey
   exact hb i j x y ⋯ i2 i3 ex ey
theorem zpP {Q:PUnit->SortSt->Prop} {st st1:SortSt} (h:Q ⟨⟩ st1):c.wp (set st1:StateT SortSt Sem PUnit) Q st:=by
 show wpS _ _ _ _ _ _ _
 unfold wpS;rw [StateT.run_set];exact qaX ⟨rfl,h⟩
theorem zuz {st:SortSt} {i sa na nb pa pb:Nat} {Q:Bool->SortSt->Prop} (hk:kindOf st=c.kd) (hfl:failedOf st=none) (hok:okA c (arrOf st))
  (hi:(pendingOf st)[i]? = some (sa,na,pa)) (hj:(pendingOf st)[i+1]? = some (sa+na,nb,pb)) (n1:0<na) (n2:0<nb) (hsz:sa+na+nb<=(arrOf st).size)
  (ha:sg c (arrOf st) sa (sa+na)) (hb:sg c (arrOf st) (sa+na) (sa+na+nb))
  (h: ∀ st',kindOf st'=c.kd->failedOf st'=none->pendingOf st'=((pendingOf st).setIfInBounds i (sa,na+nb,pa)).eraseIdxIfInBounds (i+1)->Loc (arrOf st) (arrOf st') sa (sa+na+nb)->sg c (arrOf st') sa (sa+na+nb)->Q true st'):
  c.wp (MAt i) Q st:=by
 refine qa2 (wpS_get ?_)
 dsimp only
 rw [hi,hj]
 dsimp only
 refine qa2 (zpP ?_)
 refine (fun H: ∀ st1,kindOf st1=c.kd->failedOf st1=none->arrOf st1=arrOf st->pendingOf st1=((pendingOf st).setIfInBounds i (sa,na+nb,pa)).eraseIdxIfInBounds (i+1)->c.wp _ Q st1=>H (SortSt.mk' (kindOf st) (arrOf st) (((pendingOf st).setIfInBounds i (sa,na+nb,pa)).eraseIdxIfInBounds (i+1)) (gallopOf st) (failedOf st)) hk hfl rfl rfl) ?_
 intro st1 k1 f1 a1 p1
 clear hi hj
 obtain ⟨y,ey,oy⟩:=zbE hok (i:=sa+na) ⋯
 refine qa2 (zcg ey (qa2 (zqa k1 oy n1 (fun i j x z hij hj hx hz=>ha _ _ x z ⋯ ⋯ ⋯ hx hz) (fun i hi=>zbE hok ⋯) ?_)))
 intro k hk1 hk2 hk3
 have g1: ∀ p q x z,sa<=p->p<sa+k->sa+na<=q->q<sa+na+nb->(arrOf st)[p]? = some x->(arrOf st)[q]? = some z->c.le x z:=by
  intro p q x z h1 h2 h3 h4 ex ez
  exact Cx.le_trans (hk2 (p - sa) x ⋯ (by rw [show sa+(p - sa)=p by omega];exact ex)) (hb (sa+na) q y z ⋯ h3 h4 ey ez)
 refine zbl (fun q=> ?_) (fun q=> ?_)
 ·refine qa3 (h st1 k1 f1 p1 (by rw [a1];exact Loc.refl _ _ _) ?_)
  rw [a1]
  intro p r x z h1 h2 h3 ex ez
  by_cases hr:r<sa+na
  ·exact ha p r x z h1 h2 hr ex ez
  ·by_cases hp:p<sa+na
   ·exact g1 p r x z h1 ⋯ ⋯ h3 ex ez
   ·exact hb p r x z ⋯ h2 h3 ex ez
 obtain ⟨z,ez,oz⟩:=zbE hok (i:=sa+na - 1) ⋯
 have ez':(arrOf st)[sa+k+(na - k) - 1]? = some z:=by rw [<- ez];congr 1;omega
 refine qa2 (zcg ez' (qa2 (zs1 k1 oz ⋯ (fun i j x z hij hj hx hz=>hb _ _ x z ⋯ ⋯ ⋯ hx hz) (fun i hi=>zbE hok ⋯) ?_)))
 intro l hl1 hl2 hl3
 have g2: ∀ p q x w,sa<=p->p<sa+na->sa+na+l<=q->q<sa+na+nb->(arrOf st)[p]? = some x->(arrOf st)[q]? = some w->c.le x w:=by
  intro p q x w h1 h2 h3 h4 ex ew
  exact Cx.le_trans (ha p (sa+na - 1) x z h1 ⋯ ⋯ ex ez) (hl3 (q - (sa+na)) w ⋯ ⋯ (by rw [show sa+na+(q - (sa+na))=q by omega];exact ew))
 refine zbl (fun q2=> ?_) (fun q2=> ?_)
 ·refine qa3 (h st1 k1 f1 p1 (by rw [a1];exact Loc.refl _ _ _) ?_)
  rw [a1]
  intro p r x w h1 h2 h3 ex ew
  by_cases hr:r<sa+na
  ·exact ha p r x w h1 h2 hr ex ew
  ·by_cases hp:p<sa+na
   ·exact g2 p r x w h1 hp ⋯ h3 ex ew
   ·exact hb p r x w ⋯ h2 h3 ex ew
 have sA:srt c ((arrOf st).extract (sa+k) (sa+na)):=zlo (fun i j x y h1 h2 h3=>ha i j x y ⋯ h2 h3) ⋯
 have sB:srt c ((arrOf st).extract (sa+na) (sa+na+l)):=zlo (fun i j x y h1 h2 h3=>hb i j x y h1 h2 ⋯) ⋯
 have zA:((arrOf st).extract (sa+k) (sa+na)).size=na - k:=by rw [qaz];omega
 have zB:((arrOf st).extract (sa+na) (sa+na+l)).size=l:=by rw [qaz];omega
 have pA:0<((arrOf st).extract (sa+k) (sa+na)).size:=by omega
 have pB:0<((arrOf st).extract (sa+na) (sa+na+l)).size:=by omega
 have fstB: ∀ p x,sa+k<=p->p<sa+na->(arrOf st)[p]? = some x->c.le y x:=by
  intro p x h1 h2 ex
  exact Cx.le_of_lt (hk3 (p - sa) x ⋯ ⋯ (by rw [show sa+(p - sa)=p by omega];exact ex))
 have lstA: ∀ p x,sa+na<=p->p<sa+na+l->(arrOf st)[p]? = some x->c.le x z:=by
  intro p x h1 h2 ex
  exact Cx.le_of_lt (hl2 (p - (sa+na)) x ⋯ (by rw [show sa+na+(p - (sa+na))=p by omega];exact ex))
 have fin: ∀ (res:Array Keyed) (st':SortSt),Sm st1 st'->Fi c ((arrOf st).extract (sa+k) (sa+na)) ((arrOf st).extract (sa+na) (sa+na+l)) res->
   c.wp (modify (fun s=>SortSt.mk' (kindOf s) (znI (arrOf s) res (sa+k)) (pendingOf s) (gallopOf s) (failedOf s))>>=fun _=>get>>=fun s=>pure (failedOf s).isNone) Q st':=by
  intro res st' hs hf
  refine qa2 (wpS_modify (qa2 (wpS_get (qa3 ?_))))
  have e:(failedOf st').isNone=true:=by rw [hs.f,f1];rfl
  show Q (failedOf st').isNone _
  rw [e]
  refine h _ (hs.k.trans k1) (hs.f.trans f1) (hs.p.trans p1) ?_ ?_
  ·show Loc _ (znI (arrOf st') res (sa+k)) _ _
   rw [hs.a,a1]
   exact (zjA ⋯ ⋯ ⋯ hf.2).1.wide ⋯ ⋯
  ·show sg c (znI (arrOf st') res (sa+k)) _ _
   rw [hs.a,a1]
   exact zpt ⋯ ⋯ ⋯ ⋯ hsz hf.2 hf.1 ha hb g1 g2
 refine zaJ (fun _=> ?_) (fun _=> ?_)
 ·refine qa2 (ztP k1 sA sB (zjm hok) (zjm hok) pA pB ?_ ?_ fin)
  ·intro x w ex ew
   obtain ⟨_,ex⟩:=zea ex
   obtain ⟨_,ew⟩:=zea ew
   rw [Nat.add_zero,ey] at ew
   cases ew
   exact fstB _ x ⋯ ⋯ ex
  ·intro x ex w hw
   obtain ⟨_,ex⟩:=zea ex
   rw [show sa+k+(((arrOf st).extract (sa+k) (sa+na)).size - 1)=sa+na - 1 by omega,ez] at ex
   cases ex
   obtain ⟨p,p1,p2,p3⟩:=ze1 hw
   exact lstA p w p1 p2 p3
 ·refine qa2 (zuQ k1 sA sB (zjm hok) (zjm hok) pA pB ?_ ?_ fin)
  ·intro w ew x hx
   obtain ⟨_,ew⟩:=zea ew
   rw [Nat.add_zero,ey] at ew
   cases ew
   obtain ⟨p,p1,p2,p3⟩:=ze1 hx
   exact fstB p x p1 p2 p3
  ·intro x w ex ew
   obtain ⟨_,ex⟩:=zea ex
   obtain ⟨_,ew⟩:=zea ew
   rw [show sa+k+(((arrOf st).extract (sa+k) (sa+na)).size - 1)=sa+na - 1 by omega,ez] at ex
   cases ex
   exact lstA _ w ⋯ ⋯ ew
end
end TS
end
section
namespace TS
set_option autoImplicit false
open PyProof
abbrev CR:Nat->Nat->StateT SortSt Sem (Option Nat):=sortPriv% PySem.Builtin.countRun
abbrev BS:Nat->Nat->Nat->StateT SortSt Sem Bool:=sortPriv% PySem.Builtin.binarySort
abbrev LtA:Nat->Nat->StateT SortSt Sem (Option Bool):=sortPriv% PySem.Builtin.ltAt
abbrev RS:Nat->Nat->StateT SortSt Sem Unit:=sortPriv% PySem.Builtin.reverseSlice
abbrev MD:Nat->Nat->StateT SortSt Sem Unit:=sortPriv% PySem.Builtin.moveDown
structure St (c:Cx) (a0:Array Keyed) (p0:Array (Nat×Nat×Nat)) (lo hi:Nat) (st:SortSt):Prop where
 k:kindOf st=c.kd
 f:failedOf st=none
 p:pendingOf st=p0
 l:Loc a0 (arrOf st) lo hi
section
variable {c:Cx} {a0:Array Keyed} {p0:Array (Nat×Nat×Nat)} {lo hi:Nat}
noncomputable def KV (c:Cx) (xs:Array Keyed) (i:Nat):c.O.α:=c.ky (xs[i]?.getD (.none,.none)).1
def up (c:Cx) (xs:Array Keyed) (lo hi:Nat):Prop:= ∀ i j,lo<=i->i<=j->j<hi->c.O.kle (KV c xs i) (KV c xs j)
def dn (c:Cx) (xs:Array Keyed) (lo hi:Nat):Prop:= ∀ i j,lo<=i->i<=j->j<hi->c.O.kle (KV c xs j) (KV c xs i)
def ek (c:Cx) (xs:Array Keyed) (lo hi:Nat):Prop:= ∀ i,lo<=i->i<hi->KV c xs i=KV c xs (hi - 1)
theorem ztT {xs:Array Keyed} (h:up c xs lo hi):sg c xs lo hi:=by
 intro i j x y h1 h2 h3 ex ey
 have:=h i j h1 h2 h3
 unfold KV at this
 rw [ex,ey] at this
 exact this
theorem zd6 {xs ys:Array Keyed} {i j:Nat} (h:xs[i]? = ys[j]?):KV c xs i=KV c ys j:=by unfold KV;rw [h]
theorem zrJ {xs:Array Keyed} {n:Nat} (n0:0<n) (h:up c xs lo (lo+n)) (hl:c.O.blt (KV c xs (lo+n)) (KV c xs (lo+n - 1))=false):up c xs lo (lo+(n+1)):=by
 intro i j h1 h2 h3
 by_cases hj:j<lo+n
 ·exact h i j h1 h2 hj
 ·have:j=lo+n:=by omega
  subst this
  by_cases hi:i=lo+n
  ·subst hi;exact KeyOrd.kle_refl _
  ·exact KeyOrd.kle_trans (h i (lo+n - 1) h1 ⋯ ⋯) hl
theorem zju {xs:Array Keyed} {n:Nat} (n0:0<n) (h:dn c xs lo (lo+n)) (hl:c.O.kle (KV c xs (lo+n)) (KV c xs (lo+n - 1))):dn c xs lo (lo+(n+1)):=by
 intro i j h1 h2 h3
 by_cases hj:j<lo+n
 ·exact h i j h1 h2 hj
 ·have:j=lo+n:=by omega
  subst this
  by_cases hi:i=lo+n
  ·subst hi;exact KeyOrd.kle_refl _
  ·exact KeyOrd.kle_trans hl (h i (lo+n - 1) h1 ⋯ ⋯)
theorem zkR {xs:Array Keyed} {i j:Nat} (hj:j<=xs.size) (k:Nat):KV c (mirror xs i j ((j - i) / 2)) k=if i<=k/\k<j then KV c xs (i+j - 1 - k) else KV c xs k:=by
 have e:=getElem?_mirror_all (i:=i) hj k
 by_cases h:i<=k/\k<j
 ·rw [qa4 h] at e ⊢; exact zd6 e
 ·rw [qa5 h] at e ⊢; exact zd6 e
theorem ze8 {xs:Array Keyed} {i j:Nat} (hj:j<=xs.size) (h:ek c xs i j) (k:Nat):KV c (mirror xs i j ((j - i) / 2)) k=KV c xs k:=by
 rw [zkR hj]
 by_cases h1:i<=k/\k<j
 ·rw [qa4 h1,h (i+j - 1 - k) ⋯ ⋯,h k h1.1 h1.2]
 ·rw [qa5 h1]
theorem zgd {xs:Array Keyed} {i j:Nat} (hj:j<=xs.size) (h1:lo<=i) (h2:j<=hi):Loc xs (mirror xs i j ((j - i) / 2)) lo hi:=by
 refine ⟨Array.perm_iff_toList_perm.mp (mirror_perm _ _ _ _),fun k hk=> ?_⟩
 rw [getElem?_mirror_all hj,qa5 ⋯]
theorem St.set {st:SortSt} {xs:Array Keyed} (h:St c a0 p0 lo hi st) (hl:Loc (arrOf st) xs lo hi):St c a0 p0 lo hi (setArr st xs):=⟨h.k,h.f,h.p,h.l.trans hl⟩
theorem St.ok {st:SortSt} (h:St c a0 p0 lo hi st) (ho:okA c a0):okA c (arrOf st):=fun x hx=>ho x (h.l.p.mem_iff.mp hx)
theorem zhb {st:SortSt} {i j:Nat} {Q:Option Bool->SortSt->Prop} (h:St c a0 p0 lo hi st) (ho:okA c a0) (hi:i<a0.size) (hj:j<a0.size)
  (hq:Q (some (c.O.blt (KV c (arrOf st) i) (KV c (arrOf st) j))) st):c.wp (LtA i j) Q st:=by
 have hz:=h.l.size
 obtain ⟨x,ex,ox⟩:=zbE (h.ok ho) (i:=i) ⋯
 obtain ⟨y,ey,oy⟩:=zbE (h.ok ho) (i:=j) ⋯
 refine qa2 (wpS_get ?_)
 refine qa2 (zcg ex (qa2 (zcg ey (zkO h.k ox oy ?_))))
 unfold KV at hq
 rw [ex,ey] at hq
 exact hq
theorem znO {st:SortSt} {i j:Nat} {Q:Unit->SortSt->Prop} (h:Q () (setArr st (mirror (arrOf st) i j ((j - i) / 2)))):c.wp (RS i j) Q st:=wpS_modify h
theorem zt7 {st:SortSt} {i j:Nat} {Q:Unit->SortSt->Prop} (h:Q () (setArr st (bubble (arrOf st) i (i - j)))):c.wp (MD i j) Q st:=wpS_modify h
theorem zmg {st:SortSt} {nrem n:Nat} (h:St c a0 p0 lo (lo+nrem) st) (ho:okA c a0) (hz:lo+nrem<=a0.size) (n0:0<n) (hn:n<=nrem) (hu:up c (arrOf st) lo (lo+n)):
  c.wp (forIn [n:nrem] ((none:Option (Option Nat)),n) fun _ r=>LtA (lo+r.2) (lo+r.2 - 1)>>=fun y=>match y with
    | some s=>if s=true then pure (ForInStep.done (none,r.2)) else pure (ForInStep.yield (none,r.2+1))
    | _=>pure (ForInStep.done (some none,r.2)))
   (fun r st'=>st'=st/\r.1=none/\n<=r.2/\r.2<=nrem/\up c (arrOf st) lo (lo+r.2)/\(r.2=nrem\/c.O.klt (KV c (arrOf st) (lo+r.2)) (KV c (arrOf st) (lo+r.2 - 1)))) st:=by
 refine wpS_forRange (I:=fun x r st'=>st'=st/\r.1=none/\r.2=x/\n<=r.2/\up c (arrOf st) lo (lo+r.2)) ?_ ?_ ⟨rfl,rfl,rfl,qaV _,hu⟩
 ·rintro x ⟨r,m⟩ st' h1 h2 ⟨e1,e2,e3,e4,e5⟩
  dsimp only at e1 e2 e3 e4 e5 ⊢
  subst e1 e2 e3
  refine qa2 (zhb h ho ⋯ ⋯ ?_)
  refine zaJ (fun q=> ?_) (fun q=> ?_)
  ·exact qa3 ⟨rfl,rfl,e4,by dsimp only;omega,e5,.inr q⟩
  ·exact qa3 ⟨rfl,rfl,rfl,by dsimp only;omega,zrJ ⋯ e5 (by simpa using q)⟩
 ·rintro ⟨r,m⟩ st' ⟨e1,e2,e3,e4,e5⟩
  dsimp only at e1 e2 e3 e4 e5 ⊢
  have:m=nrem:=by omega
  exact ⟨e1,e2,e4,⋯,e5,.inl this⟩
theorem zmV {st:SortSt} {nrem:Nat} {Q:Option Nat->SortSt->Prop} (h:St c a0 p0 lo (lo+nrem) st) (ho:okA c a0) (hz:lo+nrem<=a0.size) (hn:0<nrem)
  (hq: ∀ n st',0<n->n<=nrem->St c a0 p0 lo (lo+nrem) st'->up c (arrOf st') lo (lo+n)->Q (some n) st'):c.wp (CR lo nrem) Q st:=by
 refine qa2 (wpS_mono (zmg h ho hz Nat.zero_lt_one hn ?_) ?_)
 ·intro i j h1 h2 h3
  have:i=j:=by omega
  subst this
  exact KeyOrd.kle_refl _
 rintro ⟨r,n⟩ st1 ⟨e1,e2,e3,e4,e5,e6⟩
 dsimp only at e1 e2 e3 e4 e5 e6 ⊢
 subst e1 e2
 refine zbl (fun q=> ?_) (fun q=> ?_)
 ·exact qa3 (hq _ _ ⋯ e4 h e5)
 rcases e6 with e6 | e6
 ·exact absurd e6 q
 have d1: ∀ xs:Array Keyed,(∀ k,KV c xs k=KV c (arrOf st1) k)->(∀ i,lo<=i->i<lo+n->KV c (arrOf st1) i=KV c (arrOf st1) (lo+n - 1))->dn c xs lo (lo+(n+1)):=by
  intro xs h1 h2
  refine zju ⋯ ?_ ?_
  ·intro i j i1 i2 i3
   rw [h1,h1,h2 i i1 ⋯,h2 j ⋯ i3]
   exact KeyOrd.kle_refl _
  ·rw [h1,h1]
   exact KeyOrd.kle_of_klt e6
 have hzz:=h.l.size
 refine zaJ (fun q2=>qa2 (zhb h ho ⋯ ⋯ (zaJ (fun q3=> ?_) (fun q3=>qa2 (znO ?_))))) (fun q2=> ?_)
 ·exact qa3 (hq _ _ ⋯ e4 h e5)
 have hek:ek c (arrOf st1) lo (lo+n):=by
  intro i i1 i2
  refine KeyOrd.kle_antisymm (e5 i _ i1 ⋯ ⋯) ?_
  exact KeyOrd.kle_trans (by simpa [KeyOrd.kle] using q3) (e5 lo i (qaV _) i1 i2)
 have b1:=h.set (zgd (xs:=arrOf st1) (i:=lo) (j:=lo+n) ⋯ (qaV _) ⋯)
 have b2:=d1 _ (ze8 ⋯ hek) hek
 replace b2:dn c (arrOf (setArr st1 (mirror (arrOf st1) lo (lo+n) ((lo+n - lo) / 2)))) lo (lo+(n+1)):=b2
 generalize setArr st1 (mirror (arrOf st1) lo (lo+n) ((lo+n - lo) / 2))=st2 at b1 b2 ⊢
 rotate_left
 have b1:=h
 have b2:dn c (arrOf st1) lo (lo+(n+1)):=d1 _ (fun _=>rfl) (fun i i1 i2=>by
   have:i=lo+n - 1:=by omega
   rw [this])
 generalize st1=st2 at b1 b2 ⊢
 all_goals
  refine qa2 (zeg ?_)
  refine qa2 (wpS_mono (wpS_forRange
    (I:=fun x r st'=>r.1=none/\r.2.1=x/\St c a0 p0 lo (lo+nrem) st'/\0<r.2.1/\r.2.2<r.2.1/\dn c (arrOf st') lo (lo+r.2.1)/\ek c (arrOf st') (lo+r.2.1 - (r.2.2+1)) (lo+r.2.1))
    (Q:=fun r st'=>r.1=none/\r.2.1<=nrem/\St c a0 p0 lo (lo+nrem) st'/\0<r.2.1/\r.2.2<r.2.1/\dn c (arrOf st') lo (lo+r.2.1)/\ek c (arrOf st') (lo+r.2.1 - (r.2.2+1)) (lo+r.2.1)) ?_ ?_
    ⟨rfl,rfl,b1,Nat.succ_pos _,Nat.succ_pos _,b2,?_⟩) ?_)
  ·rintro x ⟨r,m,u⟩ st3 x1 x2 ⟨g1,g2,g3,g4,g5,g6,g7⟩
   dsimp only at g1 g2 g3 g4 g5 g6 g7 ⊢
   subst g1 g2
   have z3:=g3.l.size
   refine qa2 (zhb g3 ho ⋯ ⋯ ?_)
   refine zaJ (fun w=>zaJ (fun w2=>qa2 (znO (qa3 ?_))) (fun w2=>qa3 ?_)) (fun w=>qa2 (zhb g3 ho ⋯ ⋯ (zaJ (fun w2=>qa3 ?_) (fun w2=>qa3 ?_))))
   ·have kk:=ze8 (c:=c) (xs:=arrOf st3) ⋯ g7
    refine ⟨rfl,rfl,g3.set (zgd ⋯ ⋯ ⋯),Nat.succ_pos _,Nat.succ_pos _,zju g4 ?_ ?_,?_⟩
    ·intro i j i1 i2 i3
     show c.O.kle (KV c (mirror _ _ _ _) j) (KV c (mirror _ _ _ _) i)
     rw [kk,kk]
     exact g6 i j i1 i2 i3
    ·show c.O.kle (KV c (mirror _ _ _ _) _) (KV c (mirror _ _ _ _) _)
     rw [kk,kk]
     exact KeyOrd.kle_of_klt w
    ·intro i i1 i2
     dsimp only at i1 i2 ⊢
     rw [show i=lo+(m+1) - 1 by omega]
   ·refine ⟨rfl,rfl,g3,Nat.succ_pos _,Nat.succ_pos _,zju g4 g6 (KeyOrd.kle_of_klt w),?_⟩
    intro i i1 i2
    dsimp only at i1 i2 ⊢
    rw [show i=lo+(m+1) - 1 by omega]
   ·exact ⟨rfl,by dsimp only;omega,g3,g4,g5,g6,g7⟩
   ·have w1:c.O.blt (KV c (arrOf st3) (lo+m)) (KV c (arrOf st3) (lo+m - 1))=false:=by simpa using w
    have w3:c.O.blt (KV c (arrOf st3) (lo+m - 1)) (KV c (arrOf st3) (lo+m))=false:=by simpa using w2
    have ee:=c.O.total _ _ w1 w3
    refine ⟨rfl,rfl,g3,Nat.succ_pos _,by dsimp only;omega,zju g4 g6 w3,?_⟩
    intro i i1 i2
    dsimp only at i1 i2 ⊢
    rw [show lo+(m+1) - 1=lo+m by omega]
    by_cases hi:i=lo+m
    ·rw [hi]
    ·rw [g7 i ⋯ ⋯,ee]
  ·rintro ⟨r,m,u⟩ st3 ⟨g1,g2,g3,g4,g5,g6,g7⟩
   exact ⟨g1,by dsimp only at g2 ⊢; omega,g3,g4,g5,g6,g7⟩
  ·intro i i1 i2
   dsimp only at i1 i2 ⊢
   rw [show i=lo+(n+1) - 1 by omega]
  ·rintro ⟨r,m,u⟩ st3 ⟨g1,g2,g3,g4,g5,g6,g7⟩
   dsimp only at g1 g2 g3 g4 g5 g6 g7 ⊢
   subst g1
   have z3:=g3.l.size
   refine zaJ (fun w2=>qa2 (znO ?_)) (fun w2=> ?_)
   have kk:=ze8 (c:=c) (xs:=arrOf st3) ⋯ g7
   have c1:=g3.set (zgd (xs:=arrOf st3) (i:=lo+m - (u+1)) (j:=lo+m) ⋯ ⋯ ⋯)
   have c2:dn c (arrOf (setArr st3 (mirror (arrOf st3) (lo+m - (u+1)) (lo+m) ((lo+m - (lo+m - (u+1))) / 2)))) lo (lo+m):=by
    intro i j i1 i2 i3
    show c.O.kle (KV c (mirror _ _ _ _) j) (KV c (mirror _ _ _ _) i)
    rw [kk,kk]
    exact g6 i j i1 i2 i3
   generalize setArr st3 (mirror (arrOf st3) (lo+m - (u+1)) (lo+m) ((lo+m - (lo+m - (u+1))) / 2))=st4 at c1 c2 ⊢
   rotate_left
   have c1:=g3
   have c2:=g6
   generalize st3=st4 at c1 c2 ⊢
   all_goals
    have z4:=c1.l.size
    refine qa2 (znO ?_)
    have c3:=c1.set (zgd (xs:=arrOf st4) (i:=lo) (j:=lo+m) ⋯ (qaV _) ⋯)
    refine qa2 (wpS_mono (zmg c3 ho hz g4 g2 ?_) ?_)
    ·intro i j i1 i2 i3
     show c.O.kle (KV c (mirror _ _ _ _) i) (KV c (mirror _ _ _ _) j)
     rw [zkR ⋯,zkR ⋯,qa4 ⋯,qa4 ⋯]
     exact c2 _ _ ⋯ ⋯ ⋯
    ·rintro ⟨r,k⟩ st5 ⟨f1,f2,f3,f4,f5,f6⟩
     dsimp only at f1 f2 f3 f4 f5 ⊢
     subst f1 f2
     exact qa3 (hq _ _ ⋯ f4 c3 f5)
theorem zoi {xs:Array Keyed} {src d:Nat} (hs:src<xs.size) (hd:d<=src) (k:Nat):
  KV c (bubble xs src d) k=if k=src - d then KV c xs src else if src - d<k/\k<=src then KV c xs (k - 1) else KV c xs k:=by
 have e:=getElem?_bubble hs d hd k
 by_cases h1:k=src - d
 ·rw [qa4 h1] at e ⊢; exact zd6 e
 ·rw [qa5 h1] at e ⊢
  by_cases h2:src - d<k/\k<=src
  ·rw [qa4 h2] at e ⊢; exact zd6 e
  ·rw [qa5 h2] at e ⊢; exact zd6 e
theorem zrT {st:SortSt} {n ok:Nat} {Q:Bool->SortSt->Prop} (h:St c a0 p0 lo hi st) (ho:okA c a0) (hz:hi<=a0.size) (h0:0<ok) (hok:ok<=n) (hn:lo+n<=hi) (hu:up c (arrOf st) lo (lo+ok))
  (hq: ∀ st',St c a0 p0 lo hi st'->up c (arrOf st') lo (lo+n)->Q true st'):c.wp (BS lo n ok) Q st:=by
 refine qa2 (wpS_mono (wpS_forRange (I:=fun k r st'=>r.1=none/\St c a0 p0 lo hi st'/\up c (arrOf st') lo (lo+k))
   (Q:=fun r st'=>r.1=none/\St c a0 p0 lo hi st'/\up c (arrOf st') lo (lo+n)) ?_ ?_ ⟨rfl,h,by rw [Nat.max_eq_left h0];exact hu⟩) ?_)
 ·rintro k ⟨r,u⟩ st1 k1 k2 ⟨e1,e2,e3⟩
  dsimp only at e1 e2 e3 ⊢
  subst e1
  have hzz:=e2.l.size
  refine qa2 (wpS_mono (wpS_forRange (I:=fun x r st'=>r.1=(none:Option Bool)/\st'=st1/\r.2.1<=r.2.2/\r.2.2<=k/\r.2.2 - r.2.1<=k - x/\
      (∀ i,i<r.2.1->c.O.kle (KV c (arrOf st1) (lo+i)) (KV c (arrOf st1) (lo+k)))/\(∀ i,r.2.2<=i->i<k->c.O.kle (KV c (arrOf st1) (lo+k)) (KV c (arrOf st1) (lo+i))))
    (Q:=fun r st'=>r.1=none/\st'=st1/\r.2.1<=k/\
      (∀ i,i<r.2.1->c.O.kle (KV c (arrOf st1) (lo+i)) (KV c (arrOf st1) (lo+k)))/\(∀ i,r.2.1<=i->i<k->c.O.kle (KV c (arrOf st1) (lo+k)) (KV c (arrOf st1) (lo+i)))) ?_ ?_
    ⟨rfl,rfl,Nat.zero_le _,qaV _,qaV _,by intro i hi;dsimp only at hi;omega,by intro i hi;dsimp only at hi;omega⟩) ?_)
  ·rintro x ⟨r,a,b⟩ st2 x1 x2 ⟨g1,g2,g3,g4,g5,g6,g7⟩
   dsimp only at g1 g2 g3 g4 g5 g6 g7 ⊢
   subst g1 g2
   refine zaJ (fun w=>qa3 ?_) (fun w=>qa2 (zhb e2 ho ⋯ ⋯ (zaJ (fun v=>qa3 ?_) (fun v=>qa3 ?_))))
   ·have:a=b:=by omega
    subst this
    exact ⟨rfl,rfl,g4,g6,g7⟩
   ·refine ⟨rfl,rfl,by dsimp only;omega,by dsimp only;omega,by dsimp only;omega,g6,?_⟩
    intro i i1 i2
    dsimp only at i1
    exact KeyOrd.kle_trans (KeyOrd.kle_of_klt v) (e3 _ _ ⋯ ⋯ ⋯)
   ·refine ⟨rfl,rfl,by dsimp only;omega,g4,by dsimp only;omega,?_,g7⟩
    intro i i1
    dsimp only at i1
    exact KeyOrd.kle_trans (e3 _ _ ⋯ ⋯ ⋯) (KeyOrd.kle_of_not_klt v)
  ·rintro ⟨r,a,b⟩ st2 ⟨g1,g2,g3,g4,g5,g6,g7⟩
   dsimp only at g1 g2 g3 g4 g5 g6 g7 ⊢
   have:a=b:=by omega
   subst this
   exact ⟨g1,g2,g4,g6,g7⟩
  ·rintro ⟨r,a,b⟩ st2 ⟨g1,g2,g3,g4,g5⟩
   dsimp only at g1 g2 g3 g4 g5 ⊢
   subst g1 g2
   refine qa2 (zt7 (qa3 ⟨rfl,e2.set ⟨Array.perm_iff_toList_perm.mp (bubble_perm _ _ _),fun i hi=> ?_⟩,?_⟩))
   ·rw [getElem?_bubble ⋯ _ ⋯,qa5 ⋯,qa5 ⋯]
   ·intro i j i1 i2 i3
    show c.O.kle (KV c (bubble _ _ _) i) (KV c (bubble _ _ _) j)
    have hl:lo+k - (lo+k - (lo+a))=lo+a:=by omega
    rw [zoi ⋯ ⋯,zoi ⋯ ⋯,hl]
    have o1: ∀ p,lo<=p->p<lo+a->c.O.kle (KV c (arrOf st2) p) (KV c (arrOf st2) (lo+k)):=by
     intro p p1 p2
     have:=g4 (p - lo) ⋯
     rwa [show lo+(p - lo)=p by omega] at this
    have o2: ∀ p,lo+a<=p->p<lo+k->c.O.kle (KV c (arrOf st2) (lo+k)) (KV c (arrOf st2) p):=by
     intro p p1 p2
     have:=g5 (p - lo) ⋯ ⋯
     rwa [show lo+(p - lo)=p by omega] at this
    by_cases q1:i=lo+a
    ·rw [qa4 q1]
     by_cases q2:j=lo+a
     ·rw [qa4 q2];exact KeyOrd.kle_refl _
     ·rw [qa5 q2,qa4 ⋯]
      exact o2 _ ⋯ ⋯
    ·rw [qa5 q1]
     by_cases q3:i<lo+a
     ·rw [qa5 ⋯]
      by_cases q2:j=lo+a
      ·rw [qa4 q2];exact o1 _ i1 q3
      ·rw [qa5 q2]
       by_cases q4:j<lo+a
       ·rw [qa5 ⋯]
        exact e3 _ _ i1 i2 ⋯
       ·rw [qa4 ⋯]
        exact e3 _ _ i1 ⋯ ⋯
     ·rw [qa4 ⋯,qa5 ⋯,qa4 ⋯]
      exact e3 _ _ ⋯ ⋯ ⋯
 ·rintro ⟨r,u⟩ st1 ⟨e1,e2,e3⟩
  refine ⟨e1,e2,?_⟩
  rw [show max (max ok 1) n=n by omega] at e3
  exact e3
 ·rintro ⟨r,u⟩ st1 ⟨e1,e2,e3⟩
  dsimp only at e1 ⊢
  subst e1
  exact qa3 (hq _ e2 e3)
end
end TS
end
section
namespace TS
set_option autoImplicit false
open PyProof
abbrev SR:StateT SortSt Sem Unit:=sortPriv% PySem.Builtin.sortRuns
section
variable {c:Cx}
noncomputable def chn (c:Cx) (xs:Array Keyed):List (Nat×Nat×Nat)->Nat->Nat->Prop
 | [],a,b=>a=b
 | t::r,a,b=>t.1=a/\0<t.2.1/\sg c xs a (a+t.2.1)/\chn c xs r (a+t.2.1) b
theorem zgf {xs:Array Keyed}: ∀ {p q:List (Nat×Nat×Nat)} {a b:Nat},chn c xs (p++q) a b↔ ∃ m,chn c xs p a m/\chn c xs q m b
 | [],q,a,b=>⟨fun h=>⟨a,rfl,h⟩,fun ⟨m,e,h⟩=>by cases e;exact h⟩
 | t::r,q,a,b=>by
  show (_/\_/\_/\chn c xs (r++q) _ b)↔ ∃ m,(_/\_/\_/\chn c xs r _ m)/\_
  rw [zgf]
  constructor
  ·rintro ⟨h1,h2,h3,m,h4,h5⟩;exact ⟨m,⟨h1,h2,h3,h4⟩,h5⟩
  ·rintro ⟨m,⟨h1,h2,h3,h4⟩,h5⟩;exact ⟨h1,h2,h3,m,h4,h5⟩
theorem zeP {xs:Array Keyed}: ∀ {p:List (Nat×Nat×Nat)} {a b:Nat},chn c xs p a b->a+p.length<=b
 | [],a,b,h=>by cases h;simp
 | t::r,a,b,h=>by
  have:=zeP h.2.2.2
  have:=h.2.1
  rw [qaE];omega
theorem zd5 {xs ys:Array Keyed}: ∀ {p:List (Nat×Nat×Nat)} {a b:Nat},chn c xs p a b->(∀ i,a<=i->i<b->ys[i]? = xs[i]?)->chn c ys p a b
 | [],a,b,h,_=>h
 | t::r,a,b,h,he=>by
  have hl:=zeP h.2.2.2
  refine ⟨h.1,h.2.1,?_,zd5 h.2.2.2 (fun i i1 i2=>he i ⋯ i2)⟩
  intro i j x y i1 i2 i3 ex ey
  rw [he i i1 ⋯] at ex
  rw [he j ⋯ ⋯] at ey
  exact h.2.2.1 i j x y i1 i2 i3 ex ey
theorem zlO {xs:Array Keyed} {f:Nat×Nat×Nat->Nat×Nat×Nat} (hf: ∀ t,(f t).1=t.1/\(f t).2.1=t.2.1): ∀ {p:List (Nat×Nat×Nat)} {i a b:Nat},chn c xs p a b->chn c xs (p.modify i f) a b
 | [],i,a,b,h=>by cases i<;>exact h
 | t::r,0,a,b,h=>by
  show chn c xs (f t::r) a b
  refine ⟨(hf t).1.trans h.1,?_,?_,?_⟩
  ·rw [(hf t).2];exact h.2.1
  ·rw [(hf t).2];exact h.2.2.1
  ·rw [(hf t).2];exact h.2.2.2
 | t::r,i+1,a,b,h=>by
  show chn c xs (t::r.modify i f) a b
  exact ⟨h.1,h.2.1,h.2.2.1,zlO hf h.2.2.2⟩
structure Rn (c:Cx) (a0:Array Keyed) (lo:Nat) (st:SortSt):Prop where
 k:kindOf st=c.kd
 f:failedOf st=none
 p:(arrOf st).toList.Perm a0.toList
 h:chn c (arrOf st) (pendingOf st).toList 0 lo
theorem Rn.size {a0:Array Keyed} {lo:Nat} {st:SortSt} (h:Rn c a0 lo st):(arrOf st).size=a0.size:=by simpa using h.p.length_eq
theorem Rn.ok {a0:Array Keyed} {lo:Nat} {st:SortSt} (h:Rn c a0 lo st) (ho:okA c a0):okA c (arrOf st):=fun x hx=>ho x (h.p.mem_iff.mp hx)
theorem zsI {α:Type} {l:List α} {i:Nat} (h:i+1<l.length): ∃ P x y S,l=P++x::y::S/\P.length=i:=by
 refine ⟨l.take i,l[i],l[i+1],l.drop (i+2),?_,by rw [List.length_take];omega⟩
 rw [<- qae, <-qae,qam]
theorem zoV {a0:Array Keyed} {st:SortSt} {lo i:Nat} {Q:Bool->SortSt->Prop} (h:Rn c a0 lo st) (ho:okA c a0) (hlo:lo<=a0.size) (hi:i+1<(pendingOf st).size)
  (hq: ∀ st',Rn c a0 lo st'->(pendingOf st').size+1=(pendingOf st).size->Loc (arrOf st) (arrOf st') 0 lo->Q true st'):c.wp (MAt i) Q st:=by
 obtain ⟨P,⟨sa,na,pa⟩,⟨sb,nb,pb⟩,S,eL,eP⟩:=zsI (l:=(pendingOf st).toList) (i:=i) (by simpa using hi)
 have hh:=h.h
 rw [eL,zgf] at hh
 obtain ⟨m,h1,h2,h3,h4,h5,h6,h7,h8⟩:=hh
 dsimp only at h2 h3 h4 h5 h6 h7 h8
 subst h2 h5
 have hl1:=zeP h1
 have hl2:=zeP h8
 have hz:=h.size
 have g1:(pendingOf st)[i]? = some (sa,na,pa):=by
  rw [<- qaj,eL,qaa ⋯,eP,Nat.sub_self];rfl
 have g2:(pendingOf st)[i+1]? = some (sa+na,nb,pb):=by
  rw [<- qaj,eL,qaa ⋯,eP,show i+1 - i=1 by omega];rfl
 refine zuz h.k h.f (h.ok ho) g1 g2 h3 h6 ⋯ h4 h7 ?_
 intro st' k1 k2 k3 k4 k5
 have e3:(pendingOf st').toList=P++(sa,na+nb,pa)::S:=by
  rw [k3]
  simp only [Array.toList_eraseIdxIfInBounds,Array.toList_setIfInBounds]
  rw [eL, <-eP]
  simp only [List.set_append_right _ _ (qaV _),Nat.sub_self,List.set_cons_zero]
  rw [List.eraseIdx_append_of_length_le ⋯,show P.length+1 - P.length=1 by omega]
  rfl
 refine hq st' ⟨k1,k2,k4.p.trans h.p,?_⟩ ?_ (k4.wide (Nat.zero_le _) ⋯)
 ·rw [e3,zgf]
  refine ⟨sa,zd5 h1 (fun i _ i2=>k4.o i (.inl i2)),rfl,?_,?_,?_⟩
  ·dsimp only;omega
  ·show sg c (arrOf st') sa (sa+(na+nb))
   rw [<- Nat.add_assoc];exact k5
  ·show chn c (arrOf st') S (sa+(na+nb)) lo
   rw [<- Nat.add_assoc]
   exact zd5 h8 (fun i i1 _=>k4.o i (.inr i1))
 ·have l1:(pendingOf st').size=(pendingOf st').toList.length:=by simp
  have l2:(pendingOf st).size=(pendingOf st).toList.length:=by simp
  rw [l1,l2,e3,eL]
  simp only [qav,qaE]
  omega
theorem zuh {a0:Array Keyed} {st:SortSt} {Q:Unit->SortSt->Prop} (hk:kindOf st=c.kd) (hf:failedOf st=none) (hp:pendingOf st= #[]) (ha:arrOf st=a0) (ho:okA c a0)
  (hq: ∀ st',failedOf st'=none->(arrOf st').toList.Perm a0.toList->sg c (arrOf st') 0 a0.size->Q () st'):c.wp SR Q st:=by
 refine qa2 (wpS_get ?_)
 have ez:(arrOf st).size=a0.size:=by rw [ha]
 generalize hN:(arrOf st).size=N at ez
 dsimp only
 generalize (sortPriv% PySem.Builtin.minRun) N N 0=mr
 refine qa2 (wpS_mono (wpS_forRange (I:=fun x r st'=>r.1=none/\Rn c a0 r.2 st'/\r.2<=N/\(x<=r.2\/r.2=N))
   (Q:=fun r st'=>r.1=none/\Rn c a0 N st') ?_ ?_ ⟨rfl,⟨hk,hf,by rw [ha],by rw [hp];rfl⟩,Nat.zero_le _,.inl (qaV _)⟩) ?_)
 ·rintro x ⟨r,lo⟩ st1 x1 x2 ⟨e1,e2,e3,e4⟩
  dsimp only at e1 e2 e3 e4 ⊢
  subst e1
  have z1:=e2.size
  refine zaJ (fun w=>qa3 ⟨rfl,?_⟩) (fun w=> ?_)
  ·have:lo=N:=by omega
   rw [<- this]
   exact e2
  refine qa2 (zmV (a0:=arrOf st1) (p0:=pendingOf st1) ⟨e2.k,e2.f,rfl,Loc.refl _ _ _⟩ (e2.ok ho) ⋯ ⋯ ?_)
  intro n st2 n1 n2 s2 u2
  dsimp only
  have fin: ∀ (n:Nat) (st3:SortSt),0<n->n<=N - lo->St c (arrOf st1) (pendingOf st1) lo (lo+(N - lo)) st3->up c (arrOf st3) lo (lo+n)->Rn c a0 lo st3/\sg c (arrOf st3) lo (lo+n):=by
   intro n st3 m1 m2 m3 m4
   refine ⟨⟨m3.k,m3.f,m3.l.p.trans e2.p,?_⟩,ztT m4⟩
   rw [m3.p]
   exact zd5 e2.h (fun i _ i2=>m3.l.o i (.inl i2))
  refine zaJ (fun w2=>qa2 (zeg (qa2 (zrT s2 (e2.ok ho) ⋯ n1 (n:=min (N - lo) mr) ⋯ ⋯ u2 ?_)))) (fun w2=> ?_)
  intro st3 s3 u3
  rw [qa5 (by simp)]
  have hm:0<min (N - lo) mr/\min (N - lo) mr<=N - lo:=by omega
  obtain ⟨r3,g3⟩:=fin _ st3 hm.1 hm.2 s3 u3
  generalize min (N - lo) mr=m at hm g3 ⊢
  rotate_left
  obtain ⟨r3,g3⟩:=fin _ st2 n1 n2 s2 u2
  have hm:0<n/\n<=N - lo:=⟨n1,n2⟩
  generalize n=m at hm g3 ⊢
  generalize st2=st3 at r3 g3 ⊢
  all_goals
   have push: ∀ st4:SortSt,Rn c a0 lo st4->sg c (arrOf st4) lo (lo+m)->Rn c a0 (lo+m) (SortSt.mk' (kindOf st4) (arrOf st4) ((pendingOf st4).push (lo,m,0)) (gallopOf st4) (failedOf st4)):=by
    intro st4 r4 g4
    refine ⟨r4.k,r4.f,r4.p,?_⟩
    show chn c (arrOf st4) ((pendingOf st4).push (lo,m,0)).toList 0 (lo+m)
    rw [Array.toList_push,zgf]
    exact ⟨lo,r4.h,rfl,hm.1,g4,rfl⟩
   refine qa2 (wpS_get ?_)
   split
   ·refine qa2 (wpS_mono (wpS_forRange (I:=fun _ r st'=>r.1=none/\Rn c a0 lo st'/\sg c (arrOf st') lo (lo+m))
      (Q:=fun r st'=>r.1=none/\Rn c a0 lo st'/\sg c (arrOf st') lo (lo+m)) ?_ ?_ ⟨rfl,r3,g3⟩) ?_)
    ·rintro y ⟨r,u⟩ st4 y1 y2 ⟨f1,f2,f3⟩
     dsimp only at f1 f2 f3 ⊢
     subst f1
     refine qa2 (wpS_get ?_)
     split
     ·rename_i hs
      have hs2:(pendingOf st4).size>1:=by
       by_cases hc:(pendingOf st4).size>1
       ·exact hc
       ·rw [qa5 hc] at hs;cases hs
      refine zaJ (fun _=>qa3 ⟨rfl,f2,f3⟩) (fun _=>qa2 (zoV f2 ho ⋯ (by show (pendingOf st4).size - 2+1<(pendingOf st4).size;omega) ?_))
      intro st5 r5 _ l5
      rw [qa5 (by simp)]
      refine qa3 ⟨rfl,r5,?_⟩
      intro i j a b i1 i2 i3 ea eb
      rw [l5.o i (.inr i1)] at ea
      rw [l5.o j (.inr ⋯)] at eb
      exact f3 i j a b i1 i2 i3 ea eb
     ·exact qa3 ⟨rfl,f2,f3⟩
    ·intro r st4 hh
     exact hh
    ·rintro ⟨r,u⟩ st4 ⟨f1,f2,f3⟩
     dsimp only at f1 f2 f3 ⊢
     subst f1
     refine qa2 (wpS_modify (qa2 (wpS_modify (qa3 ⟨rfl,?_,by dsimp only;omega,by dsimp only;omega⟩))))
     refine push _ ⟨f2.k,f2.f,f2.p,?_⟩ f3
     show chn c (arrOf st4) ((pendingOf st4).modify _ _).toList 0 lo
     rw [Array.toList_modify]
     refine zlO ?_ f2.h
     exact fun _=>⟨rfl,rfl⟩
   ·exact qa2 (wpS_modify (qa3 ⟨rfl,push _ r3 g3,by dsimp only;omega,by dsimp only;omega⟩))
 ·rintro ⟨r,lo⟩ st1 ⟨e1,e2,e3,e4⟩
  dsimp only at e1 e2 e3 e4 ⊢
  have:lo=N:=by omega
  exact ⟨e1,this▸e2⟩
 ·rintro ⟨r,lo⟩ st1 ⟨e1,e2⟩
  dsimp only at e1 e2 ⊢
  subst e1
  refine qa2 (wpS_mono (wpS_forRange (I:=fun x r st'=>r.1=none/\Rn c a0 N st'/\((pendingOf st').size<=1\/(pendingOf st').size+x<=N))
    (Q:=fun r st'=>r.1=none/\Rn c a0 N st'/\(pendingOf st').size<=1) ?_ ?_ ⟨rfl,e2,.inr ?_⟩) ?_)
  ·rintro x ⟨r,u⟩ st2 x1 x2 ⟨f1,f2,f3⟩
   dsimp only at f1 f2 f3 ⊢
   subst f1
   refine qa2 (wpS_get ?_)
   refine zaJ (fun w=>qa3 ⟨rfl,f2,w⟩) (fun w=>qa2 (zoV f2 ho ⋯ ?_ ?_))
   ·replace w: ¬(pendingOf st2).size<=1:=w
    have hx: ∀ (p:Prop) [Decidable p],(if p then (pendingOf st2).size - 2 - 1 else (pendingOf st2).size - 2)+1<(pendingOf st2).size:=by
     intro p _
     split<;>omega
    exact hx _
   ·intro st3 r3 p3 _
    rw [qa5 (by simp)]
    exact qa3 ⟨rfl,r3,⋯⟩
  ·rintro ⟨r,u⟩ st2 ⟨f1,f2,f3⟩
   exact ⟨f1,f2,⋯⟩
  ·have:=zeP e2.h
   simp only [qas] at this
   omega
  ·rintro ⟨r,u⟩ st2 ⟨f1,f2,f3⟩
   dsimp only at f1 f2 f3 ⊢
   subst f1
   refine qa3 (hq _ f2.f f2.p ?_)
   have hh:=f2.h
   have hl:(pendingOf st2).toList.length<=1:=by simpa using f3
   rw [<- ez]
   match hL:(pendingOf st2).toList,hl with
   | [],_=>
    rw [hL] at hh
    have:0=N:=hh
    intro i j x y i1 i2 i3
    omega
   | [t],_=>
    rw [hL] at hh
    obtain ⟨t1,t2,t3,t4⟩:=hh
    have t5:0+t.2.1=N:=t4
    rw [t5] at t3
    exact t3
end
end TS
end
section
namespace TS
set_option autoImplicit false
open PyProof
noncomputable def h6 (h:Heap) (a:Addr) (vs:List Value):Heap:=((h.update a (Obj.mapSeq fun _=> #[])).push (seqObj "tuple" vs.toArray 0)).push (seqObj "list" #[] 0)
theorem zni (c:Cx) {s:Shared} {a:Addr} {vs:List Value} {n:Nat} {P:Fin->Shared->Prop} (ho:s.heap.get? a=some (seqObj "list" vs.toArray n)) (hs:c.s={s with heap:=h6 s.heap a vs})
  (hok: ∀ v,v∈vs->c.ok v) (hkk:2<=vs.length-> ∀ Q:SortKind->Shared->Prop,Q c.kd c.s->wpAny (model c.prog c.w) c.A (keyKind' vs.toArray) Q c.E c.s) (hz:vs.length<=sizeLine)
  (h: ∀ xs:Array Keyed,xs.toList.Perm (pairsOf vs).toList->sg c xs 0 vs.length->P (.done (.ret .none)) {s with heap:=sortedHeap s.heap a vs (xs.map (·.2))}):
  wpAny (model c.prog c.w) c.A (Builtin.«list.sort» ⟨[.ref a],[]⟩) P c.E s:=by
 rw [list_sort_plain]
 have ha:a<s.heap.objs.size:=qaQ ho
 have zz:vs.toArray.size=vs.length:=by simp
 refine qaW (listItems_at ho rfl ?_)
 refine qaW (listUpdate_at ho rfl ?_ (by rw [zz];exact hz) (Nat.zero_le _))
 obtain ⟨e1,ho1⟩: ∃ e1,(s.heap.update a (Obj.mapSeq fun _=> #[])).get? a=some (seqObj "list" #[] e1):=⟨_,get?_update_seq ho (fun _=> #[])⟩
 refine qaW (seqEpoch_at ho1 rfl ?_)
 refine qaW (wpAny_newTuple ?_ (by simpa using hz))
 refine qaW (wpAny_newList ?_)
 refine qaO ?_
 have ho6:(h6 s.heap a vs).get? a=some (seqObj "list" #[] e1):=by
  unfold h6
  rw [Heap.get?_push_ne _ _ _ (by rw [size_push',Heap.size_update];exact qaR (Nat.lt_succ_of_lt ha)),Heap.get?_push_ne _ _ _ (by rw [Heap.size_update];exact qaR ha)]
  exact ho1
 show wpAny (model c.prog c.w) c.A _ P c.E {s with heap:=h6 s.heap a vs}
 rw [<- hs]
 have ho7:c.s.heap.get? a=some (seqObj "list" #[] e1):=by rw [hs];exact ho6
 dsimp only
 have zx: ∀ xs:Array Keyed,xs.toList.Perm (pairsOf vs).toList->(xs.map (·.2)).size<=sizeLine+1:=by
  intro xs hp
  have:=hp.length_eq
  simp only [qas,pairsOf_size] at this
  rw [Array.size_map];omega
 have e2: ∀ out:Array Value,({c.s with heap:=c.s.heap.update a (Obj.mapSeq fun _=>out)}:Shared)={s with heap:=sortedHeap s.heap a vs out}:=by
  intro out;rw [hs];rfl
 by_cases h2:vs.toArray.size<2
 ·rw [qa4 h2,qa4 h2]
  refine qaW (qaX ?_)
  rw [StateT.run_pure]
  refine qaW (qaX ?_)
  dsimp only
  refine qaW (seqEpoch_at ho7 rfl ?_)
  refine qaW (listUpdate_at ho7 rfl ?_ (hsz2:=zx _ (List.Perm.refl _)))
  simp only [bne_self_eq_false,qax,if_false]
  refine qaX ?_
  rw [e2]
  refine h (vs.toArray.zip vs.toArray) (List.Perm.refl _) ?_
  intro i j x y i1 i2 i3 ex ey
  have:i=j:=by omega
  subst this
  rw [ex] at ey
  cases ey
  exact Cx.le_refl _
 ·rw [qa5 h2,qa5 h2]
  refine qaW (hkk ⋯ _ ?_)
  refine qaW (qaZ (zuh (c:=c) (a0:=pairsOf vs) (st:=SortSt.mk' c.kd (vs.toArray.zip vs.toArray) #[] 7 none) (Q:=fun _ st'=>failedOf st'=none/\(arrOf st').toList.Perm (pairsOf vs).toList/\sg c (arrOf st') 0 (pairsOf vs).size)
    rfl rfl rfl rfl ?_ fun st' b1 b2 b3=>⟨b1,b2,b3⟩) ?_ fun _ _ e=>e)
  ·intro x hx
   rw [pairsOf_toList] at hx
   exact hok _ (mem_zip_self hx).2
  rintro ⟨⟨⟩,st'⟩ s' ⟨rfl,hf,hp,hg⟩
  rw [pairsOf_size] at hg
  dsimp only
  refine qaW (seqEpoch_at ho7 rfl ?_)
  refine qaW (listUpdate_at ho7 rfl ?_ (hsz2:=zx _ hp))
  rw [hf]
  simp only [bne_self_eq_false,qax,if_false]
  refine qaX ?_
  rw [e2]
  exact h _ hp hg
theorem zuc {c:Cx} {xs:Array Keyed} (h:sg c xs 0 xs.size):xs.toList.Pairwise c.le:=by
 have:=zlo h (qaV _)
 unfold srt at this
 rwa [Array.extract_size] at this
def Srt (prog:Program) (w:World) (A:Around) (vs:List Value) (s1:Shared) (kd:SortKind) (O:KeyOrd) (ky:Value->O.α) (ok:Value->Prop):Prop:=
 (∀ v,v∈vs->ok v)/\ ∀ s2:Shared,(∀ b o,s1.heap.get? b=some o->s2.heap.get? b=some o)->
  (2<=vs.length-> ∀ (E:Value->Shared->Prop) (Q:SortKind->Shared->Prop),Q kd s2->wpAny (model prog w) A (keyKind' vs.toArray) Q E s2)/\
  ∀ (E:Value->Shared->Prop) (x y:Value) (Q:Bool->Shared->Prop),ok x->ok y->Q (O.blt (ky x) (ky y)) s2->wpAny (model prog w) A (keyLt' kd x y) Q E s2
theorem zkb {prog:Program} {w:World} {A:Around} {E:Value->Shared->Prop} {s:Shared} {x:Value} {Q:Value->Shared->Prop} (hc: ∀ E':Value->Shared->Prop,wpAny (model prog w) A.in1 (collect x) (fun vs s1=>
      vs.length<=sizeLine/\ ∃ kd O ky ok,Srt prog w A.in1.in1 vs s1 kd O ky ok/\
      ∀ (out:List Value) e h',out.Perm vs->out.Pairwise (fun x y=>O.kle (ky x) (ky y))->(∀ b ob,s1.heap.get? b=some ob->h'.get? b=some ob)->h'.get? s1.heap.objs.size=some (seqObj "list" out.toArray e)->Q (.ref s1.heap.objs.size) {s1 with heap:=h'}) E' s):
  wpAny (model prog w) A (call (.builtin "sorted") [x]) Q E s:=by
 refine Calls.call_function_entry kind_sorted plain_sorted entry_sorted (args_sorted1 _) ?_
 unfold Builtin.«sorted»
 refine qaW (m:=checkCount "sorted" 1 1 _) (qaX ?_)
 refine qaW (m:=collect x) (qaZ (hc _) (fun vs s1 ⟨hz,kd,O,ky,ok,⟨hS,hS2⟩,q⟩=> ?_) fun _ _ z=>z)
 refine qaW (wpAny_newList ?_ hz)
 have at0:(s1.heap.push {cls:= .type "list",data:= .seq vs.toArray}).get? s1.heap.objs.size=some (seqObj "list" vs.toArray 0):=qar _ rfl
 have keep: ∀ b ob,s1.heap.get? b=some ob->(h6 (s1.heap.push {cls:= .type "list",data:= .seq vs.toArray}) s1.heap.objs.size vs).get? b=some ob:=by
  intro b ob eb
  have lt:=qaQ eb
  unfold h6
  refine qag _ (qag _ ?_)
  exact (qah _ _ (Ne.symm (qaR lt))).trans (qag _ eb)
 obtain ⟨g1,g2⟩:=hS2 {s1 with heap:=h6 (s1.heap.push {cls:= .type "list",data:= .seq vs.toArray}) s1.heap.objs.size vs} keep
 refine qaW (qaO (wpAny_call_entry slot_list_sort ⟨_,at0,rfl⟩ entry_list_sort (zni (s:={s1 with heap:=s1.heap.push {cls:= .type "list",data:= .seq vs.toArray}})
   ⟨prog,w,A.in1.in1,_,_,kd,O,ky,ok,g2⟩ at0 rfl hS (fun h2 Q hQ=>g1 h2 _ Q hQ) hz fun xs hp hg=>⟨_,rfl,?_⟩) (args_list_sort _)))
 obtain ⟨e,he⟩:=sortedHeap_at (out:=xs.map (·.2)) at0
 have hl:xs.size=vs.length:=by
  have:=hp.length_eq
  simpa [pairsOf_size] using this
 rw [<- hl] at hg
 have hpw:=zuc hg
 have hmem: ∀ p,p∈xs.toList->p.1=p.2:=fun p hp'=>(mem_zip_self (by rw [<- pairsOf_toList];exact hp.mem_iff.mp hp')).1
 refine qaX ⟨_,rfl,q (xs.map (·.2)).toList e _ ?_ ?_ (fun b ob eb=> ?_) (by rw [Array.toArray_toList];exact he)⟩
 ·rw [Array.toList_map]
  have:=hp.map (·.2)
  rw [pairsOf_toList] at this
  refine this.trans (List.Perm.of_eq ?_)
  exact List.map_snd_zip (qaV _)
 ·rw [Array.toList_map,List.pairwise_map]
  refine List.Pairwise.imp_of_mem ?_ hpw
  intro u v hu hv huv
  rw [<- hmem u hu, <-hmem v hv]
  exact huv
 ·have lt:=qaQ eb
  rw [sortedHeap_old (qaR lt) (by rw [qaL];exact Nat.lt_succ_of_lt lt)]
  exact qag _ eb
end TS
end
namespace TS
set_option autoImplicit false
open PyProof PySem.SeqAt
open PySem.MeetsSeq PySem.MeetsSeq2 PySem.MeetsSeq3
inductive Rs (A:Around) (s:Shared) (b:Bool):List ((Value×Value)×Nat)->Bool->Bool->Prop
 | nil (d:Bool):Rs A s b [] d d
 | eq {p q:Value} {i:Nat} {rest:List ((Value×Value)×Nat)} {d r:Bool} (h:EqAt A s p q true) (t:Rs A s b rest d r):Rs A s b (((p,q),i)::rest) d r
 | ne {p q:Value} {i:Nat} {rest:List ((Value×Value)×Nat)} {d l:Bool} (h:EqAt A s p q false) (t: ∀ (prog:Program) (w:World) (E:Value->Shared->Prop) (Q:Bool->Shared->Prop),Q l s->wpAny (model prog w) A (oneLt' (b && i==0) p q) Q E s):Rs A s b (((p,q),i)::rest) d l
section
variable {prog:Program} {w:World} {A:Around} {s:Shared}
theorem zk9 {b:Bool} {F:((Value×Value)×Nat)->(Option Bool×Unit)->Sem (ForInStep (Option Bool×Unit))}
  (hF: ∀ p q i c,F ((p,q),i) c=(eqBool p q>>=fun e=>if (!e)=true then oneLt' (b && i==0) p q>>=fun r=>pure (.done (some r,())) else pure (.yield (none,())))) {E:Value->Shared->Prop}:
  ∀ {L:List ((Value×Value)×Nat)} {d r:Bool},Rs A s b L d r->wpAny (model prog w) A (forIn L ((none:Option Bool),()) F) (fun c s'=>s'=s/\(c.1=some r\/(c.1=none/\d=r))) E s
 | _,_,_,.nil d=>by
  rw [List.forIn_nil]
  exact qaX ⟨rfl,.inr ⟨rfl,rfl⟩⟩
 | _,_,_,.eq h t=>by
  rw [List.forIn_cons,hF,bind_assoc]
  refine qaW (h prog w _ _ ?_)
  rw [qa5 (by simp),pure_bind]
  exact zk9 hF t
 | _,_,_,.ne h t=>by
  rw [List.forIn_cons,hF,bind_assoc]
  refine qaW (h prog w _ _ ?_)
  rw [qa4 (by simp),bind_assoc]
  refine qaW (t prog w _ _ ?_)
  rw [pure_bind]
  exact qaX ⟨rfl,.inl rfl⟩
theorem zlG {b r:Bool} {E:Value->Shared->Prop} {Q:Bool->Shared->Prop} {a q:Addr} {xs ys:Array Value} (hx:IsTup s.heap a xs) (hy:IsTup s.heap q ys) (h:Rs A s b (xs.toList.zip ys.toList).zipIdx (decide (xs.size<ys.size)) r) (hq:Q r s):
  wpAny (model prog w) A (keyLt' (tuples' b) (.ref a) (.ref q)) Q E s:=by
 obtain ⟨o1,e1,_,n1,d1⟩:=hx
 obtain ⟨o2,e2,_,n2,d2⟩:=hy
 refine qaW (listItems_at e1 d1 (qaW (listItems_at e2 d2 ?_)))
 refine qaW (qaZ (zk9 (b:=b) ?_ h) ?_ fun _ _ e=>e)
 ·exact fun p q i c=>rfl
 ·rintro ⟨c,u⟩ s' ⟨rfl,e | ⟨e,e3⟩⟩
  ·cases e
   exact qaX hq
  ·cases e
   subst e3
   exact qaX hq
theorem znF {x y:Value} {l:Bool} (h: ∀ (prog:Program) (w:World) (E Q:Value->Shared->Prop),Q (.bool l) s->wpAny (model prog w) A (richCompare .Lt x y) Q E s) {E:Value->Shared->Prop} {Q:Bool->Shared->Prop} (hq:Q l s):
  wpAny (model prog w) A (oneLt' false x y) Q E s:=by
 rw [oneLt'_eq]
 simp only [qax,if_false]
 exact qaW (h prog w _ _ (wpAny_truthy_bool hq))
def zgv (h:Heap) (v:Value) (ns:List Int):Prop:= ∃ (a:Addr) (its:List Value),v= .ref a/\IsTup h a its.toArray/\IntsAre its ns
theorem zmz {b:Bool}: ∀ {xs ys:List Value} {ns ms:List Int} (k:Nat),IntsAre xs ns->IntsAre ys ms->Rs A s b ((xs.zip ys).zipIdx k) (decide (ns.length<ms.length)) (HT.zbd ns ms)
 | _,_,_,_,k,.nil,.nil=> .nil _
 | _,_,_,_,k,.nil,.cons m t r=>by
  rw [show decide (([]:List Int).length<(m::_).length)=true by simp]
  exact .nil _
 | _,_,_,_,k,.cons n t r,.nil=>by
  rw [show decide ((n::_).length<([]:List Int).length)=false by simp]
  exact .nil _
 | _,_,_,_,k,.cons n t r,.cons m u q=>by
  have c0:EqAt A s (.int n t) (.int m u) (n==m):=EqAt.int_int _ _ _ _
  rw [HT.zbf,List.zip_cons_cons,List.zipIdx_cons]
  simp only [qaE,Nat.add_lt_add_iff_right]
  by_cases h1:n=m
  ·rw [qa4 h1]
   rw [show (n==m)=true by simpa using h1] at c0
   exact .eq c0 (zmz (k+1) r q)
  ·rw [qa5 h1]
   rw [show (n==m)=false by simpa using h1] at c0
   refine .ne c0 (fun prog w E Q hq=> ?_)
   cases (b && k==0)
   ·exact znF (fun prog w E Q hq=>HT.zgk _ _ _ _ _ _ prog w E Q hq) hq
   ·exact oneLt_int hq
theorem zkd {b:Bool} {E:Value->Shared->Prop} {Q:Bool->Shared->Prop} {u v:Value} {p q:List Int} (hv:zgv s.heap v p) (hu:zgv s.heap u q) (h:Q (HT.zbd p q) s):
  wpAny (model prog w) A (keyLt' (tuples' b) v u) Q E s:=by
 obtain ⟨a,its,rfl,ha,hi⟩:=hv
 obtain ⟨c,its',rfl,hc,hj⟩:=hu
 have:=zmz (A:=A) (s:=s) (b:=b) 0 hi hj
 rw [<- hi.length, <-hj.length] at this
 exact zlG ha hc (by simpa using this) h
end
end TS
namespace TS
set_option autoImplicit false
open PyProof PySem.SeqAt
def zg3 (h:Heap) (v:Value):Prop:= ∃ (a:Addr) (xs:Array Value) (n:Int) (t:Tok),v= .ref a/\IsTup h a xs/\xs[0]? = some (.int n t)
section
variable {prog:Program} {w:World} {A:Around} {s:Shared}
theorem znN {v:Value} (h:zg3 s.heap v) {E:Value->Shared->Prop}:wpAny (model prog w) A (firstOfTuple' v) (fun r s'=>s'=s/\ ∃ n t,r=some (.int n t)) E s:=by
 obtain ⟨a,xs,n,t,rfl,⟨o,e1,e2,m,d⟩,hx⟩:=h
 refine qaW (wpAny_typeOf (T:="tuple") ⟨o,e1,e2⟩ ?_)
 have:(Value.type "tuple" != Value.type "tuple")=false:=by rfl
 rw [this]
 refine qaW (listItems_at e1 d (qaX ⟨rfl,n,t,hx⟩))
theorem zhN {E:Value->Shared->Prop}: ∀ (vs:List Value),(∀ v,v∈vs->zg3 s.heap v)->wpAny (model prog w) A (vs.mapM firstOfTuple') (fun r s'=>s'=s/\ ∃ us ns,IntsAre us ns/\r=us.map some/\us.length=vs.length) E s
 | [],_=>by rw [List.mapM_nil];exact qaX ⟨rfl,[],[],.nil,rfl,rfl⟩
 | v::vs,h=>by
  rw [List.mapM_cons]
  refine qaW (qaZ (znN (h v (qau ..))) ?_ fun _ _ e=>e)
  rintro r s' ⟨es,n,t,rfl⟩
  rw [es]
  refine qaW (qaZ (zhN vs fun u hu=>h u (qan _ hu)) ?_ fun _ _ e=>e)
  rintro r s' ⟨es,us,ns,h1,rfl,h3⟩
  rw [es]
  exact qaX ⟨rfl,.int n t::us,n::ns,.cons n t h1,rfl,by simp [h3]⟩
theorem zpz {vs:List Value} (h: ∀ v,v∈vs->zg3 s.heap v) (h0:2<=vs.length) {E:Value->Shared->Prop} {Q:SortKind->Shared->Prop} (hq:Q (tuples' true) s):wpAny (model prog w) A (keyKind' vs.toArray) Q E s:=by
 rw [keyKind'_eq,List.mapM_toArray,map_eq_pure_bind,bind_assoc]
 refine qaW (qaZ (zhN vs h) ?_ fun _ _ e=>e)
 rintro r s' ⟨rfl,us,ns,h1,rfl,h3⟩
 rw [pure_bind]
 rw [qa4 (by simp)]
 refine qaW (wpAny_rule ?_)
 have e1:Array.filterMap id (us.map some).toArray=us.toArray:=by simp
 rw [e1,oneTypeOnly'_eq,List.mapM_toArray,mapM_typeOf_ints h1]
 simp only [map_pure,pure_bind]
 obtain ⟨u,us',rfl⟩: ∃ u us',us=u::us':=by
  cases us with
  | nil=>simp at h3;omega
  | cons u us'=>exact ⟨u,us',rfl⟩
 have hall:((List.map (fun _=>Value.type "int") (u::us')).toArray.all fun x=>x==Value.type "int")=true:=by
  simp only [List.all_toArray,List.all_map,List.all_eq_true]
  intro _ _
  rfl
 have h0':(List.map (fun _=>Value.type "int") (u::us')).toArray[0]? = some (Value.type "int"):=by simp
 rw [h0']
 simp only [hall,if_true,pure_bind]
 exact qaX hq
end
theorem zoy: ∀ a b c:List Int,HT.zbd a b=true->HT.zbd b c=true->HT.zbd a c=true
 | [],[],_,h,_=>by cases h
 | [],_::_,[],_,h=>by cases h
 | [],_::_,_::_,_,_=>rfl
 | _::_,[],_,h,_=>by cases h
 | _::_,_::_,[],_,h=>by cases h
 | x::a,y::b,z::c,h1,h2=>by
  rw [HT.zbf] at h1 h2 ⊢
  have ih:=zoy a b c
  split at h1<;>split at h2<;>split<;>simp_all<;>omega
theorem zoP: ∀ a b c:List Int,HT.zbd a c=true->HT.zbd a b=true\/HT.zbd b c=true
 | [],_,[],h=>by cases h
 | [],[],_::_,_=> .inr rfl
 | [],_::_,_::_,_=> .inl rfl
 | _::_,_,[],h=>by cases h
 | _::_,[],_::_,_=> .inr rfl
 | x::a,y::b,z::c,h=>by
  rw [HT.zbf] at h ⊢
  rw [HT.zbf]
  have ih:=zoP a b c
  split at h<;>split<;>split<;>simp_all<;>omega
theorem zpa: ∀ a b:List Int,HT.zbd a b=false->HT.zbd b a=false->a=b
 | [],[],_,_=>rfl
 | [],_::_,h,_=>by cases h
 | _::_,[],_,h=>by cases h
 | x::a,y::b,h1,h2=>by
  rw [HT.zbf] at h1 h2
  have ih:=zpa a b
  split at h1<;>split at h2<;>simp_all<;>omega
noncomputable def zvo:KeyOrd:=⟨List Int,HT.zbd,L3.zdP,zoy,zoP,zpa⟩
theorem zqw {h:Heap} {v:Value} {p q:List Int} (h1:zgv h v p) (h2:zgv h v q):p=q:=by
 obtain ⟨a,its,rfl,⟨o,e1,_,n1,d1⟩,hi⟩:=h1
 obtain ⟨b,its',eb,⟨o',e1',_,n1',d1'⟩,hj⟩:=h2
 cases eb
 rw [e1] at e1'
 cases e1'
 rw [d1] at d1'
 injection d1' with z1 _
 have z5:its=its':=by simpa using congrArg Array.toList z1
 subst z5
 exact L3.zgg hi hj
theorem zgv.keep {h h':Heap} {v:Value} {p:List Int} (k: ∀ b o,h.get? b=some o->h'.get? b=some o):zgv h v p->zgv h' v p:=fun ⟨a,its,e,⟨o,x1,x2⟩,z⟩=>⟨a,its,e,⟨o,k _ _ x1,x2⟩,z⟩
theorem zmu {h:Heap} {v:Value} {p:List Int} (h1:zgv h v p) (hp:p≠[]):zg3 h v:=by
 obtain ⟨a,its,rfl,ha,hi⟩:=h1
 cases hi with
 | nil=>exact absurd rfl hp
 | cons n t r=>exact ⟨a,_,n,t,rfl,ha,rfl⟩
structure KR where
 O:KeyOrd
 dflt:O.α
 At:Heap->Value->O.α->Prop
 inj: ∀ {h v p q},At h v p->At h v q->p=q
 keep: ∀ {h h':Heap} {v p},(∀ b o,h.get? b=some o->h'.get? b=some o)->At h v p->At h' v p
 first: ∀ {h v p},At h v p->zg3 h v
 lt: ∀ {prog:Program} {w:World} {A:Around} {s:Shared} {E:Value->Shared->Prop} {Q:Bool->Shared->Prop} {u v p q},At s.heap v p->At s.heap u q->A.units+2<cLine->Q (O.blt p q) s->wpAny (model prog w) A (keyLt' (tuples' true) v u) Q E s
noncomputable def krT:KR:=⟨zvo,[],fun h v p=>zgv h v p/\p≠[],fun h1 h2=>zqw h1.1 h2.1,fun k h=>⟨h.1.keep k,h.2⟩,fun h=>zmu h.1 h.2,fun h1 h2 _ hq=>zkd h1.1 h2.1 hq⟩
open Classical in
noncomputable def KR.ky (k:KR) (h:Heap) (v:Value):k.O.α:=if e: ∃ p,k.At h v p then e.choose else k.dflt
theorem KR.ky_eq {k:KR} {h:Heap} {v:Value} {p:k.O.α} (e:k.At h v p):k.ky h v=p:=by
 unfold KR.ky
 rw [dif_pos ⟨p,e⟩]
 exact k.inj (Exists.choose_spec ⟨p,e⟩) e
theorem KR.srt (k:KR) {prog:Program} {w:World} {A:Around} {vs:List Value} {s1:Shared} (hr:A.units+2<cLine) (h: ∀ v,v∈vs-> ∃ p,k.At s1.heap v p):Srt prog w A vs s1 (tuples' true) k.O (k.ky s1.heap) (fun v=> ∃ p,k.At s1.heap v p):=by
 refine ⟨h,fun s2 hk=>⟨fun h2 E Q hq=>zpz (fun v hv=> ?_) h2 hq,fun E x y Q hx hy hq=> ?_⟩⟩
 ·obtain ⟨p,hp⟩:=h v hv
  exact k.first (k.keep hk hp)
 ·obtain ⟨p,hp⟩:=hx
  obtain ⟨q,hq'⟩:=hy
  rw [KR.ky_eq hp,KR.ky_eq hq'] at hq
  exact k.lt (k.keep hk hp) (k.keep hk hq') hr hq
end TS
namespace TS
set_option autoImplicit false
theorem zmD {α β:Type} {R:α->β->Prop} {l l':List β} (hp:l'.Perm l): ∀ {as:List α},PySem.Paired R as l-> ∃ as',as'.Perm as/\PySem.Paired R as' l':=by
 induction hp with
 | nil=>intro as h;exact ⟨as,.refl _,h⟩
 | cons x _ ih=>
  intro as h
  cases h with
  | cons r t=>
   obtain ⟨as',h1,h2⟩:=ih t
   exact ⟨_::as',h1.cons _,.cons r h2⟩
 | swap x y l=>
  intro as h
  cases h with
  | cons r t=>
   cases t with
   | cons r2 t2=>exact ⟨_,.swap _ _ _,.cons r2 (.cons r t2)⟩
 | trans _ _ ih1 ih2=>
  intro as h
  obtain ⟨a1,g1,g2⟩:=ih2 h
  obtain ⟨a2,g3,g4⟩:=ih1 g2
  exact ⟨a2,g3.trans g1,g4⟩
noncomputable def zq6 {α:Type} (lt:α->α->Bool) (x:α):List α->List α
 | []=>[x]
 | y::r=>if lt x y then x::y::r else y::zq6 lt x r
noncomputable def zg4 {α:Type} (lt:α->α->Bool):List α->List α
 | []=>[]
 | x::r=>zq6 lt x (zg4 lt r)
theorem zeZ {α:Type} (lt:α->α->Bool) (x:α): ∀ l:List α,(zq6 lt x l).Perm (x::l)
 | []=> .refl _
 | y::r=>by
  unfold zq6
  split
  ·exact .refl _
  ·exact ((zeZ lt x r).cons y).trans (.swap _ _ _)
theorem zdp {α:Type} (lt:α->α->Bool): ∀ l:List α,(zg4 lt l).Perm l
 | []=> .refl _
 | x::r=>(zeZ lt x _).trans ((zdp lt r).cons x)
theorem zlq (O:KeyOrd) (x:O.α): ∀ l:List O.α,l.Pairwise O.kle->(zq6 O.blt x l).Pairwise O.kle
 | [],_=>List.pairwise_singleton _ _
 | y::r,h=>by
  unfold zq6
  have h':=qay.mp h
  split
  ·rename_i hl
   refine qay.mpr ⟨fun z hz=> ?_,h⟩
   rcases qaP.mp hz with rfl | hz
   ·exact KeyOrd.kle_of_klt hl
   ·exact KeyOrd.kle_trans (KeyOrd.kle_of_klt hl) (h'.1 z hz)
  ·rename_i hl
   refine qay.mpr ⟨fun z hz=> ?_,zlq O x r h'.2⟩
   rcases qaP.mp ((zeZ _ _ _).mem_iff.mp hz) with rfl | hz
   ·exact KeyOrd.kle_of_not_klt hl
   ·exact h'.1 z hz
theorem zi6 (O:KeyOrd): ∀ l:List O.α,(zg4 O.blt l).Pairwise O.kle
 | []=> .nil
 | x::r=>zlq O x _ (zi6 O r)
theorem znc (O:KeyOrd) {l l':List O.α} (hp:l'.Perm l) (hs:l'.Pairwise O.kle):l'=zg4 O.blt l:=
 List.Perm.eq_of_pairwise (le:=O.kle) (fun a b _ _ h1 h2=>KeyOrd.kle_antisymm h1 h2) hs (zi6 O l) (hp.trans (zdp _ _).symm)
end TS
namespace L2
open TS
section
variable {X:L2.Cx}
theorem zhf (k:KR) {VA:W.Frag->Hp->V->k.O.α->Prop} (of: ∀ {pins:List (Addr×Obj)} {σ:L2.St} {H:Hp} {s:Shared} {v:V} {u:Value} {p:k.O.α},Inv X pins σ H s->VA X.K H v p->zbB v u->k.At s.heap u p) (hu:X.A.units+60<cLine):
  zaz X (.builtin "sorted") (fun xs H Q=> ∃ (a:Addr) (zs:List (V×k.O.α)),xs=[.ref a]/\SqL X.K H a (zs.map (·.1))/\(∀ z,z∈zs->VA X.K H z.1 z.2)/\
    ∀ zs':List (V×k.O.α),zs'.Perm zs->zs'.Pairwise (fun x y=>k.O.kle x.2 y.2)-> ∀ l,H l=none->Q (.ref l) (upd H l (.lst (zs'.map (·.1))))):=by
 intro pins s σ H xs us Q I r h
 obtain ⟨a,zs,rfl,hq,hv,q⟩:=h
 obtain ⟨u,rfl,rx⟩:=zcX r
 cases rx
 obtain ⟨its,r',pl,hz⟩:=I.list hq
 have lz:its.length=zs.length:=by rw [<- r'.length,qaH]
 have mk: ∀ {zs:List (V×k.O.α)} {its:List Value},zba (zs.map (·.1)) its->(∀ z,z∈zs->VA X.K H z.1 z.2)->PySem.Paired (fun z u=>zbB z.1 u/\k.At s.heap u z.2) zs its:=by
  intro zs
  induction zs with
  | nil=>intro its h _;cases h;exact .nil
  | cons z zs ih=>
   intro its h hv
   cases h with
   | cons r t=>exact .cons ⟨r,of I (hv z (qau ..)) r⟩ (ih t fun y hy=>hv y (qan _ hy))
 have hp:=mk r' hv
 have back: ∀ {zs:List (V×k.O.α)} {its:List Value},PySem.Paired (fun z u=>zbB z.1 u/\k.At s.heap u z.2) zs its->zba (zs.map (·.1)) its/\(its.Pairwise (fun x y=>k.O.kle (k.ky s.heap x) (k.ky s.heap y))->zs.Pairwise (fun x y=>k.O.kle x.2 y.2))/\(∀ u,u∈its-> ∃ p,k.At s.heap u p)/\ ∀ y,y∈zs-> ∃ u,u∈its/\k.ky s.heap u=y.2:=by
  intro zs its h
  induction h with
  | nil=>exact ⟨.nil,fun _=> .nil,fun u hu=>(qaF hu).elim,fun u hu=>(qaF hu).elim⟩
  | cons r t ih=>
   obtain ⟨i1,i2,i3,i4⟩:=ih
   refine ⟨.cons r.1 i1,fun hh=> ?_,fun u hu=> ?_,fun y hy=> ?_⟩
   ·have hh':=qay.mp hh
    refine qay.mpr ⟨fun y hy=> ?_,i2 hh'.2⟩
    obtain ⟨u,u1,u2⟩:=i4 y hy
    have:=hh'.1 u u1
    rw [u2,KR.ky_eq r.2] at this
    exact this
   ·rcases qaP.mp hu with rfl | hu
    ·exact ⟨_,r.2⟩
    ·exact i3 u hu
   ·rcases qaP.mp hy with rfl | hy
    ·exact ⟨_,qau .., KR.ky_eq r.2⟩
    ·obtain ⟨u,u1,u2⟩:=i4 y hy
     exact ⟨u,qan _ u1,u2⟩
 have zl:its.length<=sizeLine:=by rw [lz, <-qaH (f:=(·.1))];exact hz
 refine zkb fun E'=>collect_list pl.isList ?_ zl
 have kp: ∀ b ob,s.heap.get? b=some ob->((s.heap.push (seqObj "list" #[] 0)).update s.heap.objs.size (Obj.mapSeq fun x=>x++its.toArray)).get? b=some ob:=fun b ob eb=>
  (qah _ _ (fun z=>qaN _ (z▸qaQ eb))).trans (qag _ eb)
 refine ⟨zl,_,_,_,_,k.srt (by rw [Around.in1_units,Around.in1_units];omega) (fun v hv=> ?_),fun out e h' ho hs k2 e2=> ?_⟩
 ·obtain ⟨p,hp'⟩:=(back hp).2.2.1 v hv
  exact ⟨p,k.keep kp hp'⟩
 ·obtain ⟨zs',g1,g2⟩:=zmD ho hp
  obtain ⟨b1,b2,b3,_⟩:=back g2
  have I1:=I.grown (s':={s with heap:=(s.heap.push (seqObj "list" #[] 0)).update s.heap.objs.size (Obj.mapSeq fun x=>x++its.toArray)}) rfl rfl kp
  refine ⟨.ref _,_,I1.laid (t':=s.toks) (o:= .lst (zs'.map (·.1))) k2 (qaV _) ⟨?_,out,e,b1,e2⟩,rfl,q zs' g1 (b2 ?_) _ (I1.hok.fresh (qaV _))⟩
  ·rw [qaH,g1.length_eq, <-lz]
   exact zl
  ·refine List.Pairwise.imp_of_mem ?_ hs
   intro x y hx hy hxy
   obtain ⟨p,hp'⟩:=b3 x hx
   obtain ⟨q',hq'⟩:=b3 y hy
   rw [KR.ky_eq (k.keep kp hp'),KR.ky_eq (k.keep kp hq')] at hxy
   rw [KR.ky_eq hp',KR.ky_eq hq']
   exact hxy
end
end L2
namespace L3
open L2 TS
section
variable {X:L2.Cx} {E:XE}
def mkT (p:List Int):D:= .tup (p.map D.int)
theorem zjH: ∀ {ds:List D} {ns:List Int},zbO ds=some ns->ds=ns.map D.int
 | [],ns,e=>by cases e;rfl
 | d::r,ns,e=>by
  unfold zbO at e
  cases d with
  | int i=>
   dsimp only at e
   cases z:zbO r with
   | none=>rw [z] at e;cases e
   | some ms=>
    rw [z] at e
    cases e
    rw [qaM,zjH z]
  | _=>cases e
def zmH:D->Option (List Int)
 | .tup ds=>match zbO ds with
  | some []=>none
  | o=>o
 | _=>none
def zhq {α:Type} (f:D->Option α):List D->Option (List α)
 | []=>some []
 | d::r=>(f d).bind fun p=>(zhq f r).map fun ps=>p::ps
def zmM {α:Type} (f:D->Option α) (mk:α->D) (lt:α->α->Bool):List D->M D:=zmb fun d=>do
 let ds<-zkw d
 let ps<-ofO (match d with | .tup _=>none | _=>zhq f ds)
 pure (.lst ((zg4 lt ps).map mk))
def ziP:List D->M D:=zmM zmH mkT HT.zbd
theorem zhU {α:Type} {f:D->Option α} {mk:α->D} {K:W.Frag} {ι:Io} {H:Hp} {VA:V->α->Prop} (hf: ∀ {d v p},Rel K ι H d v->f d=some p->d=mk p/\VA v p): ∀ {ds:List D} {vs:List V} {ps:List α},zas K ι H ds vs->zhq f ds=some ps->
  ∃ zs:List (V×α),zs.map (·.1)=vs/\zs.map (·.2)=ps/\ ∀ z,z∈zs->VA z.1 z.2/\Rel K ι H (mk z.2) z.1
 | [],vs,ps,h,e=>by
  simp only [zas] at h
  subst h
  cases e
  exact ⟨[],rfl,rfl,fun z hz=>(qaF hz).elim⟩
 | d::r,vs,ps,h,e=>by
  simp only [zas] at h
  obtain ⟨v,r',rfl,h1,h2⟩:=h
  unfold zhq at e
  cases z:f d with
  | none=>rw [z] at e;cases e
  | some p=>
   rw [z] at e
   cases z2:zhq f r with
   | none=>rw [z2] at e;cases e
   | some qs=>
    rw [z2] at e
    cases e
    obtain ⟨zs,g1,g2,g3⟩:=zhU hf h2 z2
    obtain ⟨k1,k2⟩:=hf h1 z
    refine ⟨(v,p)::zs,by rw [qaM,g1],by rw [qaM,g2],fun y hy=> ?_⟩
    rcases qaP.mp hy with rfl | hy
    ·exact ⟨k2,k1▸h1⟩
    ·exact g3 y hy
theorem zjf {α:Type} {mk:α->D} {K:W.Frag} {ι:Io} {H:Hp}: ∀ {zs:List (V×α)},(∀ z,z∈zs->Rel K ι H (mk z.2) z.1)->zas K ι H ((zs.map (·.2)).map mk) (zs.map (·.1))
 | [],_=>by simp [zas]
 | z::zs,h=>by
  simp only [qaM,zas]
  exact ⟨_,_,rfl,h z (qau ..),zjf fun y hy=>h y (qan _ hy)⟩
theorem zih (k:KR) {f:D->Option k.O.α} {mk:k.O.α->D} {VA:W.Frag->Hp->V->k.O.α->Prop} (of: ∀ {pins:List (Addr×Obj)} {σ:L2.St} {H:Hp} {s:Shared} {v:V} {u:Value} {p:k.O.α},Inv X pins σ H s->VA X.K H v p->zbB v u->k.At s.heap u p)
  (hf: ∀ {ι:Io} {H:Hp} {d:D} {v:V} {p:k.O.α},Rel X.K ι H d v->f d=some p->d=mk p/\VA X.K H v p) (hu:X.A.units+60<cLine):zaz X (.builtin "sorted") (zgj X.K E (zmM f mk k.O.blt)):=by
 refine zaz.imp (zhf k of hu) fun xs H Q ⟨ι,h,ds,rl,hr,q⟩=> ?_
 obtain ⟨d,v,e,r,q⟩:=zbJ rl q
 obtain ⟨a,vs,ds',e',hs,rl',q⟩:=zcz hr r q
 obtain ⟨ps,ep,q⟩:=Fin.ofOb q
 rcases hs with ⟨hs,hd⟩ | ⟨hs,hd⟩
 ·have ep':zhq f ds'=some ps:=by
   cases d with
   | tup ts=>exact absurd rfl (hd ts)
   | _=>exact ep
  obtain ⟨zs,g1,g2,g3⟩:=zhU (VA:=VA X.K H) hf rl' ep'
  refine ⟨a,zs,by rw [e,e'],by rw [g1];exact hs,fun z hz=>(g3 z hz).1,fun zs' hp hw l hl=> ?_⟩
  have e3:zs'.map (·.2)=zg4 k.O.blt ps:=by
   refine znc k.O ?_ ?_
   ·rw [<- g2];exact hp.map _
   ·rw [List.pairwise_map];exact hw
  refine zo9 (E:=E) hr (zjf (mk:=mk) (zs:=zs') fun z hz=>(g3 z (hp.mem_iff.mp hz)).2) ?_ hl
  rw [e3]
  exact q
 ·subst hd
  cases ep
def zvJ (K:W.Frag) (H:Hp) (v:V) (p:List Int):Prop:=p≠[]/\ ∃ a,v= .ref a/\SqT K H a (p.map V.int)
theorem ziw (hu:X.A.units+60<cLine):zaz X (.builtin "sorted") (zgj X.K E ziP):=
 zih krT (VA:=zvJ) (fun I h r=>by
   obtain ⟨h0,a,rfl,h1⟩:=h
   cases r
   obtain ⟨its,r1,p1,_⟩:=I.tuple h1
   exact ⟨⟨a,its,rfl,p1,zbt r1⟩,h0⟩) (fun {ι H d v p} r e=>by
   unfold zmH at e
   split at e
   · rename_i ds
     obtain ⟨a,vs,rfl,h1,h2⟩:=zcV r
     cases z:zbO ds with
     | none=>rw [z] at e;cases e
     | some ns=>
       rw [z] at e
       cases ns with
       | nil=>cases e
       | cons n ns=>
         cases e
         have:=zbR h2 z
         subst this
         exact ⟨by rw [zjH z];rfl,by simp,a,rfl,h1⟩
   · cases e) hu
end
end L3
namespace L3
open L2
section
variable {X:Cx} {E:XE}
end
section
variable {X:Cx} {E:XE} {scope:Scope} {N:List Str} {src:List (Option Nat)} {tg iter elt:Expr} {ifs:List Expr} {pos:Pos}
noncomputable def zrb (d:D):M D:=match d with
 | .cel n=>fun h=>match h[n]? with
  | some (.lst ds)=> .ok (.lst ds) (h.set n .dead)
  | _=> .bad
 | _=>M.bad
theorem ztq {e:Expr} {f:FE} (he:SE X E e f):SE X E e (cUn zrb f):=by
 refine PE.imp he fun σ H Q ⟨ι,h,sd,L,hh,q⟩=>⟨ι,h,sd,L,hh,Fin.bind q fun d h1 ι1 H1 e1 s1 hr1 q1 v rv=> ?_⟩
 cases d with
 | cel n=>
  simp only [Rel] at rv
  obtain ⟨a,rfl,hn⟩:=rv
  rcases hn with hn | hn
  rotate_left
  ·have hd:=hr1.dead n hn
   have:Fin X.K E ι1 H1 (match h1[n]? with | some (.lst ds)=>R.ok (D.lst ds) (h1.set n .dead) | _=> .bad) _:=q1
   rw [hd] at this
   exact qa0 this
  have hlt:=(qac.mp hn).1
  have hl:=hr1.len
  obtain ⟨c,hc⟩: ∃ c,h1[n]? = some c:=⟨h1[n],by simp [hl,hlt]⟩
  obtain ⟨ds,vs,rfl,e2,rl⟩: ∃ ds vs,c= .lst ds/\H1 a=some (.lst vs)/\zas X.K ι1 H1 ds vs:=by
   obtain ⟨o,e1,e2⟩:=hr1.at_ n a c hn hc
   cases c with
   | lst ds=>obtain ⟨vs,rfl,rl⟩:=e2;exact ⟨ds,vs,rfl,e1,rl⟩
   | dic kvs=>
    have:Fin X.K E ι1 H1 (match h1[n]? with | some (.lst ds)=>R.ok (D.lst ds) (h1.set n .dead) | _=> .bad) _:=q1
    rw [hc] at this
    exact qa0 this
   | dit ks=>
    have:Fin X.K E ι1 H1 (match h1[n]? with | some (.lst ds)=>R.ok (D.lst ds) (h1.set n .dead) | _=> .bad) _:=q1
    rw [hc] at this
    exact qa0 this
   | ins _ _=>
    have:Fin X.K E ι1 H1 (match h1[n]? with | some (.lst ds)=>R.ok (D.lst ds) (h1.set n .dead) | _=> .bad) _:=q1
    rw [hc] at this
    exact qa0 this
   | dead=>exact qa0 e2
  have q2:Fin X.K E ι1 H1 (.ok (.lst ds) (h1.set n .dead)) fun d ι' H'=> ∀ v,Rel X.K ι' H' d v->Q v H':=by
   have:Fin X.K E ι1 H1 (match h1[n]? with | some (.lst ds)=>R.ok (D.lst ds) (h1.set n .dead) | _=> .bad) _:=q1
   rw [hc] at this
   exact this
  have mem: ∀ b,some b∈ι1.c.set n none->some b∈ι1.c:=fun b hb=>by
   rcases List.mem_or_eq_of_mem_set hb with z | z
   ·exact z
   ·cases z
  have st:zbT ι1 H1 ⟨ι1.c.set n none,ι1.x⟩ H1:=by
   refine ⟨fun k o hk=> ?_,fun b hb=> .inl (mem b hb),rfl,fun _ _=>rfl,fun _ _ h _=>h⟩
   by_cases hkn:n=k
   ·subst hkn
    right
    show (ι1.c.set n none)[n]? = _
    rw [qai hlt]
   ·left
    show (ι1.c.set n none)[k]? = _
    rw [qao hkn]
    exact hk
  have hna:some a∉ι1.c.set n none:=fun z=>by
   obtain ⟨k,hk⟩:=List.getElem?_of_mem z
   by_cases hkn:n=k
   ·subst hkn
    rw [qai hlt] at hk
    cases hk
   ·rw [qao hkn] at hk
    exact hkn (hr1.inj n k a hn hk)
  have hrn:za8 X.K ⟨ι1.c.set n none,ι1.x⟩ H1 (h1.set n .dead):=by
   refine ⟨by simp [hl],fun i j b hi hj=> ?_,fun k b c' hk hc'=> ?_,fun k hk=> ?_,fun b hb=>⟨(hr1.hidt b hb).1,fun z=>(hr1.hidt b hb).2 (mem b z)⟩⟩
   ·have hi:(ι1.c.set n none)[i]? = some (some b):=hi
    have hj:(ι1.c.set n none)[j]? = some (some b):=hj
    have key: ∀ k,(ι1.c.set n none)[k]? = some (some b)->ι1.c[k]? = some (some b):=fun k hk=>by
     by_cases hkn:n=k
     ·subst hkn
      rw [qai hlt] at hk
      cases hk
     ·rw [qao hkn] at hk
      exact hk
    exact hr1.inj i j b (key i hi) (key j hj)
   ·have hk:(ι1.c.set n none)[k]? = some (some b):=hk
    by_cases hkn:n=k
    ·subst hkn
     rw [qai hlt] at hk
     cases hk
    ·rw [qao hkn] at hk hc'
     obtain ⟨o',x2,x3⟩:=hr1.at_ k b c' hk hc'
     exact ⟨o',x2,x3.pass st.pass⟩
   ·have hk:(ι1.c.set n none)[k]? = some none:=hk
    by_cases hkn:n=k
    ·subst hkn
     rw [qai ⋯]
    ·rw [qao hkn] at hk ⊢
     exact hr1.dead k hk
  refine q2 _ _ st hrn (.ref a) ?_
  simp only [Rel]
  refine ⟨a,vs,rfl,⟨e2,fun z=> ?_⟩,rl.step st⟩
  rcases z with z | z
  ·exact hna z
  ·exact (hr1.hidt a z).2 (List.mem_of_getElem? hn)
 | _=>exact qa0 q1
end
end L3
namespace L3
open PySem.Sem (wp)
open PySem.AutoSeq1 (wpAny_loadPart')
section
variable {prog:Program} {w:World} {A:Around} {E:Value->Shared->Prop} {s:Shared}
end
end L3
namespace L2
section
variable {X:Cx} {elts:List Expr} {k:Nat} {tpos:Pos}
end
end L2
namespace L3
open L2
section
variable {X:Cx} {E:XE} {elts:List Expr} {k:Nat} {tpos pos:Pos}
end
end L3
namespace L2
section
variable {κ:Type} [DecidableEq κ]
end
section
variable {X:Cx}
end
end L2
namespace L3
open L2
section
variable {X:L2.Cx} {E:XE}
end
open LT
section
variable {h:Hh}
end
end L3
namespace L3
open L2
structure Fd (K:W.Frag) (x:Str) (st:Stmt) (a:Addr) (d:FuncData):Prop where
 e:W.nsIn K mainGlobals x=some (some (.ref a))
 F:Fun K x x st a d
section
variable {X:Cx} {E:XE}
end
end L3
namespace L3
open HT
section
open PySem.SeqAt
open PySem.AutoSeq1 (wpAny_loadPart')
open PySem.MeetsSeq PySem.MeetsSeq2 PySem.MeetsSeq3
end
section
variable {prog:Program} {w:World} {A:Around} {E:Value->Shared->Prop} {s:Shared}
end
end L3
namespace L3
section
open PySem.SeqAt
open PySem.AutoSeq1 (wpAny_loadPart')
open PySem.MeetsSeq PySem.MeetsSeq2 PySem.MeetsSeq3
section
variable {prog:Program} {w:World} {A:Around} {E:Value->Shared->Prop} {s:Shared}
end
end
open L2
section
variable {X:Cx} {E:XE}
end
end L3
namespace L2
section
variable {X:Cx}
theorem zk4:zaz X (.builtin "abs") (fun xs H Q=> ∃ i,xs=[.int i]/\Q (.int (if i<0 then -i else i)) H):=by
 intro pins s σ H xs us Q I r h
 obtain ⟨i,rfl,q⟩:=h
 obtain ⟨u,rfl,t,rfl⟩:=zcX r
 exact call_abs_int fun u tk=>⟨.int (if i<0 then -i else i),H,I.tok _,⟨_,rfl⟩,q⟩
end
end L2
namespace L3
open L2
section
variable {X:Cx} {E:XE}
def zri:List D->M D
 | [.int i]=>pure (.int (if i<0 then -i else i))
 | _=>M.bad
theorem zh1:zaz X (.builtin "abs") (zgj X.K E zri):=by
 refine zaz.imp zk4 fun xs H Q ⟨ι,h,ds,rl,hr,q⟩=> ?_
 unfold zri at q
 split at q
 ·simp only [zas,Rel] at rl
  obtain ⟨v,r,rfl,rfl,rfl⟩:=rl
  exact ⟨_,rfl,Fin.out hr q _ (by simp [Rel])⟩
 ·exact qa0 q
def zq9 (i j:Nat) (fs:FA):FS:=fun sd=>do let ds<-fs sd;match ds with | [d,d']=>pure (.nx ((sd.set i (some d)).set j (some d'))) | _=>M.bad
theorem ztl {x y:Str} {a b:Expr} {fs:FA} {px py pt pos:Pos} {kt k2 pt2} (i j:Nat) (hc:X.calm=true) (hN:X.N.Nodup) (ha:SA X E [a,b] fs) (hi:X.N[i]? = some x:=by rfl) (hj:X.N[j]? = some y:=by rfl) (hij:i≠j:=by decide)
  (hx:X.env.scope.names.lookup x=some .local:=by rfl) (hy:X.env.scope.names.lookup y=some .local:=by rfl)
  (hw:swappedStores [.Tuple [.Name x px,.Name y py] kt pt] (.Tuple [a,b] k2 pt2) X.env=pure (some [x,y]):=by rfl)
  (hs:swapsWithSole [.Tuple [.Name x px,.Name y py] kt pt] (.Tuple [a,b] k2 pt2) pos.line X.env=pure false:=by rfl):
  SS X E (.Assign [.Tuple [.Name x px,.Name y py] kt pt] (.Tuple [a,b] k2 pt2) pos) (zq9 i j fs):=ztE (zsu hc hN hi hj hij hx hy ha hw hs)
end
open Classical in
noncomputable def chk (n:Nat) (ds:List D):M Unit:=fun h=>if h[n]? = some (.lst ds) then .ok () h else .bad
section
variable {X:Cx} {E:XE} {scope:Scope} {N:List Str} {src:List (Option Nat)} {tg iter elt:Expr} {ifs:List Expr} {pos:Pos}
end
end L3
namespace L3
open L2
noncomputable def zbQ (n:Nat) (full:List D) (body:D->Sd->M Out):List D->Sd->M Out
 | [],sd=>do chk n full;pure (.nx sd)
 | x::r,sd=>do
  chk n full
  let o<-body x sd
  match o with
  | .nx sd'=>zbQ n full body r sd'
  | .ct sd'=>zbQ n full body r sd'
  | .bk sd'=>pure (.nx sd')
  | .rt d=>pure (.rt d)
noncomputable def zpX (f:FE) (g:D->Sd->M Sd) (gb:FS):FS:=fun sd=>do
 let d<-f sd
 match d with
 | .cel n=>do
  let ds<-zai n
  zbQ n ds (fun x sd=>do let sd1<-g x sd;gb sd1) ds sd
 | _=>M.bad
section
variable {X:Cx} {E:XE} {pos:Pos}
theorem zjh {β:Type} {K:W.Frag} {ι:Io} {H:Hp} {h:Hh} {n:Nat} {ds:List D} {m:M β} {P:β->Io->Hp->Prop} (q:Fin K E ι H (((do chk n ds;m):M β) h) P):h[n]? = some (.lst ds)/\Fin K E ι H (m h) P:=by
 have e:((do chk n ds;m):M β) h=match chk n ds h with | .ok _ h'=>m h' | .exc c h'=> .exc c h' | .bad=> .bad:=by
  show M.bind (chk n ds) (fun _=>m) h=_
  unfold M.bind
  cases chk n ds h<;>rfl
 rw [e] at q
 unfold chk at q
 by_cases hc:h[n]? = some (.lst ds)
 ·rw [qa4 hc] at q
  exact ⟨hc,q⟩
 ·rw [qa5 hc] at q
  exact qa0 q
theorem zn4 {β:Type} {K:W.Frag} {ι:Io} {H:Hp} {h:Hh} {n:Nat} {f:List D->M β} {P:β->Io->Hp->Prop} (q:Fin K E ι H (((do let ds<-zai n;f ds):M β) h) P): ∃ ds,h[n]? = some (.lst ds)/\Fin K E ι H (f ds h) P:=by
 have q:Fin K E ι H (M.bind (zai n) f h) P:=q
 unfold M.bind at q
 cases hc:h[n]? with
 | none=>
  have e:zai n h= .bad:=by unfold zai;rw [hc]
  rw [e] at q
  exact qa0 q
 | some c=>
  cases c with
  | lst ds=>
   have e:zai n h= .ok ds h:=by unfold zai;rw [hc]
   rw [e] at q
   exact ⟨ds,rfl,q⟩
  | _=>
   have e:zai n h= .bad:=by unfold zai;rw [hc]
   rw [e] at q
   exact qa0 q
theorem zrh {tg iter:Expr} {body:List Stmt} {f:FE} {g:D->Sd->M Sd} {gb:FS} (hc:X.calm=true) (hp:PassesOwn (model X.prog X.w) X.A X.env X.xe) (hi:SE X E iter f) (hg:SG X E tg g) (hb:SSs X E body gb)
  (hs: ∀ x,foldedSetIterable iter X.env x=pure x:=by intro _;rfl):SS X E (.For tg iter body [] pos) (zpX f g gb):=by
 refine PS.imp (zoE hp hc (zor hi) hg hb hs) fun D0 σ H ⟨ι,h,sd,L,hh,q⟩=>⟨ι,h,sd,L,hh,Fin.bind q fun d h1 ι1 H1 e1 s1 hr1 q1 v rv=> ?_⟩
 cases d with
 | cel n=>
  simp only [Rel] at rv
  obtain ⟨a,rfl,hn⟩:=rv
  obtain ⟨ds,hcl,q1⟩:=zn4 q1
  generalize hF:(fun (x:D) (sd:Sd)=>(do let sd1<-g x sd;gb sd1:M Out))=F at q1
  rcases hn with hn | hn
  rotate_left
  ·have:=hr1.dead n hn
   rw [hcl] at this
   cases this
  obtain ⟨o,eo1,eo2⟩:=hr1.at_ n a _ hn hcl
  obtain ⟨vs0,rfl,rl0⟩:=eo2
  refine ⟨a,rfl,.inl ⟨⟨vs0,.inl (.inl eo1)⟩,?_⟩⟩
  refine ⟨fun i m σ' H'=>m=ds.length - i/\i<=ds.length/\ ∃ ι' h' sd',zbT ι1 H1 ι' H'/\zc1 X.K ι' H' sd' σ'/\za8 X.K ι' H' h'/\Fin X.K E ι' H' (zbQ n ds F (ds.drop i) sd' h') (zeH X.K D0),
    ⟨_,rfl,Nat.zero_le _,ι1,h1,sd,zbT.refl _ _,L.step s1,hr1,by simpa using q1⟩,?_⟩
  rintro i m σ2 H2 ⟨rfl,hi2,ι2,h2,sd2,s2,L2,hr2,q2⟩
  have fact:h2[n]? = some (.lst ds)-> ∃ vs2,H2 a=some (.lst vs2)/\zas X.K ι2 H2 ds vs2:=fun hc=>by
   have hn2:ι2.c[n]? = some (some a):=by
    rcases s2.old n (some a) hn with z | z
    ·exact z
    ·have:=hr2.dead n z
     rw [hc] at this
     cases this
   obtain ⟨o,e1,e2⟩:=hr2.at_ n a _ hn2 hc
   obtain ⟨vs2,rfl,rl⟩:=e2
   exact ⟨vs2,e1,rl⟩
  by_cases hlt:i<ds.length
  ·right
   have edr:ds.drop i=ds[i]::ds.drop (i+1):=qae hlt
   rw [edr,zbQ] at q2
   obtain ⟨hc,q2⟩:=zjh q2
   obtain ⟨vs2,ev2,rlv⟩:=fact hc
   have sq:SqL X.K H2 a vs2:= .inl (.inl ev2)
   have hlv:=rlv.length
   refine ⟨⟨vs2,vs2[i]'⋯,sq,by simp⟩,fun σ' H'=>i+1<=ds.length/\ ∃ ι' h' sd',zbT ι1 H1 ι' H'/\zc1 X.K ι' H' sd' σ'/\za8 X.K ι' H' h'/\Fin X.K E ι' H' (zbQ n ds F (ds.drop (i+1)) sd' h') (zeH X.K D0),
     fun σ' H' p=>⟨ds.length - (i+1),⋯,rfl,p.1,p.2⟩,fun x H3 y=> ?_⟩
   obtain ⟨eH,y⟩:=y
   have eH:=eH.symm
   subst eH
   obtain ⟨d,ed,rd⟩:=rlv.getV (y vs2 sq)
   rw [qaf hlt] at ed
   rw [Option.some.inj ed] at q2
   refine ⟨ι2,h2,sd2,d,L2,hr2,rd,?_⟩
   have q5:Fin X.K E ι2 H2 ((g d sd2>>=fun sd1=>(gb sd1>>=fun o=>(match o with
     | .nx sd'=>zbQ n ds F (ds.drop (i+1)) sd'
     | .ct sd'=>zbQ n ds F (ds.drop (i+1)) sd'
     | .bk sd'=>pure (.nx sd')
     | .rt d=>pure (.rt d):M Out))) h2) (zeH X.K D0):=by
    have e:((do let o<-F d sd2;match o with
      | .nx sd'=>zbQ n ds F (ds.drop (i+1)) sd'
      | .ct sd'=>zbQ n ds F (ds.drop (i+1)) sd'
      | .bk sd'=>pure (.nx sd')
      | .rt d=>pure (.rt d):M Out) h2)=((g d sd2>>=fun sd1=>(gb sd1>>=fun o=>(match o with
      | .nx sd'=>zbQ n ds F (ds.drop (i+1)) sd'
      | .ct sd'=>zbQ n ds F (ds.drop (i+1)) sd'
      | .bk sd'=>pure (.nx sd')
      | .rt d=>pure (.rt d):M Out))) h2):=by
     rw [show F d sd2=(do let sd1<-g d sd2;gb sd1) by rw [<- hF]]
     show M.bind (M.bind (g d sd2) gb) _ h2=M.bind (g d sd2) _ h2
     unfold M.bind
     cases g d sd2 h2<;>rfl
    rw [<- e]
    exact q2
   refine Fin.bind q5 fun sd6 h6 ι6 H6 e6 s6 hr6 q6 σ6 L6=> ?_
   refine ⟨ι6,h6,sd6,L6,hr6,Fin.bind q6 fun o h7 ι7 H7 e7 s7 hr7 q7=> ?_⟩
   have st7:zbT ι1 H1 ι7 H7:=(s2.trans s6).trans s7
   cases o with
   | nx sd'=>exact fun σ' L'=>⟨hlt,ι7,h7,sd',st7,L',hr7,q7⟩
   | ct sd'=>exact fun σ' L'=>⟨hlt,ι7,h7,sd',st7,L',hr7,q7⟩
   | bk sd'=>exact fun σ' L'=>Fin.out (E:=E) (P:=zeH X.K D0) hr7 q7 σ' L'
   | rt d=>exact fun v rv=>Fin.out (E:=E) (P:=zeH X.K D0) hr7 q7 v rv
  ·left
   have e:i=ds.length:=by omega
   subst e
   rw [List.drop_length,zbQ] at q2
   obtain ⟨hc,q2⟩:=zjh q2
   obtain ⟨vs2,ev2,rlv⟩:=fact hc
   refine ⟨⟨vs2,.inl (.inl ev2),by rw [rlv.length];exact qaV _⟩,?_⟩
   exact Fin.out (E:=E) (P:=zeH X.K D0) hr2 q2 σ2 L2
 | _=>exact qa0 q1
end
end L3
namespace L2
section
variable {X:Cx}
theorem zfR: ∀ {ns:List Int} {its:List Value},zba (ns.map V.int) its-> ∃ xs:List (Int×Tok),its=xs.map (fun p=>Value.int p.1 p.2)/\xs.map (·.1)=ns
 | [],its,r=>by
  cases r
  exact ⟨[],rfl,rfl⟩
 | n::ns,its,r=>by
  cases r with
  | cons r1 r2=>
   obtain ⟨t,rfl⟩:=r1
   obtain ⟨xs,rfl,e⟩:=zfR r2
   exact ⟨(n,t)::xs,rfl,by rw [qaM,e]⟩
end
end L2
namespace L3
open L2
section
variable {X:L2.Cx} {E:XE}
end
section
variable {X:L2.Cx} {E:XE}
end
end L3
namespace L2
section
variable {X:Cx}
end
end L2
namespace L3
open L2
section
variable {X:L2.Cx} {E:XE}
end
end L3
namespace L3
open PySem.Sem (wp)
section
variable {prog:Program} {w:World} {A:Around} {E:Value->Shared->Prop} {s:Shared}
end
section
variable {prog:Program} {w:World} {A:Around} {E:Value->Shared->Prop} {s:Shared}
end
end L3
namespace L2
section
variable {X:Cx} {pins:List (Addr×Obj)} {σ:St} {H:Hp} {s:Shared} {h':Heap}
end
section
variable {X:Cx} {elts:List Expr} {k:Nat} {tpos:Pos}
end
end L2
namespace L3
open L2
section
variable {X:Cx} {E:XE} {elts:List Expr} {k:Nat} {tpos pos:Pos}
end
end L3
namespace L2
section
variable {X:Cx}
end
end L2
namespace L3
open L2
section
variable {X:L2.Cx} {E:XE}
end
end L3
namespace L3
open PySem.Sem (wp)
section
variable {prog:Program} {w:World} {A:Around} {E:Value->Shared->Prop} {s:Shared}
end
end L3
namespace L2
section
variable {X:Cx}
end
end L2
namespace L3
open L2
section
variable {X:L2.Cx} {E:XE}
variable {o e1 e2:Expr} {cpos apos:Pos} {fo:FE} {fs:FA}
end
structure zvQ (K:W.Frag) (c:String) (C:Addr) (names:List Str):Prop where
 at_:W.nsIn K mainGlobals (c:Str)=some (some (.ref C))
 cls:Cls K C
 no: ∀ f∈names,zrS K C f
structure Fm (K:W.Frag) (C:Addr) (m q:Str) (st:Stmt) (a:Addr) (d:FuncData):Prop where
 at_:W.findIn K (.ref C) m=some (some (.ref a))
 fn:W.isFn K (.ref a)=true
 F:Fun K m q st a d
section
variable {K:W.Frag} {ι:Io} {H:Hp}
end
section
variable {X:Cx} {E:XE} {o e v:Expr} {es:List Expr} {pos p cpos apos:Pos} {fo fe fv:FE} {fs:FA} {x m f:Str} {c:String} {C:Addr} {names:List Str}
section
variable {k n:Nat} {g:Addr} {fd:FuncData} {ps:List Str} {F:List D->M D} {pl:Sem Bool}
end
end
end L3
namespace L2
open L3
section
variable {X:Cx} {e:Expr} {te:TE} {pos p2:Pos}
end
end L2
namespace L3
open L2
section
variable {X:Cx} {E:XE}
variable {o:Expr} {cpos apos:Pos} {fo:FE}
end
end L3
section
end
namespace PySem
open PySem.AutoSeq1 (wpAny_loadPart')
end PySem
namespace L2
open L3
section
variable {X:Cx}
theorem zhe:zaz X (.type "range") (fun xs H Q=> ∃ i j:Int,xs=[.int i,.int j]/\ ∀ p,H p=none->Q (.ref p) (upd H p (.rng i j))):=by
 intro pins s σ H xs us Q I r h
 obtain ⟨i,j,rfl,q⟩:=h
 obtain ⟨u,w',rfl,⟨t,rfl⟩,⟨t',rfl⟩⟩:=zmN r
 refine call_range_2 ?_
 exact ⟨.ref s.heap.objs.size,_,I.laid (t':=s.toks+1) (o:= .rng i j) (fun b ob q=>qag _ q) (qaV _) ⟨_,_,_,qar _ rfl⟩,rfl,q _ (I.hok.fresh (qaV _))⟩
theorem zli {i j:Int} (h0:i<=j):Builtin.Range.rangeSize i j 1=((j - i).toNat:Int):=by
 unfold Builtin.Range.rangeSize
 rw [qa4 (by decide)]
 split
 ·rw [Int.ediv_one];omega
 ·omega
theorem zfu (hc:X.calm=true):zaz X (.type "tuple") (fun xs H Q=> ∃ (p:Addr) (i j:Int),xs=[.ref p]/\H p=some (.rng i j)/\i<=j/\ -1000<=i/\j<1000/\ ∀ l,H l=none->Q (.ref l) (upd H l (.tup (((List.range (j - i).toNat).map fun (k:Nat)=>i+(k:Int)).map V.int)))):=by
 intro pins s σ H xs us Q I r h
 obtain ⟨p,i,j,rfl,hp,h0,h1,h2,q⟩:=h
 obtain ⟨u,rfl,rx⟩:=zcX r
 cases rx
 obtain ⟨t,u',v,hr⟩:=(show zbG X.prog X.w H s.heap p (.rng i j) from I.hok p _ hp)
 refine callType_new F.called_tuple (by decide) (F.typeCall_tuple_1 _) (F.newCall_tuple_1 _) (fun obj=>F.args_object_init_2 obj _) F.entry_tuple_new
  (zbM p i j 1 t u' v (j - i).toNat (small_one ⋯ ⋯ ⋯ ⋯) (zli h0) ⋯) ⟨show X.A.in1.in1.handled=none from I.ok.hd hc,hr,fun h' tk acc hk hacc=>⟨⟨_,qar _ rfl,rfl⟩,?_⟩⟩
 have I1:Inv X pins σ H {s with heap:=h',toks:=tk}:=I.kept (t':=tk) hk
 have hl:acc.toList.length=(j - i).toNat:=by rw [qas];exact hacc.1
 have I2:=I1.laid (t':=tk) (h':=h'.push {cls:= .type "tuple",data:= .seq acc}) (a:=h'.objs.size) (o:= .tup (((List.range (j - i).toNat).map fun (k:Nat)=>i+(k:Int)).map V.int)) (fun b o e=>qag _ e) (qaV _)
  ⟨by rw [qaH,qaH,List.length_range];exact qaS (show (j - i).toNat<=2000 by omega) (by decide),acc.toList,zc7 _ _ (by rw [qaH,List.length_range,hl]) (fun k w e=> ?_),by simpa using zkr.new _ _⟩
 ·exact ⟨.ref h'.objs.size,_,I2,rfl,q _ (I1.hok.fresh (qaV _))⟩
 ·have hk':k<(j - i).toNat:=by rw [<- hl];exact (qac.mp e).1
  obtain ⟨t,et⟩:=hacc.2 k w (by simpa using e)
  refine ⟨t,?_⟩
  rw [et]
  simp [List.getD,hk']
theorem zlp:MtM X "list.insert" (fun x vs H Q=> ∃ l xs i y,x= .ref l/\vs=[.int i,y]/\H l=some (.lst xs)/\0<=i/\i<=xs.length/\xs.length+1<=sizeLine/\Q .non (upd H l (.lst (xs.take i.toNat++y::xs.drop i.toNat)))):=by
 intro pins s σ H x vs v us Q I rx rv h
 obtain ⟨l,xs,i,y,rfl,rfl,hH,h0,h1,hz,q⟩:=h
 cases rx
 obtain ⟨u,w',rfl,⟨t,rfl⟩,ry⟩:=zmN rv
 obtain ⟨z,its,n,r,hl,e⟩:=I.lstM hH
 have hs:sizeLine=2^24:=rfl
 refine call_meets F.slot_list_insert ⟨_,e,rfl⟩ F.entry_list_insert (F.args_list_insert_3 _ _ _)
  (AutoSeq1.list_insert_list_int_val_1 l its.toArray n i t w' (by rw [show Builtin.List.listFitsIndex i=true from by unfold Builtin.List.listFitsIndex;simp;omega];decide) (by rw [qaA];omega)) ⟨e,?_⟩
 refine ⟨.non,_,I.lset (its':=its.take i.toNat++w'::its.drop i.toNat) hH e ?_ ((r.take i.toNat).append (.cons ry (r.drop i.toNat))) ?_,rfl,q⟩
 ·have hlt: ¬i<0:=by omega
  have hm:min i.toNat its.length=i.toNat:=by omega
  apply Array.ext'
  simp [hlt,hm]
  rw [List.take_of_length_le (by rw [List.length_drop];omega)]
 ·simp
  omega
end
end L2
namespace L3
open L2 LT
section
variable {X:Cx} {E:XE} {a b o e e2:Expr} {fa fb fo fe fi:FE} {apos cpos:Pos}
def zds:D->D->M D
 | .int i,.int j=>if i<=j/\ -1000<=i/\j<1000 then pure (.tup (zcW i (j - i).toNat)) else M.bad
 | _,_=>M.bad
theorem zmG {K:W.Frag} {ι:Io} {H:Hp} {i:Int} {n:Nat}:zas K ι H (zcW i n) (((List.range n).map fun (k:Nat)=>i+(k:Int)).map V.int):=by
 have:zcW i n=((List.range n).map fun (k:Nat)=>i+(k:Int)).map D.int:=by unfold zcW;simp
 rw [this]
 exact zct.mpr rfl
theorem zfo {p1 p2 pos pos2:Pos} (hc:X.calm=true) (hm1:X.mg "tuple"=none) (hm2:X.mg "range"=none) (ha:SE X E a fa) (hb:SE X E b fb) (hg1:Gl X "tuple":=by rfl) (hg2:Gl X "range":=by rfl)
  (h1:starEach [.Call (.Name "range" p2) [a,b] [] pos2] X.env=[(false,eval (.Call (.Name "range" p2) [a,b] [] pos2) X.env)]:=by rfl) (h2:starEach [a,b] X.env=(false,eval a X.env)::starEach [b] X.env:=by rfl) (h3:starEach [b] X.env=[(false,eval b X.env)]:=by rfl):
  SE X E (.Call (.Name "tuple" p1) [.Call (.Name "range" p2) [a,b] [] pos2] [] pos) (cOp zds fa fb):=by
 refine PE.imp (zbL (zfu hc) hg1 hm1 PyProof.Rows.boot_tuple (zaU (zbL zhe hg2 hm2 boot_range (zaU ha (zaU hb zb5 h3) h2) (he:=h2) (hpl:=by rw [h3];rfl)) zb5 h1) (he:=h1)) fun σ H Q ⟨ι,h,sd,L,hh,q⟩=>⟨ι,h,sd,L,hh,Fin.bind q fun d h1 ι1 H1 e1 s1 hr1 q1 v rv=> ?_⟩
 refine ⟨ι1,h1,sd,L.step s1,hr1,Fin.bind q1 fun d2 h2 ι2 H2 e2 s2 hr2 q2 w rw'=> ?_⟩
 unfold zds at q2
 split at q2
 ·rename_i i j
  have rv2:=rv.step s2
  simp only [Rel] at rv2 rw'
  obtain ⟨⟨c1,c2,c3⟩,q3⟩:=Fin.guard q2
  refine ⟨i,j,by rw [rv2,rw'],fun p hp=> ?_⟩
  have hr3:za8 X.K ι2 (upd H2 p (.rng i j)) h2:=hr2.laid hp
  exact ⟨p,i,j,rfl,zaR,c1,c2,c3,fun l hl=>zpj hr3 zmG (Fin.step (hr2.laidS hp) q3) hl⟩
 ·exact qa0 q2
def zfj (x i y:D):M D:=match x,i with
 | .cel n,.int k=>do
  let ds<-zai n
  if 0<=k/\k<=ds.length/\ds.length<1000 then do
   zbo n (ds.take k.toNat++y::ds.drop k.toNat)
   pure .non
  else M.bad
 | _,_=>M.bad
def ztb (fo fi fe:FE):FE:=fun sd=>do
 let x<-fo sd
 zdA x
 let i<-fi sd
 let y<-fe sd
 zfj x i y
theorem znY (ho:SE X E o fo) (hi:SE X E e fi) (he:SE X E e2 fe)
  (hbase:attributeBase o "insert" X.env (eval o X.env)=eval o X.env:=by rfl)
  (hfew:((backTo cpos (starEach [e,e2] X.env)).all (fun x=> !x.1) && (backToKw cpos (keywordEach [] X.env)).all (fun x=>x.1.isSome)
    && decide (([e,e2]:List Expr).length+([]:List Keyword).length+(if ([]:List Keyword).isEmpty then 0 else 1)<30))=true:=by rfl)
  (hline:(apos.endLine==cpos.line)=true:=by rfl) (hs:starEach [e,e2] X.env=(false,eval e X.env)::starEach [e2] X.env:=by rfl) (hs2:starEach [e2] X.env=(false,eval e2 X.env)::starEach [] X.env:=by rfl) (hplain:(backTo cpos (starEach [e2] X.env)).any (·.1)=false:=by rfl):
  SE X E (.Call (.Attribute o "insert" apos) [e,e2] [] cpos) (ztb fo fi fe):=by
 refine PE.imp (zoc PySem.F.plainAttrs_list PySem.F.slot_list_insert PySem.F.type_list_insert zlp ho (zaU hi (zaU he zb5 hs2) hs) hbase hfew hline hs hplain) fun σ H Q ⟨ι,h,sd,L,hh,q⟩=>⟨ι,h,sd,L,hh,Fin.bind q fun d h1 ι1 H1 e1 s1 hr1 q1 v rv=> ?_⟩
 cases d with
 | cel n=>
  have q2:Fin X.K E ι1 H1 ((zai n>>=fun _=>fi sd>>=fun i=>fe sd>>=fun y=>zfj (.cel n) i y) h1) (fun d ι' H'=> ∀ v,Rel X.K ι' H' d v->Q v H'):=by
   have ee:(zdA (.cel n)>>=fun _=>fi sd>>=fun i=>fe sd>>=fun y=>zfj (.cel n) i y:M D)=(zai n>>=fun _=>fi sd>>=fun i=>fe sd>>=fun y=>zfj (.cel n) i y):=by
    show ((zai n>>=fun _=>pure ())>>=fun _=>fi sd>>=fun i=>fe sd>>=fun y=>zfj (.cel n) i y)=_
    simp only [bind_assoc,pure_bind]
   rw [<- ee]
   exact q1
  obtain ⟨ds,e2,q3⟩:=zen q2
  obtain ⟨a,vs,rfl,hn,hH,rl⟩:=hr1.read rv e2
  refine ⟨.inl ⟨rfl,vs,SqL.of hH⟩,ι1,h1,sd,L.step s1,hr1,Fin.bind q3 fun i h2 ι2 H2 e2' s2 hr2 q4 vi ri=> ?_⟩
  refine ⟨ι2,h2,sd,(L.step s1).step s2,hr2,Fin.bind q4 fun y h3 ι3 H3 e3 s3 hr3 q5 w rw'=> ?_⟩
  have rv3:=(rv.step s2).step s3
  have ri3:=ri.step s3
  cases i with
  | int k=>
   have q6:Fin X.K E ι3 H3 ((zai n>>=fun ds=>if 0<=k/\k<=ds.length/\ds.length<1000 then (zbo n (ds.take k.toNat++y::ds.drop k.toNat)>>=fun _=>pure D.non) else M.bad) h3) (fun d ι' H'=> ∀ v,Rel X.K ι' H' d v->Q v H'):=q5
   obtain ⟨ds3,e4,q7⟩:=zen q6
   obtain ⟨a3,vs3,ea,hn3,hH3,rl3⟩:=hr3.read rv3 e4
   cases ea
   simp only [Rel] at ri3
   subst ri3
   have hlen:=rl3.length
   by_cases hk:0<=k/\k<=ds3.length/\ds3.length<1000
   ·rw [qa4 hk] at q7
    have hz:sizeLine=2^24:=rfl
    refine ⟨a,vs3,k,w,rfl,rfl,hH3,hk.1,⋯,⋯,?_⟩
    have q8:Fin X.K E ι3 H3 (R.ok D.non (h3.set n (.lst (ds3.take k.toNat++y::ds3.drop k.toNat)))) (fun d ι' H'=> ∀ v,Rel X.K ι' H' d v->Q v H'):=q7
    exact q8 ι3 _ (hr3.cellS hn3) (hr3.cell hn3 ((zas.take k.toNat rl3).append (zas.cons rw' (zas.drop k.toNat rl3)))) _ (by simp [Rel])
   ·rw [qa5 hk] at q7
    exact qa0 q7
  | _=>exact qa0 q5
 | _=>exact qa0 q1
end
end L3
namespace L2
open L3
section
variable {X:Cx}
def zjd (ns:List Int):Int:=ns.getD (argBest (fun i j=>decide (ns.getD i 0<ns.getD j 0)) (ns.length - 1)) 0
theorem zmB (hc:X.calm=true):zaz X (.builtin "min") (fun xs H Q=> ∃ (a:Addr) (ns:List Int),xs=[.ref a]/\SqL X.K H a (ns.map V.int)/\0<ns.length/\Q (.int (zjd ns)) H):=by
 intro pins s σ H xs us Q I r h
 obtain ⟨a,ns,rfl,hq,hpos,q⟩:=h
 obtain ⟨u,rfl,rx⟩:=zcX r
 cases rx
 obtain ⟨its,r',pl,hz⟩:=I.list hq
 obtain ⟨ps,rfl,en⟩:=zfR r'
 have hl:ps.length=ns.length:=by rw [<- en,qaH]
 have hi:(ps.map fun p=>Value.int p.1 p.2).toArray=intItems ps.toArray:=by simp [intItems]
 rw [hi] at pl
 have hn: ∀ i,numAt ps.toArray i=ns.getD i 0:=fun i=>by
  rw [<- en]
  simp [numAt,List.getD]
 refine min_intList (I.ok.hd hc) pl.isList (by simpa [hl] using hpos) fun v h' tk hv hk=> ?_
 obtain ⟨t,rfl⟩:=intItems_at hv
 refine ⟨.int (zjd ns),H,I.grown (s':={s with heap:=h',toks:=tk}) rfl rfl hk,⟨t,?_⟩,q⟩
 rw [hn]
 have hf:(fun i j=>decide (numAt ps.toArray i<numAt ps.toArray j))=fun i j=>decide (ns.getD i 0<ns.getD j 0):=by
  funext i j
  rw [hn,hn]
 rw [hf]
 unfold zjd
 rw [qaA,hl]
end
end L2
namespace L3
open L2
section
variable {X:L2.Cx} {E:XE}
def zp0:List D->M D:=zmb fun d=>do
 let ds<-zkw d
 let ns<-ofO (match d with | .tup _=>none | _=>zbO ds)
 if 0<ns.length then pure (.int (zjd ns)) else M.bad
theorem zj1 (hc:X.calm=true):zaz X (.builtin "min") (zgj X.K E zp0):=by
 refine zaz.imp (zmB hc) fun xs H Q ⟨ι,h,ds,rl,hr,q⟩=> ?_
 obtain ⟨d,v,e,r,q⟩:=zbJ rl q
 obtain ⟨a,vs,ds',e',hs,rl',q⟩:=zcz hr r q
 obtain ⟨ns,ep,q⟩:=Fin.ofOb q
 rcases hs with ⟨hs,hd⟩ | ⟨hs,hd⟩
 ·have ep':zbO ds'=some ns:=by
   cases d with
   | tup ts=>exact absurd rfl (hd ts)
   | _=>exact ep
  have ev:=zbR rl' ep'
  subst ev
  by_cases hn:0<ns.length
  ·rw [qa4 hn] at q
   exact ⟨a,ns,by rw [e,e'],hs,hn,Fin.out hr q _ (by simp [Rel])⟩
  ·rw [qa5 hn] at q
   exact qa0 q
 ·subst hd
  cases ep
end
open LT
def Gro (h h':Hh):Prop:= ∃ t,h'=h++t
theorem Gro.refl {h:Hh}:Gro h h:=⟨[],by simp⟩
theorem Gro.trans {h h1 h2:Hh} (a:Gro h h1) (b:Gro h1 h2):Gro h h2:=by
 obtain ⟨t,rfl⟩:=a
 obtain ⟨u,rfl⟩:=b
 exact ⟨t++u,by simp⟩
theorem Gro.get {h h':Hh} {n:Nat} {c:C} (g:Gro h h') (e:h[n]? = some c):h'[n]? = some c:=by
 obtain ⟨t,rfl⟩:=g
 rw [qad (qac.mp e).1]
 exact e
theorem Gro.ext {b:Nat} {h h':Hh} (q:Bx b h) (g:Gro h h'):Ext b h h':=by
 obtain ⟨z,e⟩:=q
 exact ⟨⟨z,g.get e⟩,fun n c _ e=>g.get e⟩
def Ev {α:Type} (m:M α) (a:α):Prop:= ∀ h, ∃ h',m h= .ok a h'/\Gro h h'
section
variable {α β:Type} {m:M α} {a:α} {f:α->M β} {b:β} {h:Hh} {P:α->Hh->Prop}
theorem Ev.pure:Ev (Pure.pure a:M α) a:=fun h=>⟨h,rfl,.refl⟩
theorem Ev.of (e:m=Pure.pure a):Ev m a:=e▸ .pure
theorem Ev.bind (x:Ev m a) (y:Ev (f a) b):Ev (m>>=f) b:=fun h=>by
 obtain ⟨h1,e1,g1⟩:=x h
 obtain ⟨h2,e2,g2⟩:=y h1
 refine ⟨h2,?_,g1.trans g2⟩
 show M.bind m f h=_
 unfold M.bind
 rw [e1]
 exact e2
theorem Ev.wp (x:Ev m a) (k: ∀ h',Gro h h'->P a h'):wp m h P:=by
 obtain ⟨h1,e1,g1⟩:=x h
 exact ⟨a,h1,e1,k h1 g1⟩
theorem Ev.of_wp (x: ∀ h,L3.wp m h fun r h'=>r=a/\Gro h h'):Ev m a:=fun h=>by
 obtain ⟨r,h1,e1,rfl,g⟩:=x h
 exact ⟨h1,e1,g⟩
theorem Ev.noX (x:Ev m a):Ev (L3.noX m) a:=fun h=>by
 obtain ⟨h1,e1,g1⟩:=x h
 refine ⟨h1,?_,g1⟩
 unfold L3.noX
 rw [e1]
end
@[simp] theorem znB {α:Type} {a:α}:noX (pure a:M α)=pure a:=rfl
noncomputable def zfH {α:Type} (c:String):M α:=fun h=> .exc c h
@[simp] theorem zjM {α β:Type} {c:String} {f:α->M β}:((zfH c:M α)>>=f)=zfH c:=rfl
@[simp] theorem znD {c:String} {sd:Sd}:zhh c sd=zfH c:=rfl
theorem zpB {names:List String} {gb:FS} {F:List D->M D} {sd:Sd} {o:Out} (x:Ev (gb sd) o):Ev (zgE names gb F sd) o:=fun h=>by
 obtain ⟨h1,e1,g1⟩:=x h
 refine ⟨h1,?_,g1⟩
 unfold zgE
 rw [e1]
theorem zj7 {names:List String} {gb:FS} {F:List D->M D} {sd:Sd} {c:String} {d:D} (e:gb sd=zfH c) (hc:names.contains c=true) (ek:F [.exn c]=pure d):zgE names gb F sd=pure (.rt d):=by
 funext h
 unfold zgE
 rw [e]
 show (if names.contains c=true then (do let d<-noX (F [.exn c]);pure (.rt d):M Out) h else .bad)=_
 rw [qa4 hc,ek]
 rfl
def tI (xs:List Int):D:= .tup (xs.map D.int)
def zb4 (o:List Int×Int):D:= .tup [tI o.1,.int o.2]
def zbb (m:Int) (os:List (List Int×Int)):D:= .tup [.int m,.tup (os.map zb4)]
structure Stk (m:Int) (os:List (List Int×Int)):Prop where
 m0:1<=m
 m1:m<=10
 len:os.length<=12
 up: ∀ o∈os,o.1.Pairwise (· < ·)
 bd: ∀ o∈os, ∀ x∈o.1,0<=x/\x<m
 ne: ∀ o∈os,o.1≠[]
 pos: ∀ o∈os,0<o.2
theorem Stk.olen {m:Int} {os:List (List Int×Int)} (s:Stk m os): ∀ o∈os,o.1.length<=10:=fun o ho=>by
 have h:=zeK (m:=m) (ts:=o.1.map D.int) (l:=0) (zbP.mpr ⟨s.up o ho,fun x hx=>s.bd o ho x hx⟩) (by have:=s.m0;omega)
 rw [qaH] at h
 have:=s.m1
 omega
theorem zk7 {fo fe:FE} {sd:Sd}:zil fo fe sd=(do let x<-fo sd;zdA x;let y<-fe sd;zdB x y):=rfl
theorem zqZ {n:Nat}:zdA (.cel n)=(do let _<-zai n;pure ()):=rfl
theorem znt {n:Nat} {zs:List D}:zdB (.cel n) (.tup zs)=(do let ds<-zai n;fits (ds.length+zs.length);zbo n (ds++zs);pure .non):=rfl
theorem ziY {xs:List Int} {m:Int} (m0:0<=m) (h:xs.Pairwise (· < ·)) (b: ∀ x∈xs,0<=x/\x<m):(xs.length:Int)<=m:=by
 have:=zeK (m:=m) (ts:=xs.map D.int) (l:=0) (zbP.mpr ⟨h,b⟩) m0
 rw [qaH] at this
 omega
theorem zm0 {xs:List Int} {m:Int} (m0:0<=m) (b: ∀ x∈xs,0<=x/\x<m):((zfq xs).length:Int)<=m:=ziY m0 (zfp xs) fun x hx=>b x (zdo.mp hx)
theorem zio {xs:List Int} {m:Int} (m0:0<=m) (m1:m<=60) (b: ∀ x∈xs,0<=x/\x<m):(xs.foldl step_dedup []).length<64:=by
 have h:=zm0 m0 b
 unfold zfq at h
 rw [(zaF _).length_eq] at h
 omega
theorem zg8 {n:Nat} {h:Hh} {xs:List Int} {P:D->Hh->Prop} (e:h[n]? = some (.lst (xs.map D.int))) (h1:(xs.foldl step_dedup []).length<64) (h2:xs.length<4000) (k:P (.lst ((zfq xs).map D.int)) h):wp (zb6 (.cel n)) h P:=by
 unfold zb6
 show wp (zai n>>=_) h P
 rw [zal,zbN e]
 show wp (do let ns<-ofO (zbO (xs.map D.int));if (ns.foldl step_dedup []).length<64/\ns.length<4000 then pure (.lst ((zfq ns).map D.int)) else M.bad:M D) h P
 rw [zbi]
 show wp (if (xs.foldl step_dedup []).length<64/\xs.length<4000 then (pure (.lst ((zfq xs).map D.int)):M D) else M.bad) h P
 rw [qa4 ⟨h1,h2⟩,zak]
 exact k
theorem zrn: ∀ {xs ys:List Int},xs.Pairwise (· < ·)->ys.Pairwise (· < ·)->(∀ k,k∈xs↔k∈ys)->xs=ys:=by
 intro xs ys hx hy hm
 have nx:xs.Nodup:=hx.imp fun z=>by omega
 have ny:ys.Nodup:=hy.imp fun z=>by omega
 have p:List.Perm xs ys:=(List.perm_ext_iff_of_nodup nx ny).mpr hm
 exact (zeJ p (hx.imp fun z=>by omega)).trans (zeJ (List.Perm.refl ys) (hy.imp fun z=>by omega)).symm
theorem zoA {x y:D} {a b:PyData} (e1:pd x=some a) (e2:pd y=some b) (h:zfY a b=true):dEq x y=pure (.bl (PyData.eqv a b)):=by
 show zjz false x y=_
 unfold zjz
 rw [e1,e2]
 simp only [h,if_true]
 rfl
theorem zkU (xs:List Int):pd (tI xs)=some (.tuple (xs.map PyData.int)):=by unfold tI pd;rw [zb7];rfl
theorem zoU (xs ys:List Int):dEq (tI xs) (tI ys)=pure (.bl (xs==ys)):=by
 rw [zoA (zkU xs) (zkU ys) (by unfold zfY;simp [PyData.canLay0,zaV,PyData.depth,zbg])]
 simp only [PyData.eqv,zd7]
theorem zkC (xs:List Int):zq5 [.lst (xs.map D.int)]=pure (.int xs.sum):=by
 show (do let bs<-ofO (zbO (xs.map D.int));pure (.int bs.sum):M D)=_
 rw [zbi]
 rfl
def gk (d:D):Prop:=kn d=true/\ ∀ ds,d= .tup ds->ds.length<64/\ ∀ x∈ds,kn x=true
theorem zlS {os:List (List Int×Int)} {i:Int} (h0:0<=i) (h1:i<os.length):atI (os.map zb4) i=some (zb4 (os.getD i.toNat ([],0))):=by
 have hl:i.toNat<os.length:=by omega
 have:=zc0 (xs:=os.map zb4) (j:=i.toNat) (v:=zb4 (os.getD i.toNat ([],0))) (by simp [hl,List.getD])
 rw [<- this]
 congr 1
 omega
theorem zh9 (k:Int) (xs:List Int):zkK (.int k) (.lst (xs.map D.int))=pure (.bl (!xs.any (· == k))):=by
 show zmP true (.int k) (.lst (xs.map D.int))=_
 unfold zmP
 simp only [pd]
 rw [zb7]
 have c:zky (.int k) (xs.map PyData.int)=true:=by
  unfold zky
  simp [PyData.canLay0,zaV,PyData.depth,zbg]
 simp only [c,if_true,zeL]
theorem zka {xs:List Int} (h:xs.Nodup):(zcv xs).Pairwise (· < ·):=by
 have h1:=zdq xs
 have h2:(zcv xs).Nodup:=(zaF xs).nodup_iff.mpr h
 exact (List.pairwise_and_iff.mpr ⟨h1,h2⟩).imp fun z=>by have:=z.1;have:=z.2;omega
theorem zfm {xs:List Int} {m:Int} (m0:0<=m) (h:xs.Nodup) (b: ∀ x∈xs,0<=x/\x<m):(xs.length:Int)<=m:=by
 rw [<- (zaF xs).length_eq]
 exact ziY m0 (zka h) fun x hx=>b x ((zaF xs).mem_iff.mp hx)
theorem zdz {p:Int->Bool} {k:D->Option D} (e: ∀ i:Int,k (.int i)=if p i=true then some (.int i) else none): ∀ xs:List Int,(xs.map D.int).filterMap k=(xs.filter p).map D.int
 | []=>rfl
 | x::r=>by
  rw [qaM,qat,e,List.filter_cons,zdz e r]
  cases p x<;>simp
theorem zfQ {j:Int} (h0:0<=j) (h1:j<1000):zec (.int j)=pure (tI ((List.range j.toNat).map fun (k:Nat)=>(k:Int))):=by
 show (if 0<=j/\j<1000 then _ else _)=_
 rw [qa4 ⟨h0,h1⟩,zcx]
 rfl
theorem zpJ {xs:List D} {t:Int} (t0:0<=t) (t1:t<(xs.length:Int)): ∃ d,atI xs t=some d/\d∈xs:=by
 have ht:t.toNat<xs.length:=by omega
 refine ⟨xs[t.toNat],?_,List.getElem_mem ht⟩
 have:=zc0 (xs:=xs) (j:=t.toNat) (v:=xs[t.toNat]) (by simp [ht])
 rw [<- this]
 congr 1
 omega
theorem zqy {xs:List D} {t:Int} {h:Hh} {P:D->Hh->Prop} (t0:0<=t) (t1:t<(xs.length:Int)) (k: ∀ d∈xs,P d h):wp (ofO (atI xs t)) h P:=by
 obtain ⟨d,ed,hd⟩:=zpJ t0 t1
 rw [ed,zem,zak]
 exact k d hd
theorem zsU {i j:Int}:zmS [.int i,.int j]=pure (.int (if j<i then j else i)):=rfl
theorem zuu {i j:Int}:zpp [.int i,.int j]=pure (.int (if j>i then j else i)):=rfl
theorem znu (xs:List Int):dNe (tI xs) (.tup [])=pure (.bl (!xs.isEmpty)):=by
 show zjz true _ _=_
 unfold zjz
 rw [zkU xs,show pd (.tup [])=some (.tuple []) from rfl]
 have c:zfY (.tuple (xs.map PyData.int)) (.tuple [])=true:=by
  unfold zfY
  simp [PyData.canLay0,PyData.canLayAll0,zaV,PyData.depth,PyData.depthAll,zbg]
 simp only [c,if_true,PyData.eqv]
 cases xs<;>rfl
theorem zca (n:Nat):((List.range n).map fun (k:Nat)=>(k:Int)).Pairwise (· < ·):=by
 rw [List.pairwise_map]
 exact List.pairwise_lt_range.imp fun z=>by omega
theorem zci {n:Nat}: ∀ x∈(List.range n).map fun (k:Nat)=>(k:Int),0<=x/\x<n:=fun x hx=>by
 obtain ⟨k,hk,rfl⟩:=qaU.mp hx
 have:=List.mem_range.mp hk
 omega
def EvX {α:Type} (m:M α) (c:String):Prop:= ∀ h, ∃ h',m h= .exc c h'/\Gro h h'
section
variable {α β:Type} {m:M α} {a:α} {f:α->M β} {c:String}
theorem EvX.raise:EvX (zfH c:M α) c:=fun h=>⟨h,rfl,.refl⟩
theorem EvX.left (x:EvX m c):EvX (m>>=f) c:=fun h=>by
 obtain ⟨h1,e1,g1⟩:=x h
 refine ⟨h1,?_,g1⟩
 show M.bind m f h=_
 unfold M.bind
 rw [e1]
theorem Ev.bindX (x:Ev m a) (y:EvX (f a) c):EvX (m>>=f) c:=fun h=>by
 obtain ⟨h1,e1,g1⟩:=x h
 obtain ⟨h2,e2,g2⟩:=y h1
 refine ⟨h2,?_,g1.trans g2⟩
 show M.bind m f h=_
 unfold M.bind
 rw [e1]
 exact e2
end
theorem zng {names:List String} {gb:FS} {F:List D->M D} {sd:Sd} {c:String} {d:D} (x:EvX (gb sd) c) (hc:names.contains c=true) (ek:F [.exn c]=pure d):Ev (zgE names gb F sd) (.rt d):=fun h=>by
 obtain ⟨h1,e1,g1⟩:=x h
 refine ⟨h1,?_,g1⟩
 unfold zgE
 rw [e1]
 show (if names.contains c=true then (do let d<-noX (F [.exn c]);pure (.rt d):M Out) h1 else .bad)=_
 rw [qa4 hc,ek]
 rfl
theorem zsG {g:FS} {sd:Sd}:zvt g sd=noX (g sd):=rfl
theorem zsP {g:FE} {sd:Sd}:zvv g sd=noX (g sd):=rfl
theorem ziZ (xs:List D) {k:Int} (h:0<=k):L3.zjN xs none (some k)=xs.take k.toNat:=by
 have e:=HT.zlF xs.length xs.length k.toNat
 rw [Int.toNat_of_nonneg h] at e
 unfold L3.zjN
 have e0:HT.sIx xs.length 0 none=0:=rfl
 rw [e0,e]
 simp
theorem znP (xs:List D) {k:Int} (h:0<=k):L3.zjN xs (some k) none=xs.drop k.toNat:=by
 have e:=HT.zlF xs.length 0 k.toNat
 rw [Int.toNat_of_nonneg h] at e
 unfold L3.zjN
 have e0:HT.sIx xs.length xs.length none=xs.length:=rfl
 rw [e0,e]
 by_cases hk:k.toNat<=xs.length
 ·rw [Nat.min_eq_left hk,List.take_of_length_le (by rw [List.length_drop];omega)]
 ·rw [Nat.min_eq_right ⋯,List.drop_eq_nil_of_le (show xs.length<=k.toNat by omega)]
  simp
theorem zmC {xs:List Int} {m:Int} (m0:0<=m) (h:xs.Pairwise (· < ·)) (b: ∀ x∈xs,0<=x/\x<m):(xs==(List.range m.toNat).map fun (k:Nat)=>(k:Int))=((xs.length:Int)==m):=by
 rw [Bool.eq_iff_iff,beq_iff_eq,beq_iff_eq]
 constructor
 ·intro e
  rw [e]
  simp
  omega
 ·intro e
  refine zrn h (zca _) fun k=>⟨fun hk=> ?_,fun hk=> ?_⟩
  ·obtain ⟨h1,h2⟩:=b k hk
   exact qaU.mpr ⟨k.toNat,List.mem_range.mpr ⋯,⋯⟩
  ·have hb:=zci k hk
   by_cases c:k∈xs
   ·exact c
   ·exfalso
    have:=zfm (xs:=k::xs) m0 (List.nodup_cons.mpr ⟨c,h.imp fun z=>by omega⟩) fun x hx=>by
     rcases qaP.mp hx with rfl | hx
     ·omega
     ·exact b x hx
    rw [qaE] at this
    omega
end L3
namespace K72
open L2 L3
def zcC:List String:=["NoStock","NoOffer","NoThing","NoCover","NoPaper","NoNumber","NotFull","NotInRow","NoText","NoRow","TooMany"]
def G_24:FS:=zap (sIf (zdK dLt (zaf 1) (zaA zf6 (zac (zaf 0) zan))) (zbS (cOp dIx (zaf 0) (zaf 1))) zfr) (zbS (cOp zcb (cOp zhQ (cK (.int 6151)) (zaf 1)) (cK (.int 29))))
def F_24:List D->M D:=zdm 2 G_24
theorem d_24 (x0 x1:D):F_24 [x0,x1]=(do let o<-G_24 [some x0,some x1];zdn o):=rfl
def zdi:FS:=zap (zbU 4 (cOp zo0 (cOp zcb (cOp zcb (cOp zcb (cOp zhQ (zaf 4) (cK (.int 48271))) (cOp zhQ (cOp zhQ (cK (.int 7)) (zaf 5)) (zaf 5))) (cOp zhQ (cK (.int 11)) (zaf 1))) (cK (.int 1))) (cK (.int 2147483647)))) (zbU 3 (cOp zcb (cOp zhQ (zaf 3) (cK (.int 2147483647))) (zaf 4)))
def G_25:FS:=zap (zbU 2 (zaA (zaq 2 F_24) (zac (zaf 0) (zac (zaf 1) zan)))) (zap (sIf (zdK dEq (cOp zo0 (zaf 2) (cK (.int 2))) (cK (.int 0))) (zbS (zho (zac (cOp zj3 (zaf 2) (cK (.int 2))) zan))) zfr) (zap (zbU 3 (cK (.int 0))) (zap (zbU 4 (cOp zo0 (zaf 2) (cK (.int 2147483647)))) (zap (zkm (zgW (zac (cK (.int 24)) zan)) (zaC 5) zdi) (zbS (zho (zac (zaf 3) zan)))))))
def F_25:List D->M D:=zdm 6 G_25
theorem d_25 (x0 x1:D):F_25 [x0,x1]=(do let o<-G_25 [some x0,some x1,none,none,none,none];zdn o):=rfl
def G_26:FS:=zap (zbU 2 (cOp zo0 (cOp dIx (zaf 0) (cK (.int 0))) (zaf 1))) (zap (zn3 (cOp zj3 (cOp dIx (zaf 0) (cK (.int 0))) (zaf 1)) (zn0 (zaf 0) (cK (.int 0)))) (zbS (zaf 2)))
def F_26:List D->M D:=zdm 3 G_26
theorem d_26 (x0 x1:D):F_26 [x0,x1]=(do let o<-G_26 [some x0,some x1,none];zdn o):=rfl
def zbK:FS:=zap (zbU 7 (zaA (zaq 2 F_26) (zac (zaf 0) (zac (zaf 3) zan)))) (zap (zbU 8 (zaA zmS (zac (zaf 3) (zac (cOp zcb (cOp zcb (zaf 7) (cK (.int 1))) (zaA (zaq 2 F_26) (zac (zaf 0) (zac (cOp dIx (zgV (zac (cK (.int 2)) (zac (cK (.int 4)) (zac (zaf 3) zan)))) (zaA (zaq 2 F_26) (zac (zaf 0) (zac (cK (.int 3)) zan)))) zan)))) zan)))) (ze2 (zeO (zaf 5) (zde (zac (cOp zds (zaf 7) (zaf 8)) (zac (cOp zcb (cK (.int 1)) (zaA (zaq 2 F_26) (zac (zaf 0) (zac (zaf 4) zan)))) zan))))))
def zbI:FS:=zbU 9 (cOp zcb (zaf 9) (zaA zqu (zac (zaf 10) zan)))
def zcD:FE:=zaf 0
def zcM:FT:=zdK zkK (zaf 0) (zaf 1)
def G_38:FS:=zap (zbU 3 (cOp zcb (cK (.int 1)) (zaA (zaq 2 F_26) (zac (zaf 0) (zac (zaf 1) zan))))) (zap (zbU 4 (cOp dIx (zgV (zac (cK (.int 3)) (zac (cK (.int 9)) (zac (cK (.int 50)) (zac (cOp ztj (cK (.int 10)) (cK (.int 12))) zan))))) (zaA (zaq 2 F_26) (zac (zaf 0) (zac (cK (.int 4)) zan))))) (zap (zbU 5 (zho zan)) (zap (zkm (zgW (zac (cOp zcb (cK (.int 1)) (zaA (zaq 2 F_26) (zac (zaf 0) (zac (cOp zl9 (zaf 2) (cK (.int 3))) zan)))) zan)) (zaC 6) zbK) (zap (zbU 9 (zgV zan)) (zap (zpX (zaf 5) (zbY 2 (zav (zaC 10) (zav (zaC 11) zbW))) zbI) (zap (zbU 12 (zaw (zgW (zac (zaf 3) zan)) (zaC 0) zcM zcD [none,some 9])) (zap (sIf (zdK dNe (zaf 12) (zgV zan)) (ze2 (zeO (zaf 5) (zde (zac (cOp zds (cOp dIx (zaf 12) (cK (.int 0))) (cOp zcb (cOp dIx (zaf 12) (cUn zou (cK (.int 1)))) (cK (.int 1)))) (zac (cOp zcb (cK (.int 1)) (zaA (zaq 2 F_26) (zac (zaf 0) (zac (zaf 4) zan)))) zan))))) zfr) (zap (ze2 (ztb (zaf 5) (zaA (zaq 2 F_26) (zac (zaf 0) (zac (cOp zcb (zaA zf6 (zac (zaf 5) zan)) (cK (.int 1))) zan))) (zde (zac (cUn zec (zaf 3)) (zac (cOp zcb (cK (.int 1)) (zaA (zaq 2 F_26) (zac (zaf 0) (zac (zaf 4) zan)))) zan))))) (zbS (zde (zac (zaf 3) (zac (zaA zcA (zac (cSl (cUn zrb (zaf 5)) ziz (zie (zaf 2))) zan)) zan))))))))))))
def F_38:List D->M D:=zdm 13 G_38
theorem d_38 (x0 x1 x2:D):F_38 [x0,x1,x2]=(do let o<-G_38 [some x0,some x1,some x2,none,none,none,none,none,none,none,none,none,none];zdn o):=rfl
def zgu:FE:=zaA zp1 (zac (zaf 0) zan)
def G_28:FS:=zap (zbU 1 (zgV (zac (cUn (zku zcC "NoStock") (zaf 0)) (zac (cUn (zku zcC "NoOffer") (zaf 0)) (zac (cUn (zku zcC "NoThing") (zaf 0)) (zac (cUn (zku zcC "NoCover") (zaf 0)) zan)))))) (zap (zbU 1 (cOp zcb (zaf 1) (zgV (zac (cUn (zku zcC "NoPaper") (zaf 0)) (zac (cUn (zku zcC "NoNumber") (zaf 0)) (zac (cUn (zku zcC "NotFull") (zaf 0)) (zac (cUn (zku zcC "NotInRow") (zaf 0)) zan))))))) (zap (zbU 1 (cOp zcb (zaf 1) (zgV (zac (cUn (zku zcC "NoText") (zaf 0)) (zac (cUn (zku zcC "NoRow") (zaf 0)) (zac (cUn (zku zcC "TooMany") (zaf 0)) zan)))))) (zap (sIf (tOr (zgJ (zhu (cUn (zsS zcC) (zaf 0)))) (zdK dNe (zaA zq5 (zac (zaw (iSq (zaf 1)) (zaC 0) (fun _=>pure true) zgu [none]) zan)) (cK (.int 1)))) (zbS (cK (.str "! none of the classes"))) zfr) (zap (zbU 2 (zgV (zac (cK (.str "stock")) (zac (cK (.str "offer")) (zac (cK (.str "thing")) (zac (cK (.str "cover")) (zac (cK (.str "paper")) (zac (cK (.str "number")) (zac (cK (.str "full")) (zac (cK (.str "in row")) (zac (cK (.str "text")) (zac (cK (.str "row")) (zac (cK (.str "many")) zan))))))))))))) (zbS (cOp zcb (cK (.str "! ")) (cOp dIx (zaf 2) (cUn zrp (zaf 1)))))))))
def F_28:List D->M D:=zdm 3 G_28
theorem d_28 (x0:D):F_28 [x0]=(do let o<-G_28 [some x0,none,none];zdn o):=rfl
def G_22:FS:=zbS (cOp dEq (cOp zl9 (cOp dIx (zaf 0) (cUn zou (cK (.int 1)))) (cOp dIx (zaf 0) (cK (.int 0)))) (cOp zl9 (zaA zf6 (zac (zaf 0) zan)) (cK (.int 1))))
def F_22:List D->M D:=zdm 1 G_22
theorem d_22 (x0:D):F_22 [x0]=(do let o<-G_22 [some x0];zdn o):=rfl
def zet:FE:=zaA (zaq 1 F_22) (zac (cOp dIx (zaf 0) (cK (.int 0))) zan)
def G_20:FS:=zbS (zaA zra (zac (zaw (iSq (cOp dIx (zaf 0) (cK (.int 1)))) (zaC 0) (fun _=>pure true) zet [none]) zan))
def F_20:List D->M D:=zdm 1 G_20
theorem d_20 (x0:D):F_20 [x0]=(do let o<-G_20 [some x0];zdn o):=rfl
def za2:FS:=ze2 (zil (zaf 1) (cOp dIx (zaf 2) (cK (.int 0))))
def G_14:FS:=zap (zbU 1 (zho zan)) (zap (zkm (iSq (zaf 0)) (zaC 2) za2) (zbS (zaA zcA (zac (cUn zb6 (zaf 1)) zan))))
def F_14:List D->M D:=zdm 3 G_14
theorem d_14 (x0:D):F_14 [x0]=(do let o<-G_14 [some x0,none,none];zdn o):=rfl
def G_15:FS:=zbS (cOp dEq (zaA zf6 (zac (zaA (zaq 1 F_14) (zac (zaf 1) zan)) zan)) (cOp dIx (zaf 0) (cK (.int 0))))
def F_15:List D->M D:=zdm 2 G_15
theorem d_15 (x0 x1:D):F_15 [x0,x1]=(do let o<-G_15 [some x0,some x1];zdn o):=rfl
def G_12:FS:=zbS (zaA (zaq 2 F_15) (zac (zaf 0) (zac (cOp dIx (zaf 0) (cK (.int 1))) zan)))
def F_12:List D->M D:=zdm 1 G_12
theorem d_12 (x0:D):F_12 [x0]=(do let o<-G_12 [some x0];zdn o):=rfl
def G_13:FS:=sIf (zgJ (zhu (zaA (zaq 1 fun ds=>noX (F_12 ds)) (zac (zaf 0) zan)))) (zhh "NotFull") zfr
def F_13:List D->M D:=zdm 1 G_13
theorem d_13 (x0:D):F_13 [x0]=(do let o<-G_13 [some x0];zdn o):=rfl
def zbm:FE:=zaf 0
def zbq:FT:=zdK dIn (zaf 1) (cOp dIx (zaf 0) (cK (.int 0)))
def zcp:FE:=cOp zcb (cOp dIx (zaf 1) (cOp dIx (cOp dIx (zaf 0) (cK (.int 0))) (cK (.int 0)))) (cOp dIx (zaf 0) (cK (.int 1)))
def za0:FS:=zap (zbU 3 (zaw (iSq (cOp dIx (zaf 0) (cK (.int 1)))) (zaC 0) zbq zbm [none,some 2])) (ze2 (zeO (zaf 1) (zaA zp0 (zac (zaw (iSq (zaf 3)) (zaC 0) (fun _=>pure true) zcp [none,some 1]) zan))))
def G_23:FS:=zap (zbU 1 (zho (zac (cK (.int 0)) zan))) (zap (zkm (zgW (zac (cOp dIx (zaf 0) (cK (.int 0))) zan)) (zaC 2) za0) (zbS (cUn zrb (zaf 1))))
def F_23:List D->M D:=zdm 4 G_23
theorem d_23 (x0:D):F_23 [x0]=(do let o<-G_23 [some x0,none,none,none];zdn o):=rfl
def zc4:FS:=zap (zbU 2 (cOp zhQ (zaf 2) (cK (.int 2)))) (sIf (zdK dIn (zaf 3) (zaf 1)) (zbU 2 (cOp zcb (zaf 2) (cK (.int 1)))) zfr)
def G_18:FS:=zap (zbU 2 (cK (.int 0))) (zap (zkm (zgW (zac (zaf 0) zan)) (zaC 3) zc4) (zbS (zaf 2)))
def F_18:List D->M D:=zdm 4 G_18
theorem d_18 (x0 x1:D):F_18 [x0,x1]=(do let o<-G_18 [some x0,some x1,none,none];zdn o):=rfl
def zcO:FE:=zde (zac (cOp zcb (cOp dIx (zaf 1) (cK (.int 1))) (cOp dIx (zaf 0) (cK (.int 0)))) (zac (cOp zcb (zde (zac (zaf 2) zan)) (cOp dIx (zaf 0) (cK (.int 1)))) (zac (cOp dOr (zaf 3) (cOp dIx (zaf 0) (cK (.int 2)))) zan)))
def zbj:FS:=zap (zbU 3 (cOp dIx (cOp dIx (zaf 0) (cK (.int 1))) (zaf 2))) (zap (zbU 4 (zaA (zaq 2 F_18) (zac (cOp dIx (zaf 0) (cK (.int 0))) (zac (cOp dIx (zaf 3) (cK (.int 0))) zan)))) (zap (zbU 5 (zaw (iSq (zaf 1)) (zaC 0) (fun _=>pure true) zcO [none,some 3,some 2,some 4])) (zbU 1 (cOp zcb (cOp zcb (cSl (zaf 1) ziz (zie (cK (.int 1)))) (zaf 5)) (cSl (zaf 1) (zie (cK (.int 1))) ziz)))))
def G_17:FS:=zap (zbU 1 (zgV (zac (zde (zac (cK (.int 0)) (zac (zde zan) (zac (cK (.int 0)) zan)))) zan))) (zap (zkm (zp9 (zac (cOp zl9 (zaA zf6 (zac (cOp dIx (zaf 0) (cK (.int 1))) zan)) (cK (.int 1))) (zac (cUn zou (cK (.int 1))) (zac (cUn zou (cK (.int 1))) zan)))) (zaC 2) zbj) (zbS (zaf 1)))
def F_17:List D->M D:=zdm 6 G_17
theorem d_17 (x0:D):F_17 [x0]=(do let o<-G_17 [some x0,none,none,none,none,none];zdn o):=rfl
def zbH:FE:=zde (zac (cOp dIx (zaf 0) (cK (.int 0))) (zac (cOp dIx (zaf 0) (cK (.int 1))) zan))
def zbD:FT:=zdK dEq (cOp dIx (zaf 0) (cK (.int 2))) (zaf 1)
def G_16:FS:=zap (zbU 1 (zaA (zaq 2 F_18) (zac (cOp dIx (zaf 0) (cK (.int 0))) (zac (cUn zgx (cOp dIx (zaf 0) (cK (.int 0)))) zan)))) (zbS (zaw (iSq (zaA (zaq 1 F_17) (zac (zaf 0) zan))) (zaC 0) zbD zbH [none,some 1]))
def F_16:List D->M D:=zdm 2 G_16
theorem d_16 (x0:D):F_16 [x0]=(do let o<-G_16 [some x0,none];zdn o):=rfl
def G_19:FS:=zap (ze2 (zaA (zaq 1 F_13) (zac (zaf 0) zan))) (zbS (cOp dIx (zaA zno (zac (zaA (zaq 1 fun ds=>noX (F_16 ds)) (zac (zaf 0) zan)) zan)) (cK (.int 1))))
def F_19:List D->M D:=zdm 1 G_19
theorem d_19 (x0:D):F_19 [x0]=(do let o<-G_19 [some x0];zdn o):=rfl
def zcY:FE:=zde (zac (cOp zl9 (cOp dIx (zaf 1) (cOp zcb (zaf 0) (cK (.int 1)))) (cOp dIx (zaf 1) (zaf 0))) (zac (cK (.int 1)) zan))
def G_21:FS:=zap (sIf (zgJ (zhu (zaA (zaq 1 fun ds=>noX (F_20 ds)) (zac (zaf 0) zan)))) (zhh "NotInRow") zfr) (zap (ze2 (zaA (zaq 1 F_13) (zac (zaf 0) zan))) (zap (zbU 1 (zaA (zaq 1 fun ds=>noX (F_23 ds)) (zac (zaf 0) zan))) (zap (zbU 2 (zaA zcA (zac (zaw (zgW (zac (cOp dIx (zaf 0) (cK (.int 0))) zan)) (zaC 0) (fun _=>pure true) zcY [none,some 1]) zan))) (zbS (zde (zac (zaA (zaq 1 F_19) (zac (zaf 0) zan)) (zac (zaf 2) zan)))))))
def F_21:List D->M D:=zdm 3 G_21
theorem d_21 (x0:D):F_21 [x0]=(do let o<-G_21 [some x0,none,none];zdn o):=rfl
def G_39:FS:=zgE zcC (zbS (zaA (zaq 1 F_21) (zac (zaf 0) zan))) F_28
def F_39:List D->M D:=zdm 2 G_39
theorem d_39 (x0:D):F_39 [x0]=(do let o<-G_39 [some x0,none];zdn o):=rfl
def zcj:FE:=cOp zsM (cK (.int 1)) (zaf 0)
def zcr:FE:=zaA zq5 (zac (zaw (iSq (zaf 0)) (zaC 0) (fun _=>pure true) zcj [none]) zan)
def zck:FE:=zde (zac (cOp zcb (zaf 0) (zde (zac (zaf 2) zan))) (zac (cOp dOr (zaf 1) (cOp dIx (zaf 3) (zaf 2))) zan))
def zbx:FS:=zbU 3 (cOp zcb (zaf 3) (zaw (iSq (zaf 3)) (zbY 2 (zav (zaC 0) (zav (zaC 1) zbW))) (fun _=>pure true) zck [none,none,some 4,some 2]))
def zcf:FE:=zaf 0
def zcl:FT:=zdK dEq (zaf 1) (cOp zl9 (cOp zsM (cK (.int 1)) (cOp dIx (zaf 2) (cK (.int 0)))) (cK (.int 1)))
def G_32:FS:=zap (zbU 1 (zgV zan)) (zap (zbU 2 (zaw (iSq (cOp dIx (zaf 0) (cK (.int 1)))) (zbY 2 (zav (zaC 0) (zav (zaC 1) zbW))) (fun _=>pure true) zcr [none,none])) (zap (zbU 3 (zgV (zac (zde (zac (zde zan) (zac (cK (.int 0)) zan))) zan))) (zap (zkm (zgW (zac (zaA zf6 (zac (zaf 2) zan)) zan)) (zaC 4) zbx) (zbS (zaA ziP (zac (zaw (iSq (zaf 3)) (zbY 2 (zav (zaC 0) (zav (zaC 1) zbW))) zcl zcf [none,none,some 0]) zan))))))
def F_32:List D->M D:=zdm 5 G_32
theorem d_32 (x0:D):F_32 [x0]=(do let o<-G_32 [some x0,none,none,none,none];zdn o):=rfl
def zcG:FE:=cOp dIx (cOp dIx (cOp dIx (zaf 1) (cK (.int 1))) (zaf 0)) (cK (.int 1))
def G_31:FS:=zbS (zaA zq5 (zac (zaw (iSq (zaf 1)) (zaC 0) (fun _=>pure true) zcG [none,some 0]) zan))
def F_31:List D->M D:=zdm 2 G_31
theorem d_31 (x0 x1:D):F_31 [x0,x1]=(do let o<-G_31 [some x0,some x1];zdn o):=rfl
def zcR:FE:=zde (zac (zaA (zaq 2 F_31) (zac (zaf 1) (zac (zaf 0) zan))) (zac (zaf 0) zan))
def G_33:FS:=zbS (zaA zno (zac (zaw (iSq (zaA (zaq 1 F_32) (zac (zaf 0) zan))) (zaC 0) (fun _=>pure true) zcR [none,some 0]) zan))
def F_33:List D->M D:=zdm 1 G_33
theorem d_33 (x0:D):F_33 [x0]=(do let o<-G_33 [some x0];zdn o):=rfl
def G_27:FS:=zbS (zs7 (cUn (zi5 "int") (zaf 0)) (zua (cUn (zi5 "bool") (zaf 0))))
def F_27:List D->M D:=zdm 1 G_27
theorem d_27 (x0:D):F_27 [x0]=(do let o<-G_27 [some x0];zdn o):=rfl
def zaP:FT:=zdK dGt (zaf 3) (cK (.int 0))
def za1:FS:=zq9 2 3 (zac (zaf 3) (zac (cOp zo0 (zaf 2) (zaf 3)) zan))
def G_34:FS:=zap (zq9 2 3 (zac (zaA zri (zac (zaf 0) zan)) (zac (zaA zri (zac (zaf 1) zan)) zan))) (zap (zlc 1000 zaP za1) (zbS (zde (zac (cOp zj3 (zaf 0) (zaf 2)) (zac (cOp zj3 (zaf 1) (zaf 2)) zan)))))
def F_34:List D->M D:=zdm 4 G_34
theorem d_34 (x0 x1:D):F_34 [x0,x1]=(do let o<-G_34 [some x0,some x1,none,none];zdn o):=rfl
def G_35:FS:=zap (sIf (tOr (zgJ (zhu (cUn (zi5 "tuple") (zaf 0)))) (tOr (zdK dNe (zaA zf6 (zac (zaf 0) zan)) (cK (.int 2))) (tOr (zgJ (zhu (zaA (zaq 1 F_27) (zac (cOp dIx (zaf 0) (cK (.int 0))) zan)))) (zgJ (zhu (zaA (zaq 1 F_27) (zac (cOp dIx (zaf 0) (cK (.int 1))) zan))))))) (zbS (cK (.bl false))) zfr) (zbS (zs7 (cOp dGt (cOp dIx (zaf 0) (cK (.int 1))) (cK (.int 0))) (cOp dEq (zaA (zaq 2 F_34) (zac (cOp dIx (zaf 0) (cK (.int 0))) (zac (cOp dIx (zaf 0) (cK (.int 1))) zan))) (zaf 0))))
def F_35:List D->M D:=zdm 1 G_35
theorem d_35 (x0:D):F_35 [x0]=(do let o<-G_35 [some x0];zdn o):=rfl
def zcB:FS:=zn3 (zaA (zaq 2 F_34) (zac (cOp zcb (cOp zhQ (zaf 1) (cOp dIx (zaf 3) (cK (.int 1)))) (cOp zhQ (cOp dIx (zaf 3) (cK (.int 0))) (zaf 2))) (zac (cOp zhQ (zaf 2) (cOp dIx (zaf 3) (cK (.int 1)))) zan))) (zbY 2 (zav (zaC 1) (zav (zaC 2) zbW)))
def G_36:FS:=zap (zn3 (zde (zac (cK (.int 0)) (zac (cK (.int 1)) zan))) (zbY 2 (zav (zaC 1) (zav (zaC 2) zbW)))) (zap (zkm (iSq (zaf 0)) (zaC 3) zcB) (zbS (zde (zac (zaf 1) (zac (zaf 2) zan)))))
def F_36:List D->M D:=zdm 4 G_36
theorem d_36 (x0:D):F_36 [x0]=(do let o<-G_36 [some x0,none,none,none];zdn o):=rfl
def zbn:FE:=zs7 (zaA (zaq 1 F_35) (zac (zaf 0) zan)) (cOp dGe (cOp dIx (zaf 0) (cK (.int 0))) (cK (.int 0)))
def zbp:FE:=cOp dIx (zaf 1) (zaf 0)
def za3:FS:=zap (zn3 (zaA (zaq 1 F_36) (zac (zaw (iSq (zaf 2)) (zaC 0) (fun _=>pure true) zbp [none,some 1]) zan)) (zbY 2 (zav (zaC 4) (zav (zaC 5) zbW)))) (sIf (zdK dGt (zaf 4) (cOp zhQ (zaf 3) (zaf 5))) (zbS (cK (.bl false))) zfr)
def G_37:FS:=zap (sIf (tOr (zgJ (zhu (cUn (zi5 "tuple") (zaf 1)))) (zdK dNe (zaA zf6 (zac (zaf 1) zan)) (cOp dIx (zaf 0) (cK (.int 0))))) (zbS (cK (.bl false))) zfr) (zap (sIf (zgJ (zhu (zaA zra (zac (zaw (iSq (zaf 1)) (zaC 0) (fun _=>pure true) zbn [none]) zan)))) (zbS (cK (.bl false))) zfr) (zap (zkm (iSq (cOp dIx (zaf 0) (cK (.int 1)))) (zbY 2 (zav (zaC 2) (zav (zaC 3) zbW))) za3) (zbS (cK (.bl true)))))
def F_37:List D->M D:=zdm 6 G_37
theorem d_37 (x0 x1:D):F_37 [x0,x1]=(do let o<-G_37 [some x0,some x1,none,none,none,none];zdn o):=rfl
def zcL:FE:=zaA (zaq 1 F_27) (zac (zaf 0) zan)
def zdw:FE:=zaf 0
def zcQ:FT:=zdK dNe (cOp dIx (zaf 0) (cK (.int 1))) (cK (.int 1))
def G_41:FS:=zap (zbU 1 (zaA (zaq 1 F_39) (zac (zaf 0) zan))) (zap (zn3 (zaA (zaq 1 F_33) (zac (zaf 0) zan)) (zbY 2 (zav (zaC 2) (zav (zaC 3) zbW)))) (zap (sIf (tOr (zgJ (zhu (cUn (zi5 "tuple") (zaf 1)))) (tOr (zdK dNe (zaA zf6 (zac (zaf 1) zan)) (cK (.int 2))) (tOr (zdK dNe (cOp dIx (zaf 1) (cK (.int 0))) (zaf 3)) (zgJ (zhu (cUn (zi5 "tuple") (cOp dIx (zaf 1) (cK (.int 0))))))))) (zbS (cK (.bl false))) zfr) (zap (sIf (tOr (zgJ (zhu (zaA zra (zac (zaw (iSq (cOp dIx (zaf 1) (cK (.int 0)))) (zaC 0) (fun _=>pure true) zcL [none]) zan)))) (zgJ (zhu (zaA (zaq 2 F_37) (zac (zaf 0) (zac (cOp dIx (zaf 1) (cK (.int 1))) zan)))))) (zbS (cK (.bl false))) zfr) (zap (sIf (tOr (zdK dNe (zaw (iSq (cOp dIx (zaf 1) (cK (.int 1)))) (zaC 0) zcQ zdw [none]) (zgV zan)) (zdK dNe (zaA (zaq 1 F_36) (zac (cOp dIx (zaf 1) (cK (.int 1))) zan)) (zde (zac (zaf 2) (zac (cK (.int 1)) zan))))) (zbS (cK (.bl false))) zfr) (zbS (cOp dEq (zaA (zaq 1 F_39) (zac (zaf 0) zan)) (zaf 1)))))))
def F_41:List D->M D:=zdm 4 G_41
theorem d_41 (x0:D):F_41 [x0]=(do let o<-G_41 [some x0,none,none,none];zdn o):=rfl
def zcF:FE:=zaf 0
def zcS:FT:=zdK dNe (zaf 0) (zaf 1)
def zcI:FE:=zde (zac (zaA zcA (zac (zaw (iSq (zaf 0)) (zaC 0) zcS zcF [none,some 2]) zan)) (zac (zaf 1) zan))
def zcJ:FE:=zaf 0
def zcT:FT:=zdK dNe (cOp dIx (zaf 0) (cK (.int 0))) (zde zan)
def G_42:FS:=zap (zbU 2 (zaw (iSq (cOp dIx (zaf 0) (cK (.int 1)))) (zbY 2 (zav (zaC 0) (zav (zaC 1) zbW))) (fun _=>pure true) zcI [none,none,some 1])) (zbS (zde (zac (cOp dIx (zaf 0) (cK (.int 0))) (zac (zaA zcA (zac (zaw (iSq (zaf 2)) (zaC 0) zcT zcJ [none]) zan)) zan))))
def F_42:List D->M D:=zdm 3 G_42
theorem d_42 (x0 x1:D):F_42 [x0,x1]=(do let o<-G_42 [some x0,some x1,none];zdn o):=rfl
def zcs:FE:=zaf 0
def zcd:FT:=zdK dEq (cOp zuG (cOp zuL (zaf 1) (zaf 0)) (cK (.int 1))) (cK (.int 1))
def zcm:FE:=cOp zo0 (cOp zcb (zaf 1) (cOp zhQ (zaf 2) (zaf 0))) (zaf 3)
def G_29:FS:=zap (zbU 2 (zaA (zaq 2 F_26) (zac (zaf 0) (zac (cK (.int 3)) zan)))) (zap (sIf (zdK dEq (zaf 2) (cK (.int 0))) (zap (zbU 3 (cOp zcb (cK (.int 1)) (zaA (zaq 2 F_26) (zac (zaf 0) (zac (cOp zl9 (cOp zsM (cK (.int 1)) (zaf 1)) (cK (.int 1))) zan))))) (zbS (zaA zcA (zac (zaw (zgW (zac (zaf 1) zan)) (zaC 0) zcd zcs [none,some 3]) zan)))) zfr) (zap (zn3 (zde (zac (zaA (zaq 2 F_26) (zac (zaf 0) (zac (zaf 1) zan))) (zac (cOp dIx (zgV (zac (cK (.int 1)) (zac (cOp zcb (cK (.int 1)) (zaA (zaq 2 F_26) (zac (zaf 0) (zac (cK (.int 3)) zan)))) zan))) (cOp zl9 (zaf 2) (cK (.int 1)))) zan))) (zbY 2 (zav (zaC 4) (zav (zaC 5) zbW)))) (zbS (zaA zcA (zac (cUn zb6 (zaw (zgW (zac (cOp zcb (cK (.int 1)) (zaA (zaq 2 F_26) (zac (zaf 0) (zac (cK (.int 4)) zan)))) zan)) (zaC 0) (fun _=>pure true) zcm [none,some 4,some 5,some 1])) zan)))))
def F_29:List D->M D:=zdm 6 G_29
theorem d_29 (x0 x1:D):F_29 [x0,x1]=(do let o<-G_29 [some x0,some x1,none,none,none,none];zdn o):=rfl
def zcZ:FE:=zho (zac (zaA (zaq 2 F_29) (zac (zaf 1) (zac (zaf 2) zan))) (zac (cOp zcb (cK (.int 1)) (zaA (zaq 2 F_26) (zac (zaf 1) (zac (zaf 3) zan)))) zan))
def zdN:FE:=zaf 0
def zdV:FT:=zdK dIn (zaf 1) (cOp dIx (zaf 0) (cK (.int 0)))
def zbz:FS:=sIf (zdK zs6 (zaw (iSq (zaf 5)) (zaC 0) zdV zdN [none,some 6]) (zgV zan)) (zap (zbU 7 (cOp dIx (zaf 5) (zaA (zaq 2 F_26) (zac (zaf 0) (zac (zaA zf6 (zac (zaf 5) zan)) zan))))) (zn3 (zaA zcA (zac (zaA ziE (zac (cOp zcb (cOp dIx (zaf 7) (cK (.int 0))) (zde (zac (zaf 6) zan))) zan)) zan)) (zn0 (zaf 7) (cK (.int 0))))) zfr
def zd0:FE:=zde (zac (cOp dIx (zaf 0) (cK (.int 0))) (zac (cOp dIx (zaf 0) (cK (.int 1))) zan))
def G_30:FS:=zap (zbU 3 (cOp zcb (cK (.int 1)) (zaA (zaq 2 F_26) (zac (zaf 0) (zac (zaf 1) zan))))) (zap (zbU 4 (cOp dIx (zgV (zac (cK (.int 3)) (zac (cK (.int 9)) (zac (cK (.int 50)) (zac (cOp ztj (cK (.int 10)) (cK (.int 12))) zan))))) (zaA (zaq 2 F_26) (zac (zaf 0) (zac (cK (.int 4)) zan))))) (zap (zbU 5 (zaw (zgW (zac (cOp zcb (cK (.int 1)) (zaA (zaq 2 F_26) (zac (zaf 0) (zac (zaf 2) zan)))) zan)) (zaC 0) (fun _=>pure true) zcZ [none,some 0,some 3,some 4])) (zap (zkm (zgW (zac (zaf 3) zan)) (zaC 6) zbz) (zbS (zde (zac (zaf 3) (zac (zaA zcA (zac (zaw (iSq (zaf 5)) (zaC 0) (fun _=>pure true) zd0 [none]) zan)) zan)))))))
def F_30:List D->M D:=zdm 8 G_30
theorem d_30 (x0 x1 x2:D):F_30 [x0,x1,x2]=(do let o<-G_30 [some x0,some x1,some x2,none,none,none,none,none];zdn o):=rfl
def zce:FE:=cOp dEq (zaf 0) (cOp zds (cOp dIx (zaf 0) (cK (.int 0))) (cOp zcb (cOp dIx (zaf 0) (cUn zou (cK (.int 1)))) (cK (.int 1))))
def G_40:FS:=zbS (zaA zra (zac (zaw (iSq (cOp dIx (zaf 0) (cK (.int 1)))) (zbY 2 (zav (zaC 0) (zav (zaC 1) zbW))) (fun _=>pure true) zce [none,none]) zan))
def F_40:List D->M D:=zdm 1 G_40
theorem d_40 (x0:D):F_40 [x0]=(do let o<-G_40 [some x0];zdn o):=rfl
def zfa:FS:=zap (zbU 2 (zaA (zaq 2 F_25) (zac (zaf 0) (zac (zaf 1) zan)))) (zap (zbU 3 (zaA (zaq 3 F_38) (zac (zaf 2) (zac (cK (.int 10)) (zac (cK (.int 10)) zan))))) (zap (sIf (zgJ (zhu (zaA (zaq 1 F_41) (zac (zaf 3) zan)))) (zbS (cK (.bl false))) zfr) (zap (zbU 4 (cOp dIx (zgV (zac (cK (.int 0)) (zac (cOp zl9 (cOp dIx (zaf 3) (cK (.int 0))) (cK (.int 1))) zan))) (zaA (zaq 2 F_26) (zac (zaf 2) (zac (cK (.int 2)) zan))))) (zap (sIf (zdK dNe (zaA (zaq 1 F_39) (zac (zaA (zaq 2 F_42) (zac (zaf 3) (zac (zaf 4) zan))) zan)) (cK (.str "! full"))) (zbS (cK (.bl false))) zfr) (zap (zbU 5 (zaA (zaq 3 F_30) (zac (zaf 2) (zac (cK (.int 10)) (zac (cK (.int 10)) zan))))) (sIf (zgJ (zhu (zaA (zaq 1 F_40) (zac (zaf 5) zan)))) (zap (zbU 6 (zde (zac (cOp dIx (zaf 5) (cK (.int 0))) (zac (cOp zcb (cOp dIx (zaf 5) (cK (.int 1))) (zde (zac (zde (zac (cUn zec (cOp dIx (zaf 5) (cK (.int 0)))) (zac (cK (.int 3)) zan))) zan))) zan)))) (sIf (tOr (zdK dNe (zaA (zaq 1 F_39) (zac (zaf 5) zan)) (cK (.str "! in row"))) (zdK dNe (zaA (zaq 1 F_39) (zac (zaf 6) zan)) (cK (.str "! in row")))) (zbS (cK (.bl false))) zfr)) (sIf (zgJ (zhu (zaA (zaq 1 F_41) (zac (zaf 5) zan)))) (zbS (cK (.bl false))) zfr)))))))
def G_43:FS:=zap (zkm (zgW (zac (zaA zpp (zac (cK (.int 1)) (zac (zaA zmS (zac (zaA zf6 (zac (zaf 0) zan)) (zac (cK (.int 3)) zan))) zan))) zan)) (zaC 1) zfa) (zbS (cK (.bl true)))
def F_43:List D->M D:=zdm 7 G_43
theorem d_43 (x0:D):F_43 [x0]=(do let o<-G_43 [some x0,none,none,none,none,none,none];zdn o):=rfl
end K72
set_option genInjectivity false
set_option genSizeOf false
set_option genSizeOfSpec false
namespace K72
open L2 L3
set_option hygiene false in
local macro_rules
|`(tactic|ext a)=>`(tactic|refine zaa ?_ ?_)
|`(tactic|ext b)=>`(tactic|refine zar (k:=1) (g:=t.a_26) (fd:=t.d_26) (ps:=["box","many"]) ?_ ?_ ?_ ?_ ?_ ?_)
|`(tactic|ext c)=>`(tactic|exact (hr.mono (by decide)))
|`(tactic|ext d)=>`(tactic|refine za7 ?_ ?_ ?_)
|`(tactic|ext e)=>`(tactic|refine zaW ?_ ?_)
|`(tactic|ext f)=>`(tactic|refine zah ?_ ?_)
|`(tactic|ext g)=>`(tactic|exact zab 0)
|`(tactic|ext h)=>`(tactic|exact zad)
|`(tactic|ext i)=>`(tactic|exact zag)
|`(tactic|ext j)=>`(tactic|refine zam ?_)
|`(tactic|ext k)=>`(tactic|exact (zaD.name (i:=0) rfl))
|`(tactic|ext l)=>`(tactic|refine zaZ ?_ ?_ ?_)
|`(tactic|ext m)=>`(tactic|exact zab 1)
|`(tactic|ext n)=>`(tactic|exact (BOk.of (Xn:=(zae s_30).names) (XN:=["box","most","lots","many","far","rows","thing","row"]) rfl rfl rfl ⋯))
|`(tactic|ext o)=>`(tactic|refine zaN ?_)
|`(tactic|ext p)=>`(tactic|refine zar (k:=7) (g:=t.a_39) (fd:=t.d_39) (ps:=["stock"]) ?_ ?_ ?_ ?_ ?_ ?_)
|`(tactic|ext q)=>`(tactic|exact (BOk.of (Xn:=(zae s_32).names) (XN:=["stock","found","masks","lots","offer"]) rfl rfl rfl ⋯))
|`(tactic|ext r)=>`(tactic|refine zaE (id:="len") ?_ ?_ ?_ ?_)
|`(tactic|ext s)=>`(tactic|exact (zaD.tup (zaS.cons (i:=0) rfl (zaS.cons (i:=1) rfl zaS.nil))))
|`(tactic|ext t)=>`(tactic|refine zfA ?_ ?_ ?_)
|`(tactic|ext u)=>`(tactic|refine zby (T:="tuple") ?_ ?_ ?_ ?_)
|`(tactic|ext v)=>`(tactic|exact T.n_isinstance)
|`(tactic|ext w)=>`(tactic|refine zay ?_ ?_)
|`(tactic|ext x)=>`(tactic|exact rfl)
|`(tactic|ext y)=>`(tactic|refine zbv ?_)
|`(tactic|ext z)=>`(tactic|exact (BOk.of (Xn:=(zae s_37).names) (XN:=["stock","thing","things","price","top","bottom"]) rfl rfl rfl ⋯))
|`(tactic|ext A)=>`(tactic|exact (BOk.of (Xn:=(zae s_29).names) (XN:=["box","many","way","bits","first","step"]) rfl rfl rfl ⋯))
|`(tactic|ext B)=>`(tactic|refine zfe ?_ ?_ ?_ ?_ ?_)
|`(tactic|ext C)=>`(tactic|exact ⋯)
|`(tactic|ext D)=>`(tactic|refine zar (k:=1) (g:=t.a_27) (fd:=t.d_27) (ps:=["thing"]) ?_ ?_ ?_ ?_ ?_ ?_)
|`(tactic|ext E)=>`(tactic|exact zab 2)
|`(tactic|ext F)=>`(tactic|exact T.F_26.kp)
|`(tactic|ext G)=>`(tactic|exact (BOk.of (Xn:=(zae s_23).names) (XN:=["stock","least","thing","offers"]) rfl rfl rfl ⋯))
|`(tactic|ext H)=>`(tactic|exact PassesOwn.never)
|`(tactic|ext I)=>`(tactic|exact (BOk.of (Xn:=(zae s_41).names) (XN:=["stock","found","price","cover"]) rfl rfl rfl ⋯))
|`(tactic|ext J)=>`(tactic|refine zb3 ?_)
|`(tactic|ext K)=>`(tactic|exact (zcy (zdD hr)))
|`(tactic|ext L)=>`(tactic|exact T.n_range)
|`(tactic|ext M)=>`(tactic|exact (BOk.of (Xn:=(zae s_42).names) (XN:=["stock","gone","left"]) rfl rfl rfl ⋯))
|`(tactic|ext N)=>`(tactic|exact zab 3)
|`(tactic|ext O)=>`(tactic|exact T.n_tuple)
|`(tactic|ext P)=>`(tactic|exact ok_26 T)
|`(tactic|ext Q)=>`(tactic|refine zar (k:=1) (g:=t.a_18) (fd:=t.d_18) (ps:=["many","things"]) ?_ ?_ ?_ ?_ ?_ ?_)
|`(tactic|ext R)=>`(tactic|refine zar (k:=1) (g:=t.a_34) (fd:=t.d_34) (ps:=["top","bottom"]) ?_ ?_ ?_ ?_ ?_ ?_)
|`(tactic|ext S)=>`(tactic|exact zau)
|`(tactic|ext T)=>`(tactic|exact (zdy (zdD hr)))
|`(tactic|ext U)=>`(tactic|exact T.m_26)
|`(tactic|ext V)=>`(tactic|exact T.b_26)
|`(tactic|ext W)=>`(tactic|refine zaE (id:="min") ?_ ?_ ?_ ?_)
|`(tactic|ext X)=>`(tactic|refine zaQ 1 ?_ ?_)
|`(tactic|ext Y)=>`(tactic|refine zeF ?_ ?_)
|`(tactic|ext Z)=>`(tactic|refine zdc ?_ ?_)
|`(tactic|ext aa)=>`(tactic|refine zaQ 2 ?_ ?_)
|`(tactic|ext ab)=>`(tactic|refine zdu ?_)
|`(tactic|ext ac)=>`(tactic|refine zbk (N:=["offer"]) ?_ ?_ ?_ ?_ ?_ ?_ ?_)
|`(tactic|ext ad)=>`(tactic|refine zeU ?_ ?_)
|`(tactic|ext ae)=>`(tactic|exact zab 5)
|`(tactic|ext af)=>`(tactic|refine zch ?_)
|`(tactic|ext ag)=>`(tactic|refine zco ?_)
|`(tactic|ext ah)=>`(tactic|refine zkl ?_ ?_ ?_ ?_ ?_)
|`(tactic|ext ai)=>`(tactic|refine zaQ 3 ?_ ?_)
|`(tactic|ext aj)=>`(tactic|refine zaE (id:="all") ?_ ?_ ?_ ?_)
|`(tactic|ext ak)=>`(tactic|exact T.x_exc)
|`(tactic|ext al)=>`(tactic|refine ziB ?_ ?_ ?_)
|`(tactic|ext am)=>`(tactic|exact T.n_len)
|`(tactic|ext an)=>`(tactic|exact zbs)
|`(tactic|ext ao)=>`(tactic|(ext a;ext g))
|`(tactic|ext ap)=>`(tactic|(ext i;ext h))
|`(tactic|ext aq)=>`(tactic|(ext j;ext o))
|`(tactic|ext ar)=>`(tactic|(ext e;ext g))
|`(tactic|ext as)=>`(tactic|(ext d;ext S))
|`(tactic|ext au)=>`(tactic|(ext ar;ext i))
|`(tactic|ext av)=>`(tactic|(ext y;ext a))
|`(tactic|ext aw)=>`(tactic|(ext ao;ext h))
|`(tactic|ext ax)=>`(tactic|(ext ao;ext a))
|`(tactic|ext ay)=>`(tactic|(ext h;ext f))
|`(tactic|ext az)=>`(tactic|(ext b;ext P))
|`(tactic|ext aA)=>`(tactic|(ext az;ext c))
|`(tactic|ext aB)=>`(tactic|(ext aA;ext U))
|`(tactic|ext aC)=>`(tactic|(ext aB;ext F))
|`(tactic|ext aD)=>`(tactic|(ext aC;ext V))
|`(tactic|ext aE)=>`(tactic|(ext i;ext a))
|`(tactic|ext aF)=>`(tactic|(ext aD;ext ax))
|`(tactic|ext aG)=>`(tactic|(ext k;ext J))
|`(tactic|ext aH)=>`(tactic|(ext af;ext ag))
|`(tactic|ext aI)=>`(tactic|(ext h;ext h))
|`(tactic|ext aJ)=>`(tactic|(ext l;ext K))
|`(tactic|ext aK)=>`(tactic|(ext ar;ext ap))
|`(tactic|ext aL)=>`(tactic|(ext f;ext t))
|`(tactic|ext aM)=>`(tactic|(ext x;ext H))
|`(tactic|ext aN)=>`(tactic|(ext Y;ext L))
|`(tactic|ext aO)=>`(tactic|(ext Z;ext x))
|`(tactic|ext aP)=>`(tactic|(ext aO;ext w))
|`(tactic|ext aQ)=>`(tactic|(ext e;ext m))
def top (i:Nat):Stmt:=PySem.Challenge.pw_cheapcovers_k72_covers_of_rows.main.body.getD i (.Pass ⟨0,0,0,0⟩)
theorem zdD {A:Around} {k:Nat} (hr:zd9 k A):A.units+60<cLine:=by have:=hr.units;omega
theorem zuW {A:Around} {k:Nat} (hr:zd8 k A):A.units+60<cLine:=by have:=hr.un;omega
theorem zrE {P:Program} {w:World} {K:W.Frag} {mg:Str->Option Value} {base:Heap} {N:List Str} {qual:Str} {scope:Scope} {f:Addr} {cd:Value} {A:Around} {outer:List Env} {s:Shared} {H:Hp} {E:XK}:zfd (zh8 CX0 P w K mg base N qual scope f cd A outer s H E).nox:=⟨rfl,rfl,rfl⟩
theorem zpd:bootBuiltins "abs"=some (.builtin "abs"):=by decide +kernel
theorem zja:bootBuiltins "all"=some (.builtin "all"):=by decide +kernel
theorem zpq:bootBuiltins "bool"=some (.type "bool"):=by decide +kernel
theorem zoO:bootBuiltins "int"=some (.type "int"):=by decide +kernel
theorem zdf:bootBuiltins "len"=some (.builtin "len"):=by decide +kernel
theorem zpE:bootBuiltins "list"=some (.type "list"):=by decide +kernel
theorem zrR:bootBuiltins "max"=some (.builtin "max"):=by decide +kernel
theorem zhv:bootBuiltins "min"=some (.builtin "min"):=by decide +kernel
theorem zhP:bootBuiltins "sorted"=some (.builtin "sorted"):=by decide +kernel
theorem zmj:bootBuiltins "sum"=some (.builtin "sum"):=by decide +kernel
theorem zbe:bootBuiltins "tuple"=some (.type "tuple"):=by decide +kernel
abbrev s_24:Stmt:=top 30
abbrev s_25:Stmt:=top 31
abbrev s_26:Stmt:=top 32
abbrev s_38:Stmt:=top 44
abbrev s_28:Stmt:=top 34
abbrev s_22:Stmt:=top 27
abbrev s_20:Stmt:=top 25
abbrev s_14:Stmt:=top 16
abbrev s_15:Stmt:=top 17
abbrev s_12:Stmt:=top 14
abbrev s_13:Stmt:=top 15
abbrev s_23:Stmt:=top 28
abbrev s_18:Stmt:=top 21
abbrev s_17:Stmt:=top 20
abbrev s_16:Stmt:=top 19
abbrev s_19:Stmt:=top 23
abbrev s_21:Stmt:=top 26
abbrev s_39:Stmt:=top 45
abbrev s_32:Stmt:=top 38
abbrev s_31:Stmt:=top 37
abbrev s_33:Stmt:=top 39
abbrev s_27:Stmt:=top 33
abbrev s_34:Stmt:=top 40
abbrev s_35:Stmt:=top 41
abbrev s_36:Stmt:=top 42
abbrev s_37:Stmt:=top 43
abbrev s_41:Stmt:=top 47
abbrev s_42:Stmt:=top 48
abbrev s_29:Stmt:=top 35
abbrev s_30:Stmt:=top 36
abbrev s_40:Stmt:=top 46
abbrev s_43:Stmt:=top 49
structure Ad where
 a_0:Addr
 a_1:Addr
 a_2:Addr
 a_3:Addr
 a_4:Addr
 a_5:Addr
 a_6:Addr
 a_7:Addr
 a_8:Addr
 a_9:Addr
 a_10:Addr
 a_11:Addr
 a_24:Addr
 d_24:FuncData
 a_25:Addr
 d_25:FuncData
 a_26:Addr
 d_26:FuncData
 a_38:Addr
 d_38:FuncData
 a_28:Addr
 d_28:FuncData
 a_22:Addr
 d_22:FuncData
 a_20:Addr
 d_20:FuncData
 a_14:Addr
 d_14:FuncData
 a_15:Addr
 d_15:FuncData
 a_12:Addr
 d_12:FuncData
 a_13:Addr
 d_13:FuncData
 a_23:Addr
 d_23:FuncData
 a_18:Addr
 d_18:FuncData
 a_17:Addr
 d_17:FuncData
 a_16:Addr
 d_16:FuncData
 a_19:Addr
 d_19:FuncData
 a_21:Addr
 d_21:FuncData
 a_39:Addr
 d_39:FuncData
 a_32:Addr
 d_32:FuncData
 a_31:Addr
 d_31:FuncData
 a_33:Addr
 d_33:FuncData
 a_27:Addr
 d_27:FuncData
 a_34:Addr
 d_34:FuncData
 a_35:Addr
 d_35:FuncData
 a_36:Addr
 d_36:FuncData
 a_37:Addr
 d_37:FuncData
 a_41:Addr
 d_41:FuncData
 a_42:Addr
 d_42:FuncData
 a_29:Addr
 d_29:FuncData
 a_30:Addr
 d_30:FuncData
 a_40:Addr
 d_40:FuncData
 a_43:Addr
 d_43:FuncData
structure Tx (K:W.Frag) (mg:Str->Option Value) (t:Ad):Prop where
 n_ValueError:mg "ValueError"=none
 n_abs:mg "abs"=none
 n_all:mg "all"=none
 n_bool:mg "bool"=none
 n_int:mg "int"=none
 n_isinstance:mg "isinstance"=none
 n_len:mg "len"=none
 n_list:mg "list"=none
 n_max:mg "max"=none
 n_min:mg "min"=none
 n_range:mg "range"=none
 n_set:mg "set"=none
 n_sorted:mg "sorted"=none
 n_sum:mg "sum"=none
 n_tuple:mg "tuple"=none
 g_0:mg "CoverError"=some (.ref t.a_0)
 g_1:mg "NoStock"=some (.ref t.a_1)
 g_2:mg "NoOffer"=some (.ref t.a_2)
 g_3:mg "NoThing"=some (.ref t.a_3)
 g_4:mg "NoCover"=some (.ref t.a_4)
 g_5:mg "NoPaper"=some (.ref t.a_5)
 g_6:mg "NoNumber"=some (.ref t.a_6)
 g_7:mg "NotFull"=some (.ref t.a_7)
 g_8:mg "NotInRow"=some (.ref t.a_8)
 g_9:mg "NoText"=some (.ref t.a_9)
 g_10:mg "NoRow"=some (.ref t.a_10)
 g_11:mg "TooMany"=some (.ref t.a_11)
 k_1:zb2 K "NoStock" t.a_1
 k_2:zb2 K "NoOffer" t.a_2
 k_3:zb2 K "NoThing" t.a_3
 k_4:zb2 K "NoCover" t.a_4
 k_5:zb2 K "NoPaper" t.a_5
 k_6:zb2 K "NoNumber" t.a_6
 k_7:zb2 K "NotFull" t.a_7
 k_8:zb2 K "NotInRow" t.a_8
 k_9:zb2 K "NoText" t.a_9
 k_10:zb2 K "NoRow" t.a_10
 k_11:zb2 K "TooMany" t.a_11
 x_exc:zmR K t.a_0 zcC
 m_24:mg "_law_cell"=some (.ref t.a_24)
 F_24:Fun K "_law_cell" "_law_cell" s_24 t.a_24 t.d_24
 b_24:zaL K t.d_24 ["script","k"] []
 m_25:mg "_law_box"=some (.ref t.a_25)
 F_25:Fun K "_law_box" "_law_box" s_25 t.a_25 t.d_25
 b_25:zaL K t.d_25 ["script","k"] []
 m_26:mg "_law_take"=some (.ref t.a_26)
 F_26:Fun K "_law_take" "_law_take" s_26 t.a_26 t.d_26
 b_26:zaL K t.d_26 ["box","many"] []
 m_38:mg "_law_rowed"=some (.ref t.a_38)
 F_38:Fun K "_law_rowed" "_law_rowed" s_38 t.a_38 t.d_38
 b_38:zaL K t.d_38 ["box","most","lots"] []
 m_28:mg "_law_kind"=some (.ref t.a_28)
 F_28:Fun K "_law_kind" "_law_kind" s_28 t.a_28 t.d_28
 b_28:zaL K t.d_28 ["e"] []
 m_22:mg "is_stretch"=some (.ref t.a_22)
 F_22:Fun K "is_stretch" "is_stretch" s_22 t.a_22 t.d_22
 b_22:zaL K t.d_22 ["things"] []
 m_20:mg "in_row"=some (.ref t.a_20)
 F_20:Fun K "in_row" "in_row" s_20 t.a_20 t.d_20
 b_20:zaL K t.d_20 ["stock"] []
 m_14:mg "things_together"=some (.ref t.a_14)
 F_14:Fun K "things_together" "things_together" s_14 t.a_14 t.d_14
 b_14:zaL K t.d_14 ["offers"] []
 m_15:mg "have_all"=some (.ref t.a_15)
 F_15:Fun K "have_all" "have_all" s_15 t.a_15 t.d_15
 b_15:zaL K t.d_15 ["stock","offers"] []
 m_12:mg "is_full"=some (.ref t.a_12)
 F_12:Fun K "is_full" "is_full" s_12 t.a_12 t.d_12
 b_12:zaL K t.d_12 ["stock"] []
 m_13:mg "need_full"=some (.ref t.a_13)
 F_13:Fun K "need_full" "need_full" s_13 t.a_13 t.d_13
 b_13:zaL K t.d_13 ["stock"] []
 m_23:mg "least_from_left"=some (.ref t.a_23)
 F_23:Fun K "least_from_left" "least_from_left" s_23 t.a_23 t.d_23
 b_23:zaL K t.d_23 ["stock"] []
 m_18:mg "bits_of"=some (.ref t.a_18)
 F_18:Fun K "bits_of" "bits_of" s_18 t.a_18 t.d_18
 b_18:zaL K t.d_18 ["many","things"] []
 m_17:mg "known_lots"=some (.ref t.a_17)
 F_17:Fun K "known_lots" "known_lots" s_17 t.a_17 t.d_17
 b_17:zaL K t.d_17 ["stock"] []
 m_16:mg "priced_covers"=some (.ref t.a_16)
 F_16:Fun K "priced_covers" "priced_covers" s_16 t.a_16 t.d_16
 b_16:zaL K t.d_16 ["stock"] []
 m_19:mg "cheapest_cover"=some (.ref t.a_19)
 F_19:Fun K "cheapest_cover" "cheapest_cover" s_19 t.a_19 t.d_19
 b_19:zaL K t.d_19 ["stock"] []
 m_21:mg "row_cover"=some (.ref t.a_21)
 F_21:Fun K "row_cover" "row_cover" s_21 t.a_21 t.d_21
 b_21:zaL K t.d_21 ["stock"] []
 m_39:mg "_law_asked"=some (.ref t.a_39)
 F_39:Fun K "_law_asked" "_law_asked" s_39 t.a_39 t.d_39
 b_39:zaL K t.d_39 ["stock"] []
 m_32:mg "_law_covers"=some (.ref t.a_32)
 F_32:Fun K "_law_covers" "_law_covers" s_32 t.a_32 t.d_32
 b_32:zaL K t.d_32 ["stock"] []
 m_31:mg "_law_price"=some (.ref t.a_31)
 F_31:Fun K "_law_price" "_law_price" s_31 t.a_31 t.d_31
 b_31:zaL K t.d_31 ["stock","lot"] []
 m_33:mg "_law_least"=some (.ref t.a_33)
 F_33:Fun K "_law_least" "_law_least" s_33 t.a_33 t.d_33
 b_33:zaL K t.d_33 ["stock"] []
 m_27:mg "_law_whole"=some (.ref t.a_27)
 F_27:Fun K "_law_whole" "_law_whole" s_27 t.a_27 t.d_27
 b_27:zaL K t.d_27 ["thing"] []
 m_34:mg "_law_frac"=some (.ref t.a_34)
 F_34:Fun K "_law_frac" "_law_frac" s_34 t.a_34 t.d_34
 b_34:zaL K t.d_34 ["top","bottom"] []
 m_35:mg "_law_is_frac"=some (.ref t.a_35)
 F_35:Fun K "_law_is_frac" "_law_is_frac" s_35 t.a_35 t.d_35
 b_35:zaL K t.d_35 ["thing"] []
 m_36:mg "_law_sum"=some (.ref t.a_36)
 F_36:Fun K "_law_sum" "_law_sum" s_36 t.a_36 t.d_36
 b_36:zaL K t.d_36 ["some"] []
 m_37:mg "_law_is_bearing"=some (.ref t.a_37)
 F_37:Fun K "_law_is_bearing" "_law_is_bearing" s_37 t.a_37 t.d_37
 b_37:zaL K t.d_37 ["stock","thing"] []
 m_41:mg "_law_right"=some (.ref t.a_41)
 F_41:Fun K "_law_right" "_law_right" s_41 t.a_41 t.d_41
 b_41:zaL K t.d_41 ["stock"] []
 m_42:mg "_law_short"=some (.ref t.a_42)
 F_42:Fun K "_law_short" "_law_short" s_42 t.a_42 t.d_42
 b_42:zaL K t.d_42 ["stock","gone"] []
 m_29:mg "_law_things"=some (.ref t.a_29)
 F_29:Fun K "_law_things" "_law_things" s_29 t.a_29 t.d_29
 b_29:zaL K t.d_29 ["box","many"] []
 m_30:mg "_law_full"=some (.ref t.a_30)
 F_30:Fun K "_law_full" "_law_full" s_30 t.a_30 t.d_30
 b_30:zaL K t.d_30 ["box","most","lots"] []
 m_40:mg "_law_in_row"=some (.ref t.a_40)
 F_40:Fun K "_law_in_row" "_law_in_row" s_40 t.a_40 t.d_40
 b_40:zaL K t.d_40 ["stock"] []
 m_43:mg "law"=some (.ref t.a_43)
 F_43:Fun K "law" "law" s_43 t.a_43 t.d_43
 b_43:zaL K t.d_43 ["script"] []
section
variable {P:Program} {w:World} {K:W.Frag} {mg:Str->Option Value} {base:Heap} {t:Ad}
theorem sc_24:zat ["script","k"] ["script","k"] (zae s_24):=⟨rfl,rfl,rfl,⋯,rfl,⋯,⋯⟩
theorem ok_24 (T:Tx K mg t):zb8 P w K mg base CX0 1 t.a_24 t.d_24 ["script","k"] (zcu K 2 F_24):=by
 refine zbA (k:=0) (G:=G_24) (N:=["script","k"]) (ps:=["script","k"]) (st:=s_24) T.F_24 sc_24 fun cdv A outer s H E hr=> ?_
 ext aL;ext l
 exact zsy
 ext m;ext r
 exact zbc
 exact zdf
 ext am;ext aw;ext aq;ext ar;ext m;ext an;ext aq;ext as;ext d
 exact zb0
 ext i;ext m;ext i
theorem nd_25:(["script","k","cell","number","mixed","j"]:List Str).Nodup:=⋯
theorem sc_25:zat ["script","k","cell","number","mixed","j"] ["script","k"] (zae s_25):=⟨rfl,rfl,rfl,⋯,rfl,⋯,⋯⟩
theorem ok_25 (T:Tx K mg t):zb8 P w K mg base CX0 2 t.a_25 t.d_25 ["script","k"] (zcu K 2 F_25):=by
 refine zbA (k:=1) (G:=G_25) (N:=["script","k","cell","number","mixed","j"]) (ps:=["script","k"]) (st:=s_25) T.F_25 sc_25 fun cdv A outer s H E hr=> ?_
 ext f;ext aa
 exact nd_25
 refine zar (k:=1) (g:=t.a_24) (fd:=t.d_24) (ps:=["script","k"]) ?_ ?_ ?_ ?_ ?_ ?_
 exact ok_24 T
 ext c
 exact T.m_24
 exact T.F_24.kp
 exact T.b_24
 ext ax;ext m;ext ay;ext t;ext l;ext T;ext d
 exact zes
 ext E;ext i;ext i;ext aq
 refine zfN ?_
 ext a;ext d
 exact zeI
 ext E;ext ap;ext an;ext f;ext ai
 exact nd_25
 ext i;ext f
 refine zaQ 4 ?_ ?_
 exact nd_25
 ext d
 exact zes
 ext E;ext i;ext f;ext B;ext aM;ext aN;ext a;ext ap
 exact zaj 5 nd_25
 ext f
 refine zaQ 4 ?_ ?_
 exact nd_25
 ext d
 exact zes
 ext as;ext as;ext as;ext d
 exact zb0
 exact zab 4
 ext i;ext d
 exact zb0
 ext d
 exact zb0
 ext i;ext ae;ext ae;ext d
 exact zb0
 ext i;ext m;ext i;ext i;ext j;ext ai
 exact nd_25
 ext as;ext d
 exact zb0
 ext N;ext i
 exact zab 4
 ext aq
 refine zfN ?_
 ext a;ext N;ext h
theorem nd_26:(["box","many","digit"]:List Str).Nodup:=⋯
theorem sc_26:zat ["box","many","digit"] ["box","many"] (zae s_26):=⟨rfl,rfl,rfl,⋯,rfl,⋯,⋯⟩
theorem ok_26 (T:Tx K mg t):zb8 P w K mg base CX0 1 t.a_26 t.d_26 ["box","many"] (zcu K 2 F_26):=by
 refine zbA (k:=0) (G:=G_26) (N:=["box","many","digit"]) (ps:=["box","many"]) (st:=s_26) T.F_26 sc_26 fun cdv A outer s H E hr=> ?_
 ext f;ext aa
 exact nd_26
 ext d
 exact zes
 ext au;ext m;ext f
 refine zik ?_ ?_
 ext d
 exact zeI
 ext au;ext m
 refine zos ?_ ?_
 ext g;ext i;ext aq;ext E
theorem nd_38:(["box","most","lots","many","far","offers","turn","first","last","met","things","price","lacks"]:List Str).Nodup:=⋯
theorem zrX:(["thing","met"]:List Str).Nodup:=⋯
theorem sc_38:zat ["box","most","lots","many","far","offers","turn","first","last","met","things","price","lacks"] ["box","most","lots"] (zae s_38):=⟨rfl,rfl,rfl,⋯,rfl,⋯,⋯⟩
theorem ok_38 (T:Tx K mg t):zb8 P w K mg base CX0 2 t.a_38 t.d_38 ["box","most","lots"] (zcu K 3 F_38):=by
 refine zbA (k:=1) (G:=G_38) (N:=["box","most","lots","many","far","offers","turn","first","last","met","things","price","lacks"]) (ps:=["box","most","lots"]) (st:=s_38) T.F_38 sc_38 fun cdv A outer s H E hr=> ?_
 ext f;ext ai
 exact nd_38
 ext as;ext i;ext aF;ext m;ext ay
 refine zaQ 4 ?_ ?_
 exact nd_38
 ext e;ext ab;ext a;ext aE;ext aE;ext aE;ext d
 exact zkT
 ext i;ext ap;ext aF;ext ap;ext f
 refine zaQ 5 ?_ ?_
 exact nd_38
 refine zfN ?_
 ext ay;ext B;ext aM;ext aN;ext a;ext as;ext i;ext aF;ext d
 exact zc6
 ext E;ext ap;ext h
 exact zaj 6 nd_38
 ext f
 refine zaQ 7 ?_ ?_
 exact nd_38
 ext aF;ext N;ext ay
 refine zaQ 8 ?_ ?_
 exact nd_38
 ext W
 exact (zfI rfl)
 exact zhv
 exact T.n_min
 ext a;ext N;ext a;ext as;ext as
 exact zab 7
 ext i;ext aF;ext e;ext ab;ext a;ext aE;ext aE;ext N;ext h;ext aF;ext ap;ext aI;ext j
 refine ze4 ?_
 refine zgB ?_ ?_
 ext ae;ext av
 refine zfo ?_ ?_ ?_ ?_ ?_
 ext x;ext O;ext L
 exact zab 7
 exact zab 8
 ext a;ext as;ext i;ext aF
 exact zab 4
 ext h;ext ay
 refine zaQ 9 ?_ ?_
 exact nd_38
 ext ab;ext ay
 refine zrh ?_ ?_ ?_ ?_ ?_
 ext aM;ext ae;ext aP
 exact zaj 10 nd_38
 ext w
 exact zaj 11 nd_38
 exact zbX
 ext j
 refine zaQ 9 ?_ ?_
 exact nd_38
 ext as
 exact zab 9
 refine zby (T:="list") ?_ ?_ ?_ ?_
 exact zjS
 exact zpE
 exact T.n_list
 ext a
 exact zab 10
 ext ay
 refine zdh 12 (N:=["thing","met"]) ?_ ?_ ?_ ?_ ?_ ?_ ?_ ?_
 ext x
 exact nd_38
 exact (BOk.of (Xn:=(zae s_38).names) (XN:=["box","most","lots","many","far","offers","turn","first","last","met","things","price","lacks"]) rfl rfl rfl ⋯)
 ext k;ext aN;ext a;ext N;ext h
 intro _ _ _
 exact zaj 0 zrX
 intro _ _ _
 refine zdT ?_
 ext l
 exact (zmy (zdD hr))
 ext g;ext m
 intro _ _ _
 ext g;ext aL;ext aJ
 exact zab 12
 ext ab;ext h;ext j
 refine ze4 ?_
 refine zgB ?_ ?_
 ext ae;ext av
 refine zfo ?_ ?_ ?_ ?_ ?_
 ext x;ext O;ext L;ext e
 exact zab 12
 ext i;ext as;ext e
 exact zab 12
 refine zl7 ?_
 ext i;ext aE;ext as;ext i;ext aF
 exact zab 4
 ext aI;ext an;ext f
 refine ze4 ?_
 refine znY ?_ ?_ ?_
 ext ae;ext aF;ext as;ext r
 exact zbc
 exact zdf
 ext am;ext a;ext ae;ext h;ext ap;ext av
 refine zjk ?_ ?_ ?_ ?_
 ext x;ext O;ext L;ext N;ext a;ext as;ext i;ext aF
 exact zab 4
 ext aI;ext aq;ext av;ext N;ext a;ext u
 exact za6
 exact zbe
 ext O;ext a
 refine zgO ?_ ?_ ?_
 refine ztq ?_
 ext ae
 exact zir
 refine zix ?_
 ext E;ext aI
theorem nd_28:(["e","kinds","words"]:List Str).Nodup:=⋯
theorem ztO:(["kind"]:List Str).Nodup:=⋯
theorem sc_28:zat ["e","kinds","words"] ["e"] (zae s_28):=⟨rfl,rfl,rfl,⋯,rfl,⋯,⋯⟩
theorem ok_28 (T:Tx K mg t):FnH P w K mg base  1 t.a_28 t.d_28 ["e"] (zcu K 1 F_28):=by
 refine zsk (k:=0) (G:=G_28) (N:=["e","kinds","words"]) (ps:=["e"]) (st:=s_28) T.F_28 sc_28 fun cdv A outer s H hr=> ?_
 ext f;ext X
 exact nd_28
 ext ab;ext a
 refine zfl (CE:=t.a_0) (CC:=t.a_1) ?_ ?_ ?_ ?_ ?_ ?_
 ext ak;ext C
 exact T.k_1
 ext v
 exact T.g_1
 ext g;ext a
 refine zfl (CE:=t.a_0) (CC:=t.a_2) ?_ ?_ ?_ ?_ ?_ ?_
 ext ak;ext C
 exact T.k_2
 ext v
 exact T.g_2
 ext g;ext a
 refine zfl (CE:=t.a_0) (CC:=t.a_3) ?_ ?_ ?_ ?_ ?_ ?_
 ext ak;ext C
 exact T.k_3
 ext v
 exact T.g_3
 ext g;ext a
 refine zfl (CE:=t.a_0) (CC:=t.a_4) ?_ ?_ ?_ ?_ ?_ ?_
 ext ak;ext C
 exact T.k_4
 ext v
 exact T.g_4
 ext g;ext ay;ext X
 exact nd_28
 ext as;ext m;ext ab;ext a
 refine zfl (CE:=t.a_0) (CC:=t.a_5) ?_ ?_ ?_ ?_ ?_ ?_
 ext ak;ext C
 exact T.k_5
 ext v
 exact T.g_5
 ext g;ext a
 refine zfl (CE:=t.a_0) (CC:=t.a_6) ?_ ?_ ?_ ?_ ?_ ?_
 ext ak;ext C
 exact T.k_6
 ext v
 exact T.g_6
 ext g;ext a
 refine zfl (CE:=t.a_0) (CC:=t.a_7) ?_ ?_ ?_ ?_ ?_ ?_
 ext ak;ext C
 exact T.k_7
 ext v
 exact T.g_7
 ext g;ext a
 refine zfl (CE:=t.a_0) (CC:=t.a_8) ?_ ?_ ?_ ?_ ?_ ?_
 ext ak;ext C
 exact T.k_8
 ext v
 exact T.g_8
 ext g;ext ay;ext X
 exact nd_28
 ext as;ext m;ext ab;ext a
 refine zfl (CE:=t.a_0) (CC:=t.a_9) ?_ ?_ ?_ ?_ ?_ ?_
 ext ak;ext C
 exact T.k_9
 ext v
 exact T.g_9
 ext g;ext a
 refine zfl (CE:=t.a_0) (CC:=t.a_10) ?_ ?_ ?_ ?_ ?_ ?_
 ext ak;ext C
 exact T.k_10
 ext v
 exact T.g_10
 ext g;ext a
 refine zfl (CE:=t.a_0) (CC:=t.a_11) ?_ ?_ ?_ ?_ ?_ ?_
 ext ak;ext C
 exact T.k_11
 ext v
 exact T.g_11
 ext g;ext ay;ext t
 refine zdG ?_
 ext ad;ext aH
 refine zrs (CE:=t.a_0) ?_ ?_ ?_ ?_
 ext ak;ext v
 exact T.n_ValueError
 ext g
 refine zeR ?_
 ext l
 exact (zcy (zuW hr))
 refine zaE (id:="sum") ?_ ?_ ?_ ?_
 exact zjK
 exact zmj
 exact T.n_sum
 ext a
 refine zqj (N:=["kind"]) ?_ ?_ ?_ ?_ ?_ ?_
 exact (BOk.of (Xn:=(zae s_28).names) (XN:=["e","kinds","words"]) rfl rfl rfl ⋯)
 ext aG;ext m
 intro _ _ _
 exact zaj 0 ztO
 intro _ _ _
 exact zbC
 intro _ _ _
 refine zby (T:="int") ?_ ?_ ?_ ?_
 exact zjX
 exact zoO
 exact T.n_int
 ext aw;ext h;ext i;ext aq
 exact zdv
 ext an;ext f;ext aa
 exact nd_28
 ext ab;ext a
 exact zdv
 ext a
 exact zdv
 ext a
 exact zdv
 ext a
 exact zdv
 ext a
 exact zdv
 ext a
 exact zdv
 ext a
 exact zdv
 ext a
 exact zdv
 ext a
 exact zdv
 ext a
 exact zdv
 ext a
 exact zdv
 ext h;ext aq;ext as
 exact zdv
 ext e;ext E
 refine zql ?_
 ext m
theorem sc_22:zat ["things"] ["things"] (zae s_22):=⟨rfl,rfl,rfl,⋯,rfl,⋯,⋯⟩
theorem ok_22 (T:Tx K mg t):zb8 P w K mg base CX0 1 t.a_22 t.d_22 ["things"] (zcu K 1 F_22):=by
 refine zbA (k:=0) (G:=G_22) (N:=["things"]) (ps:=["things"]) (st:=s_22) T.F_22 sc_22 fun cdv A outer s H E hr=> ?_
 ext aq;ext al;ext T;ext d
 exact zc6
 ext ar
 refine zl7 ?_
 ext i;ext au;ext d
 exact zc6
 ext r
 exact zbc
 exact zdf
 ext am;ext aw;ext i
theorem zu3:(["offer"]:List Str).Nodup:=⋯
theorem sc_20:zat ["stock"] ["stock"] (zae s_20):=⟨rfl,rfl,rfl,⋯,rfl,⋯,⋯⟩
theorem ok_20 (T:Tx K mg t):zb8 P w K mg base CX0 2 t.a_20 t.d_20 ["stock"] (zcu K 1 F_20):=by
 refine zbA (k:=1) (G:=G_20) (N:=["stock"]) (ps:=["stock"]) (st:=s_20) T.F_20 sc_20 fun cdv A outer s H E hr=> ?_
 ext aq;ext aj
 exact (zdU rfl)
 exact zja
 exact T.n_all
 ext a;ext ac;ext x
 exact (BOk.of (Xn:=(zae s_20).names) (XN:=["stock"]) rfl rfl rfl ⋯)
 ext aG;ext au
 intro _ _ _
 exact zaj 0 zu3
 intro _ _ _
 exact zbC
 intro _ _ _
 refine zar (k:=1) (g:=t.a_22) (fd:=t.d_22) (ps:=["things"]) ?_ ?_ ?_ ?_ ?_ ?_
 exact ok_22 T
 ext c
 exact T.m_22
 exact T.F_22.kp
 exact T.b_22
 ext a;ext aK;ext h
theorem nd_14:(["offers","things","offer"]:List Str).Nodup:=⋯
theorem sc_14:zat ["offers","things","offer"] ["offers"] (zae s_14):=⟨rfl,rfl,rfl,⋯,rfl,⋯,⋯⟩
theorem ok_14 (T:Tx K mg t):zb8 P w K mg base CX0 1 t.a_14 t.d_14 ["offers"] (zcu K 1 F_14):=by
 refine zbA (k:=0) (G:=G_14) (N:=["offers","things","offer"]) (ps:=["offers"]) (st:=s_14) T.F_14 sc_14 fun cdv A outer s H E hr=> ?_
 ext f;ext X
 exact nd_14
 refine zfN ?_
 ext ay;ext B;ext aM;ext J;ext g
 exact zaj 2 nd_14
 ext j
 refine ze4 ?_
 refine znU ?_ ?_
 ext m;ext e;ext E;ext i;ext aq;ext u
 exact za6
 exact zbe
 ext O;ext a
 refine zhs ?_ ?_ ?_ ?_
 ext x
 exact T.n_sorted
 exact T.n_set
 ext m;ext h
theorem sc_15:zat ["stock","offers"] ["stock","offers"] (zae s_15):=⟨rfl,rfl,rfl,⋯,rfl,⋯,⋯⟩
theorem ok_15 (T:Tx K mg t):zb8 P w K mg base CX0 2 t.a_15 t.d_15 ["stock","offers"] (zcu K 2 F_15):=by
 refine zbA (k:=1) (G:=G_15) (N:=["stock","offers"]) (ps:=["stock","offers"]) (st:=s_15) T.F_15 sc_15 fun cdv A outer s H E hr=> ?_
 ext aq;ext al;ext T;ext r
 exact zbc
 exact zdf
 ext am;ext a
 refine zar (k:=1) (g:=t.a_14) (fd:=t.d_14) (ps:=["offers"]) ?_ ?_ ?_ ?_ ?_ ?_
 exact ok_14 T
 ext c
 exact T.m_14
 exact T.F_14.kp
 exact T.b_14
 ext a;ext m;ext aI;ext au
theorem sc_12:zat ["stock"] ["stock"] (zae s_12):=⟨rfl,rfl,rfl,⋯,rfl,⋯,⋯⟩
theorem ok_12 (T:Tx K mg t):zb8 P w K mg base CX0 3 t.a_12 t.d_12 ["stock"] (zcu K 1 F_12):=by
 refine zbA (k:=2) (G:=G_12) (N:=["stock"]) (ps:=["stock"]) (st:=s_12) T.F_12 sc_12 fun cdv A outer s H E hr=> ?_
 ext aq
 refine zar (k:=2) (g:=t.a_15) (fd:=t.d_15) (ps:=["stock","offers"]) ?_ ?_ ?_ ?_ ?_ ?_
 exact ok_15 T
 ext c
 exact T.m_15
 exact T.F_15.kp
 exact T.b_15
 ext ax;ext aK
theorem sc_13:zat ["stock"] ["stock"] (zae s_13):=⟨rfl,rfl,rfl,⋯,rfl,⋯,⋯⟩
theorem ok_13 (T:Tx K mg t):zb8 P w K mg base (CXE P w) 4 t.a_13 t.d_13 ["stock"] (spE K 1 F_13):=by
 refine zmE (k:=3) (G:=G_13) (N:=["stock"]) (ps:=["stock"]) (st:=s_13) T.F_13 sc_13 fun cdv A outer s H E hr=> ?_
 ext j;ext t;ext aH
 refine zgP (k:=3) (g:=t.a_12) (fd:=t.d_12) (ps:=["stock"]) ?_ ?_ ?_ ?_ ?_ ?_
 exact ok_12 T
 ext c
 exact T.m_12
 exact T.F_12.kp
 exact T.b_12
 ext aw;ext j
 exact zmI (c:="NotFull") rfl zi7 T.x_exc ⋯ T.k_7
 ext an
theorem nd_23:(["stock","least","thing","offers"]:List Str).Nodup:=⋯
theorem zuE:(["offer","thing"]:List Str).Nodup:=⋯
theorem zuN:(["offer","least"]:List Str).Nodup:=⋯
theorem sc_23:zat ["stock","least","thing","offers"] ["stock"] (zae s_23):=⟨rfl,rfl,rfl,⋯,rfl,⋯,⋯⟩
theorem ok_23 (T:Tx K mg t):zb8 P w K mg base CX0 1 t.a_23 t.d_23 ["stock"] (zcu K 1 F_23):=by
 refine zbA (k:=0) (G:=G_23) (N:=["stock","least","thing","offers"]) (ps:=["stock"]) (st:=s_23) T.F_23 sc_23 fun cdv A outer s H E hr=> ?_
 ext f;ext X
 exact nd_23
 refine zfN ?_
 ext a;ext ap;ext f;ext B;ext aM;ext aN;ext a;ext aK
 exact zaj 2 nd_23
 ext f
 refine zdh 3 (N:=["offer","thing"]) ?_ ?_ ?_ ?_ ?_ ?_ ?_ ?_
 ext x
 exact nd_23
 ext G;ext aG;ext au
 intro _ _ _
 exact zaj 0 zuE
 intro _ _ _
 refine zdT ?_
 ext l
 exact (zmm (zdD hr))
 ext m;ext au
 intro _ _ _
 ext g;ext j
 refine ze4 ?_
 refine zgB ?_ ?_
 ext m;ext W
 exact (zj1 rfl)
 exact zhv
 exact T.n_min
 ext a
 refine zbk (N:=["offer","least"]) ?_ ?_ ?_ ?_ ?_ ?_ ?_
 ext x;ext G;ext aG;ext N
 intro _ _ _
 exact zaj 0 zuN
 intro _ _ _
 exact zbC
 intro _ _ _
 ext as;ext aQ;ext e;ext au;ext i;ext aK;ext aq
 refine ztq ?_
 ext m
theorem nd_18:(["many","things","bits","thing"]:List Str).Nodup:=⋯
theorem sc_18:zat ["many","things","bits","thing"] ["many","things"] (zae s_18):=⟨rfl,rfl,rfl,⋯,rfl,⋯,⋯⟩
theorem ok_18 (T:Tx K mg t):zb8 P w K mg base CX0 1 t.a_18 t.d_18 ["many","things"] (zcu K 2 F_18):=by
 refine zbA (k:=0) (G:=G_18) (N:=["many","things","bits","thing"]) (ps:=["many","things"]) (st:=s_18) T.F_18 sc_18 fun cdv A outer s H E hr=> ?_
 ext f;ext aa
 exact nd_18
 ext i;ext f;ext B;ext aM;ext aN;ext aw
 exact zaj 3 nd_18
 ext f;ext aa
 exact nd_18
 ext d
 exact zb0
 ext E;ext i;ext j;ext t;ext l
 exact (zmm (zdD hr))
 ext N;ext m;ext j;ext aa
 exact nd_18
 ext as;ext E;ext i;ext an;ext aq;ext E
theorem nd_17:(["stock","lots","number","offer","bits","longer"]:List Str).Nodup:=⋯
theorem zuI:(["known","offer","number","bits"]:List Str).Nodup:=⋯
theorem sc_17:zat ["stock","lots","number","offer","bits","longer"] ["stock"] (zae s_17):=⟨rfl,rfl,rfl,⋯,rfl,⋯,⋯⟩
theorem ok_17 (T:Tx K mg t):zb8 P w K mg base CX0 2 t.a_17 t.d_17 ["stock"] (zcu K 1 F_17):=by
 refine zbA (k:=1) (G:=G_17) (N:=["stock","lots","number","offer","bits","longer"]) (ps:=["stock"]) (st:=s_17) T.F_17 sc_17 fun cdv A outer s H E hr=> ?_
 ext f;ext X
 exact nd_17
 ext ab;ext a;ext av;ext aE;ext y;ext h;ext a;ext ap;ext ay;ext B;ext aM
 refine zs0 ?_ ?_
 ext L;ext a;ext d
 exact zc6
 ext r
 exact zbc
 exact zdf
 ext am;ext a;ext aK;ext aE
 refine zl7 ?_
 ext aE
 refine zl7 ?_
 ext ap
 exact zaj 2 nd_17
 ext f;ext ai
 exact nd_17
 ext e;ext au;ext E;ext f
 refine zaQ 4 ?_ ?_
 exact nd_17
 ext Q
 exact ok_18 T
 ext c
 exact T.m_18
 exact T.F_18.kp
 exact T.b_18
 ext a;ext au;ext a;ext e;ext N;ext ap;ext f
 refine zdh 5 (N:=["known","offer","number","bits"]) ?_ ?_ ?_ ?_ ?_ ?_ ?_ ?_
 ext x
 exact nd_17
 exact (BOk.of (Xn:=(zae s_17).names) (XN:=["stock","lots","number","offer","bits","longer"]) rfl rfl rfl ⋯)
 ext aG;ext m
 intro _ _ _
 exact zaj 0 zuI
 intro _ _ _
 exact zbC
 intro _ _ _
 ext av;ext as;ext aQ;ext i;ext au;ext a;ext as;ext av;ext E;ext h;ext au;ext a;ext d
 exact zo4
 ext N;ext aK;ext j;ext X
 exact nd_17
 ext as;ext as
 refine zgO ?_ ?_ ?_
 ext m
 exact zir
 refine zix ?_
 ext i;ext ae
 refine zgO ?_ ?_ ?_
 ext m
 refine zix ?_
 ext i
 exact zir
 ext aq;ext m
theorem nd_16:(["stock","every"]:List Str).Nodup:=⋯
theorem zt1:(["known","every"]:List Str).Nodup:=⋯
theorem sc_16:zat ["stock","every"] ["stock"] (zae s_16):=⟨rfl,rfl,rfl,⋯,rfl,⋯,⋯⟩
theorem ok_16 (T:Tx K mg t):zb8 P w K mg base CX0 3 t.a_16 t.d_16 ["stock"] (zcu K 1 F_16):=by
 refine zbA (k:=2) (G:=G_16) (N:=["stock","every"]) (ps:=["stock"]) (st:=s_16) T.F_16 sc_16 fun cdv A outer s H E hr=> ?_
 ext f;ext X
 exact nd_16
 ext Q
 exact ok_18 T
 ext c
 exact T.m_18
 exact T.F_18.kp
 exact T.b_18
 ext a;ext au;ext a
 refine zlK ?_ ?_ ?_ ?_
 ext x
 exact T.n_list
 ext L;ext aK;ext aq
 refine zbk (N:=["known","every"]) ?_ ?_ ?_ ?_ ?_ ?_ ?_
 ext x
 exact (BOk.of (Xn:=(zae s_16).names) (XN:=["stock","every"]) rfl rfl rfl ⋯)
 ext aG
 refine zar (k:=2) (g:=t.a_17) (fd:=t.d_17) (ps:=["stock"]) ?_ ?_ ?_ ?_ ?_ ?_
 exact ok_17 T
 ext c
 exact T.m_17
 exact T.F_17.kp
 exact T.b_17
 ext aw
 intro _ _ _
 exact zaj 0 zt1
 intro _ _ _
 refine zdT ?_
 ext l;ext T;ext au;ext m
 intro _ _ _
 ext av;ext au;ext a;ext aK
theorem sc_19:zat ["stock"] ["stock"] (zae s_19):=⟨rfl,rfl,rfl,⋯,rfl,⋯,⋯⟩
theorem ok_19 (T:Tx K mg t):zb8 P w K mg base (CXE P w) 5 t.a_19 t.d_19 ["stock"] (spE K 1 F_19):=by
 refine zmE (k:=4) (G:=G_19) (N:=["stock"]) (ps:=["stock"]) (st:=s_19) T.F_19 sc_19 fun cdv A outer s H E hr=> ?_
 ext f
 refine ze4 ?_
 refine zgq (k:=4) (g:=t.a_13) (fd:=t.d_13) (ps:=["stock"]) ?_ ?_ ?_ ?_ ?_ ?_ ?_
 exact ok_13 T
 exact zin
 ext c
 exact T.m_13
 exact T.F_13.kp
 exact T.b_13
 ext aw;ext aq;ext e;ext W
 exact (zfL (zdD hr))
 exact zhv
 exact T.n_min
 ext a
 refine zgP (k:=3) (g:=t.a_16) (fd:=t.d_16) (ps:=["stock"]) ?_ ?_ ?_ ?_ ?_ ?_
 exact ok_16 T
 ext c
 exact T.m_16
 exact T.F_16.kp
 exact T.b_16
 ext aw;ext h;ext i
theorem nd_21:(["stock","least","bearing"]:List Str).Nodup:=⋯
theorem zu2:(["thing","least"]:List Str).Nodup:=⋯
theorem sc_21:zat ["stock","least","bearing"] ["stock"] (zae s_21):=⟨rfl,rfl,rfl,⋯,rfl,⋯,⋯⟩
theorem ok_21 (T:Tx K mg t):zb8 P w K mg base (CXE P w) 6 t.a_21 t.d_21 ["stock"] (spE K 1 F_21):=by
 refine zmE (k:=5) (G:=G_21) (N:=["stock","least","bearing"]) (ps:=["stock"]) (st:=s_21) T.F_21 sc_21 fun cdv A outer s H E hr=> ?_
 ext aL;ext aH
 refine zgP (k:=2) (g:=t.a_20) (fd:=t.d_20) (ps:=["stock"]) ?_ ?_ ?_ ?_ ?_ ?_
 exact ok_20 T
 ext c
 exact T.m_20
 exact T.F_20.kp
 exact T.b_20
 ext aw;ext j
 exact zmI (c:="NotInRow") rfl zi7 T.x_exc ⋯ T.k_8
 ext an;ext f
 refine ze4 ?_
 refine zgq (k:=4) (g:=t.a_13) (fd:=t.d_13) (ps:=["stock"]) ?_ ?_ ?_ ?_ ?_ ?_ ?_
 exact ok_13 T
 exact zin
 ext c
 exact T.m_13
 exact T.F_13.kp
 exact T.b_13
 ext aw;ext f;ext X
 exact nd_21
 refine zgP (k:=1) (g:=t.a_23) (fd:=t.d_23) (ps:=["stock"]) ?_ ?_ ?_ ?_ ?_ ?_
 exact ok_23 T
 ext c
 exact T.m_23
 exact T.F_23.kp
 exact T.b_23
 ext aw;ext f;ext aa
 exact nd_21
 ext u
 exact za6
 exact zbe
 ext O;ext a
 refine zbk (N:=["thing","least"]) ?_ ?_ ?_ ?_ ?_ ?_ ?_
 ext x
 exact (BOk.of (Xn:=(zae s_21).names) (XN:=["stock","least","bearing"]) rfl rfl rfl ⋯)
 ext k;ext aN;ext a;ext aK
 intro _ _ _
 exact zaj 0 zu2
 intro _ _ _
 exact zbC
 intro _ _ _
 ext av;ext d
 exact zc6
 ext aQ;ext as;ext g;ext i;ext aQ;ext g;ext a;ext ap;ext h;ext aq;ext av
 refine zgq (k:=5) (g:=t.a_19) (fd:=t.d_19) (ps:=["stock"]) ?_ ?_ ?_ ?_ ?_ ?_ ?_
 exact ok_19 T
 exact zin
 ext c
 exact T.m_19
 exact T.F_19.kp
 exact T.b_19
 ext aw;ext a;ext E;ext h
theorem nd_39:(["stock","e"]:List Str).Nodup:=⋯
theorem sc_39:zat ["stock","e"] ["stock"] (zae s_39):=⟨rfl,rfl,rfl,⋯,rfl,⋯,⋯⟩
theorem ok_39 (T:Tx K mg t):zb8 P w K mg base CX0 7 t.a_39 t.d_39 ["stock"] (zcu K 1 F_39):=by
 refine zbA (k:=6) (G:=G_39) (N:=["stock","e"]) (ps:=["stock"]) (st:=s_39) T.F_39 sc_39 fun cdv A outer s H E hr=> ?_
 ext j
 refine zsz (CE:=t.a_0) (pe:="e") (k:=1) (fdk:=t.d_28) (fk:=t.a_28) 1 ?_ ?_ ?_ ?_ ?_ ?_ ?_ ?_ ?_ ?_
 exact zrE
 exact nd_39
 exact T.g_0
 ext ak
 exact ok_28 T
 exact T.b_28
 exact T.m_28
 exact T.F_28.kp
 exact (zd8.of (hr.mono (by decide)))
 intro pn xe E' hx
 ext aq
 refine zgq (k:=6) (g:=t.a_21) (fd:=t.d_21) (ps:=["stock"]) ?_ ?_ ?_ ?_ ?_ ?_ ?_
 exact ok_21 T
 exact hx
 ext c
 exact T.m_21
 exact T.F_21.kp
 exact T.b_21
 ext aw
theorem nd_32:(["stock","found","masks","lots","offer"]:List Str).Nodup:=⋯
theorem zoJ:(["things","price"]:List Str).Nodup:=⋯
theorem zrD:(["thing"]:List Str).Nodup:=⋯
theorem zo8:(["lot","had","offer","masks"]:List Str).Nodup:=⋯
theorem zoG:(["lot","had","stock"]:List Str).Nodup:=⋯
theorem sc_32:zat ["stock","found","masks","lots","offer"] ["stock"] (zae s_32):=⟨rfl,rfl,rfl,⋯,rfl,⋯,⋯⟩
theorem ok_32 (T:Tx K mg t):zb8 P w K mg base CX0 1 t.a_32 t.d_32 ["stock"] (zcu K 1 F_32):=by
 refine zbA (k:=0) (G:=G_32) (N:=["stock","found","masks","lots","offer"]) (ps:=["stock"]) (st:=s_32) T.F_32 sc_32 fun cdv A outer s H E hr=> ?_
 ext f;ext X
 exact nd_32
 ext ab;ext ay;ext aa
 exact nd_32
 refine zbk (N:=["things","price"]) ?_ ?_ ?_ ?_ ?_ ?_ ?_
 ext x;ext q;ext s;ext J;ext au
 intro _ _ _
 ext aP
 exact zaj 0 zoJ
 ext w
 exact zaj 1 zoJ
 exact zbX
 intro _ _ _
 exact zbC
 intro _ _ _
 refine zaE (id:="sum") ?_ ?_ ?_ ?_
 exact (zg0 rfl)
 exact zmj
 exact T.n_sum
 ext a
 refine zbk (N:=["thing"]) ?_ ?_ ?_ ?_ ?_ ?_ ?_
 ext x
 exact (BOk.of (N:=["thing"]) (src:=[none]) rfl rfl rfl (by rfl))
 ext aG;ext g
 intro _ _ _
 exact zaj 0 zrD
 intro _ _ _
 exact zbC
 intro _ _ _
 ext d
 exact zig
 ext i;ext g;ext ay;ext ai
 exact nd_32
 ext ab;ext a;ext av;ext y;ext h;ext a;ext ap;ext ay;ext B;ext aM;ext aN;ext a;ext r
 exact zbc
 exact zdf
 ext am;ext a;ext E;ext aI
 exact zaj 4 nd_32
 ext j;ext ai
 exact nd_32
 ext as;ext N
 refine zbk (N:=["lot","had","offer","masks"]) ?_ ?_ ?_ ?_ ?_ ?_ ?_
 ext x;ext q;ext s;ext J;ext N
 intro _ _ _
 ext aP
 exact zaj 0 zo8
 ext w
 exact zaj 1 zo8
 exact zbX
 intro _ _ _
 exact zbC
 intro _ _ _
 ext av;ext as;ext g;ext av;ext E;ext h;ext a;ext d
 exact zo4
 ext m;ext e;ext N;ext E;ext h;ext aq
 refine zaE (id:="sorted") ?_ ?_ ?_ ?_
 exact (ziw (zdD hr))
 exact zhP
 exact T.n_sorted
 ext a
 refine zbk (N:=["lot","had","stock"]) ?_ ?_ ?_ ?_ ?_ ?_ ?_
 ext x;ext q;ext s;ext J;ext N
 intro _ _ _
 ext aP
 exact zaj 0 zoG
 ext w
 exact zaj 1 zoG
 exact zbX
 intro _ _ _
 refine zdT ?_
 ext l;ext T;ext m;ext d
 exact zc6
 ext d
 exact zig
 ext i;ext e;ext E;ext i;ext i
 intro _ _ _
 ext g;ext h
theorem zsb:(["offer","stock"]:List Str).Nodup:=⋯
theorem sc_31:zat ["stock","lot"] ["stock","lot"] (zae s_31):=⟨rfl,rfl,rfl,⋯,rfl,⋯,⋯⟩
theorem ok_31 (T:Tx K mg t):zb8 P w K mg base CX0 1 t.a_31 t.d_31 ["stock","lot"] (zcu K 2 F_31):=by
 refine zbA (k:=0) (G:=G_31) (N:=["stock","lot"]) (ps:=["stock","lot"]) (st:=s_31) T.F_31 sc_31 fun cdv A outer s H E hr=> ?_
 ext aq
 refine zaE (id:="sum") ?_ ?_ ?_ ?_
 exact (zg0 rfl)
 exact zmj
 exact T.n_sum
 ext a
 refine zbk (N:=["offer","stock"]) ?_ ?_ ?_ ?_ ?_ ?_ ?_
 ext x
 exact (BOk.of (Xn:=(zae s_31).names) (XN:=["stock","lot"]) rfl rfl rfl ⋯)
 ext aG;ext m
 intro _ _ _
 exact zaj 0 zsb
 intro _ _ _
 exact zbC
 intro _ _ _
 ext e;ext e;ext aQ;ext i;ext g;ext ap
theorem zto:(["lot","stock"]:List Str).Nodup:=⋯
theorem sc_33:zat ["stock"] ["stock"] (zae s_33):=⟨rfl,rfl,rfl,⋯,rfl,⋯,⋯⟩
theorem ok_33 (T:Tx K mg t):zb8 P w K mg base CX0 2 t.a_33 t.d_33 ["stock"] (zcu K 1 F_33):=by
 refine zbA (k:=1) (G:=G_33) (N:=["stock"]) (ps:=["stock"]) (st:=s_33) T.F_33 sc_33 fun cdv A outer s H E hr=> ?_
 ext aq;ext W
 exact (zfL (zdD hr))
 exact zhv
 exact T.n_min
 ext a
 refine zbk (N:=["lot","stock"]) ?_ ?_ ?_ ?_ ?_ ?_ ?_
 ext x
 exact (BOk.of (Xn:=(zae s_33).names) (XN:=["stock"]) rfl rfl rfl ⋯)
 ext aG
 refine zar (k:=1) (g:=t.a_32) (fd:=t.d_32) (ps:=["stock"]) ?_ ?_ ?_ ?_ ?_ ?_
 exact ok_32 T
 ext c
 exact T.m_32
 exact T.F_32.kp
 exact T.b_32
 ext aw
 intro _ _ _
 exact zaj 0 zto
 intro _ _ _
 exact zbC
 intro _ _ _
 ext av
 refine zar (k:=1) (g:=t.a_31) (fd:=t.d_31) (ps:=["stock","lot"]) ?_ ?_ ?_ ?_ ?_ ?_
 exact ok_31 T
 ext c
 exact T.m_31
 exact T.F_31.kp
 exact T.b_31
 ext a;ext m;ext aw;ext aw;ext h
theorem sc_27:zat ["thing"] ["thing"] (zae s_27):=⟨rfl,rfl,rfl,⋯,rfl,⋯,⋯⟩
theorem ok_27 (T:Tx K mg t):zb8 P w K mg base CX0 1 t.a_27 t.d_27 ["thing"] (zcu K 1 F_27):=by
 refine zbA (k:=0) (G:=G_27) (N:=["thing"]) (ps:=["thing"]) (st:=s_27) T.F_27 sc_27 fun cdv A outer s H E hr=> ?_
 ext aq
 refine zp6 ?_ ?_
 ext ah
 exact zqQ
 exact zoO
 ext v
 exact T.n_int
 ext g
 refine zpM ?_
 refine zuP ?_
 ext ah
 exact zn1
 exact zpq
 ext v
 exact T.n_bool
 ext g
theorem nd_34:(["top","bottom","one","other"]:List Str).Nodup:=⋯
theorem sc_34:zat ["top","bottom","one","other"] ["top","bottom"] (zae s_34):=⟨rfl,rfl,rfl,⋯,rfl,⋯,⋯⟩
theorem ok_34 (T:Tx K mg t):zb8 P w K mg base CX0 1 t.a_34 t.d_34 ["top","bottom"] (zcu K 2 F_34):=by
 refine zbA (k:=0) (G:=G_34) (N:=["top","bottom","one","other"]) (ps:=["top","bottom"]) (st:=s_34) T.F_34 sc_34 fun cdv A outer s H E hr=> ?_
 ext f
 refine ztl 2 3 ?_ ?_ ?_
 ext x
 exact nd_34
 ext a
 refine zaE (id:="abs") ?_ ?_ ?_ ?_
 exact zh1
 exact zpd
 exact T.n_abs
 ext aw;ext a
 refine zaE (id:="abs") ?_ ?_ ?_ ?_
 exact zh1
 exact zpd
 exact T.n_abs
 ext a;ext m;ext h;ext ay
 refine zpG 1000 ?_ ?_ ?_
 ext H;ext l
 exact zlC
 ext N;ext i;ext j
 refine ztl 2 3 ?_ ?_ ?_
 ext x
 exact nd_34
 ext a;ext N;ext a;ext d
 exact zes
 ext E;ext N;ext h;ext aq;ext av;ext d
 exact zeI
 ext g;ext E;ext a;ext d
 exact zeI
 ext m;ext E;ext h
theorem sc_35:zat ["thing"] ["thing"] (zae s_35):=⟨rfl,rfl,rfl,⋯,rfl,⋯,⋯⟩
theorem ok_35 (T:Tx K mg t):zb8 P w K mg base CX0 2 t.a_35 t.d_35 ["thing"] (zcu K 1 F_35):=by
 refine zbA (k:=1) (G:=G_35) (N:=["thing"]) (ps:=["thing"]) (st:=s_35) T.F_35 sc_35 fun cdv A outer s H E hr=> ?_
 ext aL
 refine zdG ?_
 ext ad;ext aH;ext ah
 exact zdL
 exact zbe
 ext v;ext O;ext g;ext ad;ext aJ;ext r
 exact zbc
 exact zdf
 ext am;ext aw;ext i;ext ad;ext aH;ext D
 exact ok_27 T
 ext c
 exact T.m_27
 exact T.F_27.kp
 exact T.b_27
 ext a;ext aK
 refine zeR ?_
 ext aH;ext D
 exact ok_27 T
 ext c
 exact T.m_27
 exact T.F_27.kp
 exact T.b_27
 ext a;ext aK;ext aq
 exact zjL
 ext an;ext aq
 refine zp6 ?_ ?_
 ext al
 exact zlC
 ext au;ext i
 refine zpM ?_
 ext al;ext T;ext R
 exact ok_34 T
 ext c
 exact T.m_34
 exact T.F_34.kp
 exact T.b_34
 ext a;ext au;ext a;ext aK;ext g
theorem nd_36:(["some","top","bottom","one"]:List Str).Nodup:=⋯
theorem sc_36:zat ["some","top","bottom","one"] ["some"] (zae s_36):=⟨rfl,rfl,rfl,⋯,rfl,⋯,⋯⟩
theorem ok_36 (T:Tx K mg t):zb8 P w K mg base CX0 2 t.a_36 t.d_36 ["some"] (zcu K 1 F_36):=by
 refine zbA (k:=1) (G:=G_36) (N:=["some","top","bottom","one"]) (ps:=["some"]) (st:=s_36) T.F_36 sc_36 fun cdv A outer s H E hr=> ?_
 ext f
 refine zik ?_ ?_
 ext av;ext aE;ext ap;ext aP
 exact zaj 1 nd_36
 ext w
 exact zaj 2 nd_36
 exact zbX
 ext f;ext B;ext aM;ext J;ext g
 exact zaj 3 nd_36
 ext j
 refine zik ?_ ?_
 ext R
 exact ok_34 T
 ext c
 exact T.m_34
 exact T.F_34.kp
 exact T.b_34
 ext a;ext as;ext d
 exact zb0
 ext m;ext e;ext N;ext i;ext d
 exact zb0
 ext e;ext N;ext i;ext E;ext a;ext d
 exact zb0
 ext E;ext e;ext N;ext ap;ext aP
 exact zaj 1 nd_36
 ext w
 exact zaj 2 nd_36
 exact zbX
 ext aq;ext av;ext m;ext a;ext E;ext h
theorem nd_37:(["stock","thing","things","price","top","bottom"]:List Str).Nodup:=⋯
theorem zsH:(["one"]:List Str).Nodup:=⋯
theorem ztf:(["one","thing"]:List Str).Nodup:=⋯
theorem sc_37:zat ["stock","thing","things","price","top","bottom"] ["stock","thing"] (zae s_37):=⟨rfl,rfl,rfl,⋯,rfl,⋯,⋯⟩
theorem ok_37 (T:Tx K mg t):zb8 P w K mg base CX0 3 t.a_37 t.d_37 ["stock","thing"] (zcu K 2 F_37):=by
 refine zbA (k:=2) (G:=G_37) (N:=["stock","thing","things","price","top","bottom"]) (ps:=["stock","thing"]) (st:=s_37) T.F_37 sc_37 fun cdv A outer s H E hr=> ?_
 ext aL
 refine zdG ?_
 ext ad;ext aH;ext ah
 exact zdL
 exact zbe
 ext v;ext O;ext m
 refine zeR ?_
 ext aJ;ext r
 exact zbc
 exact zdf
 ext am;ext a;ext m;ext h;ext au;ext aq
 exact zjL
 ext an;ext aL;ext aH;ext aj
 exact (zdU rfl)
 exact zja
 exact T.n_all
 ext a
 refine zbk (N:=["one"]) ?_ ?_ ?_ ?_ ?_ ?_ ?_
 ext x;ext z;ext aG;ext m
 intro _ _ _
 exact zaj 0 zsH
 intro _ _ _
 exact zbC
 intro _ _ _
 refine zp6 ?_ ?_
 refine zar (k:=2) (g:=t.a_35) (fd:=t.d_35) (ps:=["thing"]) ?_ ?_ ?_ ?_ ?_ ?_
 exact ok_35 T
 ext c
 exact T.m_35
 exact T.F_35.kp
 exact T.b_35
 ext aw
 refine zpM ?_
 ext al
 exact zsF
 ext au;ext ap;ext aq
 exact zjL
 ext an;ext f;ext B;ext aM;ext J;ext au;ext aP
 exact zaj 2 nd_37
 ext w
 exact zaj 3 nd_37
 exact zbX
 ext f
 refine zik ?_ ?_
 refine zar (k:=2) (g:=t.a_36) (fd:=t.d_36) (ps:=["some"]) ?_ ?_ ?_ ?_ ?_ ?_
 exact ok_36 T
 ext c
 exact T.m_36
 exact T.F_36.kp
 exact T.b_36
 ext a
 refine zbk (N:=["one","thing"]) ?_ ?_ ?_ ?_ ?_ ?_ ?_
 ext x;ext z;ext aG;ext E
 intro _ _ _
 exact zaj 0 ztf
 intro _ _ _
 exact zbC
 intro _ _ _
 ext aQ;ext g;ext h;ext aP
 exact zaj 4 nd_37
 ext w
 exact zaj 5 nd_37
 exact zbX
 ext j;ext t;ext l
 exact zlC
 exact zab 4
 ext d
 exact zb0
 ext N;ext ae;ext aq
 exact zjL
 ext an;ext aq
 exact zjL
theorem nd_41:(["stock","found","price","cover"]:List Str).Nodup:=⋯
theorem zsq:(["offer"]:List Str).Nodup:=⋯
theorem zsK:(["one"]:List Str).Nodup:=⋯
theorem sc_41:zat ["stock","found","price","cover"] ["stock"] (zae s_41):=⟨rfl,rfl,rfl,⋯,rfl,⋯,⋯⟩
theorem ok_41 (T:Tx K mg t):zb8 P w K mg base CX0 8 t.a_41 t.d_41 ["stock"] (zcu K 1 F_41):=by
 refine zbA (k:=7) (G:=G_41) (N:=["stock","found","price","cover"]) (ps:=["stock"]) (st:=s_41) T.F_41 sc_41 fun cdv A outer s H E hr=> ?_
 ext f;ext X
 exact nd_41
 ext p
 exact ok_39 T
 ext c
 exact T.m_39
 exact T.F_39.kp
 exact T.b_39
 ext aw;ext f
 refine zik ?_ ?_
 refine zar (k:=2) (g:=t.a_33) (fd:=t.d_33) (ps:=["stock"]) ?_ ?_ ?_ ?_ ?_ ?_
 exact ok_33 T
 ext c
 exact T.m_33
 exact T.F_33.kp
 exact T.b_33
 ext aw;ext aP
 exact zaj 2 nd_41
 ext w
 exact zaj 3 nd_41
 exact zbX
 ext aL
 refine zdG ?_
 ext ad;ext aH;ext ah
 exact zdL
 exact zbe
 ext v;ext O;ext m;ext ad;ext aJ;ext r
 exact zbc
 exact zdf
 ext am;ext a;ext m;ext h;ext i;ext ad;ext aJ;ext aQ;ext i;ext N
 refine zeR ?_
 ext aH;ext ah
 exact zdL
 exact zbe
 ext v;ext O;ext aQ;ext i;ext aq
 exact zjL
 ext an;ext aL
 refine zdG ?_
 ext ad;ext aH;ext aj
 exact (zdU rfl)
 exact zja
 exact T.n_all
 ext a;ext ac;ext x;ext I;ext aG;ext aQ;ext i
 intro _ _ _
 exact zaj 0 zsq
 intro _ _ _
 exact zbC
 intro _ _ _
 ext D
 exact ok_27 T
 ext c
 exact T.m_27
 exact T.F_27.kp
 exact T.b_27
 ext aw;ext h
 refine zeR ?_
 ext aH
 refine zar (k:=3) (g:=t.a_37) (fd:=t.d_37) (ps:=["stock","thing"]) ?_ ?_ ?_ ?_ ?_ ?_
 exact ok_37 T
 ext c
 exact T.m_37
 exact T.F_37.kp
 exact T.b_37
 ext ax;ext aQ;ext ap;ext aq
 exact zjL
 ext an;ext aL
 refine zdG ?_
 ext ad;ext aJ
 refine zbk (N:=["one"]) ?_ ?_ ?_ ?_ ?_ ?_ ?_
 ext x;ext I;ext aG;ext aQ;ext i
 intro _ _ _
 exact zaj 0 zsK
 intro _ _ _
 refine zdT ?_
 ext aJ;ext au;ext i
 intro _ _ _
 ext g;ext ab;ext h
 refine zeR ?_
 ext aJ
 refine zar (k:=2) (g:=t.a_36) (fd:=t.d_36) (ps:=["some"]) ?_ ?_ ?_ ?_ ?_ ?_
 exact ok_36 T
 ext c
 exact T.m_36
 exact T.F_36.kp
 exact T.b_36
 ext a;ext aQ;ext ap;ext av;ext E;ext a;ext ap;ext aq
 exact zjL
 ext an;ext aq;ext al;ext T;ext p
 exact ok_39 T
 ext c
 exact T.m_39
 exact T.F_39.kp
 exact T.b_39
 ext aw;ext m
theorem nd_42:(["stock","gone","left"]:List Str).Nodup:=⋯
theorem zoZ:(["things","price","gone"]:List Str).Nodup:=⋯
theorem zrU:(["thing","gone"]:List Str).Nodup:=⋯
theorem zrP:(["offer"]:List Str).Nodup:=⋯
theorem sc_42:zat ["stock","gone","left"] ["stock","gone"] (zae s_42):=⟨rfl,rfl,rfl,⋯,rfl,⋯,⋯⟩
theorem ok_42 (T:Tx K mg t):zb8 P w K mg base CX0 1 t.a_42 t.d_42 ["stock","gone"] (zcu K 2 F_42):=by
 refine zbA (k:=0) (G:=G_42) (N:=["stock","gone","left"]) (ps:=["stock","gone"]) (st:=s_42) T.F_42 sc_42 fun cdv A outer s H E hr=> ?_
 ext f
 refine zdh 2 (N:=["things","price","gone"]) ?_ ?_ ?_ ?_ ?_ ?_ ?_ ?_
 ext x
 exact nd_42
 ext M;ext s;ext J;ext au
 intro _ _ _
 ext aP
 exact zaj 0 zoZ
 ext w
 exact zaj 1 zoZ
 exact zbX
 intro _ _ _
 exact zbC
 intro _ _ _
 ext av;ext u
 exact za6
 exact zbe
 ext O;ext a
 refine zbk (N:=["thing","gone"]) ?_ ?_ ?_ ?_ ?_ ?_ ?_
 ext x
 exact (BOk.of (N:=["thing","gone"]) (src:=[none,some 2]) rfl rfl rfl (by rfl))
 ext aG;ext g
 intro _ _ _
 exact zaj 0 zrU
 intro _ _ _
 refine zdT ?_
 ext aJ;ext g;ext m
 intro _ _ _
 ext g;ext h;ext a;ext m;ext h;ext aq;ext av;ext au;ext a;ext u
 exact za6
 exact zbe
 ext O;ext a;ext ac;ext x;ext M;ext aG;ext E
 intro _ _ _
 exact zaj 0 zrP
 intro _ _ _
 refine zdT ?_
 ext aJ;ext au;ext y;ext h
 intro _ _ _
 ext g;ext aI
theorem nd_29:(["box","many","way","bits","first","step"]:List Str).Nodup:=⋯
theorem zup:(["thing","bits"]:List Str).Nodup:=⋯
theorem ztL:(["k","first","step","many"]:List Str).Nodup:=⋯
theorem sc_29:zat ["box","many","way","bits","first","step"] ["box","many"] (zae s_29):=⟨rfl,rfl,rfl,⋯,rfl,⋯,⋯⟩
theorem ok_29 (T:Tx K mg t):zb8 P w K mg base CX0 2 t.a_29 t.d_29 ["box","many"] (zcu K 2 F_29):=by
 refine zbA (k:=1) (G:=G_29) (N:=["box","many","way","bits","first","step"]) (ps:=["box","many"]) (st:=s_29) T.F_29 sc_29 fun cdv A outer s H E hr=> ?_
 ext f;ext aa
 exact nd_29
 ext aF;ext ap;ext aL;ext l;ext T;ext E;ext i;ext f;ext ai
 exact nd_29
 ext as;ext i;ext aF;ext d
 exact zc6
 ext d
 exact zig
 ext i;ext m;ext ap;ext aq;ext u
 exact za6
 exact zbe
 ext O;ext a
 refine zbk (N:=["thing","bits"]) ?_ ?_ ?_ ?_ ?_ ?_ ?_
 ext x;ext A;ext k;ext aN;ext a;ext m;ext h
 intro _ _ _
 exact zaj 0 zup
 intro _ _ _
 refine zdT ?_
 ext l;ext T;ext d
 exact zpK
 ext d
 exact zpu
 ext m;ext g;ext i;ext i
 intro _ _ _
 ext g;ext h;ext an;ext f
 refine zik ?_ ?_
 ext av;ext aF;ext m;ext h;ext a;ext e;ext ab;ext a;ext aE;ext as;ext i;ext aF;ext ap;ext h;ext d
 exact zc6
 ext E;ext ap;ext aP
 exact zaj 4 nd_29
 ext w
 exact zaj 5 nd_29
 exact zbX
 ext aq;ext u
 exact za6
 exact zbe
 ext O;ext a
 refine zhs ?_ ?_ ?_ ?_
 ext x
 exact T.n_sorted
 exact T.n_set
 refine zbk (N:=["k","first","step","many"]) ?_ ?_ ?_ ?_ ?_ ?_ ?_
 ext x;ext A;ext k;ext aN;ext a;ext as;ext i;ext aF;ext ap;ext h
 intro _ _ _
 exact zaj 0 ztL
 intro _ _ _
 exact zbC
 intro _ _ _
 ext d
 exact zes
 ext as;ext m;ext d
 exact zb0
 ext E;ext g;ext N;ext h
theorem nd_30:(["box","most","lots","many","far","rows","thing","row"]:List Str).Nodup:=⋯
theorem zs3:(["k","box","many","far"]:List Str).Nodup:=⋯
theorem zrZ:(["row","thing"]:List Str).Nodup:=⋯
theorem zr9:(["row"]:List Str).Nodup:=⋯
theorem sc_30:zat ["box","most","lots","many","far","rows","thing","row"] ["box","most","lots"] (zae s_30):=⟨rfl,rfl,rfl,⋯,rfl,⋯,⋯⟩
theorem ok_30 (T:Tx K mg t):zb8 P w K mg base CX0 3 t.a_30 t.d_30 ["box","most","lots"] (zcu K 3 F_30):=by
 refine zbA (k:=2) (G:=G_30) (N:=["box","most","lots","many","far","rows","thing","row"]) (ps:=["box","most","lots"]) (st:=s_30) T.F_30 sc_30 fun cdv A outer s H E hr=> ?_
 ext f;ext ai
 exact nd_30
 ext as;ext i;ext aF;ext m;ext ay
 refine zaQ 4 ?_ ?_
 exact nd_30
 ext e;ext ab;ext a;ext aE;ext aE;ext aE;ext d
 exact zkT
 ext i;ext ap;ext aF;ext ap;ext f
 refine zdh 5 (N:=["k","box","many","far"]) ?_ ?_ ?_ ?_ ?_ ?_ ?_ ?_
 ext x
 exact nd_30
 ext n;ext k;ext aN;ext a;ext as;ext i;ext aF;ext E;ext aI
 intro _ _ _
 exact zaj 0 zs3
 intro _ _ _
 exact zbC
 intro _ _ _
 refine zfN ?_
 ext a
 refine zar (k:=2) (g:=t.a_29) (fd:=t.d_29) (ps:=["box","many"]) ?_ ?_ ?_ ?_ ?_ ?_
 exact ok_29 T
 ext c
 exact T.m_29
 exact T.F_29.kp
 exact T.b_29
 ext a;ext m;ext a;ext E;ext h;ext a;ext as;ext i;ext aD;ext a;ext m;ext a;ext N;ext h;ext ay;ext B;ext aM;ext aN;ext a;ext N;ext h
 exact zaj 6 nd_30
 ext j;ext t;ext l
 exact (zrt (zdD hr))
 refine zbk (N:=["row","thing"]) ?_ ?_ ?_ ?_ ?_ ?_ ?_
 ext x;ext n;ext aG;ext ae
 intro _ _ _
 exact zaj 0 zrZ
 intro _ _ _
 refine zdT ?_
 ext l
 exact (zmm (zdD hr))
 ext m;ext au
 intro _ _ _
 ext g;ext ab;ext ay
 refine zaQ 7 ?_ ?_
 exact nd_30
 ext e;ext ae;ext aF;ext r
 exact zbc
 exact zdf
 ext am;ext a;ext ae;ext aI;ext j
 refine zik ?_ ?_
 ext u
 exact za6
 exact zbe
 ext O;ext a
 refine zaE (id:="sorted") ?_ ?_ ?_ ?_
 exact (zhS rfl)
 exact zhP
 exact T.n_sorted
 ext a;ext as;ext e
 exact zab 7
 ext i;ext av
 exact zab 6
 ext aI;ext h
 refine zos ?_ ?_
 exact zab 7
 ext i;ext an;ext aq;ext av;ext N;ext a;ext u
 exact za6
 exact zbe
 ext O;ext a
 refine zbk (N:=["row"]) ?_ ?_ ?_ ?_ ?_ ?_ ?_
 ext x;ext n;ext aG;ext ae
 intro _ _ _
 exact zaj 0 zr9
 intro _ _ _
 exact zbC
 intro _ _ _
 ext av;ext au;ext a;ext aK;ext aI
theorem zon:(["things","price"]:List Str).Nodup:=⋯
theorem sc_40:zat ["stock"] ["stock"] (zae s_40):=⟨rfl,rfl,rfl,⋯,rfl,⋯,⋯⟩
theorem ok_40 (T:Tx K mg t):zb8 P w K mg base CX0 1 t.a_40 t.d_40 ["stock"] (zcu K 1 F_40):=by
 refine zbA (k:=0) (G:=G_40) (N:=["stock"]) (ps:=["stock"]) (st:=s_40) T.F_40 sc_40 fun cdv A outer s H E hr=> ?_
 ext aq;ext aj
 exact (zdU rfl)
 exact zja
 exact T.n_all
 ext a
 refine zbk (N:=["things","price"]) ?_ ?_ ?_ ?_ ?_ ?_ ?_
 ext x
 exact (BOk.of (Xn:=(zae s_40).names) (XN:=["stock"]) rfl rfl rfl ⋯)
 ext s;ext J;ext au
 intro _ _ _
 ext aP
 exact zaj 0 zon
 ext w
 exact zaj 1 zon
 exact zbX
 intro _ _ _
 exact zbC
 intro _ _ _
 ext al;ext T;ext g
 refine zfo ?_ ?_ ?_ ?_ ?_
 ext x;ext O;ext L;ext au;ext as;ext ar
 refine zl7 ?_
 ext i;ext ap
theorem nd_43:(["script","k","box","stock","gone","other","longer"]:List Str).Nodup:=⋯
theorem sc_43:zat ["script","k","box","stock","gone","other","longer"] ["script"] (zae s_43):=⟨rfl,rfl,rfl,⋯,rfl,⋯,⋯⟩
theorem ok_43 (T:Tx K mg t):zb8 P w K mg base CX0 9 t.a_43 t.d_43 ["script"] (zcu K 1 F_43):=by
 refine zbA (k:=8) (G:=G_43) (N:=["script","k","box","stock","gone","other","longer"]) (ps:=["script"]) (st:=s_43) T.F_43 sc_43 fun cdv A outer s H E hr=> ?_
 ext f;ext B;ext aM;ext aN;ext a
 refine zaE (id:="max") ?_ ?_ ?_ ?_
 exact (zkc rfl)
 exact zrR
 exact T.n_max
 ext a;ext aE;ext W
 exact (zfI rfl)
 exact zhv
 exact T.n_min
 ext a;ext r
 exact zbc
 exact zdf
 ext am;ext aw;ext a;ext ap;ext aI
 exact zaj 1 nd_43
 ext f;ext aa
 exact nd_43
 refine zar (k:=2) (g:=t.a_25) (fd:=t.d_25) (ps:=["script","k"]) ?_ ?_ ?_ ?_ ?_ ?_
 exact ok_25 T
 ext c
 exact T.m_25
 exact T.F_25.kp
 exact T.b_25
 ext ax;ext m;ext ay;ext ai
 exact nd_43
 refine zar (k:=2) (g:=t.a_38) (fd:=t.d_38) (ps:=["box","most","lots"]) ?_ ?_ ?_ ?_ ?_ ?_
 exact ok_38 T
 ext c
 exact T.m_38
 exact T.F_38.kp
 exact T.b_38
 ext a;ext E;ext a;ext aE;ext ap;ext aL;ext aH
 refine zar (k:=8) (g:=t.a_41) (fd:=t.d_41) (ps:=["stock"]) ?_ ?_ ?_ ?_ ?_ ?_
 exact ok_41 T
 ext c
 exact T.m_41
 exact T.F_41.kp
 exact T.b_41
 ext a;ext N;ext h;ext aq
 exact zjL
 ext an;ext f
 refine zaQ 4 ?_ ?_
 exact nd_43
 ext e;ext ab;ext a;ext aE;ext d
 exact zc6
 ext e;ext N;ext i;ext ap;ext aD;ext a;ext E;ext a;ext ap;ext aL;ext aJ;ext p
 exact ok_39 T
 ext c
 exact T.m_39
 exact T.F_39.kp
 exact T.b_39
 ext a
 refine zar (k:=1) (g:=t.a_42) (fd:=t.d_42) (ps:=["stock","gone"]) ?_ ?_ ?_ ?_ ?_ ?_
 exact ok_42 T
 ext c
 exact T.m_42
 exact T.F_42.kp
 exact T.b_42
 ext a;ext N;ext a
 exact zab 4
 ext aI
 exact zdv
 ext aq
 exact zjL
 ext an;ext f
 refine zaQ 5 ?_ ?_
 exact nd_43
 refine zar (k:=3) (g:=t.a_30) (fd:=t.d_30) (ps:=["box","most","lots"]) ?_ ?_ ?_ ?_ ?_ ?_
 exact ok_30 T
 ext c
 exact T.m_30
 exact T.F_30.kp
 exact T.b_30
 ext a;ext E;ext a;ext aE;ext ap;ext j;ext t;ext aH
 refine zar (k:=1) (g:=t.a_40) (fd:=t.d_40) (ps:=["stock"]) ?_ ?_ ?_ ?_ ?_ ?_
 exact ok_40 T
 ext c
 exact T.m_40
 exact T.F_40.kp
 exact T.b_40
 ext a;ext ae;ext ay
 refine zaQ 6 ?_ ?_
 exact nd_43
 ext av;ext e;ext ae;ext aE;ext as;ext e;ext ae;ext i;ext av;ext av
 refine zjk ?_ ?_ ?_ ?_
 ext x;ext O;ext L;ext e;ext ae;ext aE;ext ap;ext aI;ext j;ext t
 refine zdG ?_
 ext ad;ext aJ;ext p
 exact ok_39 T
 ext c
 exact T.m_39
 exact T.F_39.kp
 exact T.b_39
 ext a;ext ae;ext h
 exact zdv
 refine zeR ?_
 ext aJ;ext p
 exact ok_39 T
 ext c
 exact T.m_39
 exact T.F_39.kp
 exact T.b_39
 ext a
 exact zab 6
 ext h
 exact zdv
 ext aq
 exact zjL
 ext an;ext j;ext t;ext aH
 refine zar (k:=8) (g:=t.a_41) (fd:=t.d_41) (ps:=["stock"]) ?_ ?_ ?_ ?_ ?_ ?_
 exact ok_41 T
 ext c
 exact T.m_41
 exact T.F_41.kp
 exact T.b_41
 ext a;ext ae;ext h;ext aq
 exact zjL
 ext an;ext aq
 exact zjL
end
end K72
set_option exponentiation.threshold 8000
namespace L3
open L2 LT
section
theorem zg1 {α:Type} {g':α->D} {f:D->M (Option D)} {k:α->Option D}: ∀ {xs:List α},(∀ x∈xs,f (g' x)=pure (k x))->zbV f (xs.map g')=pure (xs.filterMap k)
 | [],_=>rfl
 | x::r,hf=>by
  rw [qaM,zbV,hf x qau,zg1 fun y hy=>hf y (qan _ hy)]
  simp only [pure_bind]
  cases e:k x<;>simp [qat,e]
theorem zaX {α:Type} {g':α->D} {fi:FA} {g:D->Sd->M Sd} {tc:FT} {te:FE} {src:List (Option Nat)} {sd:Sd} {xs:List α} {k:α->Option D} (hi:fi sd=pure (xs.map g')) (hl:xs.length<=1000) (hf: ∀ x∈xs,za9 g tc te (zao src sd) (g' x)=pure (k x)):zaw fi g tc te src sd=pure (.lst (xs.filterMap k)):=by
 unfold zaw
 rw [hi]
 simp only [pure_bind]
 rw [zaB (by rw [qaH];exact hl)]
 simp only [pure_bind]
 have: ∀ {ys:List α},(∀ x∈ys,za9 g tc te (zao src sd) (g' x)=pure (k x))->zbV (za9 g tc te (zao src sd)) (ys.map g')=pure (ys.filterMap k):=by
  intro ys
  induction ys with
  | nil=>intro _;rfl
  | cons x r ih=>
   intro hf
   rw [qaM,zbV,hf x qau,ih fun y hy=>hf y (qan _ hy)]
   simp only [pure_bind]
   cases e:k x<;>simp [qat,e]
 rw [this hf]
 simp only [pure_bind]
theorem zbu {α β:Type} {p:α->Bool} {g:α->β}: ∀ xs:List α,xs.filterMap (fun x=>if p x=true then some (g x) else none)=(xs.filter p).map g
 | []=>rfl
 | x::r=>by
  rw [qat,List.filter_cons,zbu r]
  cases p x<;>simp
end
section
theorem zlZ (k:Int) (xs:List Int):dIn (.int k) (.lst (xs.map D.int))=pure (.bl (xs.any (· == k))):=by
 show zmP false (.int k) (.lst (xs.map D.int))=_
 unfold zmP
 simp only [pd]
 rw [zb7]
 have c:zky (.int k) (xs.map PyData.int)=true:=by
  unfold zky
  simp [PyData.canLay0,zaV,PyData.depth,zbg]
 simp only [c,if_true,zeL]
 rfl
theorem zgT {n:Nat} (h:n<=16000000):fits n=pure ():=by
 unfold fits
 rw [qa4 (qaS h (by decide))]
theorem zb9 {α:Type} {g':α->D} {fi:FA} {g:D->Sd->M Sd} {tc:FT} {te:FE} {src:List (Option Nat)} {sd:Sd} {xs:List α} {k:α->Option D} (hi:fi sd=pure (xs.map g')) (hl:xs.length<=16000000) (hf: ∀ x∈xs,za9 g tc te (zao src sd) (g' x)=pure (k x)):zaw fi g tc te src sd=pure (.lst (xs.filterMap k)):=by
 unfold zaw
 rw [hi,pure_bind,zgT (by rw [qaH];exact hl),pure_bind,zg1 hf]
 rfl
theorem zhI: ∀ {xs ys zs:List Int},HT.zbd xs ys=true->HT.zbd ys zs=true->HT.zbd xs zs=true
 | [],[],_,h,_=>by cases h
 | [],_::_,[],_,h=>by cases h
 | [],_::_,_::_,_,_=>rfl
 | _::_,[],_,h,_=>by cases h
 | _::_,_::_,[],_,h=>by cases h
 | x::xs,y::ys,z::zs,h1,h2=>by
  rw [HT.zbf] at h1 h2 ⊢
  split at h1
  ·split at h2
   ·rw [qa4 ⋯]
    exact zhI h1 h2
   ·simp at h2
    rw [qa5 ⋯]
    simp
    omega
  ·simp at h1
   split at h2
   ·rw [qa5 ⋯]
    simp
    omega
   ·simp at h2
    rw [qa5 ⋯]
    simp
    omega
theorem ziL: ∀ {xs ys:List Int},HT.zbd xs ys=false->HT.zbd ys xs=false->xs=ys
 | [],[],_,_=>rfl
 | [],_::_,h,_=>by cases h
 | _::_,[],_,h=>by cases h
 | x::xs,y::ys,h1,h2=>by
  rw [HT.zbf] at h1 h2
  by_cases e:x=y
  ·rw [qa4 e] at h1
   rw [qa4 e.symm] at h2
   rw [e,ziL h1 h2]
  ·rw [qa5 e] at h1
   rw [qa5 (Ne.symm e)] at h2
   simp at h1 h2
   omega
theorem zmh {p q r:Int×List Int} (h1:pLt p q=true) (h2:pLt q r=true):pLt p r=true:=by
 unfold pLt at*
 split at h1
 ·split at h2
  ·rw [qa4 ⋯]
   exact zhI h1 h2
  ·simp at h2
   rw [qa5 ⋯]
   simp
   omega
 ·simp at h1
  split at h2
  ·rw [qa5 ⋯]
   simp
   omega
  ·simp at h2
   rw [qa5 ⋯]
   simp
   omega
theorem znJ {p q:Int×List Int} (h1:pLt p q=false) (h2:pLt q p=false):p=q:=by
 unfold pLt at*
 by_cases e:p.1=q.1
 ·rw [qa4 e] at h1
  rw [qa4 e.symm] at h2
  exact Prod.ext e (ziL h1 h2)
 ·rw [qa5 e] at h1
  rw [qa5 (Ne.symm e)] at h2
  simp at h1 h2
  omega
theorem zln (f:Nat->Int×List Int): ∀ k,argBest (fun i j=>pLt (f i) (f j)) k<=k/\ ∀ i,i<=k->pLt (f i) (f (argBest (fun i j=>pLt (f i) (f j)) k))=false
 | 0=>⟨qaV _,fun i hi=>by
   have:i=0:=by omega
   subst this
   show pLt (f 0) (f 0)=false
   unfold pLt
   rw [qa4 rfl,zdP]⟩
 | k+1=>by
  obtain ⟨h1,h2⟩:=zln f k
  unfold argBest
  by_cases c:pLt (f (k+1)) (f (argBest (fun i j=>pLt (f i) (f j)) k))=true
  ·rw [qa4 c]
   refine ⟨qaV _,fun i hi=> ?_⟩
   by_cases e:i=k+1
   ·subst e
    unfold pLt
    rw [qa4 rfl,zdP]
   ·have h3:=h2 i ⋯
    cases h4:pLt (f i) (f (k+1)) with
    | false=>rfl
    | true=>rw [zmh h4 c] at h3;cases h3
  ·rw [qa5 c]
   refine ⟨⋯,fun i hi=> ?_⟩
   by_cases e:i=k+1
   ·subst e
    simpa using c
   ·exact h2 i ⋯
theorem zdW {ps:List (Int×List Int)} (h:ps≠[]):zdd ps<ps.length/\ ∀ q∈ps,pLt q (ps.getD (zdd ps) (0,[]))=false:=by
 have hl:=List.length_pos_iff.mpr h
 obtain ⟨h1,h2⟩:=zln (fun i=>ps.getD i (0,[])) (ps.length - 1)
 refine ⟨Nat.lt_of_le_of_lt h1 ⋯,fun q hq=> ?_⟩
 obtain ⟨i,hi,rfl⟩:=List.getElem_of_mem hq
 have h3:=h2 i ⋯
 have e:ps.getD i (0,[])=ps[i]:=by simp [List.getD,hi]
 rw [<- e]
 exact h3
def pD2 (p:Int×List Int):D:= .tup [.int p.1,tI p.2]
theorem zhA: ∀ ps:List (Int×List Int),zdR (ps.map pD2)=some ps
 | []=>rfl
 | p::r=>by
  rw [qaM,zdR,zhA r]
  simp only [pD2,tI,zhJ,zbi,Option.map,Option.bind]
theorem zhz {ps:List (Int×List Int)} (h:ps≠[]):zno [.lst (ps.map pD2)]=pure (pD2 (ps.getD (zdd ps) (0,[]))):=by
 have hb:=(zdW h).1
 have e:(ps.map pD2)[zdd ps]? = some (pD2 (ps.getD (zdd ps) (0,[]))):=by simp [List.getD,hb]
 show (do let ps'<-ofO (zdR (ps.map pD2));ofO ((ps.map pD2)[zdd ps']?):M D)=_
 rw [zhA]
 show (ofO ((ps.map pD2)[zdd ps]?):M D)=_
 rw [e]
 rfl
theorem zoH (a b:Nat):Builtin.bitOr (a:Int) (b:Int)=((a ||| b:Nat):Int):=by
 unfold Builtin.bitOr Builtin.bitAnd Builtin.bitNot
 have h1:decide (0<= -(a:Int) - 1)=false:=by simp;omega
 have h2:decide (0<= -(b:Int) - 1)=false:=by simp;omega
 rw [h1,h2]
 simp only
 have e1:(-(-(a:Int) - 1) - 1).toNat=a:=by omega
 have e2:(-(-(b:Int) - 1) - 1).toNat=b:=by omega
 rw [e1,e2]
 omega
def bv (p:Nat->Bool):Nat->Nat
 | 0=>0
 | n+1=>bv p n*2+(if p n=true then 1 else 0)
theorem zr6 (p q:Nat->Bool): ∀ n,bv p n ||| bv q n=bv (fun i=>p i || q i) n
 | 0=>by
  unfold bv
  rfl
 | n+1=>by
  have ih:=zr6 p q n
  unfold bv
  rw [<- ih]
  refine Nat.eq_of_testBit_eq fun i=> ?_
  cases i with
  | zero=>
   rw [Nat.testBit_or]
   simp only [Nat.testBit_zero]
   cases p n<;>cases q n<;>simp<;>omega
  | succ i=>
   rw [Nat.testBit_or]
   simp only [Nat.testBit_add_one]
   have e: ∀ (a:Nat) (c:Bool),(a*2+(if c=true then 1 else 0)) / 2=a:=fun a c=>by cases c<;>simp<;>omega
   rw [e,e,e,Nat.testBit_or]
theorem zml (p:Nat->Bool): ∀ n,bv p n=bv (fun _=>true) n↔ ∀ i,i<n->p i=true
 | 0=>⟨fun _ i h=>by omega,fun _=>rfl⟩
 | n+1=>by
  have ih:=zml p n
  unfold bv
  constructor
  ·intro h i hi
   cases hp:p n with
   | false=>rw [hp] at h;simp at h;omega
   | true=>
    rw [hp] at h
    simp at h
    by_cases e:i=n
    ·rw [e];exact hp
    ·exact ih.mp ⋯ i ⋯
  ·intro h
   rw [h n ⋯,ih.mpr fun i hi=>h i ⋯]
theorem ziI {p q:Nat->Bool}: ∀ {n},(∀ i,i<n->p i=q i)->bv p n=bv q n
 | 0,_=>rfl
 | n+1,h=>by
  unfold bv
  rw [h n ⋯,ziI fun i hi=>h i ⋯]
theorem zjG (j:Int) (r:Nat):zcW j (r+1)= .int j::zcW (j+1) r:=by
 unfold zcW
 rw [List.range_succ_eq_map,qaM,qaT]
 congr 1
 ·simp
 ·refine List.map_congr_left fun k _=> ?_
  simp
  omega
theorem zm2 (lo:Int) (k:Nat):zj8 lo (k+1)= .int lo::zj8 (lo - 1) k:=by
 unfold zj8
 rw [List.range_succ_eq_map,qaM,qaT]
 congr 1
 ·simp
 ·refine List.map_congr_left fun j _=> ?_
  simp
  omega
def kl (n:Nat):Nat->List (List Int)
 | 0=>[[]]
 | r+1=>(kl n r).take 1++(kl n r).map (fun ls=>((n - (r+1):Nat):Int)::ls)++(kl n r).drop 1
theorem zex (n:Nat): ∀ (r:Nat) (x:List Int),r<=n->(x∈kl n r↔x.Pairwise (· < ·)/\ ∀ y∈x,((n - r:Nat):Int)<=y/\y<(n:Int))
 | 0,x,_=>by
  unfold kl
  rw [List.mem_singleton]
  constructor
  ·rintro rfl
   exact ⟨.nil,fun y hy=>by cases hy⟩
  ·rintro ⟨_,h⟩
   cases x with
   | nil=>rfl
   | cons y r=>have:=h y qau;omega
 | r+1,x,hr=>by
  have ih:=fun y=>zex n r y ⋯
  have e:x∈kl n (r+1)↔x∈kl n r\/ ∃ y∈kl n r,((n - (r+1):Nat):Int)::y=x:=by
   have h0:x∈kl n r↔x∈(kl n r).take 1++(kl n r).drop 1:=by rw [qam]
   have h1:x∈kl n (r+1)↔x∈(kl n r).take 1++(kl n r).map (fun ls=>((n - (r+1):Nat):Int)::ls)++(kl n r).drop 1:=Iff.rfl
   rw [h0,h1]
   simp only [qaK,qaU]
   constructor
   ·rintro ((h | h) | h)
    ·exact .inl (.inl h)
    ·exact .inr h
    ·exact .inl (.inr h)
   ·rintro ((h | h) | h)
    ·exact .inl (.inl h)
    ·exact .inr h
    ·exact .inl (.inr h)
  rw [e,ih x]
  constructor
  ·rintro (⟨h1,h2⟩ | ⟨y,hy,rfl⟩)
   ·exact ⟨h1,fun y hy=>by have:=h2 y hy;omega⟩
   ·obtain ⟨g1,g2⟩:=(ih y).mp hy
    refine ⟨qay.mpr ⟨fun a ha=> ?_,g1⟩,fun z hz=> ?_⟩
    ·have:=g2 a ha
     omega
    ·rcases qaP.mp hz with rfl | hz
     ·omega
     ·have:=g2 z hz
      omega
  ·rintro ⟨h1,h2⟩
   cases x with
   | nil=>exact .inl ⟨.nil,fun y hy=>by cases hy⟩
   | cons y ys=>
    rw [qay] at h1
    have hy:=h2 y qau
    by_cases c:y=((n - (r+1):Nat):Int)
    ·refine .inr ⟨ys,(ih ys).mpr ⟨h1.2,fun z hz=> ?_⟩,by rw [c]⟩
     have h3:=h1.1 z hz
     have h4:=h2 z (qan _ hz)
     omega
    ·refine .inl ⟨qay.mpr h1,fun z hz=> ?_⟩
     have h4:=h2 z hz
     rcases qaP.mp hz with rfl | hz
     ·omega
     ·have h3:=h1.1 z hz
      omega
theorem ziN (n:Nat): ∀ r,(kl n r).length=2^r
 | 0=>rfl
 | r+1=>by
  unfold kl
  rw [qav,qav,qaH,List.length_take,List.length_drop,ziN n r,Nat.pow_succ]
  have:=Nat.two_pow_pos r
  omega
def pr (os:List (List Int×Int)) (ls:List Int):Int:=(ls.map fun i=>(os.getD i.toNat ([],0)).2).sum
def zoD (os:List (List Int×Int)) (ls:List Int) (t:Nat):Bool:=ls.any fun i=>(os.getD i.toNat ([],0)).1.any (· == (t:Int))
def cvB (m:Int) (os:List (List Int×Int)) (ls:List Int):Bool:=bv (zoD os ls) m.toNat==bv (fun _=>true) m.toNat
theorem zfb {m:Int} {os:List (List Int×Int)} {ls:List Int}:cvB m os ls=true↔ ∀ t:Int,0<=t->t<m-> ∃ i∈ls,t∈(os.getD i.toNat ([],0)).1:=by
 unfold cvB
 rw [beq_iff_eq,zml]
 have key: ∀ t:Nat,zoD os ls t=true↔ ∃ i∈ls,(t:Int)∈(os.getD i.toNat ([],0)).1:=fun t=>by
  unfold zoD
  simp [List.any_eq_true]
 constructor
 ·intro h t t0 t1
  have:=(key t.toNat).mp (h t.toNat ⋯)
  rw [Int.toNat_of_nonneg t0] at this
  exact this
 ·intro h i hi
  exact (key i).mpr (h i ⋯ ⋯)
def trD (m:Int) (os:List (List Int×Int)) (ls:List Int):D:= .tup [.int (pr os ls),tI ls,.int (bv (zoD os ls) m.toNat)]
theorem zmr {p:Nat->Bool} (h: ∀ i,p i=false): ∀ n,bv p n=0
 | 0=>rfl
 | n+1=>by
  unfold bv
  rw [zmr h n,h n]
  rfl
theorem zmT (a b:Nat):((a:Int)==(b:Int))=(a==b):=by
 rw [Bool.eq_iff_iff,beq_iff_eq,beq_iff_eq]
 omega
end
section
def lk:Nat->List (List Int)
 | 0=>[[]]
 | r+1=>lk r++(lk r).map fun ls=>ls++[(r:Int)]
theorem zg7: ∀ r,(lk r).length=2^r
 | 0=>rfl
 | r+1=>by rw [lk,qav,qaH,zg7 r,Nat.pow_succ];omega
theorem zg9: ∀ (r:Nat) (ls:List Int),ls∈lk r↔ls.Pairwise (· < ·)/\ ∀ y∈ls,0<=y/\y<(r:Int)
 | 0,ls=>by
  simp only [lk,List.mem_singleton]
  constructor
  ·rintro rfl
   exact ⟨List.Pairwise.nil,fun y hy=>by cases hy⟩
  ·rintro ⟨_,h⟩
   cases ls with
   | nil=>rfl
   | cons y _=>have:=h y qau;omega
 | r+1,ls=>by
  rw [lk,qaK,zg9 r,qaU]
  constructor
  ·rintro (⟨h1,h2⟩ | ⟨ks,hk,rfl⟩)
   ·exact ⟨h1,fun y hy=>by have:=h2 y hy;omega⟩
   ·obtain ⟨h1,h2⟩:=(zg9 r ks).mp hk
    refine ⟨qaq.mpr ⟨h1,List.pairwise_singleton _ _,fun a ha b hb=> ?_⟩,fun y hy=> ?_⟩
    ·rw [List.mem_singleton.mp hb]
     exact (h2 a ha).2
    ·rcases qaK.mp hy with z | z
     ·have:=h2 y z;omega
     ·rw [List.mem_singleton.mp z];omega
  ·rintro ⟨h1,h2⟩
   by_cases hl:(r:Int)∈ls
   ·right
    obtain ⟨as,bs,rfl⟩:=List.append_of_mem hl
    obtain ⟨p1,p2,p3⟩:=qaq.mp h1
    have hb:bs=[]:=by
     cases bs with
     | nil=>rfl
     | cons b _=>
      have a1:=(qay.mp p2).1 b qau
      have a2:=h2 b (by simp)
      omega
    subst hb
    refine ⟨as,(zg9 r as).mpr ⟨p1,fun y hy=> ?_⟩,rfl⟩
    have a1:=p3 y hy (r:Int) qau
    have a2:=h2 y (by simp [hy])
    omega
   ·left
    refine ⟨h1,fun y hy=> ?_⟩
    have:=h2 y hy
    have hne:y≠(r:Int):=fun e=>hl (e▸hy)
    omega
def mS (ts:List Int):Nat:=(ts.map fun t=>2^t.toNat).sum
theorem zoS (ts:List Int) (t:Int):mS (ts++[t])=2^t.toNat+mS ts:=by
 unfold mS
 rw [List.map_append,List.sum_append]
 simp
 omega
theorem zsQ: ∀ (n:Nat) (ts:List Int),ts.length=n->ts.Pairwise (· < ·)->(∀ y∈ts,0<=y)-> ∀ k:Nat,(∀ y∈ts,y<(k:Int))->mS ts<2^k
 | 0,ts,hl,_,_,k,_=>by
  rw [List.length_eq_zero_iff.mp hl]
  exact Nat.two_pow_pos k
 | n+1,ts,hl,hp,h0,k,hk=>by
  obtain ⟨r,t,rfl⟩: ∃ r t,ts=r++[t]:=by
   rcases List.eq_nil_or_concat ts with z | ⟨r,t,z⟩
   ·subst z;cases hl
   ·exact ⟨r,t,by rw [z,List.concat_eq_append]⟩
  obtain ⟨p1,_,p3⟩:=qaq.mp hp
  have t0:=h0 t (by simp)
  have tk:=hk t (by simp)
  have ih:=zsQ n r (by simpa using hl) p1 (fun y hy=>h0 y (by simp [hy])) t.toNat (fun y hy=>by have:=p3 y hy t (by simp);omega)
  rw [zoS]
  have:2^(t.toNat+1)<=2^k:=Nat.pow_le_pow_right (by decide) ⋯
  rw [Nat.pow_succ] at this
  omega
theorem zo6: ∀ (n:Nat) (ts:List Int),ts.length=n->ts.Pairwise (· < ·)->(∀ y∈ts,0<=y)-> ∀ i:Nat,(mS ts).testBit i=ts.any (· == (i:Int))
 | 0,ts,hl,_,_,i=>by
  rw [List.length_eq_zero_iff.mp hl]
  exact Nat.zero_testBit i
 | n+1,ts,hl,hp,h0,i=>by
  obtain ⟨r,t,rfl⟩: ∃ r t,ts=r++[t]:=by
   rcases List.eq_nil_or_concat ts with z | ⟨r,t,z⟩
   ·subst z;cases hl
   ·exact ⟨r,t,by rw [z,List.concat_eq_append]⟩
  obtain ⟨p1,_,p3⟩:=qaq.mp hp
  have t0:=h0 t (by simp)
  have hr: ∀ y∈r,0<=y:=fun y hy=>h0 y (by simp [hy])
  have ih:=zo6 n r (by simpa using hl) p1 hr i
  have lt:=zsQ n r (by simpa using hl) p1 hr t.toNat (fun y hy=>by have:=p3 y hy t (by simp);omega)
  have e:=Nat.two_pow_add_eq_or_of_lt lt 1
  rw [Nat.mul_one] at e
  rw [zoS,e,Nat.testBit_or,Nat.testBit_two_pow,ih,List.any_append,Bool.or_comm]
  congr 1
  simp only [List.any_cons,List.any_nil,Bool.or_false]
  rw [Bool.eq_iff_iff,qaD,beq_iff_eq]
  omega
def zpk (os:List (List Int×Int)) (ls:List Int):Nat:=ls.foldl (fun h x=>h ||| mS (os.getD x.toNat ([],0)).1) 0
theorem ziM (os:List (List Int×Int)) (ls:List Int) (x:Int):zpk os (ls++[x])=zpk os ls ||| mS (os.getD x.toNat ([],0)).1:=by
 unfold zpk
 rw [List.foldl_append]
 rfl
def lD (os:List (List Int×Int)) (ls:List Int):D:= .tup [tI ls,.int (zpk os ls:Int)]
theorem zfU: ∀ xs:List Int,zbO (xs.map D.int)=some xs
 | []=>rfl
 | x::r=>by rw [qaM,zbO,zfU r];rfl
theorem zhD: ∀ lss:List (List Int),(∀ ls∈lss,ls≠[])->zhq zmH (lss.map tI)=some lss
 | [],_=>rfl
 | ls::r,h=>by
  have h1:zmH (tI ls)=some ls:=by
   have:=h ls qau
   cases ls with
   | nil=>exact absurd rfl this
   | cons x xs=>
    unfold zmH tI
    simp only [qaM]
    rw [show D.int x::xs.map D.int=(x::xs).map D.int from rfl,zfU]
  rw [qaM,zhq,h1,zhD r fun y hy=>h y (qan _ hy)]
  rfl
theorem zkn (lss:List (List Int)) (h: ∀ ls∈lss,ls≠[]):ziP [.lst (lss.map tI)]=pure (.lst ((TS.zg4 HT.zbd lss).map tI)):=by
 unfold ziP zmM zmb zkw
 simp only [pure_bind,zhD lss h,zem]
 rfl
end
section
theorem zl0 {fo fe:FE} {sd:Sd}:zeO fo fe sd=(fo sd>>=fun x=>zdA x>>=fun _=>fe sd>>=fun y=>zdI x y):=rfl
theorem zth {n:Nat}:zf6 [.cel n]=(do let ds<-zai n;pure (.int ds.length)):=rfl
theorem ztI {ds:List D} {lo hi:Option Int}:dSl (.lst ds) lo hi=pure (.lst (zjN ds lo hi)):=rfl
theorem zsO {fo fi fe:FE} {sd:Sd}:ztb fo fi fe sd=(do let x<-fo sd;zdA x;let i<-fi sd;let y<-fe sd;zfj x i y):=rfl
def rgI (n:Nat):List Int:=(List.range n).map fun (k:Nat)=>(k:Int)
def zb1 (xs:List Int):Int:=xs.head?.getD 0
def zeN (xs:List Int):Int:=xs.getLast?.getD 0
def zje (xs:List Int):Bool:=zeN xs - zb1 xs==(xs.length:Int) - 1
theorem zi9 {xs:List Int} (h:xs≠[]):atI (xs.map D.int) 0=some (.int (zb1 xs)):=by
 cases xs with
 | nil=>exact absurd rfl h
 | cons x r=>rw [qaM,zj4];rfl
theorem zmi {xs:List Int} (h:xs≠[]):atI (xs.map D.int) (-1)=some (.int (zeN xs)):=by
 refine zpZ ?_
 rw [List.getLast?_map]
 unfold zeN
 cases e:xs.getLast? with
 | none=>exact absurd (List.getLast?_eq_none_iff.mp e) h
 | some z=>rfl
theorem zdk {xs:List Int} (h:xs≠[]):zb1 xs∈xs:=by
 cases xs with
 | nil=>exact absurd rfl h
 | cons x r=>exact qau
theorem zdl {xs:List Int} (h:xs≠[]):zeN xs∈xs:=by
 unfold zeN
 cases e:xs.getLast? with
 | none=>exact absurd (List.getLast?_eq_none_iff.mp e) h
 | some z=>exact List.mem_of_getLast? e
theorem btw {xs:List Int} (h:xs.Pairwise (· < ·)): ∀ x∈xs,zb1 xs<=x/\x<=zeN xs:=by
 intro x hx
 have hne:xs≠[]:=fun z=>by rw [z] at hx;cases hx
 constructor
 ·cases xs with
  | nil=>cases hx
  | cons y r=>
   show y<=x
   rw [qay] at h
   rcases qaP.mp hx with rfl | hx
   ·exact Int.le_refl _
   ·exact Int.le_of_lt (h.1 x hx)
 ·have e:xs=xs.dropLast++[zeN xs]:=by
   unfold zeN
   rw [List.getLast?_eq_some_getLast hne]
   exact (List.dropLast_concat_getLast hne).symm
  rw [e] at h
  rw [qaq] at h
  rw [e] at hx
  rcases qaK.mp hx with hx | hx
  ·exact Int.le_of_lt (h.2.2 x hx _ (List.mem_singleton.mpr rfl))
  ·rw [List.mem_singleton.mp hx]
   exact Int.le_refl _
theorem zgt {xs:List Int} (hne:xs≠[]) (h:xs.Pairwise (· < ·)):(xs==(List.range (zeN xs+1 - zb1 xs).toNat).map fun (k:Nat)=>zb1 xs+(k:Int))=zje xs:=by
 have hb:=btw h
 have hle:=(hb _ (zdl hne)).1
 have key:=zmC (xs:=xs.map fun x=>x - zb1 xs) (m:=zeN xs+1 - zb1 xs) ⋯ (by rw [List.pairwise_map];exact h.imp fun h=>by omega) fun y hy=>by
  obtain ⟨x,hx,rfl⟩:=qaU.mp hy
  have:=hb x hx
  omega
 rw [qaH] at key
 have e1:(xs==(List.range (zeN xs+1 - zb1 xs).toNat).map fun (k:Nat)=>zb1 xs+(k:Int))=((xs.map fun x=>x - zb1 xs)==(List.range (zeN xs+1 - zb1 xs).toNat).map fun (k:Nat)=>(k:Int)):=by
  generalize zb1 xs=c
  generalize (zeN xs+1 - c).toNat=n
  rw [Bool.eq_iff_iff,beq_iff_eq,beq_iff_eq]
  constructor
  ·intro e
   rw [e,qaT]
   refine List.map_congr_left fun k _=> ?_
   show c+(k:Int) - c=k
   omega
  ·intro e
   have e2:=congrArg (List.map fun x=>c+x) e
   rw [qaT,qaT] at e2
   have e3:(xs.map ((fun x=>c+x)∘fun x=>x - c))=xs:=by
    conv=>rhs;rw [<- List.map_id xs]
    refine List.map_congr_left fun x _=> ?_
    show c+(x - c)=x
    omega
   rw [e3] at e2
   exact e2
 rw [e1,key]
 unfold zje
 rw [Bool.eq_iff_iff,beq_iff_eq,beq_iff_eq]
 omega
theorem zdF {i j:Int} (h:i<=j) (h0: -1000<=i) (h1:j<1000):zds (.int i) (.int j)=pure (tI ((List.range (j - i).toNat).map fun (k:Nat)=>i+(k:Int))):=by
 show (if i<=j/\ -1000<=i/\j<1000 then _ else _)=_
 rw [qa4 ⟨h,h0,h1⟩]
 unfold tI zcW
 rw [qaT]
 rfl
theorem zo5 {n:Nat} {ds:List D} {h:Hh} {P:Unit->Hh->Prop} (e:h[n]? = some (.lst ds)) (q:P () h):wp (chk n ds) h P:=by
 refine ⟨(),h,?_,q⟩
 unfold chk
 rw [qa4 e]
theorem znZ {b c:Nat} {h:Hh} {x:C} (q:Bx b h) (hbc:c≠b):Bx b (h.set c x):=by
 obtain ⟨y,ey⟩:=q
 exact ⟨y,by rw [qao hbc];exact ey⟩
theorem zue {b:Nat} {h:Hh} (q:Bx b h):h.length≠b:=by
 obtain ⟨z,e⟩:=q
 have:=(qac.mp e).1
 omega
theorem zlf {c:Nat} {h:Hh} {x y:C} (e:h[c]? = some x):(h.set c y)[c]? = some y:=by
 have:=(qac.mp e).1
 simp [this]
theorem zfh {c:Nat} {h:Hh} {ds:List D} {y:D} {P:D->Hh->Prop} (e:h[c]? = some (.lst ds)) (hl:ds.length+1<=1000) (k:P .non (h.set c (.lst (ds++[y])))):wp (zdI (.cel c) y) h P:=by
 show wp (zai c>>=_) h P
 rw [zal,zbN e]
 rw [zaB hl]
 simp only [pure_bind,zal,zhW,zak]
 exact k
theorem zkx {c:Nat} {h:Hh} {ds:List D} {i:Int} {y:D} {P:D->Hh->Prop} (e:h[c]? = some (.lst ds)) (h0:0<=i) (h1:i<=ds.length) (hl:ds.length<1000) (k:P .non (h.set c (.lst (ds.take i.toNat++y::ds.drop i.toNat)))):wp (zfj (.cel c) (.int i) y) h P:=by
 show wp (zai c>>=_) h P
 rw [zal,zbN e]
 rw [qa4 ⟨h0,h1,hl⟩]
 simp only [zal,zhW,zak]
 exact k
theorem zpb {c:Nat} {h:Hh} {ds:List D} {P:D->Hh->Prop} (e:h[c]? = some (.lst ds)) (k:P (.lst ds) (h.set c .dead)):wp (zrb (.cel c)) h P:=by
 refine ⟨_,_,?_,k⟩
 show (match h[c]? with | some (.lst ds)=>R.ok (D.lst ds) (h.set c .dead) | _=> .bad)=_
 rw [e]
def zej (m:Int) (o:List Int×Int):Prop:=o.1.Pairwise (· < ·)/\(∀ x∈o.1,0<=x/\x<m)/\o.1≠[]/\0<o.2/\zje o.1=true
def rgA (i j:Int):List Int:=(List.range (j - i).toNat).map fun (k:Nat)=>i+(k:Int)
theorem zp7 {i j:Int} (h:i<j):zje (rgA i j)=true:=by
 obtain ⟨k,hk⟩: ∃ k:Nat,(j - i).toNat=k+1:=⟨(j - i).toNat - 1,⋯⟩
 unfold zje zb1 zeN rgA
 rw [hk,List.range_succ]
 simp
 cases k with
 | zero=>simp
 | succ k=>
  rw [List.range_succ_eq_map]
  simp
  omega
theorem ziW {m i j p:Int} (h0:0<=i) (h1:i<j) (h2:j<=m) (hp:0<p):zej m (rgA i j,p):=by
 refine ⟨?_,?_,?_,hp,zp7 h1⟩
 ·show (rgA i j).Pairwise (· < ·)
  unfold rgA
  rw [List.pairwise_map]
  exact List.pairwise_lt_range.imp fun h=>by omega
 ·intro x hx
  obtain ⟨k,hk,rfl⟩:=qaU.mp hx
  have:=List.mem_range.mp hk
  omega
 ·intro z
  have:(rgA i j).length=0:=by rw [show rgA i j=[] from z];rfl
  simp [rgA] at this
  omega
theorem zow {m:Int} {os:List (List Int×Int)} (m0:1<=m) (m1:m<=10) (hl:os.length<=12) (h: ∀ o∈os,zej m o):Stk m os:=⟨m0,m1,hl,fun o ho=>(h o ho).1,fun o ho=>(h o ho).2.1,fun o ho=>(h o ho).2.2.1,fun o ho=>(h o ho).2.2.2.1⟩
end
section
theorem zoC (bt:Nat->Nat->Bool): ∀ k,argBest bt k<=k
 | 0=>qaV _
 | k+1=>by
  have:=zoC bt k
  rw [argBest]
  split<;>omega
theorem zkX {ps qs:List (Int×List Int)} (h:ps≠[]) (hm: ∀ x,x∈ps↔x∈qs):ps.getD (zdd ps) (0,[])=qs.getD (zdd qs) (0,[]):=by
 have h':qs≠[]:=fun z=>by
  obtain ⟨x,hx⟩:=List.exists_mem_of_ne_nil ps h
  rw [hm x,z] at hx
  cases hx
 obtain ⟨a1,a2⟩:=zdW h
 obtain ⟨b1,b2⟩:=zdW h'
 have ma:ps.getD (zdd ps) (0,[])∈ps:=by simp [List.getD,a1]
 have mb:qs.getD (zdd qs) (0,[])∈qs:=by simp [List.getD,b1]
 exact znJ (b2 _ ((hm _).mp ma)) (a2 _ ((hm _).mpr mb))
theorem zoq (f:Nat->Int): ∀ (k i:Nat),i<=k->f (argBest (fun i j=>decide (f i<f j)) k)<=f i
 | 0,i,h=>by
  have:i=0:=by omega
  subst this
  exact Int.le_refl _
 | k+1,i,h=>by
  have ih:=zoq f k
  simp only [argBest]
  split
  ·rename_i hc
   rw [qaD] at hc
   by_cases hi:i<=k
   ·have:=ih i hi
    omega
   ·have:i=k+1:=by omega
    subst this
    exact Int.le_refl _
  ·rename_i hc
   rw [qaD] at hc
   by_cases hi:i<=k
   ·exact ih i hi
   ·have:i=k+1:=by omega
    subst this
    omega
theorem zn7 {ns:List Int} (h:0<ns.length):zjd ns∈ns:=by
 unfold zjd
 have h1:=zoC (fun i j=>decide (ns.getD i 0<ns.getD j 0)) (ns.length - 1)
 have h2:argBest (fun i j=>decide (ns.getD i 0<ns.getD j 0)) (ns.length - 1)<ns.length:=by omega
 rw [List.getD,qaf h2,Option.getD_some]
 exact List.getElem_mem h2
theorem zpv {ns:List Int} {x:Int} (h:x∈ns):zjd ns<=x:=by
 obtain ⟨j,hj,rfl⟩:=List.getElem_of_mem h
 have:=zoq (fun i=>ns.getD i 0) (ns.length - 1) j ⋯
 unfold zjd
 rw [show ns[j]=ns.getD j 0 by simp [List.getD,hj]]
 exact this
theorem zsv {ns:List Int} (h:0<ns.length):zp0 [.lst (ns.map D.int)]=pure (.int (zjd ns)):=by
 show (do let ns'<-ofO (zbO (ns.map D.int));if 0<ns'.length then pure (.int (zjd ns')) else M.bad:M D)=_
 rw [zbi]
 show (if 0<ns.length then (pure (.int (zjd ns)):M D) else M.bad)=_
 rw [qa4 h]
section
variable {m:Int} {os:List (List Int×Int)}
def lnx (os:List (List Int×Int)) (ls:List Int) (t:Nat):List Int:=(os.filter fun o=>o.1.any (· == (t:Int))).map fun o=>ls.getD (zb1 o.1).toNat 0+o.2
def dL (os:List (List Int×Int)):Nat->List Int
 | 0=>[0]
 | n+1=>dL os n++[zjd (lnx os (dL os n) n)]
def dd (os:List (List Int×Int)) (j:Nat):Int:=(dL os j).getD j 0
theorem zfV: ∀ n,(dL os n).length=n+1
 | 0=>rfl
 | n+1=>by rw [dL,qav,zfV n];rfl
theorem zi8: ∀ n j,j<=n->(dL os n).getD j 0=dd os j
 | 0,j,h=>by
  have:j=0:=by omega
  subst this
  rfl
 | n+1,j,h=>by
  by_cases e:j=n+1
  ·subst e
   rfl
  ·have hj:j<(dL os n).length:=by rw [zfV];omega
   rw [dL,List.getD,qad hj]
   exact zi8 n j ⋯
theorem zlW (n:Nat):dd os (n+1)=zjd (lnx os (dL os n) n):=by
 unfold dd
 have:(dL os n).length=n+1:=zfV n
 rw [dL,List.getD,qaa ⋯,this]
 simp
theorem zgl {n:Nat} {x:Int} (ho: ∀ o∈os,zej m o):x∈lnx os (dL os n) n↔ ∃ o∈os,(n:Int)∈o.1/\x=dd os (zb1 o.1).toNat+o.2:=by
 unfold lnx
 constructor
 ·intro h
  obtain ⟨o,ho',rfl⟩:=qaU.mp h
  obtain ⟨h1,h2⟩:=List.mem_filter.mp ho'
  have h3:(n:Int)∈o.1:=by simpa using h2
  have h4:=(btw (ho o h1).1 _ h3).1
  exact ⟨o,h1,h3,by rw [zi8 n _ ⋯]⟩
 ·rintro ⟨o,h1,h3,rfl⟩
  have h4:=(btw (ho o h1).1 _ h3).1
  exact qaU.mpr ⟨o,List.mem_filter.mpr ⟨h1,by simpa using h3⟩,by rw [zi8 n _ ⋯]⟩
theorem zek {xs:List Int} (hne:xs≠[]) (h:xs.Pairwise (· < ·)) (hs:zje xs=true) {x:Int}:x∈xs↔zb1 xs<=x/\x<=zeN xs:=by
 refine ⟨fun hx=>btw h x hx,fun ⟨h1,h2⟩=> ?_⟩
 have e:=zgt hne h
 rw [hs,beq_iff_eq] at e
 rw [e]
 exact qaU.mpr ⟨(x - zb1 xs).toNat,List.mem_range.mpr ⋯,⋯⟩
theorem zqX (ho: ∀ o∈os,zej m o) {n:Nat} {o:List Int×Int} (h:o∈os) (hn:(n:Int)∈o.1):dd os (n+1)<=dd os (zb1 o.1).toNat+o.2:=by
 rw [zlW]
 exact zpv ((zgl ho).mpr ⟨o,h,hn,rfl⟩)
theorem ztg (ho: ∀ o∈os,zej m o) {n:Nat} (hc: ∃ o∈os,(n:Int)∈o.1): ∃ o∈os,(n:Int)∈o.1/\dd os (n+1)=dd os (zb1 o.1).toNat+o.2:=by
 rw [zlW]
 refine (zgl ho).mp (zn7 ?_)
 obtain ⟨o,h1,h2⟩:=hc
 exact List.length_pos_of_mem ((zgl ho).mpr ⟨o,h1,h2,rfl⟩)
theorem zpF (ho: ∀ o∈os,zej m o) {n:Nat} (hc: ∃ o∈os,(n:Int)∈o.1):dd os n<=dd os (n+1):=by
 obtain ⟨o,h1,h2,e⟩:=ztg ho hc
 obtain ⟨o1,o2,o3,o4,o5⟩:=ho o h1
 have hb:=(zek o3 o1 o5).mp h2
 have h0:=(o2 _ (zdk o3)).1
 by_cases z:zb1 o.1=(n:Int)
 ·rw [e,z,qaB]
  omega
 ·obtain ⟨k,rfl⟩: ∃ k,n=k+1:=⟨n - 1,⋯⟩
  have h3:(k:Int)∈o.1:=(zek o3 o1 o5).mpr ⟨⋯,⋯⟩
  have:=zqX ho h1 h3
  omega
def yv (os:List (List Int×Int)) (t:Int):Int:=dd os (t.toNat+1) - dd os t.toNat
theorem ztV (a:Nat): ∀ k:Nat,(((List.range k).map fun (j:Nat)=>(a:Int)+(j:Int)).map (yv os)).sum=dd os (a+k) - dd os a
 | 0=>by simp
 | k+1=>by
  rw [List.range_succ,List.map_append,List.map_append,List.sum_append,ztV a k]
  have e:yv os ((a:Int)+(k:Int))=dd os (a+k+1) - dd os (a+k):=by
   unfold yv
   rw [show ((a:Int)+(k:Int)).toNat=a+k by omega]
  simp only [qaM,List.map_nil,List.sum_cons,List.sum_nil,e]
  rw [show a+(k+1)=a+k+1 from rfl]
  omega
theorem zp8 (ho: ∀ o∈os,zej m o) {o:List Int×Int} (h:o∈os):(o.1.map (yv os)).sum<=o.2:=by
 obtain ⟨o1,o2,o3,o4,o5⟩:=ho o h
 have e:=zgt o3 o1
 rw [o5,beq_iff_eq] at e
 have h0:=(o2 _ (zdk o3)).1
 have h1:=(btw o1 _ (zdl o3)).1
 have ht:=ztV (os:=os) (zb1 o.1).toNat (zeN o.1+1 - zb1 o.1).toNat
 rw [Int.toNat_of_nonneg h0, <-e] at ht
 rw [ht]
 have:=zqX ho h (n:=(zeN o.1).toNat) (by rw [Int.toNat_of_nonneg ⋯];exact zdl o3)
 rw [show (zb1 o.1).toNat+(zeN o.1+1 - zb1 o.1).toNat=(zeN o.1).toNat+1 by omega]
 omega
theorem zqg (n:Nat):((rgI n).map (yv os)).sum=dd os n:=by
 have ht:=ztV (os:=os) 0 n
 have e:((List.range n).map fun (j:Nat)=>((0:Nat):Int)+(j:Int))=rgI n:=List.map_congr_left fun j _=>by omega
 rw [e,Nat.zero_add] at ht
 rw [ht]
 show _ - (0:Int)=_
 omega
theorem zgH {w:Int->Int} {P Q:Int->Bool} (pq: ∀ x,P x=true->Q x=true): ∀ ls:List Int,(∀ x∈ls,0<=w x)->((ls.filter P).map w).sum<=((ls.filter Q).map w).sum
 | [],_=>Int.le_refl _
 | y::r,hw=>by
  have ih:=zgH pq r fun x hx=>hw x (qan _ hx)
  have hy:=hw y qau
  rw [List.filter_cons,List.filter_cons]
  cases hp:P y with
  | true=>
   rw [pq y hp]
   simp only [if_true,qaM,List.sum_cons]
   omega
  | false=>
   cases hq:Q y with
   | true=>
    simp only [if_true,qax,if_false,qaM,List.sum_cons]
    omega
   | false=>
    simp only [qax,if_false]
    exact ih
theorem zjw {w:Int->Int} {P Q:Int->Bool} (pq: ∀ x,P x=true->Q x=true) {x0:Int} (np:P x0=false) (qx:Q x0=true): ∀ ls:List Int,(∀ x∈ls,0<=w x)->x0∈ls->((ls.filter P).map w).sum+w x0<=((ls.filter Q).map w).sum
 | y::r,hw,hx=>by
  have hw':=fun x hx=>hw x (qan y hx)
  have hy:=hw y qau
  rw [List.filter_cons,List.filter_cons]
  by_cases e:y=x0
  ·subst e
   have:=zgH pq r hw'
   rw [np,qx]
   simp only [if_true,qax,if_false,qaM,List.sum_cons]
   omega
  ·have ih:=zjw pq np qx r hw' ((qaP.mp hx).resolve_left fun z=>e z.symm)
   cases hp:P y with
   | true=>
    rw [pq y hp]
    simp only [if_true,qaM,List.sum_cons]
    omega
   | false=>
    cases hq:Q y with
    | true=>
     simp only [if_true,qax,if_false,qaM,List.sum_cons]
     omega
    | false=>
     simp only [qax,if_false]
     exact ih
theorem zok {w:Int->Int} {p:Int->Bool} {x0:Int} (h0:0<=w x0): ∀ ls:List Int,ls.Nodup->((ls.filter fun x=>p x || x==x0).map w).sum<=((ls.filter p).map w).sum+w x0
 | [],_=>by simpa using h0
 | y::r,nd=>by
  rw [List.nodup_cons] at nd
  rw [List.filter_cons,List.filter_cons]
  by_cases e:y=x0
  ·subst e
   have ec:(r.filter fun x=>p x || x==y)=r.filter p:=List.filter_congr fun x hx=>by
    have: ¬x=y:=fun z=>nd.1 (z▸hx)
    simp [this]
   rw [ec]
   cases hp:p y with
   | true=>
    simp only [Bool.true_or,if_true,qaM,List.sum_cons]
    omega
   | false=>
    simp only [Bool.false_or,beq_self_eq_true,if_true,qax,if_false,qaM,List.sum_cons]
    omega
  ·have ih:=zok (p:=p) h0 r nd.2
   have e2:(y==x0)=false:=by simpa using e
   cases hp:p y with
   | true=>
    simp only [Bool.true_or,if_true,qaM,List.sum_cons]
    omega
   | false=>
    simp only [Bool.false_or,e2,qax,if_false]
    exact ih
def oAt (os:List (List Int×Int)) (x:Int):List Int×Int:=os.getD x.toNat ([],0)
theorem zic {x:Int} (h0:0<=x) (h1:x<os.length):oAt os x∈os:=by
 have h:x.toNat<os.length:=by omega
 unfold oAt
 simp [List.getD,h]
theorem low (ho: ∀ o∈os,zej m o) {ls:List Int} (hb: ∀ x∈ls,0<=x/\x<(os.length:Int)) (hc: ∀ t:Int,0<=t->t<m-> ∃ x∈ls,t∈(oAt os x).1): ∀ (f n:Nat),n<f->(n:Int)<=m->dd os n<=((ls.filter fun x=>decide (zb1 (oAt os x).1<(n:Int))).map fun x=>(oAt os x).2).sum
 | 0,n,h,_=>by omega
 | f+1,n,h,hm=>by
  have hw: ∀ x∈ls,0<=(oAt os x).2:=fun x hx=>by
   have:=(ho _ (zic (hb x hx).1 (hb x hx).2)).2.2.2.1
   omega
  cases n with
  | zero=>
   have:=zgH (P:=fun _=>false) (Q:=fun x=>decide (zb1 (oAt os x).1<((0:Nat):Int))) (w:=fun x=>(oAt os x).2) (fun x hx=>by cases hx) ls hw
   have e:(ls.filter fun _=>false)=[]:=List.filter_eq_nil_iff.mpr fun _ _ z=>by cases z
   rw [e] at this
   exact this
  | succ k=>
   obtain ⟨x0,hx,ht⟩:=hc k ⋯ ⋯
   have hmem:=zic (hb x0 hx).1 (hb x0 hx).2
   have h1:=zqX ho hmem ht
   have h2:=(btw (ho _ hmem).1 _ ht).1
   have h0:=((ho _ hmem).2.1 _ (zdk (ho _ hmem).2.2.1)).1
   have ih:=low ho hb hc f (zb1 (oAt os x0).1).toNat ⋯ ⋯
   rw [Int.toNat_of_nonneg h0] at ih
   have h3:=zjw (P:=fun x=>decide (zb1 (oAt os x).1<zb1 (oAt os x0).1)) (Q:=fun x=>decide (zb1 (oAt os x).1<((k+1:Nat):Int))) (w:=fun x=>(oAt os x).2) (fun x hx=>by rw [qaD] at hx ⊢; omega) (x0:=x0) (by simp) (by rw [qaD];omega) ls hw hx
   omega
theorem zqC (ho: ∀ o∈os,zej m o) (m0:0<=m) {ls:List Int} (hb: ∀ x∈ls,0<=x/\x<(os.length:Int)) (hc: ∀ t:Int,0<=t->t<m-> ∃ x∈ls,t∈(os.getD x.toNat ([],0)).1):dd os m.toNat<=pr os ls:=by
 have h1:=low ho hb hc (m.toNat+1) m.toNat ⋯ ⋯
 have h2:=zgH (P:=fun x=>decide (zb1 (oAt os x).1<(m.toNat:Int))) (Q:=fun _=>true) (w:=fun x=>(oAt os x).2) (fun _ _=>rfl) ls fun x hx=>by
  have:=(ho _ (zic (hb x hx).1 (hb x hx).2)).2.2.2.1
  omega
 rw [List.filter_eq_self.mpr fun _ _=>rfl] at h2
 exact Int.le_trans h1 h2
theorem upp (ho: ∀ o∈os,zej m o) (hc: ∀ t:Int,0<=t->t<m-> ∃ o∈os,t∈o.1): ∀ (f n:Nat),n<f->(n:Int)<=m-> ∃ p:Int->Bool,(∀ t:Nat,t<n-> ∃ x∈rgI os.length,p x=true/\(t:Int)∈(oAt os x).1)/\(((rgI os.length).filter p).map fun x=>(oAt os x).2).sum<=dd os n
 | 0,n,h,_=>by omega
 | f+1,n,h,hm=>by
  cases n with
  | zero=>
   refine ⟨fun _=>false,fun t ht=>by omega,?_⟩
   have e:((rgI os.length).filter fun _=>false)=[]:=List.filter_eq_nil_iff.mpr fun _ _ z=>by cases z
   rw [e]
   exact Int.le_refl _
  | succ k=>
   obtain ⟨o,h1,h2,e⟩:=ztg ho (hc k ⋯ ⋯)
   obtain ⟨o1,o2,o3,o4,o5⟩:=ho o h1
   have hf:=(btw o1 _ h2).1
   have h0:=(o2 _ (zdk o3)).1
   obtain ⟨p,hp,hs⟩:=upp ho hc f (zb1 o.1).toNat ⋯ ⋯
   obtain ⟨j,hj,ej⟩:=List.getElem_of_mem h1
   have eo:oAt os (j:Int)=o:=by
    unfold oAt
    simp [List.getD,hj,ej]
   have hjm:(j:Int)∈rgI os.length:=qaU.mpr ⟨j,List.mem_range.mpr hj,rfl⟩
   refine ⟨fun x=>p x || x==(j:Int),fun t ht=> ?_,?_⟩
   ·by_cases c:t<(zb1 o.1).toNat
    ·obtain ⟨x,hx,px,hx2⟩:=hp t c
     exact ⟨x,hx,by simp [px],hx2⟩
    ·refine ⟨(j:Int),hjm,by simp,?_⟩
     rw [eo]
     exact (zek o3 o1 o5).mpr ⟨⋯,by have:=(btw o1 _ h2).2;omega⟩
   ·have:=zok (p:=p) (x0:=(j:Int)) (w:=fun x=>(oAt os x).2) (by rw [eo];omega) (rgI os.length) ((zca _).imp fun z=>by omega)
    simp only [eo] at this
    omega
theorem zqh (ho: ∀ o∈os,zej m o) (m0:0<=m) (hc: ∀ t:Int,0<=t->t<m-> ∃ o∈os,t∈o.1): ∃ ls:List Int,ls.Pairwise (· < ·)/\(∀ x∈ls,0<=x/\x<(os.length:Int))/\(∀ t:Int,0<=t->t<m-> ∃ x∈ls,t∈(os.getD x.toNat ([],0)).1)/\pr os ls<=dd os m.toNat:=by
 obtain ⟨p,h1,h2⟩:=upp ho hc (m.toNat+1) m.toNat ⋯ ⋯
 refine ⟨(rgI os.length).filter p,(zca _).sublist List.filter_sublist,fun x hx=>zci x (List.mem_filter.mp hx).1,fun t t0 t1=> ?_,h2⟩
 obtain ⟨x,hx,px,ht⟩:=h1 t.toNat ⋯
 rw [Int.toNat_of_nonneg t0] at ht
 exact ⟨x,List.mem_filter.mpr ⟨hx,px⟩,ht⟩
end
end
section
theorem zsJ {α:Type} {g':α->D} {f:D->M (Option D)} {k:α->Option D} {h:Hh}: ∀ {xs:List α} {P:List D->Hh->Prop},(∀ x∈xs,wp (f (g' x)) h fun o h'=>o=k x/\h'=h)->P (xs.filterMap k) h->wp (zbV f (xs.map g')) h P
 | [],P,_,q=>by rw [List.map_nil,zbV,zak];exact q
 | x::r,P,hf,q=>by
  rw [qaM,zbV,zal]
  refine ziC (hf x qau) ?_
  rintro o h' ⟨rfl,rfl⟩
  rw [zal]
  refine zsJ (fun y hy=>hf y (qan _ hy)) ?_
  rw [zak]
  rw [qat] at q
  cases hk:k x<;>rw [hk] at q<;>exact q
theorem zkM {n:Nat} {tc:FT} {gb:FS} {sd:Sd}:zeE tc gb (n+1) sd=(do let b<-tc sd;if b=true then (do let o<-gb sd;match o with | .nx sd'=>zeE tc gb n sd' | .ct sd'=>zeE tc gb n sd' | .bk sd'=>pure (.nx sd') | .rt d=>pure (.rt d)) else pure (.nx sd)):=rfl
theorem zss {i j:Nat} {f g:FE} {sd:Sd}:zq9 i j (zac f (zac g zan)) sd=(do let x<-f sd;let y<-g sd;pure (.nx ((sd.set i (some x)).set j (some y)))):=by
 unfold zq9
 simp only [zaG,zaY,bind_assoc,pure_bind]
theorem zpc {x y:D} {a b:PyData} (e1:pd x=some a) (e2:pd y=some b) (h:zfY a b=true):dNe x y=pure (.bl (!PyData.eqv a b)):=by
 show zjz true x y=_
 unfold zjz
 rw [e1,e2]
 simp only [h,if_true]
theorem zo2 (xs ys:List Int):dNe (tI xs) (tI ys)=pure (.bl (!(xs==ys))):=by
 rw [zpc (zkU xs) (zkU ys) (by unfold zfY;simp [PyData.canLay0,zaV,PyData.depth,zbg])]
 simp only [PyData.eqv,zd7]
theorem zlD {h:Hh} {x y:C}:(h++[x]).set h.length y=h++[y]:=by
 rw [List.set_append_right _ _ (qaV _)]
 simp
def f1 (y:Int):D:= .tup [.int y,.int 1]
end
section
theorem zo3: ∀ ys:List Int,pdL (ys.map f1)=some (ys.map fun y=>PyData.tuple [.int y,.int 1])
 | []=>rfl
 | y::r=>by
  rw [qaM,pdL,zo3 r]
  rfl
theorem zpe: ∀ ys:List Int,PyData.canLayAll0 (ys.map fun y=>PyData.tuple [.int y,.int 1])=true
 | []=>rfl
 | y::r=>by simp [PyData.canLayAll0,PyData.canLay0,zpe r]
theorem zo1: ∀ ys:List Int,PyData.depthAll (ys.map fun y=>PyData.tuple [.int y,.int 1])<=1
 | []=>by simp [PyData.depthAll]
 | y::r=>by
  have:=zo1 r
  rw [qaM]
  simp only [PyData.depthAll,PyData.depth]
  omega
theorem zoz: ∀ ys:List Int,PyData.eqvAll (ys.map fun y=>PyData.tuple [.int y,.int 1]) (ys.map fun y=>PyData.tuple [.int y,.int 1])=true
 | []=>rfl
 | y::r=>by
  rw [qaM]
  simp [PyData.eqvAll,PyData.eqv,zoz r]
theorem zpO (xs ys:List Int):dEq (.tup [tI xs,.tup (ys.map f1)]) (.tup [tI xs,.tup (ys.map f1)])=pure (.bl true):=by
 have e:pd (.tup [tI xs,.tup (ys.map f1)])=some (.tuple [.tuple (xs.map PyData.int),.tuple (ys.map fun y=>PyData.tuple [.int y,.int 1])]):=by
  simp only [tI,pd,pdL,zb7,zo3,Option.map]
 have hd:=zo1 ys
 rw [zoA e e (by unfold zfY;simp [PyData.canLay0,PyData.canLayAll0,zaV,zpe,PyData.depth,PyData.depthAll,zbg];omega)]
 simp [PyData.eqvAll,PyData.eqv,zd7,zoz]
theorem zvf (z:Int):zri [.int z]=pure (.int (z.natAbs:Int)):=by
 show pure (D.int (if z<0 then -z else z))=_
 congr 2
 split<;>omega
end
end L3
namespace K72
open L2 L3 LT
set_option hygiene false in
local macro_rules | `(tactic| ac_nf0)=> `(tactic| simp only [zbh,zdb,zi2,zdg,zkQ,ziJ,zpU,zhX,zbw,zaG,zaY,zcE,zps,zfy,zaH,zaO,pure_bind,bind_assoc,zgQ,ztx,zgF,zuj,List.set,zeW,zrQ,zsc,ztW,zoK,zoj,zfG,zhi,zgD,zeA,zqt,zbF,zp5,zdx,zum,zmW,zj4,zsT,zem,zsW,zov,zut,zr0,zm9,zhB,zda,zlt,ziK,zl6,zh2,zs5,zal,zak,zji,qaE,qaJ,qaH,Nat.zero_add,Nat.reduceAdd,Nat.reduceLeDiff,zaB,zb4,tI,zk7,zqZ,znt,znD,zjM,znB,ztG,zqe,zpN,zs8,zt0,zuK,zoT,zoQ,zsl,zuu,zpA,zvr,if_true,Bool.not_true,Bool.not_false,qax,if_false,qav,List.cons_append,List.nil_append,zsG,zsP,zl0,zsO])
variable {m:Int} {os:List (List Int×Int)} {i:Nat}
theorem zfi {d:D} (k:kn d=true):F_27 [d]=pure (.bl (isI d)):=by
 rw [d_27]
 simp only [G_27,zdg,zoK,zps,zaH,pure_bind,bind_assoc,zqK k,zsp k,zeA,zoj]
 cases d<;>simp [isI]
def zhO (m:Int):D->Bool
 | .tup [.tup ts,.int p]=>zd1 m 0 ts && decide (0<(ts.length:Int)) && decide (0<p/\p<2^64)
 | _=>false
theorem zaT {h:Hh} {b:Nat} {m:Int} {P:D->Hh->Prop} (q:Bx b h) (h0:0<m) (h1:m<2^64) (k: ∀ t h',0<=t->t<m->Ext b h h'->P (.int t) h'):wp (F_26 [.cel b,.int m]) h P:=by
 obtain ⟨z,e⟩:=id q
 rw [d_26]
 simp only [G_26,zbh,zdb,zcE,zaH,zaO,pure_bind,bind_assoc,zfy,zlV,zal,zbN e,zj4,zem,zak,zeo h0,zgQ,List.set,zi2,zeM h0 h1,zl8,zoN]
 have e2:ixN ([D.int z]:List D).length 0=some 0:=rfl
 simp only [zal,zbN e,e2,zem,zak,zhW,zgQ,zdg,zaO,zaH,zgF,List.set]
 exact k _ _ (Int.emod_nonneg _ ⋯) (Int.emod_lt_of_pos _ h0) q.set
theorem zpW {ns:List Int} {k:Int} (h0:0<=k): ∃ c:Int,F_24 [.scr (ns.map D.int),.int k]=pure (.int c):=by
 rw [d_24]
 simp only [G_24,zbh,zkQ,zeW,zaO,zaH,pure_bind,bind_assoc,zbw,zaG,zaY,zoo,zvn,zeA]
 by_cases hk:k<((ns.map D.int).length:Int)
 ·have hk':k.toNat<ns.length:=by simp at hk;omega
  have ea:atI (ns.map D.int) k=some (.int ns[k.toNat]):=by
   have:=zc0 (xs:=ns.map D.int) (j:=k.toNat) (v:= .int ns[k.toNat]) (by simp [hk'])
   rw [<- this]
   congr 1
   omega
  simp only [hk,decide_true,if_true,zdg,zcE,zaH,zaO,pure_bind,ztX,ea,zem,ztx,zgF]
  exact ⟨_,rfl⟩
 ·simp only [hk,decide_false,qax,if_false,zhX,pure_bind,zgQ,zdg,zcE,zfy,zaO,zaH,zhT (show (-1000000000000000:Int)<6151 by decide) (show (6151:Int)<1000000000000000 by decide),zdx,zgF]
  exact ⟨_,rfl⟩
theorem zi4 {s0 s2:Option D} {k:Int} (k0:0<=k) (k5:k<5): ∀ (ds:List D) (n mx:Int) (x5:Option D),(∀ d∈ds, ∃ j:Int,d= .int j/\0<=j/\j<24)->0<=mx->mx<2147483647->
  ∃ (n' mx':Int) (x5':Option D),za4 (fun x sd=>do let sd1<-zaC 5 x sd;zdi sd1) ds [s0,some (.int k),s2,some (.int n),some (.int mx),x5]=pure (.nx [s0,some (.int k),s2,some (.int n'),some (.int mx'),x5'])
 | [],n,mx,x5,_,_,_=>⟨n,mx,x5,rfl⟩
 | d::r,n,mx,x5,hd,m0,m1=>by
  obtain ⟨j,rfl,j0,j1⟩:=hd _ qau
  obtain ⟨n',mx',x5',ih⟩:=zi4 k0 k5 r (n*2147483647+(mx*48271+7*j*j+11*k+1) % 2147483647) ((mx*48271+7*j*j+11*k+1) % 2147483647) (some (.int j)) (fun y hy=>hd y (qan _ hy)) (Int.emod_nonneg _ (by decide)) (Int.emod_lt_of_pos _ (by decide))
  refine ⟨n',mx',x5',?_⟩
  rw [zcc, <-ih]
  simp only [zdi,zda,List.set,pure_bind,bind_assoc,zbh,zdb,zcE,zaO,zaH,zfy,zhT (show -1000000000000000<mx by omega) (show mx<1000000000000000 by omega),zhT (show (-1000000000000000:Int)<7 by decide) (show (7:Int)<1000000000000000 by decide),
    ze3 (i:=7*j) (show -1000000000000000<j by omega) (show j<1000000000000000 by omega),zhT (show (-1000000000000000:Int)<11 by decide) (show (11:Int)<1000000000000000 by decide),zdx,zeo (show (0:Int)<2147483647 by decide),zgQ,ze3 (i:=n) (show (-1000000000000000:Int)<2147483647 by decide) (show (2147483647:Int)<1000000000000000 by decide)]
theorem zr2 {h:Hh} {ns:List Int} {k:Int} {P:D->Hh->Prop} (k0:0<=k) (k5:k<5) (q: ∀ z:Int,P (.cel h.length) (h++[.lst [.int z]])):wp (F_25 [.scr (ns.map D.int),.int k]) h P:=by
 obtain ⟨c,ec⟩:=zpW (ns:=ns) k0
 rw [d_25]
 simp only [G_25,zbh,zdb,zbw,zaG,zaY,zaH,zaO,pure_bind,bind_assoc,zbF,ec,zgQ,List.set,zkQ,zeW,zcE,zfy,zeo (show (0:Int)<2 by decide),zpT,zeA]
 by_cases hc:(c % 2==0)=true
 ·simp only [hc,if_true,zdg,zgD,zaG,zaY,zcE,zaO,zaH,zfy,pure_bind,bind_assoc,zeM (show (0:Int)<2 by decide) (show (2:Int)<2^64 by decide),qaE,qaJ,zaB (show 0+1<=1000 by decide),zal,zji,zak,ztx,zgF]
  exact q _
 ·obtain ⟨n',mx',x5',el⟩:=zi4 (s0:=some (.scr (ns.map D.int))) (s2:=some (.int c)) k0 k5 (zcW 0 24) 0 (c % 2147483647) none (fun d hd=>by
    obtain ⟨i,e,i0,i1⟩:=zgz hd
    exact ⟨i,e,i0,⋯⟩) (Int.emod_nonneg _ (by decide)) (Int.emod_lt_of_pos _ (by decide))
  have er:zmJ [.int 24]=pure (zcW 0 24):=zbZ (by decide) (by decide)
  simp only [hc,if_false,zhX,pure_bind,zgQ,zbh,zdb,zfy,List.set,zcE,zaO,zaH,zeo (show (0:Int)<2147483647 by decide),ziJ,zhB,zaG,zaY,er,bind_assoc,el,zdg,zgD,qaE,qaJ,zaB (show 0+1<=1000 by decide),zal,zji,zak,zgF,qax]
  exact q _
theorem zhV {a b:Nat} (h:a<=b):(2:Int)^a<=2^b:=by
 have:(2:Nat)^a<=2^b:=Nat.pow_le_pow_right (by decide) h
 exact_mod_cast this
theorem zjy {bits:Int}: ∀ (m:Nat),0<bits->bits<2^m-> ∃ j:Nat,j<m/\(bits / 2^j) % 2=1
 | 0,h0,h1=>by simp at h1;omega
 | m+1,h0,h1=>by
  by_cases c:bits<2^m
  ·obtain ⟨j,a,b⟩:=zjy m h0 c
   exact ⟨j,⋯,b⟩
  ·refine ⟨m,⋯,?_⟩
   have hp:(0:Int)<2^m:=Int.pow_pos (by decide)
   have e:bits / 2^m=1:=by
    have h2:(2:Int)^(m+1)=2*2^m:=by rw [Int.pow_succ];omega
    have a1:1<=bits / 2^m:=(Int.le_ediv_iff_mul_le hp).mpr ⋯
    have a2:bits / 2^m<2:=(Int.ediv_lt_iff_lt_mul hp).mpr ⋯
    omega
   rw [e]
   decide
def zq3 (bits:Int) (d:D):Option D:=match d with
 | .int j=>if ((bits / 2^j.toNat) % 2==1)=true then some d else none
 | _=>none
theorem zhK (bits:Int): ∀ xs:List Int,(xs.map D.int).filterMap (zq3 bits)=(xs.filter fun j=>(bits / 2^j.toNat) % 2==1).map D.int
 | []=>rfl
 | x::r=>by
  rw [qaM,qat,List.filter_cons,zhK bits r]
  unfold zq3
  dsimp only
  split<;>simp_all
theorem zlk {bits:Int} {m:Nat} (h0:0<bits) (h1:bits<2^m):zd1 m 0 ((zcW 0 m).filterMap (zq3 bits))=true/\(zcW 0 m).filterMap (zq3 bits)≠[]:=by
 rw [zcx,zhK]
 constructor
 ·rw [zbP]
  constructor
  ·refine List.Pairwise.filter _ ?_
   rw [List.pairwise_map]
   exact List.pairwise_lt_range.imp fun h=>by omega
  ·intro x hx
   obtain ⟨k,hk,e⟩:=qaU.mp (List.mem_filter.mp hx).1
   have:=List.mem_range.mp hk
   omega
 ·obtain ⟨j,a,b⟩:=zjy m h0 h1
  intro z
  have:((j:Int))∈((List.range m).map fun (k:Nat)=>(k:Int)).filter fun j=>(bits / 2^j.toNat) % 2==1:=by
   refine List.mem_filter.mpr ⟨qaU.mpr ⟨j,List.mem_range.mpr a,rfl⟩,?_⟩
   rw [qaB,b]
   rfl
  have z':=List.map_eq_nil_iff.mp z
  rw [z'] at this
  cases this
theorem zk1 {h:Hh} {b:Nat} {m:Int} {P:D->Hh->Prop} (q:Bx b h) (h0:1<=m) (h1:m<=10) (k: ∀ ts h',zd1 m 0 ts=true->ts≠[]->Ext b h h'->P (.tup ts) h'):wp (F_29 [.cel b,.int m]) h P:=by
 rw [d_29]
 simp only [G_29,zbh,zdb,zbw,zaG,zaY,zaH,zaO,pure_bind,bind_assoc,zbF,zfy,zal]
 refine zaT q (by decide) (by decide) fun way h2 w0 w1 x2=> ?_
 simp only [zak,zal,zgQ,List.set,zbh,zkQ,zeW,zaO,zaH,pure_bind,bind_assoc,zfy,zpT,zeA]
 by_cases hw:(way==0)=true
 ·rw [qa4 hw]
  simp only [zbh,zdb,zcE,zfy,zaO,zaH,pure_bind,bind_assoc,zbw,zaG,zaY,ziv (show 0<=m by omega) (show m<=1000 by omega),zpA,zbF,zal]
  have hp:(2:Int)<=2^m.toNat:=by
   have:(2:Int)^1<=2^m.toNat:=zhV ⋯
   simpa using this
  have hp':(2:Int)^m.toNat<=2^10:=zhV ⋯
  refine zaT x2.1 ⋯ ⋯ fun t h3 t0 t1 x3=> ?_
  have ed:zaw (zgW (zac (zaf 1) zan)) (zaC 0) zcd zcs [none,some 3] [some (.cel b),some (.int m),some (.int way),some (.int (1+t)),none,none]=pure (.lst ((zcW 0 m.toNat).filterMap (zq3 (1+t)))):=by
   refine zfZ (by simp [zbZ (show 0<=m by omega) (show m<1000 by omega)]) (by rw [zee];omega) fun x hx=> ?_
   obtain ⟨i,rfl,i0,i1⟩:=zgz hx
   have eb:zao [none,some 3] [some (.cel b),some (.int m),some (.int way),some (.int (1+t)),none,none]=[none,some (D.int (1+t))]:=rfl
   rw [eb]
   simp only [za9,zda,List.set,pure_bind,zcd,zeW,zcE,zaO,zaH,zfy,zqB i0,zuH,zqI,zpT,zeA,zcs,zq3]
   split<;>rfl
  simp only [zak,zal,zgQ,List.set,zdx,pure_bind,zdg,zbw,zaG,zaY,bind_assoc,ed,zh2,ztx,zgF]
  have hm:((m.toNat:Nat):Int)=m:=Int.toNat_of_nonneg ⋯
  have:=zlk (bits:=1+t) (m:=m.toNat) ⋯ ⋯
  rw [hm] at this
  exact k _ _ this.1 this.2 (x2.trans x3)
 ·rw [qa5 hw]
  have hw': ¬way=0:=by simpa using hw
  simp only [zhX,zak,zgQ,zbh,zi2,zfG,zaG,zaY,zbw,zaH,zaO,pure_bind,bind_assoc,zbF,zal]
  refine zaT x2.1 ⋯ ⋯ fun first h3 f0 f1 x3=> ?_
  simp only [zcE,zhi,zaG,zaY,zfy,zbw,zaH,zaO,pure_bind,bind_assoc,zbF,zal,zak]
  refine zaT x3.1 (by decide) (by decide) fun t h4 t0 t1 x4=> ?_
  simp only [zdx,pure_bind,zak,zal,qaE,qaJ,zaB (show 0+1+1<=1000 by decide),zaO,zaH,zpA,zmW,bind_assoc]
  obtain ⟨step,es,s0,s1⟩: ∃ s:Int,atI [D.int 1,D.int (1+t)] (way - 1)=some (.int s)/\1<=s/\s<=3:=by
   by_cases c:way=1
   ·subst c
    exact ⟨1,rfl,by decide,by decide⟩
   ·have c:way=2:=by omega
    subst c
    exact ⟨1+t,rfl,⋯,⋯⟩
  simp only [es,zem,zak,zal,zlt,ziK,zda,List.set,pure_bind,zl6,zgQ,zdg,zbw,zaG,zaY,zps,bind_assoc]
  unfold zaw
  simp only [zhB,zaG,zaY,zcE,zfy,zbw,zaH,zaO,pure_bind,bind_assoc,zbF,zal]
  refine zaT x4.1 (by decide) (by decide) fun u h5 u0 u1 x5=> ?_
  have eb:zao [none,some 4,some 5,some 1] [some (.cel b),some (.int m),some (.int way),none,some (.int first),some (.int step)]=[none,some (D.int first),some (.int step),some (.int m)]:=rfl
  have hl:zbV (za9 (zaC 0) (fun _=>pure true) zcm [none,some (D.int first),some (.int step),some (.int m)]) (zcW 0 (1+u).toNat)=pure ((((List.range (1+u).toNat).map fun (k:Nat)=>(first+step*(k:Int)) % m)).map D.int):=by
   rw [zcx]
   rw [zep (k:=fun d=>match d with | .int j=>some (.int ((first+step*j) % m)) | _=>none)]
   ·congr 1
    rw [List.filterMap_map]
    simp [Function.comp_def]
   ·intro x hx
    obtain ⟨j,_,rfl⟩:=qaU.mp hx
    simp only [za9,zda,List.set,pure_bind,if_true,zcm,zcE,zaO,zaH,zhT (show -1000000000000000<step by omega) (show step<1000000000000000 by omega),zdx,zeo (show 0<m by omega)]
  simp only [zdx,pure_bind,zbZ (show 0<=1+u by omega) (show 1+u<1000 by omega),zee,zaB (show (1+u).toNat<=1000 by omega),eb,hl,zak,zal]
  generalize hy:((List.range (1+u).toNat).map fun (k:Nat)=>(first+step*(k:Int)) % m)=ys
  have yl:ys.length=(1+u).toNat:=by rw [<- hy];simp
  have ym: ∀ y∈ys,0<=y/\y<m:=fun y h=>by
   rw [<- hy] at h
   obtain ⟨k,_,rfl⟩:=qaU.mp h
   exact ⟨Int.emod_nonneg _ ⋯,Int.emod_lt_of_pos _ ⋯⟩
  simp only [zhM (show ys.length<64 by omega),zak,zh2,zgF,pure_bind,zal]
  refine k _ _ (zbP.mpr ⟨zfp ys,fun x hx=>ym x (zdo.mp hx)⟩) (fun z=> ?_) (((x2.trans x3).trans x4).trans x5)
  have z':=List.map_eq_nil_iff.mp z
  have hy0: ∃ y,y∈ys:=List.exists_mem_of_length_pos ⋯
  obtain ⟨y,hy0⟩:=hy0
  have:=zdo.mpr hy0
  rw [z'] at this
  cases this
def Row (m:Int) (h:Hh) (d:D):Prop:= ∃ (n:Nat) (xs:List Int) (p:Int),d= .cel n/\h[n]? = some (.lst [.tup (xs.map D.int),.int p])/\zd1 m 0 (xs.map D.int)=true/\xs≠[]/\(0<p/\p<2^64)
theorem Row.ext {m:Int} {b:Nat} {h h':Hh} {d:D} (q:Bx b h) (x:Ext b h h') (r:Row m h d):Row m h' d:=by
 obtain ⟨n,ts,p,e,e2,r⟩:=r
 have hn:n≠b:=fun z=>by
  subst z
  obtain ⟨y,e3⟩:=q
  rw [e3] at e2
  cases e2
 exact ⟨n,ts,p,e,x.2 n _ hn e2,r⟩
theorem zlA {b:Nat} {m far:Int} (m0:1<=m) (m1:m<=10) (f0:0<far) (f1:far<2^64): ∀ (ds:List D) {h:Hh} {P:List D->Hh->Prop},Bx b h->(∀ rs h',Ext b h h'->rs.length=ds.length->(∀ r∈rs,Row m h' r)->P rs h')->
  wp (zbV (za9 (zaC 0) (fun _=>pure true) zcZ [none,some (.cel b),some (.int m),some (.int far)]) ds) h P
 | [],h,P,q,k=>by
  rw [zbV,zak]
  exact k [] h (Ext.refl q) rfl fun r hr=>by cases hr
 | d::r,h,P,q,k=>by
  rw [zbV]
  simp only [zal,za9,zda,List.set,pure_bind,if_true,zcZ,zgD,zaG,zaY,zbw,zaO,zaH,bind_assoc,zbF]
  refine zk1 q m0 m1 fun ts h2 hr hne x2=> ?_
  simp only [zal,zcE,zfy,zbw,zaG,zaY,zaO,zaH,pure_bind,bind_assoc,zbF]
  refine zaT x2.1 f0 f1 fun t h3 t0 t1 x3=> ?_
  simp only [zdx,pure_bind,zak,zal,qaE,qaJ,zaB (show 0+1+1<=1000 by decide),zji]
  have x4:=x3.1.push (c:= .lst [.tup ts,.int (1+t)])
  obtain ⟨xs,rfl⟩:=zii (zgC hr)
  refine zlA m0 m1 f0 f1 r x4.1 fun rs h' x5 hl hr'=> ?_
  refine k (.cel h3.length::rs) h' (((x2.trans x3).trans x4).trans x5) (by simp [hl]) fun y hy=> ?_
  rcases qaP.mp hy with rfl | hy
  ·exact Row.ext x4.1 x5 ⟨h3.length,xs,1+t,rfl,by simp,hr,fun z=>hne (by rw [z];rfl),⟨⋯,⋯⟩⟩
  ·exact hr' y hy
def zol (h:Hh) (i:Int) (d:D):Bool:=match d with
 | .cel n=>match h[n]? with
  | some (.lst (.tup ts::_))=>match zbO ts with
   | some xs=>xs.any (· == i)
   | none=>false
  | _=>false
 | _=>false
def zko (h:Hh) (d:D):D:=match d with
 | .cel n=>match h[n]? with
  | some (.lst ds)=> .tup ds
  | _=> .non
 | _=> .non
theorem zo7 {m:Int} {h:Hh}: ∀ {rs:List D},(∀ r∈rs,Row m h r)-> ∃ ps,zkv h rs=some ps/\PyData.canLayAll0 ps=true/\ps.length=rs.length
 | [],_=>⟨[],rfl,rfl,rfl⟩
 | d::r,hr=>by
  obtain ⟨n,xs,p,rfl,e,_⟩:=hr d qau
  obtain ⟨ps,e1,e2,e3⟩:=zo7 fun y hy=>hr y (qan _ hy)
  refine ⟨.list [.tuple (xs.map .int),.int p]::ps,?_,?_,by simp [e3]⟩
  ·simp only [zkv,pdH,e,pdL,pd,zb7,Option.map,e1]
  ·simp [PyData.canLayAll0,PyData.canLay0,zaV,e2]
theorem zqR {m:Int} {h:Hh} {rs:List D} {P:D->Hh->Prop} (hr: ∀ r∈rs,Row m h r) (q:P (.bl rs.isEmpty) h):wp (zs6 (.lst rs) (.lst [])) h P:=by
 obtain ⟨ps,e1,e2,e3⟩:=zo7 hr
 refine ⟨.bl rs.isEmpty,h,?_,q⟩
 unfold zs6
 have a1:pdH h (.lst rs)=some (.list ps):=by simp only [pdH,e1,Option.map]
 have a2:pdH h (.lst [])=some (.list []):=by simp only [pdH,zkv,Option.map]
 rw [a1,a2]
 have c:zfY (.list ps) (.list [])=true:=by
  unfold zfY
  simp [PyData.canLay0,PyData.canLayAll0,e2,PyData.depth,PyData.depthAll]
 simp only [c,if_true]
 cases ps with
 | nil=>
  cases rs with
  | nil=>rfl
  | cons _ _=>cases e3
 | cons _ _=>
  cases rs with
  | nil=>cases e3
  | cons _ _=>rfl
def Cov (rows:List D) (h:Hh) (j:Int):Prop:= ∃ r∈rows, ∃ (n:Nat) (xs:List Int) (p:Int),r= .cel n/\h[n]? = some (.lst [.tup (xs.map D.int),.int p])/\j∈xs
theorem Cov.ext {b:Nat} {rows:List D} {h h':Hh} {j:Int} (q:Bx b h) (x:Ext b h h') (r:Cov rows h j):Cov rows h' j:=by
 obtain ⟨d,hd,n,ts,p,e,e2,r⟩:=r
 have hn:n≠b:=fun z=>by
  subst z
  obtain ⟨y,e3⟩:=q
  rw [e3] at e2
  cases e2
 exact ⟨d,hd,n,ts,p,e,x.2 n _ hn e2,r⟩
theorem zhF {b:Nat} {m far:Int} {s1 s2:Option D} {rows:List D} (m0:1<=m) (m1:m<=10) (hne:rows≠[]) (hl:rows.length<=12): ∀ (ds:List D) (dn:List Int) {h:Hh} {x6 x7:Option D} {P:Out->Hh->Prop},Bx b h->(∀ d∈ds, ∃ i:Int,d= .int i/\0<=i/\i<m)->(∀ r∈rows,Row m h r)->(∀ j∈dn,Cov rows h j)->
  (∀ x6' x7' h',Bx b h'->(∀ r∈rows,Row m h' r)->(∀ j,j∈dn\/D.int j∈ds->Cov rows h' j)->P (.nx [some (.cel b),s1,s2,some (.int m),some (.int far),some (.lst rows),x6',x7']) h')->
  wp (za4 (fun x sd=>do let sd1<-zaC 6 x sd;zbz sd1) ds [some (.cel b),s1,s2,some (.int m),some (.int far),some (.lst rows),x6,x7]) h P
 | [],dn,h,x6,x7,P,q,_,hr,hc,k=>by
  rw [zc3,zak]
  exact k _ _ h q hr fun j hj=>hc j (hj.elim id fun z=>by cases z)
 | d::r,dn,h,x6,x7,P,q,hd,hr,hc,k=>by
  obtain ⟨i,rfl,i0,i1⟩:=hd _ qau
  have hd':=fun y hy=>hd y (qan _ hy)
  have ih: ∀ {h:Hh} {x6 x7:Option D},Bx b h->(∀ r∈rows,Row m h r)->(∀ j∈i::dn,Cov rows h j)->wp (za4 (fun x sd=>do let sd1<-zaC 6 x sd;zbz sd1) r [some (.cel b),s1,s2,some (.int m),some (.int far),some (.lst rows),x6,x7]) h P:=fun q hr hc=>zhF m0 m1 hne hl r (i::dn) q hd' hr hc fun x6' x7' h' q' hr' hc'=>k x6' x7' h' q' hr' fun j hj=>hc' j (by
    rcases hj with hj | hj
    · exact .inl (qan _ hj)
    · rcases qaP.mp hj with z | z
      · cases z;exact .inl qau
      · exact .inr z)
  rw [zcc]
  generalize za4 (fun x sd=>do let sd1<-zaC 6 x sd;zbz sd1) r=rest at ih ⊢
  simp only [zda,List.set,pure_bind,zbz,zkQ,zeW,zal]
  refine zj5 (k:=fun d=>if zol h i d=true then some d else none) (ds:=rows) (by simp) ⋯ (fun x hx=> ?_) ?_
  ·obtain ⟨n,xs,p,rfl,e,_⟩:=hr x hx
   have eb:zao [none,some 6] [some (.cel b),s1,s2,some (.int m),some (.int far),some (.lst rows),some (.int i),x7]=[none,some (D.int i)]:=rfl
   rw [eb]
   simp only [za9,zda,List.set,pure_bind,zdV,zeW,zaO,zaH,zcE,zfy,zlV,bind_assoc,zal,zbN e,zj4,zem,zak,zgA,zeA,zdN,zol,e,zbi]
   rw [zaJ]
   split
   ·simp_all [zak,zaH,zal]
   ·simp_all [zak]
  ·simp only [zhi,zaY,pure_bind,qaJ,zaB (show 0<=1000 by decide),zal,zak]
   refine zqR (m:=m) (fun y hy=> ?_) ?_
   ·obtain ⟨z,hz,ez⟩:=List.mem_filterMap.mp hy
    split at ez
    ·cases ez;exact hr _ hz
    ·cases ez
   simp only [zeA,zak]
   rw [zaJ]
   split
   ·rename_i c
    have none_has: ∀ y∈rows,zol h i y=false:=fun y hy=>by
     cases z:zol h i y with
     | false=>rfl
     | true=>
      have:y∈rows.filterMap fun d=>if zol h i d=true then some d else none:=List.mem_filterMap.mpr ⟨y,hy,by rw [z];rfl⟩
      rw [List.isEmpty_iff.mp c] at this
      cases this
    have hpos:0<rows.length:=List.length_pos_iff.mpr hne
    simp only [zbh,zdb,zcE,zaO,zaH,pure_bind,bind_assoc,zbw,zaG,zaY,zov,zbF,zal]
    refine zaT q ⋯ ⋯ fun t h2 t0 t1 x2=> ?_
    have ht:t.toNat<rows.length:=by omega
    have ea:atI rows t=some rows[t.toNat]:=by
     have:=zc0 (xs:=rows) (j:=t.toNat) (v:=rows[t.toNat]) (by simp [ht])
     rw [<- this]
     congr 1
     omega
    have hrow:=hr rows[t.toNat] (List.getElem_mem ht)
    have hno:=none_has rows[t.toNat] (List.getElem_mem ht)
    have hmem:rows[t.toNat]∈rows:=List.getElem_mem ht
    generalize rows[t.toNat]=row at ea hrow hno hmem
    obtain ⟨n,xs,p,rfl,e,hrs,hx0,hp0⟩:=hrow
    have hni:i∉xs:=fun z=>by
     simp only [zol,e,zbi] at hno
     have:xs.any (· == i)=true:=List.any_eq_true.mpr ⟨i,z,by simp⟩
     rw [this] at hno
     cases hno
    have hnb:n≠b:=fun z=>by
     subst z
     obtain ⟨y,e3⟩:=q
     rw [e3] at e
     cases e
    have e2:=x2.2 n _ hnb e
    obtain ⟨hpw,hbd⟩:=zbP.mp hrs
    have hxl:(xs.length:Int)<=m:=by have:=zeK hrs ⋯;simpa using this
    have esn:((xs.map D.int)++[D.int i])=(xs++[i]).map D.int:=by simp
    simp only [zmW,ea,zem,zak,zgQ,List.set,zi2,zbw,zaG,zaY,zcE,zaO,zaH,zfy,pure_bind,bind_assoc,zlV,zal,zbN e2,zj4,zfG,qaE,qaJ,zaB (show 0+1<=1000 by decide),zoT,qaH,
      zaB (show xs.length+(0+1)<=1000 by omega),esn,zjZ (show (xs++[i]).length<64 by simp;omega),zh2,zl8,zoN]
    have e3:ixN (0+1+1) 0=some 0:=rfl
    simp only [zal,zbN e2,qaE,qaJ,e3,zem,zak,zhW,List.set]
    have hlt:n<h2.length:=(qac.mp e2).1
    refine ih ?_ ?_ ?_
    ·obtain ⟨y,ey⟩:=x2.1
     exact ⟨y,by rw [qao hnb];exact ey⟩
    ·intro y hy
     obtain ⟨n',xs',p',rfl,e',r1,r2,r3⟩:=Row.ext q x2 (hr y hy)
     by_cases hnn:n'=n
     ·subst hnn
      refine ⟨n',zcv (xs++[i]),p,rfl,qai hlt,zbP.mpr ⟨zqx hpw hni,fun z hz=> ?_⟩,fun z=> ?_,hp0⟩
      ·have:=(zaF (xs++[i])).mem_iff.mp hz
       rcases qaK.mp this with w | w
       ·exact hbd z w
       ·simp at w;omega
      ·have:=(zaF (xs++[i])).length_eq
       rw [z] at this
       simp at this
     ·exact ⟨n',xs',p',rfl,by rw [qao (Ne.symm hnn)];exact e',r1,r2,r3⟩
    ·intro j hj
     rcases qaP.mp hj with rfl | hj
     ·exact ⟨.cel n,hmem,n,zcv (xs++[j]),p,rfl,qai hlt,(zaF (xs++[j])).mem_iff.mpr (by simp)⟩
     ·obtain ⟨y,hy,n',xs',p',rfl,e',hj'⟩:=Cov.ext q x2 (hc j hj)
      by_cases hnn:n'=n
      ·subst hnn
       rw [e2] at e'
       have exs:xs=xs':=by
        have z:xs.map D.int=xs'.map D.int:=by injection (Option.some.inj e') with z;simpa using (List.cons.inj z).1
        exact (List.map_inj_right fun a b h=>by injection h).mp z
       subst exs
       exact ⟨_,hy,n',zcv (xs++[i]),p,rfl,qai hlt,(zaF (xs++[i])).mem_iff.mpr (List.mem_append_left _ hj')⟩
      ·exact ⟨_,hy,n',xs',p',rfl,by rw [qao (Ne.symm hnn)];exact e',hj'⟩
   ·rename_i c
    simp only [zhX,zak]
    refine ih q hr fun j hj=> ?_
    rcases qaP.mp hj with rfl | hj
    ·obtain ⟨y,hy⟩:=List.exists_mem_of_ne_nil (rows.filterMap fun d=>if zol h j d=true then some d else none) (fun z=>c (by rw [z];rfl))
     obtain ⟨z,hz,ez⟩:=List.mem_filterMap.mp hy
     split at ez
     ·rename_i c2
      obtain ⟨n,xs,p,rfl,e,_⟩:=hr z hz
      simp only [zol,e,zbi] at c2
      obtain ⟨k,hk,ek⟩:=List.any_eq_true.mp c2
      exact ⟨_,hz,n,xs,p,rfl,e,(show k=j by simpa using ek)▸hk⟩
     ·cases ez
    ·exact hc j hj
theorem zpQ {h:Hh} {b:Nat} {lots:Int} {P:D->Hh->Prop} (z0:1<=lots) (z1:lots<=12) (q:Bx b h) (k: ∀ (m:Int) (os:List D) h',Bx b h'->1<=m->m<=10->1<=os.length->(os.length:Int)<=lots->(∀ o∈os,zhO m o=true)->(∀ i:Int,0<=i->i<m-> ∃ o∈os, ∃ (xs:List Int) (p:Int),o= .tup [.tup (xs.map D.int),.int p]/\i∈xs)->P (.tup [.int m,.tup os]) h'):wp (F_30 [.cel b,.int 10,.int lots]) h P:=by
 rw [d_30]
 simp only [G_30,zbh,zdb,zcE,zfy,zbw,zaG,zaY,zaH,zaO,pure_bind,bind_assoc,zbF,zal]
 refine zaT q (by decide) (by decide) fun t h2 t0 t1 x2=> ?_
 simp only [zdx,pure_bind,zak,zgQ,List.set,zbh,zdb,zcE,zhi,zaG,zaY,zfy,zlN,bind_assoc,zal,qaE,qaJ,zaB (show 0+1+1+1+1<=1000 by decide),zbw,zaH,zaO,zbF]
 refine zaT x2.1 (by decide) (by decide) fun f h3 f0 f1 x3=> ?_
 obtain ⟨far,ef,g0,g1⟩: ∃ far:Int,atI [D.int 3,.int 9,.int 50,.int 1000000000000] f=some (.int far)/\0<far/\far<2^64:=by
  have:f=0\/f=1\/f=2\/f=3:=by omega
  rcases this with rfl | rfl | rfl | rfl
  ·exact ⟨3,rfl,by decide,by decide⟩
  ·exact ⟨9,rfl,by decide,by decide⟩
  ·exact ⟨50,rfl,by decide,by decide⟩
  ·exact ⟨1000000000000,rfl,by decide,by decide⟩
 simp only [zmW,ef,zem,zak,zgQ,List.set,zbh,zdb,zal]
 unfold zaw
 simp only [zhB,zaG,zaY,zcE,zfy,zbw,zaH,zaO,pure_bind,bind_assoc,zbF,zal]
 refine zaT x3.1 ⋯ ⋯ fun u h4 u0 u1 x4=> ?_
 have eb:zao [none,some 0,some 3,some 4] [some (.cel b),some (.int 10),some (.int lots),some (.int (1+t)),some (.int far),none,none,none]=[none,some (D.cel b),some (.int (1+t)),some (.int far)]:=rfl
 simp only [zdx,pure_bind,zbZ (show 0<=1+u by omega) (show 1+u<1000 by omega),zee,zaB (show (1+u).toNat<=1000 by omega),eb,zal,zak]
 refine zlA ⋯ ⋯ g0 g1 _ x4.1 fun rows h5 x5 hl hr=> ?_
 rw [zee] at hl
 simp only [zak,zgQ,List.set,zbh,ziJ,zhB,zaG,zaY,zaO,zaH,pure_bind,zbZ (show 0<=1+t by omega) (show 1+t<1000 by omega),zal]
 refine zhF ⋯ ⋯ (fun z=>by rw [z] at hl;simp at hl;omega) ⋯ _ [] x5.1 (fun d hd=> ?_) hr (fun j hj=>by cases hj) fun x6 x7 h6 q6 hr6 hc6=> ?_
 ·obtain ⟨i,e,i0,i1⟩:=zgz hd
  exact ⟨i,e,i0,⋯⟩
 simp only [zgQ,zdg,zfG,zaG,zaY,zaO,zaH,pure_bind,bind_assoc,zbw,zal]
 have eb6:zao [none] [some (.cel b),some (.int 10),some (.int lots),some (.int (1+t)),some (.int far),some (.lst rows),x6,x7]=[none]:=rfl
 simp only [zm9,zaO,zaH,pure_bind,zr0,zak,zaB (show rows.length<=1000 by omega),eb6]
 refine zeb (k:=fun d=>some (zko h6 d)) (fun x hx=> ?_) ?_
 ·obtain ⟨n,xs,p,rfl,e,_⟩:=hr6 x hx
  simp only [za9,zda,List.set,pure_bind,if_true,zd0,zfG,zaG,zaY,zcE,zaH,zfy,zlV,bind_assoc,zal,zbN e,zj4,zsT,zem,zak,qaE,qaJ,zaB (show 0+1+1<=1000 by decide),zko,e]
  exact ⟨trivial,trivial⟩
 ·simp only [zh2,zak,pure_bind,qaE,qaJ,zaB (show 0+1+1<=1000 by decide),zgF,zal]
  have em:(rows.filterMap fun d=>some (zko h6 d))=rows.map (zko h6):=by simp
  rw [em]
  refine k (1+t) _ h6 q6 ⋯ ⋯ (by simp;omega) (by simp;omega) (fun o ho=> ?_) fun i i0 i1=> ?_
  rotate_left
  ·obtain ⟨r,hr',n,xs,p,rfl,e,hi⟩:=hc6 i (.inr (by rw [zcx,qaU];exact ⟨i,qaU.mpr ⟨i.toNat,List.mem_range.mpr ⋯,⋯⟩,rfl⟩))
   exact ⟨_,qaU.mpr ⟨_,hr',rfl⟩,xs,p,by simp only [zko,e],hi⟩
  obtain ⟨r,hr',rfl⟩:=qaU.mp ho
  obtain ⟨n,xs,p,rfl,e,r1,r2,r3⟩:=hr6 r hr'
  have hx:0<(xs.length:Int):=by
   have:=List.length_pos_iff.mpr r2
   omega
  simp only [zko,e,zhO,r1,qaH]
  simp [hx,r3]
  exact ⟨List.length_pos_iff.mpr r2,r3.2⟩
theorem zmO {m:Int} {o:D} (h:zhO m o=true): ∃ (xs:List Int) (p:Int),o=zb4 (xs,p)/\(xs.Pairwise (· < ·)/\ ∀ x∈xs,0<=x/\x<m)/\xs≠[]/\(0<p/\p<2^64):=by
 unfold zhO at h
 split at h
 ·rename_i ts p
  simp only [qaG,qaD] at h
  obtain ⟨⟨h1,h2⟩,h3⟩:=h
  obtain ⟨xs,rfl⟩:=zii (zgC h1)
  exact ⟨xs,p,rfl,zbP.mp h1,fun z=>by rw [z] at h2;simp at h2,h3⟩
 ·cases h
theorem zpf {m:Int} (m0:1<=m) (m1:m<=10): ∀ {ds:List D},ds.length<=12->(∀ o∈ds,zhO m o=true)-> ∃ os,ds=os.map zb4/\Stk m os/\ ∀ o∈os,o.2<2^64
 | [],_,_=>⟨[],rfl,⟨m0,m1,by simp,by simp,by simp,by simp,by simp⟩,by simp⟩
 | d::r,hl,h=>by
  obtain ⟨os,e,s,hP⟩:=zpf m0 m1 (ds:=r) (by simp at hl;omega) fun o ho=>h o (qan _ ho)
  obtain ⟨xs,p,e1,⟨h1,h2⟩,h3,h4,h5⟩:=zmO (h d qau)
  have hlen:((xs,p)::os).length<=12:=by rw [e] at hl;simpa using hl
  refine ⟨(xs,p)::os,by rw [qaM,e,e1],⟨m0,m1,hlen,?_,?_,?_,?_⟩,fun o ho=>by
    rcases qaP.mp ho with rfl | ho
    · exact h5
    · exact hP o ho⟩
  ·intro o ho
   rcases qaP.mp ho with rfl | ho
   ·exact h1
   ·exact s.up o ho
  ·intro o ho
   rcases qaP.mp ho with rfl | ho
   ·exact h2
   ·exact s.bd o ho
  ·intro o ho
   rcases qaP.mp ho with rfl | ho
   ·exact h3
   ·exact s.ne o ho
  ·intro o ho
   rcases qaP.mp ho with rfl | ho
   ·exact h4
   ·exact s.pos o ho
theorem zll:dIx (zbb m os) (.int 1)=pure (.tup (os.map zb4)):=rfl
theorem zny:dIx (zbb m os) (.int 0)=pure (.int m):=rfl
theorem ziH {n:Nat} {s0:Option D}: ∀ (os:List (List Int×Int)) {h:Hh} {xs:List Int} {x2:Option D} {P:Out->Hh->Prop},h[n]? = some (.lst (xs.map D.int))->xs.length+(os.flatMap (·.1)).length<=1000->
  (∀ x2' h',(∀ k,k≠n->h'[k]? = h[k]?)->h'.length=h.length->h'[n]? = some (.lst ((xs++os.flatMap (·.1)).map D.int))->P (.nx [s0,some (.cel n),x2']) h')->
  wp (za4 (fun x sd=>do let sd1<-zaC 2 x sd;za2 sd1) (os.map zb4) [s0,some (.cel n),x2]) h P
 | [],h,xs,x2,P,e,_,k=>by
  rw [List.map_nil,zc3,zak]
  exact k x2 h (fun _ _=>rfl) rfl (by simpa using e)
 | o::os,h,xs,x2,P,e,hl,k=>by
  have hln:=(qac.mp e).1
  rw [List.flatMap_cons,qav] at hl
  have ih:=fun (x2':Option D)=>ziH (s0:=s0) (n:=n) os (h:=h.set n (.lst ((xs++o.1).map D.int))) (xs:=xs++o.1) (x2:=x2') (P:=P) (qai hln) (by rw [qav];omega) fun x2'' h' h1 h2 h3=>k x2'' h' (fun j hj=>(h1 j hj).trans (qao (Ne.symm hj))) (h2.trans (qaI ..)) (by rw [h3,List.flatMap_cons,List.append_assoc])
  rw [qaM,zcc]
  generalize za4 (fun x sd=>do let sd1<-zaC 2 x sd;za2 sd1) (os.map zb4)=rest at ih ⊢
  have f:=zaB (show (xs.map D.int).length+(o.1.map D.int).length<=1000 by rw [qaH,qaH];omega)
  simp only [qaH] at f
  simp only [za2]
  ac_nf0
  simp only [zal,zbN e,zak,qaH,f,zhW, <-List.map_append]
  exact ih _
theorem ztc {d:D} {os:List (List Int×Int)} {m:Int} (hd:zeD d=pure (os.map zb4)) (m0:0<=m) (m1:m<=60) (hl:(os.flatMap (·.1)).length<=1000) (b: ∀ o∈os, ∀ x∈o.1,0<=x/\x<m):Ev (F_14 [d]) (tI (zfq (os.flatMap (·.1)))):=by
 refine .of_wp fun h=> ?_
 rw [d_14]
 simp only [G_14]
 ac_nf0
 simp only [hd,zak]
 refine ziH os (xs:=[]) (by simp) (by simpa using hl) fun x2 h' h1 h2 h3=> ?_
 ac_nf0
 have bb: ∀ x∈os.flatMap (·.1),0<=x/\x<m:=fun x hx=>by
  obtain ⟨o,ho,hx⟩:=List.mem_flatMap.mp hx
  exact b o ho x hx
 refine zg8 (by simpa using h3) (zio m0 m1 bb) ⋯ ?_
 ac_nf0
 refine ⟨trivial,⟨[.lst ((os.flatMap (·.1)).map D.int)],List.ext_getElem? fun j=> ?_⟩⟩
 by_cases hj:j=h.length
 ·subst hj
  rw [h3]
  simp
 ·rw [h1 j hj]
  by_cases hlt:j<h.length
  ·rw [qad hlt,qad hlt]
  ·rw [List.getElem?_eq_none (by simp;omega),List.getElem?_eq_none (by simp;omega)]
theorem zmY {os:List (List Int×Int)} {n:Nat} (h: ∀ o∈os,o.1.length<=n):(os.flatMap (·.1)).length<=os.length*n:=by
 induction os with
 | nil=>simp
 | cons o r ih=>
  rw [List.flatMap_cons,qav,qaE,Nat.succ_mul]
  have a1:=h o qau
  have a2:=ih fun x hx=>h x (qan _ hx)
  omega
theorem zsm (s:Stk m os) {d:D} {os':List (List Int×Int)} (hd:zeD d=pure (os'.map zb4)) (hl:os'.length<=12) (hs: ∀ o∈os',o∈os):Ev (F_15 [zbb m os,d]) (.bl (((zfq (os'.flatMap (·.1))).length:Int)==m)):=by
 have tg:=ztc hd (m:=m) (by have:=s.m0;omega) (by have:=s.m1;omega) (by have:=zmY (os:=os') (n:=10) fun o ho=>s.olen o (hs o ho);omega) fun o ho=>s.bd o (hs o ho)
 refine .of_wp fun h=> ?_
 rw [d_15]
 simp only [G_15,zbb]
 ac_nf0
 refine tg.wp fun h' g=> ?_
 ac_nf0
 rw [zpT]
 ac_nf0
 exact ⟨trivial,g⟩
def zf7 (m:Int) (os:List (List Int×Int)):Bool:=((zfq (os.flatMap (·.1))).length:Int)==m
theorem zk3 (s:Stk m os):Ev (F_12 [zbb m os]) (.bl (zf7 m os)):=by
 have e:=zsm s (d:= .tup (os.map zb4)) (os':=os) rfl s.len fun o ho=>ho
 refine .of_wp fun h=> ?_
 rw [d_12]
 simp only [G_12]
 ac_nf0
 rw [zll]
 ac_nf0
 refine e.wp fun h' g=> ?_
 ac_nf0
 first | exact ⟨g,rfl⟩ | exact ⟨trivial,g⟩ | exact ⟨g,trivial⟩ | exact g
theorem zdJ (s:Stk m os):zf7 m os=true↔ ∀ t:Int,0<=t->t<m-> ∃ o∈os,t∈o.1:=by
 have m0:=s.m0
 have hbd: ∀ x∈zfq (os.flatMap (·.1)),0<=x/\x<m:=fun x hx=>by
  obtain ⟨o,ho,hx⟩:=List.mem_flatMap.mp (zdo.mp hx)
  exact s.bd o ho x hx
 have hf:=zmC ⋯ (zfp _) hbd
 unfold zf7
 rw [<- hf,beq_iff_eq]
 constructor
 ·intro e t t0 t1
  have:t∈zfq (os.flatMap (·.1)):=by
   rw [e]
   exact qaU.mpr ⟨t.toNat,List.mem_range.mpr ⋯,⋯⟩
  exact List.mem_flatMap.mp (zdo.mp this)
 ·intro h
  refine List.Perm.eq_of_pairwise (le:=fun a b:Int=>a<b) (fun a b _ _ h1 h2=>by omega) (zfp _) (zca _) ?_
  refine (List.perm_ext_iff_of_nodup ((zfp _).imp fun z=>by omega) ((zca _).imp fun z=>by omega)).mpr fun x=> ?_
  constructor
  ·intro hx
   have:=hbd x hx
   exact qaU.mpr ⟨x.toNat,List.mem_range.mpr ⋯,⋯⟩
  ·intro hx
   have:=zci x hx
   obtain ⟨o,ho,h2⟩:=h x ⋯ ⋯
   exact zdo.mpr (List.mem_flatMap.mpr ⟨o,ho,h2⟩)
theorem zlm (s:Stk m os) (hf:zf7 m os=true):Ev (F_13 [zbb m os]) .non:=by
 have e:=zk3 s
 rw [hf] at e
 refine .of_wp fun h=> ?_
 rw [d_13]
 simp only [G_13]
 ac_nf0
 refine e.noX.wp fun h' g=> ?_
 ac_nf0
 first | exact ⟨trivial,g⟩ | exact ⟨g,trivial⟩ | exact g
theorem zqP (s:Stk m os) (hf:zf7 m os=false):EvX (F_13 [zbb m os]) "NotFull":=by
 have e:=zk3 s
 rw [hf] at e
 rw [d_13]
 simp only [G_13]
 ac_nf0
 refine Ev.bindX e.noX ?_
 ac_nf0
 exact .raise
theorem zro (s:Stk m os) (hc: ∀ i:Int,0<=i->i<m-> ∃ o∈os.map zb4, ∃ (xs:List Int) (p:Int),o= .tup [.tup (xs.map D.int),.int p]/\i∈xs):zf7 m os=true:=by
 refine (zdJ s).mpr fun t t0 t1=> ?_
 obtain ⟨o,ho,xs,p,rfl,hx⟩:=hc t t0 t1
 obtain ⟨o',ho',e⟩:=qaU.mp ho
 refine ⟨o',ho',?_⟩
 have e1:o'.1.map D.int=xs.map D.int:=by
  simp only [zb4,tI] at e
  injection e with e
  injection e with e _
  injection e
 have e2:o'.1=xs:=(List.map_inj_right fun a b h=>by injection h).mp e1
 rw [e2]
 exact hx
theorem zg5 {s0:Option D} {d:D} {p:Nat->Bool}: ∀ (r j:Nat) (x3:Option D),(∀ t:Nat,t<j+r->dIn (.int (t:Int)) d=pure (.bl (p t)))->
  ∃ y3,za4 (fun x sd=>do let sd1<-zaC 3 x sd;zc4 sd1) (zcW j r) [s0,some d,some (.int (bv p j)),x3]=pure (.nx [s0,some d,some (.int (bv p (j+r))),y3])
 | 0,j,x3,_=>⟨x3,rfl⟩
 | r+1,j,x3,hd=>by
  obtain ⟨y3,ih⟩:=zg5 (s0:=s0) (d:=d) (p:=p) r (j+1) (some (.int j)) fun t ht=>hd t ⋯
  refine ⟨y3,?_⟩
  have e1:((j+1:Nat):Int)=(j:Int)+1:=by omega
  have e2:j+1+r=j+(r+1):=by omega
  rw [e1,e2] at ih
  rw [zjG,zcc, <-ih]
  generalize za4 (fun x sd=>do let sd1<-zaC 3 x sd;zc4 sd1) (zcW ((j:Int)+1) r)=rest
  simp only [zc4]
  ac_nf0
  rw [ze3 (by decide) (by decide)]
  ac_nf0
  rw [hd j ⋯]
  ac_nf0
  have eb:bv p (j+1)=bv p j*2+(if p j=true then 1 else 0):=rfl
  rw [eb]
  cases p j
  ·ac_nf0
   simp
  ·ac_nf0
   simp
theorem zmL {d:D} {p:Nat->Bool} (m0:0<=m) (m1:m<1000) (hd: ∀ t:Nat,t<m.toNat->dIn (.int (t:Int)) d=pure (.bl (p t))):F_18 [.int m,d]=pure (.int (bv p m.toNat)):=by
 obtain ⟨y3,el⟩:=zg5 (s0:=some (.int m)) (d:=d) (p:=p) m.toNat 0 none fun t ht=>hd t ⋯
 rw [Nat.zero_add] at el
 have e0:((bv p 0:Nat):Int)=0:=rfl
 rw [e0] at el
 rw [d_18]
 simp only [G_18]
 ac_nf0
 rw [zbZ m0 m1]
 simp only [zda,pure_bind,Int.natCast_zero] at el
 ac_nf0
 rw [el]
 ac_nf0
theorem zm8 (m0:0<=m) (m1:m<1000):F_18 [.int m,.lst (zcW 0 m.toNat)]=pure (.int (bv (fun _=>true) m.toNat)):=by
 refine zmL m0 m1 fun t ht=> ?_
 rw [zcx,zlZ]
 congr 2
 rw [List.any_eq_true]
 exact ⟨(t:Int),qaU.mpr ⟨t,List.mem_range.mpr ht,rfl⟩,by simp⟩
theorem zke (s:Stk m os) (n9:os.length<=10) {r:Nat} (hr:r<os.length) {x3 x4 x5:Option D}: ∃ y3 y4 y5,zbj [some (zbb m os),some (.lst ((kl os.length r).map (trD m os))),some (.int (((os.length - (r+1):Nat)):Int)),x3,x4,x5]=pure (.nx [some (zbb m os),some (.lst ((kl os.length (r+1)).map (trD m os))),some (.int (((os.length - (r+1):Nat)):Int)),y3,y4,y5]):=by
 have m0:=s.m0
 have m1:=s.m1
 have hk:=ziN os.length r
 have hk9:2^r<=2^9:=Nat.pow_le_pow_right (by decide) ⋯
 have hj:os.length - (r+1)<os.length:=by omega
 generalize hje:os.length - (r+1)=j at hj
 have ea:=zlS (os:=os) (i:=(j:Int)) ⋯ ⋯
 rw [qaB] at ea
 have mo:os.getD j ([],0)∈os:=by simp [List.getD,hj]
 generalize ho:os.getD j ([],0)=o at ea mo
 have lo:=s.olen o mo
 have eb:=zmL (m:=m) (d:= .tup (o.1.map D.int)) (p:=fun t=>o.1.any (· == (t:Int))) ⋯ ⋯ fun t _=>zgA _ _
 have ec:zaw (iSq (zaf 1)) (zaC 0) (fun _=>pure true) zcO [none,some 3,some 2,some 4] [some (zbb m os),some (.lst ((kl os.length r).map (trD m os))),some (.int (j:Int)),some (.tup [.tup (o.1.map D.int),.int o.2]),some (.int (bv (fun t=>o.1.any (· == (t:Int))) m.toNat)),x5]=pure (.lst (((kl os.length r).map fun ls=>(j:Int)::ls).map (trD m os))):=by
  rw [show ((kl os.length r).map fun ls=>(j:Int)::ls).map (trD m os)=(kl os.length r).filterMap fun ls=>some (trD m os ((j:Int)::ls)) by simp]
  refine zaX (g':=trD m os) rfl ⋯ fun ls hls=> ?_
  obtain ⟨h1,h2⟩:=(zex os.length r ls ⋯).mp hls
  have ll:=ziY (m:=os.length) ⋯ h1 fun x hx=>by have:=h2 x hx;omega
  have f:=zaB (show 1+ls.length<=1000 by omega)
  have ebs:zao [none,some 3,some 2,some 4] [some (zbb m os),some (.lst ((kl os.length r).map (trD m os))),some (.int (j:Int)),some (.tup [.tup (o.1.map D.int),.int o.2]),some (.int (bv (fun t=>o.1.any (· == (t:Int))) m.toNat)),x5]=[none,some (.tup [.tup (o.1.map D.int),.int o.2]),some (.int (j:Int)),some (.int (bv (fun t=>o.1.any (· == (t:Int))) m.toNat))]:=rfl
  have e2: ∀ a b c:D,atI [a,b,c] 2=some c:=fun a b c=>rfl
  have eo:dOr (.int (bv (fun t=>o.1.any (· == (t:Int))) m.toNat)) (.int (bv (zoD os ls) m.toNat))=pure (.int (bv (zoD os ((j:Int)::ls)) m.toNat)):=by
   show (pure (D.int (Builtin.bitOr _ _)):M D)=_
   rw [zoH,zr6]
   congr 3
   refine ziI fun i _=> ?_
   unfold zoD
   rw [List.any_cons,qaB,ho]
  have ep:pr os ((j:Int)::ls)=o.2+pr os ls:=by
   unfold pr
   rw [qaM,List.sum_cons,qaB,ho]
  rw [ebs]
  simp only [za9,zcO,trD]
  ac_nf0
  simp only [e2,f]
  ac_nf0
  rw [eo,ep]
  ac_nf0
  rfl
 refine ⟨some (.tup [.tup (o.1.map D.int),.int o.2]),some (.int (bv (fun t=>o.1.any (· == (t:Int))) m.toNat)),some (.lst (((kl os.length r).map fun ls=>(j:Int)::ls).map (trD m os))),?_⟩
 have fk:(kl os.length (r+1)).length<=2000:=by
  rw [ziN]
  have:2^(r+1)<=2^10:=Nat.pow_le_pow_right (by decide) ⋯
  omega
 have ek:kl os.length (r+1)=(kl os.length r).take 1++(kl os.length r).map (fun ls=>(j:Int)::ls)++(kl os.length r).drop 1:=by
  rw [<- hje]
  rfl
 have f1:=zaB (show (((kl os.length r).map (trD m os)).take 1).length+((kl os.length r).map fun ls=>(j:Int)::ls).length<=1000 by simp only [List.length_take,qaH,hk];omega)
 have f2:=zgT (show (((kl os.length r).map (trD m os)).take 1++((kl os.length r).map fun ls=>(j:Int)::ls).map (trD m os)).length+(((kl os.length r).map (trD m os)).drop 1).length<=16000000 by simp only [qav,List.length_take,List.length_drop,qaH,hk];omega)
 have es: ∀ (ds:List D) (lo hi:Option Int),dSl (.lst ds) lo hi=pure (.lst (zjN ds lo hi)):=fun _ _ _=>rfl
 simp only [zbj]
 ac_nf0
 rw [zll]
 ac_nf0
 rw [ea]
 ac_nf0
 rw [zny]
 ac_nf0
 rw [eb]
 ac_nf0
 rw [ec]
 ac_nf0
 simp only [es,ziZ _ (show (0:Int)<=1 by decide),znP _ (show (0:Int)<=1 by decide)]
 ac_nf0
 rw [show (1:Int).toNat=1 from rfl]
 simp only [zoQ,qaH,qav] at f1 f2 ⊢
 rw [f1]
 ac_nf0
 rw [f2]
 ac_nf0
 rw [ek,List.map_append,List.map_append,List.map_take,List.map_drop]
theorem zfS (s:Stk m os) (n9:os.length<=10): ∀ (k r:Nat) (x2 x3 x4 x5:Option D),k+r=os.length->
  ∃ y2 y3 y4 y5,za4 (fun x sd=>do let sd1<-zaC 2 x sd;zbj sd1) (zj8 ((k:Int) - 1) k) [some (zbb m os),some (.lst ((kl os.length r).map (trD m os))),x2,x3,x4,x5]=pure (.nx [some (zbb m os),some (.lst ((kl os.length os.length).map (trD m os))),y2,y3,y4,y5])
 | 0,r,x2,x3,x4,x5,h=>⟨x2,x3,x4,x5,by
   have:r=os.length:=by omega
   subst this
   rfl⟩
 | k+1,r,x2,x3,x4,x5,h=>by
  obtain ⟨z3,z4,z5,eb⟩:=zke s n9 (r:=r) ⋯ (x3:=x3) (x4:=x4) (x5:=x5)
  obtain ⟨y2,y3,y4,y5,ih⟩:=zfS s n9 k (r+1) (some (.int (k:Int))) z3 z4 z5 ⋯
  refine ⟨y2,y3,y4,y5,?_⟩
  have e1:((k+1:Nat):Int) - 1=(k:Int):=by omega
  have e2:os.length - (r+1)=k:=by omega
  rw [e2] at eb
  rw [e1,zm2,zcc, <-ih]
  show (do let o<-zbj [some (zbb m os),some (.lst ((kl os.length r).map (trD m os))),some (.int (k:Int)),x3,x4,x5];_:M Out)=_
  rw [eb]
  rfl
theorem znb (s:Stk m os) (n9:os.length<=10):F_17 [zbb m os]=pure (.lst ((kl os.length os.length).map (trD m os))):=by
 obtain ⟨y2,y3,y4,y5,el⟩:=zfS s n9 os.length 0 none none none none ⋯
 have e0:(kl os.length 0).map (trD m os)=[.tup [.int 0,.tup [],.int 0]]:=by
  show [trD m os []]=_
  unfold trD
  rw [zmr (p:=zoD os []) (fun _=>rfl)]
  rfl
 rw [e0] at el
 have er:zn6 [.int ((os.length:Int) - 1),.int (-1),.int (-1)]=pure (zj8 ((os.length:Int) - 1) os.length):=by
  show (if (-1000<=(os.length:Int) - 1/\(os.length:Int) - 1<1000/\(-1000:Int)<= -1/\(-1:Int)<1000)/\(-1:Int)= -1 then (pure (zj8 ((os.length:Int) - 1) ((os.length:Int) - 1 - -1).toNat):M (List D)) else M.bad)=_
  rw [qa4 ⟨⟨⋯,⋯,⋯,⋯⟩,rfl⟩]
  congr 2
  omega
 have ei: ∀ (fs:FA) (sd:Sd),zp9 fs sd=(do let ds<-fs sd;zn6 ds):=fun _ _=>rfl
 simp only [zda,pure_bind] at el
 rw [d_17]
 simp only [G_17]
 ac_nf0
 simp only [ei]
 ac_nf0
 rw [zll]
 ac_nf0
 rw [er]
 ac_nf0
 rw [el]
 ac_nf0
def zjs (m:Int) (os:List (List Int×Int)):List (Int×List Int):=((kl os.length os.length).filter (cvB m os)).map fun ls=>(pr os ls,ls)
def zgX (m:Int) (os:List (List Int×Int)):Int×List Int:=(zjs m os).getD (zdd (zjs m os)) (0,[])
theorem zk8 (s:Stk m os) (n9:os.length<=10):F_16 [zbb m os]=pure (.lst ((zjs m os).map pD2)):=by
 have m0:=s.m0
 have m1:=s.m1
 have hk:=ziN os.length os.length
 have hk9:2^os.length<=2^10:=Nat.pow_le_pow_right (by decide) n9
 have ec:zaw (iSq (zaA (zaq 1 F_17) (zac (zaf 0) zan))) (zaC 0) zbD zbH [none,some 1] [some (zbb m os),some (.int (bv (fun _=>true) m.toNat))]=pure (.lst ((zjs m os).map pD2)):=by
  unfold zjs
  rw [qaT, <-zbu]
  refine zb9 (g':=trD m os) ?_ ⋯ fun ls hls=> ?_
  ·ac_nf0
   rw [znb s n9]
   ac_nf0
  ·have eb:zao [none,some 1] [some (zbb m os),some (.int (bv (fun _=>true) m.toNat))]=[none,some (.int (bv (fun _=>true) m.toNat))]:=rfl
   have e2: ∀ a b c:D,atI [a,b,c] 2=some c:=fun a b c=>rfl
   rw [eb]
   simp only [za9,zbD,zbH,trD]
   ac_nf0
   simp only [e2]
   ac_nf0
   rw [zpT,zmT]
   ac_nf0
   unfold cvB
   split<;>rfl
 have el:zgx (.int m)=pure (.lst (zcW 0 m.toNat)):=by
  show (if 0<=m/\m<1000 then _ else _)=_
  rw [qa4 ⟨⋯,⋯⟩]
 rw [d_16]
 simp only [G_16]
 ac_nf0
 rw [zny]
 ac_nf0
 rw [el]
 ac_nf0
 rw [zm8 ⋯ ⋯]
 ac_nf0
 rw [ec]
 ac_nf0
theorem zia (s:Stk m os) (hf:zf7 m os=true):zjs m os≠[]:=fun z=>by
 have hall:=(zdJ s).mp hf
 have hm:((pr os ((List.range os.length).map fun (k:Nat)=>(k:Int))),((List.range os.length).map fun (k:Nat)=>(k:Int)))∈zjs m os:=by
  refine qaU.mpr ⟨_,List.mem_filter.mpr ⟨(zex os.length os.length _ (qaV _)).mpr ⟨zca _,fun y hy=> ?_⟩,zfb.mpr fun t t0 t1=> ?_⟩,rfl⟩
  ·have:=zci y hy
   omega
  ·obtain ⟨o,ho,ht⟩:=hall t t0 t1
   obtain ⟨j,hj,rfl⟩:=List.getElem_of_mem ho
   exact ⟨(j:Int),qaU.mpr ⟨j,List.mem_range.mpr hj,rfl⟩,by simpa [List.getD,hj] using ht⟩
 rw [z] at hm
 cases hm
theorem zim (s:Stk m os) (hf:zf7 m os=true) (n9:os.length<=10):Ev (F_19 [zbb m os]) (tI (zgX m os).2):=by
 refine .of_wp fun h=> ?_
 rw [d_19]
 simp only [G_19]
 ac_nf0
 refine (zlm s hf).wp fun h' g=> ?_
 have ep:dIx (pD2 (zgX m os)) (.int 1)=pure (tI (zgX m os).2):=rfl
 ac_nf0
 rw [zk8 s n9]
 ac_nf0
 rw [zhz (zia s hf),show (zjs m os).getD (zdd (zjs m os)) (0,[])=zgX m os from rfl]
 ac_nf0
 rw [ep]
 ac_nf0
 exact ⟨g,trivial⟩
theorem zne (s:Stk m os) {l:Sd}:zaw (iSq (cOp dIx (zaf 0) (cK (.int 1)))) (zbY 2 (zav (zaC 0) (zav (zaC 1) zbW))) (fun _=>pure true) zcr [none,none] (some (zbb m os)::l)=pure (.lst (os.map fun o=> .int (mS o.1:Int))):=by
 have ol:=s.len
 rw [show os.map (fun o=>D.int (mS o.1:Int))=os.filterMap fun o=>some (.int (mS o.1:Int)) by simp]
 refine zb9 (g':=zb4) ?_ ⋯ fun o ho=> ?_
 ·ac_nf0
  rw [zll]
  ac_nf0
 ·have eb:zao [none,none] (some (zbb m os)::l)=[none,none]:=rfl
  have hol:=s.olen o ho
  have hbd:=s.bd o ho
  have m1:=s.m1
  have ei:zaw (iSq (zaf 0)) (zaC 0) (fun _=>pure true) zcj [none] [some (.tup (o.1.map D.int)),some (.int o.2)]=pure (.lst ((o.1.map fun t=>((2^t.toNat:Nat):Int)).map D.int)):=by
   rw [qaT,show o.1.map (D.int∘fun t=>((2^t.toNat:Nat):Int))=o.1.filterMap fun t=>some (.int ((2^t.toNat:Nat):Int)) by simp]
   refine zb9 (g':=D.int) rfl ⋯ fun t ht=> ?_
   have eb:zao [none] [some (.tup (o.1.map D.int)),some (.int o.2)]=[none]:=rfl
   have:=hbd t ht
   rw [eb]
   simp only [za9,zcj]
   ac_nf0
   rw [ziv ⋯ ⋯]
   ac_nf0
   simp
  have es:(o.1.map fun t=>((2^t.toNat:Nat):Int)).sum=(mS o.1:Int):=by
   unfold mS
   generalize o.1=ts
   induction ts with
   | nil=>rfl
   | cons t r ih=>rw [qaM,List.sum_cons,ih,qaM,List.sum_cons];simp
  rw [eb]
  simp only [za9,zcr]
  ac_nf0
  rw [ei]
  ac_nf0
  rw [zkC,es]
  ac_nf0
theorem zlz (s:Stk m os) {k:Nat} (hk:k<os.length) {s0 s1:Option D}:zaw (iSq (zaf 3)) (zbY 2 (zav (zaC 0) (zav (zaC 1) zbW))) (fun _=>pure true) zck [none,none,some 4,some 2] [s0,s1,some (.lst (os.map fun o=> .int (mS o.1:Int))),some (.lst ((lk k).map (lD os))),some (.int (k:Int))]=pure (.lst (((lk k).map fun ls=>ls++[(k:Int)]).map (lD os))):=by
 have ol:=s.len
 have hl:(lk k).length<=4096:=by
  rw [zg7]
  exact Nat.pow_le_pow_right (n:=2) (by decide) (show k<=12 by omega)
 rw [qaT,show (lk k).map (lD os∘fun ls=>ls++[(k:Int)])=(lk k).filterMap fun ls=>some (lD os (ls++[(k:Int)])) by simp]
 refine zb9 (g':=lD os) rfl ⋯ fun ls hls=> ?_
 have hlen:ls.length<=1000 - 1:=by
  obtain ⟨h1,h2⟩:=(zg9 k ls).mp hls
  have:=ziY (m:=(k:Int)) ⋯ h1 h2
  omega
 have eb:zao [none,none,some 4,some 2] [s0,s1,some (.lst (os.map fun o=> .int (mS o.1:Int))),some (.lst ((lk k).map (lD os))),some (.int (k:Int))]=[none,none,some (.int (k:Int)),some (.lst (os.map fun o=> .int (mS o.1:Int)))]:=rfl
 have ea:atI (os.map fun o=>D.int (mS o.1:Int)) (k:Int)=some (.int (mS (os.getD k ([],0)).1:Int)):=zc0 (by simp [List.getD,hk])
 have eo: ∀ a b:Nat,dOr (.int (a:Int)) (.int (b:Int))=pure (.int ((a ||| b:Nat):Int)):=fun a b=>by
  rw [<- zoH]
  rfl
 have f:=zaB (show ls.length+1<=1000 by omega)
 rw [eb]
 simp only [za9,zck]
 unfold lD
 rw [ziM,qaB]
 ac_nf0
 rw [f]
 ac_nf0
 rw [ea]
 ac_nf0
 rw [eo]
 ac_nf0
 simp
theorem zht (s:Stk m os) {s0 s1:Option D}: ∀ (j k:Nat) (x4:Option D),k+j=os.length-> ∃ y4,za4 (fun x sd=>do let sd1<-zaC 4 x sd;zbx sd1) ((List.range' k j).map fun (i:Nat)=> .int (i:Int)) [s0,s1,some (.lst (os.map fun o=> .int (mS o.1:Int))),some (.lst ((lk k).map (lD os))),x4]=pure (.nx [s0,s1,some (.lst (os.map fun o=> .int (mS o.1:Int))),some (.lst ((lk os.length).map (lD os))),y4])
 | 0,k,x4,h=>⟨x4,by rw [show k=os.length by omega];rfl⟩
 | j+1,k,x4,h=>by
  have ol:=s.len
  have hl:(lk k).length<=4096:=by
   rw [zg7]
   exact Nat.pow_le_pow_right (n:=2) (by decide) (show k<=12 by omega)
  obtain ⟨y4,ih⟩:=zht s (s0:=s0) (s1:=s1) j (k+1) (some (.int (k:Int))) ⋯
  refine ⟨y4,?_⟩
  have el:=zlz s (k:=k) ⋯ (s0:=s0) (s1:=s1)
  have f:=zgT (show (lk k).length+(lk k).length<=16000000 by omega)
  rw [List.range'_succ,qaM,zcc, <-ih]
  generalize za4 (fun x sd=>do let sd1<-zaC 4 x sd;zbx sd1) ((List.range' (k+1) j).map fun (i:Nat)=> .int (i:Int))=rest
  simp only [zbx]
  ac_nf0
  rw [el]
  ac_nf0
  rw [f]
  ac_nf0
  rw [lk,List.map_append]
def zpV (m:Int) (os:List (List Int×Int)) (ls:List Int):Bool:=(zpk os ls:Int)==2^m.toNat - 1
def zlj (m:Int) (os:List (List Int×Int)):List (List Int):=TS.zg4 HT.zbd ((lk os.length).filter (zpV m os))
theorem zqi (s:Stk m os) {s1 s2 s4:Option D}:zaw (iSq (zaf 3)) (zbY 2 (zav (zaC 0) (zav (zaC 1) zbW))) zcl zcf [none,none,some 0] [some (zbb m os),s1,s2,some (.lst ((lk os.length).map (lD os))),s4]=pure (.lst (((lk os.length).filter (zpV m os)).map tI)):=by
 have ol:=s.len
 have m0:=s.m0
 have m1:=s.m1
 have hl:(lk os.length).length<=4096:=by
  rw [zg7]
  exact Nat.pow_le_pow_right (n:=2) (by decide) ol
 rw [<- zbu]
 refine zb9 (g':=lD os) rfl ⋯ fun ls hls=> ?_
 have eb:zao [none,none,some 0] [some (zbb m os),s1,s2,some (.lst ((lk os.length).map (lD os))),s4]=[none,none,some (zbb m os)]:=rfl
 rw [eb]
 simp only [za9,zcl,zcf]
 unfold lD zpV
 ac_nf0
 rw [zny]
 ac_nf0
 rw [ziv ⋯ ⋯]
 ac_nf0
 rw [Int.one_mul,zpT]
 ac_nf0
 split<;>rfl
theorem zrG (s:Stk m os): ∀ ls∈(lk os.length).filter (zpV m os),ls≠[]:=by
 intro ls h e
 subst e
 have:=(List.mem_filter.mp h).2
 have m0:=s.m0
 unfold zpV at this
 rw [beq_iff_eq] at this
 have h2:(2:Int)^1<=2^m.toNat:=by
  have:=Nat.pow_le_pow_right (n:=2) (by decide) (show 1<=m.toNat by omega)
  have e:((2^m.toNat:Nat):Int)=2^m.toNat:=by simp
  rw [<- e]
  omega
 have h3:zpk os []=0:=rfl
 rw [h3] at this
 omega
theorem zk5 (s:Stk m os):F_32 [zbb m os]=pure (.lst ((zlj m os).map tI)):=by
 have ol:=s.len
 obtain ⟨y4,e1⟩:=zht s (s0:=some (zbb m os)) (s1:=some (.lst [])) os.length 0 none ⋯
 have em:=zne s (l:=[some (.lst []),none,none,none])
 have ep:=zqi s (s1:=some (.lst [])) (s2:=some (.lst (os.map fun o=> .int (mS o.1:Int)))) (s4:=y4)
 rw [<- List.range_eq_range'] at e1
 have el:[D.tup [.tup [],.int 0]]=(lk 0).map (lD os):=rfl
 rw [d_32]
 simp only [G_32]
 simp only [zbh,zdb,zhi,zaY,pure_bind,bind_assoc,qaJ,zaB (show 0<=1000 by decide),zgQ,List.set]
 rw [em]
 simp only [pure_bind,zgQ,List.set,zfG,zaG,zaY,zfy,bind_assoc,qaE,qaJ,zaB (show 0+1<=1000 by decide),zaB (show 0<=1000 by decide),zaB (show 0+1+1<=1000 by decide),ziJ]
 rw [el]
 have er:zgW (zac (zaA zf6 (zac (zaf 2) zan)) zan) [some (zbb m os),some (.lst []),some (.lst (os.map fun o=> .int (mS o.1:Int))),some (.lst ((lk 0).map (lD os))),none]=pure ((List.range os.length).map fun (i:Nat)=> .int (i:Int)):=by
  ac_nf0
  rw [zbZ ⋯ ⋯,qaB,zcx,qaT]
  rfl
 rw [er,pure_bind,e1]
 simp only [pure_bind,zgQ,zdg,zbw,zaG,zaY,bind_assoc]
 rw [ep]
 simp only [pure_bind]
 rw [zkn _ (zrG s)]
 rfl
theorem zkJ (s:Stk m os): ∀ (n:Nat) (ls:List Int),ls.length=n->(∀ x∈ls,0<=x/\x<(os.length:Int))-> ∀ i:Nat,(zpk os ls).testBit i=ls.any fun x=>(os.getD x.toNat ([],0)).1.any (· == (i:Int))
 | 0,ls,hl,_,i=>by
  rw [List.length_eq_zero_iff.mp hl]
  exact Nat.zero_testBit i
 | n+1,ls,hl,hb,i=>by
  obtain ⟨r,x,rfl⟩: ∃ r x,ls=r++[x]:=by
   rcases List.eq_nil_or_concat ls with z | ⟨r,t,z⟩
   ·subst z;cases hl
   ·exact ⟨r,t,by rw [z,List.concat_eq_append]⟩
  have hx:=hb x (by simp)
  have hl':x.toNat<os.length:=by omega
  have mo:os.getD x.toNat ([],0)∈os:=by simp [List.getD,hl']
  have ih:=zkJ s n r (by simpa using hl) (fun y hy=>hb y (by simp [hy])) i
  rw [ziM,Nat.testBit_or,ih,zo6 _ _ rfl (s.up _ mo) (fun y hy=>(s.bd _ mo y hy).1),List.any_append]
  simp
theorem zma (s:Stk m os) {ls:List Int} (hb: ∀ x∈ls,0<=x/\x<(os.length:Int)):zpV m os ls=true↔ ∀ t:Int,0<=t->t<m-> ∃ x∈ls,t∈(os.getD x.toNat ([],0)).1:=by
 have m0:=s.m0
 have hbit:=zkJ s _ ls rfl hb
 have e2:((2^m.toNat - 1:Nat):Int)=2^m.toNat - 1:=by
  have:0<2^m.toNat:=Nat.two_pow_pos _
  rw [Int.ofNat_sub ⋯]
  simp
 unfold zpV
 rw [beq_iff_eq, <-e2,Int.ofNat_inj]
 constructor
 ·intro e t t0 t1
  have h1:=hbit t.toNat
  rw [e,Nat.testBit_two_pow_sub_one,decide_eq_true ⋯] at h1
  obtain ⟨x,hx,h2⟩:=List.any_eq_true.mp h1.symm
  obtain ⟨y,hy,h3⟩:=List.any_eq_true.mp h2
  rw [beq_iff_eq] at h3
  refine ⟨x,hx,?_⟩
  rw [show t=y by omega]
  exact hy
 ·intro h
  refine Nat.eq_of_testBit_eq fun i=> ?_
  rw [hbit,Nat.testBit_two_pow_sub_one,Bool.eq_iff_iff,qaD,List.any_eq_true]
  constructor
  ·rintro ⟨x,hx,h2⟩
   obtain ⟨y,hy,h3⟩:=List.any_eq_true.mp h2
   rw [beq_iff_eq] at h3
   have hxb:=hb x hx
   have hl':x.toNat<os.length:=by omega
   have mo:os.getD x.toNat ([],0)∈os:=by simp [List.getD,hl']
   have:=s.bd _ mo y hy
   omega
  ·intro hi
   obtain ⟨x,hx,h2⟩:=h (i:Int) ⋯ ⋯
   exact ⟨x,hx,List.any_eq_true.mpr ⟨_,h2,by simp⟩⟩
theorem zf9 (s:Stk m os) {ls:List Int}:ls∈zlj m os↔(ls.Pairwise (· < ·)/\ ∀ y∈ls,0<=y/\y<(os.length:Int))/\ ∀ t:Int,0<=t->t<m-> ∃ x∈ls,t∈(os.getD x.toNat ([],0)).1:=by
 unfold zlj
 rw [(TS.zdp _ _).mem_iff,List.mem_filter,zg9]
 constructor
 ·rintro ⟨h1,h2⟩
  exact ⟨h1,(zma s h1.2).mp h2⟩
 ·rintro ⟨h1,h2⟩
  exact ⟨h1,(zma s h1.2).mpr h2⟩
theorem zkp {xs:List Int} (h:xs≠[]):F_22 [tI xs]=pure (.bl (zje xs)):=by
 rw [d_22]
 simp only [G_22]
 ac_nf0
 rw [zmi h,zi9 h]
 ac_nf0
 rw [zpT]
 ac_nf0
 rfl
def zkt (os:List (List Int×Int)):Bool:=os.all fun o=>zje o.1
theorem zgN (s:Stk m os):F_20 [zbb m os]=pure (.bl (zkt os)):=by
 have hl:=s.len
 rw [d_20]
 simp only [G_20]
 have ec:zaw (iSq (cOp dIx (zaf 0) (cK (.int 1)))) (zaC 0) (fun _=>pure true) zet [none] [some (zbb m os)]=pure (.lst ((os.map fun o=>zje o.1).map D.bl)):=by
  rw [zaX (g':=zb4) (xs:=os) (k:=fun o=>some (.bl (zje o.1))) (by ac_nf0;rw [zll];ac_nf0) ⋯ fun o ho=> ?_]
  ·congr 2
   rw [qaT]
   exact congrFun List.filterMap_eq_map' os
  ·rw [show zao [none] [some (zbb m os)]=[none] from rfl]
   simp only [za9,zet]
   ac_nf0
   have:=zkp (s.ne o ho)
   unfold tI at this
   rw [this]
   ac_nf0
 ac_nf0
 rw [ec]
 ac_nf0
 rw [zgc]
 ac_nf0
 rw [List.all_map]
 rfl
theorem zlH (s:Stk m os):F_40 [zbb m os]=pure (.bl (zkt os)):=by
 have hl:=s.len
 have m1:=s.m1
 rw [d_40]
 simp only [G_40]
 have ec:zaw (iSq (cOp dIx (zaf 0) (cK (.int 1)))) (zbY 2 (zav (zaC 0) (zav (zaC 1) zbW))) (fun _=>pure true) zce [none,none] [some (zbb m os)]=pure (.lst ((os.map fun o=>zje o.1).map D.bl)):=by
  rw [zaX (g':=zb4) (xs:=os) (k:=fun o=>some (.bl (zje o.1))) (by ac_nf0;rw [zll];ac_nf0) ⋯ fun o ho=> ?_]
  ·congr 2
   rw [qaT]
   exact congrFun List.filterMap_eq_map' os
  ·rw [show zao [none,none] [some (zbb m os)]=[none,none] from rfl]
   have hne:=s.ne o ho
   have hb:=s.bd o ho
   have h1:=hb _ (zdk hne)
   have h2:=hb _ (zdl hne)
   have h3:=(btw (s.up o ho) _ (zdl hne)).1
   simp only [za9,zce]
   ac_nf0
   rw [zmi hne,zi9 hne]
   ac_nf0
   rw [zdF ⋯ ⋯ ⋯]
   ac_nf0
   have:=zoU o.1 ((List.range (zeN o.1+1 - zb1 o.1).toNat).map fun (k:Nat)=>zb1 o.1+(k:Int))
   rw [zgt hne (s.up o ho)] at this
   unfold tI at this
   rw [this]
   ac_nf0
 ac_nf0
 rw [ec]
 ac_nf0
 rw [zgc]
 ac_nf0
 rw [List.all_map]
 rfl
theorem zlb (m0:1<=m) (m1:m<=10) {far:Int} (f0:0<far) (f1:far<2^64) {b c:Nat} (hbc:c≠b) (ho: ∀ o∈os,zej m o) (hl:os.length<=9) {h:Hh} {s1 x6 x7 x8 x9 x10 x11 x12:Option D} {P:Out->Hh->Prop} (q:Bx b h) (e:h[c]? = some (.lst (os.map zb4))) (k: ∀ os' h',Stk m os'->os'.length<=10->(∀ o∈os',zej m o)->(∃ o∈os',o.1=rgI m.toNat)->Bx b h'->P (.rt (zbb m os')) h'):
  wp ((zap (ze2 (ztb (zaf 5) (zaA (zaq 2 F_26) (zac (zaf 0) (zac (cOp zcb (zaA zf6 (zac (zaf 5) zan)) (cK (.int 1))) zan))) (zde (zac (cUn zec (zaf 3)) (zac (cOp zcb (cK (.int 1)) (zaA (zaq 2 F_26) (zac (zaf 0) (zac (zaf 4) zan)))) zan))))) (zbS (zde (zac (zaf 3) (zac (zaA zcA (zac (cSl (cUn zrb (zaf 5)) ziz (zie (zaf 2))) zan)) zan))))) [some (.cel b),s1,some (.int 10),some (.int m),some (.int far),some (.cel c),x6,x7,x8,x9,x10,x11,x12]) h P:=by
 ac_nf0
 simp only [zal,zbN e,zak]
 rw [zth]
 simp only [zal,zbN e,zak,qaH]
 ac_nf0
 refine zaT q ⋯ ⋯ fun t h2 t0 t1 x2=> ?_
 rw [zfQ ⋯ ⋯]
 ac_nf0
 refine zaT x2.1 f0 f1 fun u h3 u0 u1 x3=> ?_
 have e3:=x3.2 c _ hbc (x2.2 c _ hbc e)
 ac_nf0
 refine zkx e3 t0 (by rw [qaH];omega) (by rw [qaH];omega) ?_
 ac_nf0
 refine zpb (zlf e3) ?_
 ac_nf0
 rw [ztI]
 ac_nf0
 have hw:zej m (rgI m.toNat,u+1):=by
  have:=ziW (m:=m) (i:=0) (j:=m) (p:=u+1) ⋯ ⋯ ⋯ ⋯
  have er:rgA 0 m=rgI m.toNat:=by
   unfold rgA rgI
   rw [Int.sub_zero]
   exact List.map_congr_left fun k _=>by omega
  rw [er] at this
  exact this
 have em:(os.map zb4).take t.toNat++zb4 (rgI m.toNat,u+1)::(os.map zb4).drop t.toNat=(os.take t.toNat++(rgI m.toNat,u+1)::os.drop t.toNat).map zb4:=by simp
 have hlen:(os.take t.toNat++(rgI m.toNat,u+1)::os.drop t.toNat).length=os.length+1:=by simp;omega
 have hall: ∀ o∈os.take t.toNat++(rgI m.toNat,u+1)::os.drop t.toNat,zej m o:=fun o hx=>by
  rcases qaK.mp hx with z | z
  ·exact ho o (List.mem_of_mem_take z)
  ·rcases qaP.mp z with rfl | z
   ·exact hw
   ·exact ho o (List.mem_of_mem_drop z)
 have em':(os.map zb4).take t.toNat++D.tup [D.tup (((List.range m.toNat).map fun (k:Nat)=>(k:Int)).map D.int),D.int (u+1)]::(os.map zb4).drop t.toNat=(os.take t.toNat++(rgI m.toNat,u+1)::os.drop t.toNat).map zb4:=em
 rw [em',ziZ _ (by decide),List.take_of_length_le (by rw [qaH,hlen];show os.length+1<=10;omega)]
 exact k _ _ (zow m0 m1 ⋯ hall) ⋯ hall ⟨(rgI m.toNat,u+1),by simp,rfl⟩ (znZ (znZ x3.1 hbc) hbc)
theorem rw_loop (m0:1<=m) (m1:m<=10) {far:Int} (f0:0<far) (f1:far<2^64) {b c:Nat} (hbc:c≠b) {s1 s2 s9 s10 s11 s12:Option D}: ∀ (ds:List D) (os:List (List Int×Int)) {h:Hh} {x6 x7 x8:Option D} {P:Out->Hh->Prop},Bx b h->h[c]? = some (.lst (os.map zb4))->(∀ o∈os,zej m o)->os.length+ds.length<=100->
  (∀ (os':List (List Int×Int)) y6 y7 y8 h',os'.length=os.length+ds.length->(∀ o∈os',zej m o)->Bx b h'->h'[c]? = some (.lst (os'.map zb4))->P (.nx [some (.cel b),s1,s2,some (.int m),some (.int far),some (.cel c),y6,y7,y8,s9,s10,s11,s12]) h')->
  wp (za4 (fun x sd=>do let sd1<-zaC 6 x sd;zbK sd1) ds [some (.cel b),s1,s2,some (.int m),some (.int far),some (.cel c),x6,x7,x8,s9,s10,s11,s12]) h P
 | [],os,h,x6,x7,x8,P,q,e,ho,hl,k=>by
  rw [zc3,zak]
  exact k os _ _ _ h rfl ho q e
 | d::r,os,h,x6,x7,x8,P,q,e,ho,hl,k=>by
  rw [qaE] at hl
  have ih:=fun (os':List (List Int×Int)) (h':Hh) (x6 x7 x8:Option D)=>rw_loop m0 m1 f0 f1 hbc (s1:=s1) (s2:=s2) (s9:=s9) (s10:=s10) (s11:=s11) (s12:=s12) r os' (h:=h') (x6:=x6) (x7:=x7) (x8:=x8) (P:=P)
  rw [zcc]
  generalize za4 (fun x sd=>do let sd1<-zaC 6 x sd;zbK sd1) r=rest at ih ⊢
  simp only [zbK]
  ac_nf0
  refine zaT q ⋯ ⋯ fun t h2 t0 t1 x2=> ?_
  ac_nf0
  refine zaT x2.1 (by decide) (by decide) fun w h3 w0 w1 x3=> ?_
  ac_nf0
  refine zqy w0 (by simpa using w1) fun v hv=> ?_
  obtain ⟨vi,rfl,v0,v1⟩: ∃ vi:Int,v= .int vi/\1<=vi/\vi<=10:=by
   simp only [qaP,qaF,or_false] at hv
   rcases hv with rfl | rfl | rfl
   ·exact ⟨2,rfl,by decide,by decide⟩
   ·exact ⟨4,rfl,by decide,by decide⟩
   ·exact ⟨m,rfl,m0,m1⟩
  ac_nf0
  refine zaT x3.1 ⋯ ⋯ fun u h4 u0 u1 x4=> ?_
  ac_nf0
  rw [zsU]
  generalize hj:(if t+1+u<m then t+1+u else m)=j
  have j0:t<j/\j<=m:=by
   rw [<- hj]
   split<;>omega
  have e4:=x4.2 c _ hbc (x3.2 c _ hbc (x2.2 c _ hbc e))
  ac_nf0
  simp only [zal,zbN e4,zak]
  rw [zdF ⋯ ⋯ ⋯]
  ac_nf0
  refine zaT x4.1 f0 f1 fun p h5 p0 p1 x5=> ?_
  have e5:=x5.2 c _ hbc e4
  ac_nf0
  refine zfh e5 (by rw [qaH];omega) ?_
  ac_nf0
  have em:os.map zb4++[D.tup [D.tup (((List.range (j - t).toNat).map fun (k:Nat)=>t+(k:Int)).map D.int),D.int (p+1)]]=(os++[(rgA t j,p+1)]).map zb4:=by
   rw [List.map_append]
   rfl
  rw [em]
  refine ih (os++[(rgA t j,p+1)]) _ _ _ _ (znZ x5.1 hbc) (zlf e5) (fun o hx=> ?_) (by rw [qav,List.length_singleton];omega) fun os' y6 y7 y8 h' hl' ho' q' e'=> ?_
  ·rcases qaK.mp hx with z | z
   ·exact ho o z
   ·rw [List.mem_singleton.mp z]
    exact ziW t0 j0.1 j0.2 ⋯
  ·exact k os' y6 y7 y8 h' (by rw [hl',qav,List.length_singleton,qaE];omega) ho' q' e'
theorem zi3 {c:Nat} {full:List D} {h:Hh} (e:h[c]? = some (.lst full)) {s0 s1 s2 s3 s4 s5 s6 s7 s8 s12:Option D}: ∀ (os:List (List Int×Int)) (mt:List Int) {x10 x11:Option D} {P:Out->Hh->Prop},(∀ o∈os,o.1.length<=10)->mt.length+10*os.length<=1000->
  (∀ (mt':List Int) y10 y11,mt'.length<=1000->P (.nx [s0,s1,s2,s3,s4,s5,s6,s7,s8,some (.lst (List.map D.int mt')),y10,y11,s12]) h)->
  wp (zbQ c full (fun x sd=>do let sd1<-zbY 2 (zav (zaC 10) (zav (zaC 11) zbW)) x sd;zbI sd1) (os.map zb4) [s0,s1,s2,s3,s4,s5,s6,s7,s8,some (.lst (List.map D.int mt)),x10,x11,s12]) h P
 | [],mt,x10,x11,P,ho,hl,k=>by
  rw [List.map_nil,zbQ,zal]
  refine zo5 e ?_
  rw [zak]
  exact k mt _ _ ⋯
 | o::r,mt,x10,x11,P,ho,hl,k=>by
  rw [qaE] at hl
  have hol:=ho o qau
  have ih:=fun (mt':List Int) (x10 x11:Option D)=>zi3 e (s0:=s0) (s1:=s1) (s2:=s2) (s3:=s3) (s4:=s4) (s5:=s5) (s6:=s6) (s7:=s7) (s8:=s8) (s12:=s12) r mt' (x10:=x10) (x11:=x11) (P:=P) (fun o ho'=>ho o (qan _ ho'))
  rw [qaM,zbQ,zal]
  refine zo5 e ?_
  generalize zbQ c full (fun x sd=>do let sd1<-zbY 2 (zav (zaC 10) (zav (zaC 11) zbW)) x sd;zbI sd1) (r.map zb4)=rest at ih ⊢
  simp only [zbI]
  ac_nf0
  rw [zaB (show mt.length+o.1.length<=1000 by omega)]
  ac_nf0
  rw [<- List.map_append]
  exact ih (mt++o.1) _ _ (by rw [qav];omega) k
theorem zm3 {b:Nat} {h:Hh} {P:D->Hh->Prop} (q:Bx b h) (k: ∀ (m:Int) (os:List (List Int×Int)) h',Stk m os->os.length<=10->(∀ o∈os,zej m o)->(∃ o∈os,o.1=rgI m.toNat)->Bx b h'->P (zbb m os) h'):wp (F_38 [.cel b,.int 10,.int 10]) h P:=by
 rw [d_38]
 simp only [G_38]
 generalize hT:(zap (ze2 (ztb (zaf 5) (zaA (zaq 2 F_26) (zac (zaf 0) (zac (cOp zcb (zaA zf6 (zac (zaf 5) zan)) (cK (.int 1))) zan))) (zde (zac (cUn zec (zaf 3)) (zac (cOp zcb (cK (.int 1)) (zaA (zaq 2 F_26) (zac (zaf 0) (zac (zaf 4) zan)))) zan))))) (zbS (zde (zac (zaf 3) (zac (zaA zcA (zac (cSl (cUn zrb (zaf 5)) ziz (zie (zaf 2))) zan)) zan)))))=TL
 ac_nf0
 refine zaT q (by decide) (by decide) fun t h2 t0 t1 x2=> ?_
 ac_nf0
 rw [zlN]
 ac_nf0
 refine zaT x2.1 (by decide) (by decide) fun f h3 f0 f1 x3=> ?_
 obtain ⟨far,ef,g0,g1⟩: ∃ far:Int,atI [D.int 3,.int 9,.int 50,.int 1000000000000] f=some (.int far)/\0<far/\far<2^64:=by
  have:f=0\/f=1\/f=2\/f=3:=by omega
  rcases this with rfl | rfl | rfl | rfl
  ·exact ⟨3,rfl,by decide,by decide⟩
  ·exact ⟨9,rfl,by decide,by decide⟩
  ·exact ⟨50,rfl,by decide,by decide⟩
  ·exact ⟨1000000000000,rfl,by decide,by decide⟩
 ac_nf0
 rw [ef]
 ac_nf0
 have hbc:=zue x3.1
 have el:(h3++[C.lst []])[h3.length]? = some (.lst (([]:List (List Int×Int)).map zb4)):=by simp
 have q3:=(x3.1.push (c:=C.lst [])).1
 generalize h3++[C.lst []]=h4 at el q3
 generalize h3.length=c at el hbc
 refine zaT q3 (by decide) (by decide) fun u h5 u0 u1 x5=> ?_
 have e5:=x5.2 c _ hbc el
 ac_nf0
 rw [zbZ ⋯ ⋯]
 ac_nf0
 have m0:1<=1+t:=by omega
 have m1:1+t<=10:=by omega
 generalize 1+t=m at m0 m1
 refine rw_loop m0 m1 g0 g1 hbc _ [] x5.1 e5 (fun o ho=>by cases ho) (by rw [zee];simp;omega) fun os y6 y7 y8 h6 hl ho q6 e6=> ?_
 rw [zee,qaJ] at hl
 have hl9:os.length<=7:=by omega
 have s:=zow m0 m1 ⋯ ho
 ac_nf0
 unfold zpX
 ac_nf0
 simp only [zal,zbN e6]
 refine zi3 e6 os [] (fun o hx=>s.olen o hx) (by simp;omega) fun mt y10 y11 hmt=> ?_
 ac_nf0
 have ec: ∀ {s0 s1 s2 s4 s5 s6 s7 s8 s10 s11 s12:Option D},zaw (zgW (zac (zaf 3) zan)) (zaC 0) zcM zcD [none,some 9] [s0,s1,s2,some (.int m),s4,s5,s6,s7,s8,some (.lst (List.map D.int mt)),s10,s11,s12]=pure (.lst (((rgI m.toNat).filter fun x=> !mt.any (· == x)).map D.int)):=fun {s0 s1 s2 s4 s5 s6 s7 s8 s10 s11 s12}=>by
  rw [<- zdz (k:=fun d=>match d with | .int x=>if (!mt.any (· == x))=true then some (.int x) else none | d=>none) fun _=>rfl]
  refine zfZ (by ac_nf0;rw [zbZ ⋯ ⋯,zcx];rfl) (by simp [rgI];omega) fun x hx=> ?_
  obtain ⟨i,_,rfl⟩:=qaU.mp hx
  rw [show zao [none,some 9] [s0,s1,s2,some (.int m),s4,s5,s6,s7,s8,some (.lst (List.map D.int mt)),s10,s11,s12]=[none,some (.lst (List.map D.int mt))] from rfl]
  simp only [za9,zcM,zcD]
  ac_nf0
  rw [zh9]
  ac_nf0
  split<;>rfl
 rw [ec,zak]
 have lkb: ∀ x∈(rgI m.toNat).filter fun x=> !mt.any (· == x),0<=x/\x<m:=fun x hx=>by
  have:=zci x (List.mem_filter.mp hx).1
  omega
 have lku:((rgI m.toNat).filter fun x=> !mt.any (· == x)).Pairwise (· < ·):=(zca _).sublist List.filter_sublist
 generalize (rgI m.toNat).filter (fun x=> !mt.any (· == x))=lk at lkb lku
 ac_nf0
 have en:=zjc lk []
 rw [List.map_nil] at en
 rw [en]
 ac_nf0
 cases hk:lk==[] with
 | true=>
  ac_nf0
  subst hT
  refine zlb m0 m1 g0 g1 hbc ho ⋯ q6 e6 fun os' h' s' l' o' e' q'=> ?_
  ac_nf0
  exact k m os' h' s' l' o' e' q'
 | false=>
  have hne:lk≠[]:=fun z=>by rw [z] at hk;cases hk
  have b1:=lkb _ (zdk hne)
  have b2:=lkb _ (zdl hne)
  have b3:=(btw lku _ (zdl hne)).1
  ac_nf0
  simp only [zal,zbN e6,zak]
  rw [zi9 hne,zmi hne]
  ac_nf0
  rw [zdF ⋯ ⋯ ⋯]
  ac_nf0
  refine zaT q6 g0 g1 fun p h7 p0 p1 x7=> ?_
  have e7:=x7.2 c _ hbc e6
  ac_nf0
  refine zfh e7 (by rw [qaH];omega) ?_
  ac_nf0
  have em:os.map zb4++[D.tup [D.tup (((List.range (zeN lk+1 - zb1 lk).toNat).map fun (k:Nat)=>zb1 lk+(k:Int)).map D.int),D.int (p+1)]]=(os++[(rgA (zb1 lk) (zeN lk+1),p+1)]).map zb4:=by
   rw [List.map_append]
   rfl
  rw [em]
  subst hT
  refine zlb (os:=os++[(rgA (zb1 lk) (zeN lk+1),p+1)]) m0 m1 g0 g1 hbc (fun o hx=> ?_) (by rw [qav,List.length_singleton];omega) (znZ x7.1 hbc) (zlf e7) fun os' h' s' l' o' e' q'=>by ac_nf0;exact k m os' h' s' l' o' e' q'
  rcases qaK.mp hx with z | z
  ·exact ho o z
  ·rw [List.mem_singleton.mp z]
   exact ziW b1.1 ⋯ ⋯ ⋯
theorem zpy {os:List (List Int×Int)} (h: ∀ o∈os,zej m o):zkt os=true:=List.all_eq_true.mpr fun o ho=>(h o ho).2.2.2.2
theorem znv (s:Stk m os) (h: ∃ o∈os,o.1=rgI m.toNat):zf7 m os=true:=by
 obtain ⟨o,ho,e⟩:=h
 exact (zdJ s).mpr fun t t0 t1=>⟨o,ho,by rw [e];exact qaU.mpr ⟨t.toNat,List.mem_range.mpr ⋯,⋯⟩⟩
theorem zjT (s:Stk m os) {t:Int} {s1 s3:Option D}:zaw (iSq (cOp dIx (zaf 0) (cK (.int 1)))) (zaC 0) zbq zbm [none,some 2] [some (zbb m os),s1,some (.int t),s3]=pure (.lst ((os.filter fun o=>o.1.any (· == t)).map zb4)):=by
 have ol:=s.len
 rw [<- zbu]
 refine zaX (g':=zb4) (by ac_nf0;rw [zll];ac_nf0) ⋯ fun o ho=> ?_
 rw [show zao [none,some 2] [some (zbb m os),s1,some (.int t),s3]=[none,some (.int t)] from rfl]
 simp only [za9,zbq,zbm]
 ac_nf0
 rw [zgA]
 ac_nf0
 split<;>rfl
theorem zfJ (s:Stk m os) (ho: ∀ o∈os,zej m o) (hc: ∀ t:Int,0<=t->t<m-> ∃ o∈os,t∈o.1) {h:Hh}: ∀ (k n:Nat) {x2 x3:Option D} {P:Out->Hh->Prop},((n+k:Nat):Int)=m->(∀ y2 y3,P (.nx [some (zbb m os),some (.cel h.length),y2,y3]) (h++[.lst ((dL os (n+k)).map D.int)]))->
  wp (za4 (fun x sd=>do let sd1<-zaC 2 x sd;za0 sd1) (zcW (n:Int) k) [some (zbb m os),some (.cel h.length),x2,x3]) (h++[.lst ((dL os n).map D.int)]) P
 | 0,n,x2,x3,P,hm,q=>by
  rw [show zcW (n:Int) 0=[] from rfl,zc3,zak]
  exact q _ _
 | k+1,n,x2,x3,P,hm,q=>by
  have ih:=fun (x2 x3:Option D)=>zfJ s ho hc (h:=h) k (n+1) (x2:=x2) (x3:=x3) (P:=P) (by rw [<- hm];omega) fun y2 y3=>by
   have:=q y2 y3
   rw [show n+(k+1)=n+1+k by omega] at this
   exact this
  rw [show ((n+1:Nat):Int)=(n:Int)+1 by omega] at ih
  rw [zjG,zcc]
  generalize za4 (fun x sd=>do let sd1<-zaC 2 x sd;za0 sd1) (zcW ((n:Int)+1) k)=rest at ih ⊢
  have ol:=s.len
  have m1:=s.m1
  simp only [za0]
  ac_nf0
  rw [zjT s,zak]
  ac_nf0
  have el:(h++[C.lst ((dL os n).map D.int)])[h.length]? = some (.lst ((dL os n).map D.int)):=by simp
  simp only [zal,zbN el,zak]
  unfold zaw
  ac_nf0
  rw [zaB (show (os.filter fun o=>o.1.any (· == (n:Int))).length<=1000 by have:=List.length_filter_le (fun o:List Int×Int=>o.1.any (· == (n:Int))) os;omega)]
  ac_nf0
  rw [show ∀ x,zao [none,some 1] [some (zbb m os),some (.cel h.length),some (.int (n:Int)),some x]=[none,some (.cel h.length)] from fun _=>rfl]
  refine zsJ (g':=zb4) (k:=fun o=>some (.int ((dL os n).getD (zb1 o.1).toNat 0+o.2))) (fun o hx=> ?_) ?_
  ·obtain ⟨h1,h2⟩:=List.mem_filter.mp hx
   have hn:(n:Int)∈o.1:=by simpa using h2
   have hne:=(ho o h1).2.2.1
   have hf:=(btw (ho o h1).1 _ hn).1
   have h0:=((ho o h1).2.1 _ (zdk hne)).1
   have hl:(zb1 o.1).toNat<(dL os n).length:=by rw [zfV];omega
   have ea:atI ((dL os n).map D.int) (zb1 o.1)=some (.int ((dL os n).getD (zb1 o.1).toNat 0)):=by
    have:=zc0 (xs:=(dL os n).map D.int) (j:=(zb1 o.1).toNat) (v:= .int ((dL os n).getD (zb1 o.1).toNat 0)) (by simp [List.getD,hl])
    rw [Int.toNat_of_nonneg h0] at this
    exact this
   simp only [za9,zcp]
   ac_nf0
   rw [zi9 hne]
   ac_nf0
   rw [zlV]
   simp only [zal,zbN el,ea,zem,zak]
   ac_nf0
   trivial
  ·have e1:((os.filter fun o=>o.1.any (· == (n:Int))).filterMap fun o=>some (D.int ((dL os n).getD (zb1 o.1).toNat 0+o.2)))=(lnx os (dL os n) n).map D.int:=by
    unfold lnx
    rw [qaT]
    exact congrFun List.filterMap_eq_map' _
   rw [e1]
   obtain ⟨o,h1,h2⟩:=hc n ⋯ ⋯
   have hp:=List.length_pos_of_mem ((zgl ho).mpr ⟨o,h1,h2,rfl⟩)
   ac_nf0
   rw [zsv hp]
   ac_nf0
   refine zfh el (by rw [qaH,zfV];omega) ?_
   rw [zlD]
   have e2:(dL os n).map D.int++[D.int (zjd (lnx os (dL os n) n))]=(dL os (n+1)).map D.int:=by
    rw [dL,List.map_append]
    rfl
   rw [e2]
   ac_nf0
   exact ih _ _
theorem zmU (s:Stk m os) (ho: ∀ o∈os,zej m o) (hc: ∀ t:Int,0<=t->t<m-> ∃ o∈os,t∈o.1):Ev (F_23 [zbb m os]) (.lst ((dL os m.toNat).map D.int)):=by
 have m0:=s.m0
 have m1:=s.m1
 refine .of_wp fun h=> ?_
 rw [d_23]
 simp only [G_23]
 ac_nf0
 rw [zny]
 ac_nf0
 rw [zbZ ⋯ ⋯]
 ac_nf0
 refine zfJ s ho hc m.toNat 0 ⋯ fun y2 y3=> ?_
 rw [Nat.zero_add]
 have el:(h++[C.lst ((dL os m.toNat).map D.int)])[h.length]? = some (.lst ((dL os m.toNat).map D.int)):=by simp
 ac_nf0
 refine zpb el ?_
 rw [zlD]
 ac_nf0
 exact ⟨trivial,⟨_,rfl⟩⟩
def brD (m:Int) (os:List (List Int×Int)):D:= .tup (((rgI m.toNat).map (yv os)).map f1)
theorem zl1 (m0:1<=m) (m1:m<=10) {s2:Option D}:zaw (zgW (zac (cOp dIx (zaf 0) (cK (.int 0))) zan)) (zaC 0) (fun _=>pure true) zcY [none,some 1] [some (zbb m os),some (.lst ((dL os m.toNat).map D.int)),s2]=pure (.lst (((rgI m.toNat).map (yv os)).map f1)):=by
 rw [zaX (g':=D.int) (xs:=rgI m.toNat) (k:=fun t=>some (f1 (yv os t))) (by
   ac_nf0
   rw [zny]
   ac_nf0
   rw [zbZ ⋯ ⋯,zcx]
   rfl) (by simp [rgI];omega) fun t ht=> ?_]
 ·congr 2
  rw [qaT]
  exact congrFun List.filterMap_eq_map' _
 ·have hb:=zci t ht
  have hg: ∀ j:Nat,j<=m.toNat->atI ((dL os m.toNat).map D.int) (j:Int)=some (.int (dd os j)):=fun j hj=>by
   have hl:j<(dL os m.toNat).length:=by rw [zfV];omega
   refine zc0 ?_
   rw [<- zi8 m.toNat j hj]
   simp [List.getD,hl]
  have h1:=hg t.toNat ⋯
  have h2:=hg (t.toNat+1) ⋯
  rw [Int.toNat_of_nonneg hb.1] at h1
  rw [show ((t.toNat+1:Nat):Int)=t+1 by omega] at h2
  rw [show zao [none,some 1] [some (zbb m os),some (.lst ((dL os m.toNat).map D.int)),s2]=[none,some (.lst ((dL os m.toNat).map D.int))] from rfl]
  simp only [za9,zcY]
  ac_nf0
  rw [h2]
  ac_nf0
  rw [h1]
  ac_nf0
  rfl
theorem zr1 (s:Stk m os) (ho: ∀ o∈os,zej m o) (hf:zf7 m os=true) (n9:os.length<=10):Ev (F_21 [zbb m os]) (.tup [tI (zgX m os).2,brD m os]):=by
 have m0:=s.m0
 have m1:=s.m1
 refine .of_wp fun h=> ?_
 rw [d_21]
 simp only [G_21]
 ac_nf0
 rw [zgN s,show zkt os=true from zpy ho]
 ac_nf0
 refine (zlm s hf).wp fun h1 g1=> ?_
 ac_nf0
 refine (zmU s ho ((zdJ s).mp hf)).noX.wp fun h2 g2=> ?_
 ac_nf0
 rw [zl1 m0 m1,zak]
 ac_nf0
 refine (zim s hf n9).wp fun h3 g3=> ?_
 ac_nf0
 exact ⟨(g1.trans g2).trans g3,rfl⟩
theorem zqv (s:Stk m os) (hr:zkt os=false):F_21 [zbb m os]=zfH "NotInRow":=by
 rw [d_21]
 simp only [G_21]
 ac_nf0
 rw [zgN s,hr]
 ac_nf0
theorem zqS (s:Stk m os) (hr:zkt os=true) (hf:zf7 m os=false):EvX (F_21 [zbb m os]) "NotFull":=by
 rw [d_21]
 simp only [G_21]
 ac_nf0
 rw [zgN s,hr]
 ac_nf0
 exact EvX.left (zqP s hf)
theorem zuS:F_28 [.exn "NotFull"]=pure (.str "! full"):=by
 funext h
 rfl
theorem zuD:F_28 [.exn "NotInRow"]=pure (.str "! in row"):=by
 funext h
 rfl
theorem zoa (s:Stk m os) (ho: ∀ o∈os,zej m o) (hf:zf7 m os=true) (n9:os.length<=10):Ev (F_39 [zbb m os]) (.tup [tI (zgX m os).2,brD m os]):=by
 rw [d_39]
 simp only [G_39]
 refine Ev.bind (zpB (o:= .rt (.tup [tI (zgX m os).2,brD m os])) ?_) (.of (by ac_nf0))
 have e1:(zbS (zaA (zaq 1 F_21) (zac (zaf 0) zan)):FS) [some (zbb m os),none]=(F_21 [zbb m os]>>=fun d=>pure (.rt d)):=by ac_nf0
 rw [e1]
 exact (zr1 s ho hf n9).bind .pure
theorem zhg (s:Stk m os) (hr:zkt os=false):F_39 [zbb m os]=pure (.str "! in row"):=by
 rw [d_39]
 simp only [G_39]
 rw [zj7 (c:="NotInRow") (d:= .str "! in row") (by ac_nf0;rw [zqv s hr];rfl) ⋯ zuD]
 ac_nf0
theorem zlu (s:Stk m os) (hr:zkt os=true) (hf:zf7 m os=false):Ev (F_39 [zbb m os]) (.str "! full"):=by
 rw [d_39]
 simp only [G_39]
 refine Ev.bind (zng (c:="NotFull") (d:= .str "! full") ?_ rfl zuS) (.of (by ac_nf0))
 have e1:(zbS (zaA (zaq 1 F_21) (zac (zaf 0) zan)):FS) [some (zbb m os),none]=(F_21 [zbb m os]>>=fun d=>pure (.rt d)):=by ac_nf0
 rw [e1]
 exact EvX.left (zqS s hr hf)
theorem ziV (a:Int):F_34 [.int a,.int 1]=pure (f1 a):=by
 have hw: ∀ n:Nat,zeE zaP za1 (n+1+1) [some (.int a),some (.int 1),some (.int (a.natAbs:Int)),some (.int 1)]=pure (.nx [some (.int a),some (.int 1),some (.int 1),some (.int 0)]):=fun n=>by
  rw [zkM]
  have h2:zeE zaP za1 (n+1) [some (.int a),some (.int 1),some (.int 1),some (.int 0)]=pure (.nx [some (.int a),some (.int 1),some (.int 1),some (.int 0)]):=by
   rw [zkM]
   simp only [zaP]
   ac_nf0
   rfl
  generalize zeE zaP za1 (n+1)=rest at h2 ⊢
  simp only [zaP,za1,zq9]
  ac_nf0
  rw [show decide ((0:Int)<1)=true from rfl]
  ac_nf0
  rw [zeo (by decide),Int.emod_one]
  ac_nf0
  exact h2
 rw [d_34]
 simp only [G_34]
 ac_nf0
 rw [zss]
 ac_nf0
 rw [zvf,zvf]
 ac_nf0
 rw [show zlc 1000 zaP za1 [some (.int a),some (.int 1),some (.int (a.natAbs:Int)),some (.int ((1:Int).natAbs:Int))]=zeE zaP za1 (998+1+1) [some (.int a),some (.int 1),some (.int (a.natAbs:Int)),some (.int 1)] from rfl,hw]
 ac_nf0
 rw [zeM (by decide) (by decide),zeM (by decide) (by decide),Int.ediv_one,Int.ediv_one]
 ac_nf0
 rfl
theorem zjV (a:Int):F_35 [f1 a]=pure (.bl true):=by
 have e1:=ziV a
 have e2:=zoU [a,1] [a,1]
 unfold tI at e2
 simp only [qaM,List.map_nil,beq_self_eq_true] at e2
 rw [d_35]
 simp only [G_35,f1] at e1 ⊢
 ac_nf0
 rw [zjg rfl,show isT (.tup [.int a,.int 1])=true from rfl]
 ac_nf0
 rw [zsN,show (((1+1:Nat):Int)==2)=true from rfl]
 ac_nf0
 rw [zfi rfl,zfi rfl,show isI (.int a)=true from rfl,show isI (.int 1)=true from rfl]
 ac_nf0
 rw [show decide ((0:Int)<1)=true from rfl]
 ac_nf0
 rw [e1]
 ac_nf0
 rw [e2]
 ac_nf0
theorem zi1 {s0:Option D}: ∀ (ys:List Int) (a:Int) (x3:Option D), ∃ y3,za4 (fun x sd=>do let sd1<-zaC 3 x sd;zcB sd1) (ys.map f1) [s0,some (.int a),some (.int 1),x3]=pure (.nx [s0,some (.int (a+ys.sum)),some (.int 1),y3])
 | [],a,x3=>⟨x3,by rw [List.map_nil,zc3,List.sum_nil,Int.add_zero]⟩
 | y::r,a,x3=>by
  obtain ⟨y3,ih⟩:=zi1 (s0:=s0) r (a+y) (some (f1 y))
  refine ⟨y3,?_⟩
  have e1:=ziV (a*1+y*1)
  rw [qaM,zcc,List.sum_cons, <-Int.add_assoc, <-ih]
  generalize za4 (fun x sd=>do let sd1<-zaC 3 x sd;zcB sd1) (r.map f1)=rest
  simp only [zcB,f1] at e1 ⊢
  ac_nf0
  rw [ze3 (by decide) (by decide),ze3 (by decide) (by decide),ze3 (by decide) (by decide)]
  ac_nf0
  rw [show (1:Int)*1=1 from rfl,e1,Int.mul_one,Int.mul_one]
  ac_nf0
theorem zop {d:D} {ys:List Int} (hd:zeD d=pure (ys.map f1)):F_36 [d]=pure (f1 ys.sum):=by
 obtain ⟨y3,e⟩:=zi1 (s0:=some d) ys 0 none
 rw [Int.zero_add] at e
 rw [d_36]
 simp only [G_36]
 ac_nf0
 rw [hd]
 ac_nf0
 simp only [zda,pure_bind] at e
 rw [e]
 ac_nf0
 rfl
theorem zhj {ys:List Int} (hy:ys.length=m.toNat): ∀ (ps:List (List Int×Int)) {s0 x2 x3 x4 x5:Option D},(∀ o∈ps,(∀ x∈o.1,0<=x/\x<m)/\o.1.length<=10/\(o.1.map fun x=>ys.getD x.toNat 0).sum<=o.2)->
  ∃ y2 y3 y4 y5,za4 (fun x sd=>do let sd1<-zbY 2 (zav (zaC 2) (zav (zaC 3) zbW)) x sd;za3 sd1) (ps.map zb4) [s0,some (.tup (ys.map f1)),x2,x3,x4,x5]=pure (.nx [s0,some (.tup (ys.map f1)),y2,y3,y4,y5])
 | [],s0,x2,x3,x4,x5,_=>⟨x2,x3,x4,x5,by rw [List.map_nil,zc3]⟩
 | o::r,s0,x2,x3,x4,x5,ho=>by
  obtain ⟨h1,h2,h3⟩:=ho o qau
  obtain ⟨y2,y3,y4,y5,ih⟩:=zhj hy r (s0:=s0) (x2:=some (tI o.1)) (x3:=some (.int o.2)) (x4:=some (.int (o.1.map fun x=>ys.getD x.toNat 0).sum)) (x5:=some (.int 1)) fun o' ho'=>ho o' (qan _ ho')
  refine ⟨y2,y3,y4,y5,?_⟩
  rw [qaM,zcc, <-ih]
  generalize za4 (fun x sd=>do let sd1<-zbY 2 (zav (zaC 2) (zav (zaC 3) zbW)) x sd;za3 sd1) (r.map zb4)=rest
  have ec:zaw (iSq (zaf 2)) (zaC 0) (fun _=>pure true) zbp [none,some 1] [s0,some (.tup (ys.map f1)),some (.tup (o.1.map D.int)),some (.int o.2),x4,x5]=pure (.lst ((o.1.map fun x=>ys.getD x.toNat 0).map f1)):=by
   rw [zaX (g':=D.int) (xs:=o.1) (k:=fun x=>some (f1 (ys.getD x.toNat 0))) (by ac_nf0) ⋯ fun x hx=> ?_]
   ·congr 2
    rw [qaT]
    exact congrFun List.filterMap_eq_map' _
   ·have hb:=h1 x hx
    have hl:x.toNat<ys.length:=by omega
    have ea:atI (ys.map f1) x=some (f1 (ys.getD x.toNat 0)):=by
     have:=zc0 (xs:=ys.map f1) (j:=x.toNat) (v:=f1 (ys.getD x.toNat 0)) (by simp [List.getD,hl])
     rw [Int.toNat_of_nonneg hb.1] at this
     exact this
    rw [show zao [none,some 1] [s0,some (.tup (ys.map f1)),some (.tup (o.1.map D.int)),some (.int o.2),x4,x5]=[none,some (.tup (ys.map f1))] from rfl]
    simp only [za9,zbp]
    ac_nf0
    rw [ea]
    ac_nf0
  have es:=zop (d:= .lst ((o.1.map fun x=>ys.getD x.toNat 0).map f1)) rfl
  simp only [za3]
  ac_nf0
  rw [ec]
  ac_nf0
  rw [es]
  simp only [f1]
  ac_nf0
  rw [ze3 (by decide) (by decide),Int.mul_one]
  ac_nf0
  rw [show decide (o.2<(o.1.map fun x=>ys.getD x.toNat 0).sum)=false by rw [decide_eq_false_iff_not];omega]
  ac_nf0
theorem zqc (s:Stk m os) {ys:List Int} (hy:ys.length=m.toNat) (h0: ∀ y∈ys,0<=y) (hs: ∀ o∈os,(o.1.map fun x=>ys.getD x.toNat 0).sum<=o.2):F_37 [zbb m os,.tup (ys.map f1)]=pure (.bl true):=by
 have m0:=s.m0
 have m1:=s.m1
 have ec: ∀ {s0 s2 s3 s4 s5:Option D},zaw (iSq (zaf 1)) (zaC 0) (fun _=>pure true) zbn [none] [s0,some (.tup (ys.map f1)),s2,s3,s4,s5]=pure (.lst ((ys.map fun _=>true).map D.bl)):=fun {s0 s2 s3 s4 s5}=>by
  rw [zaX (g':=f1) (xs:=ys) (k:=fun _=>some (.bl true)) (by ac_nf0) ⋯ fun y hy=> ?_]
  ·congr 2
   rw [qaT]
   exact congrFun List.filterMap_eq_map' _
  ·rw [show zao [none] [s0,some (.tup (ys.map f1)),s2,s3,s4,s5]=[none] from rfl]
   simp only [za9,zbn]
   ac_nf0
   rw [zjV]
   simp only [f1]
   ac_nf0
   rw [zvA,show decide ((0:Int)<=y)=true by rw [qaD];exact h0 y hy]
   ac_nf0
 obtain ⟨y2,y3,y4,y5,el⟩:=zhj hy os (s0:=some (zbb m os)) (x2:=none) (x3:=none) (x4:=none) (x5:=none) fun o ho=>⟨s.bd o ho,s.olen o ho,hs o ho⟩
 rw [d_37]
 simp only [G_37]
 ac_nf0
 rw [zjg rfl,show isT (.tup (ys.map f1))=true from rfl]
 ac_nf0
 rw [zny]
 ac_nf0
 rw [zsN,show ((ys.length:Int)==m)=true by rw [beq_iff_eq];omega]
 ac_nf0
 rw [ec]
 ac_nf0
 rw [zgc,show (ys.map fun _=>true).all id=true by simp]
 ac_nf0
 rw [zll]
 ac_nf0
 rw [el]
 ac_nf0
theorem zkV (s:Stk m os) {ls:List Int} (hl:ls.length<=1000) (b: ∀ x∈ls,0<=x/\x<(os.length:Int)):F_31 [zbb m os,tI ls]=pure (.int (pr os ls)):=by
 rw [d_31]
 simp only [G_31]
 have ec:zaw (iSq (zaf 1)) (zaC 0) (fun _=>pure true) zcG [none,some 0] [some (zbb m os),some (tI ls)]=pure (.lst ((ls.map fun i=>(os.getD i.toNat ([],0)).2).map D.int)):=by
  rw [zaX (g':=D.int) (xs:=ls) (k:=fun i=>some (.int (os.getD i.toNat ([],0)).2)) (by ac_nf0) hl fun x hx=> ?_]
  ·congr 2
   rw [qaT]
   exact congrFun List.filterMap_eq_map' _
  ·rw [show zao [none,some 0] [some (zbb m os),some (tI ls)]=[none,some (zbb m os)] from rfl]
   simp only [za9,zcG]
   ac_nf0
   rw [zll]
   ac_nf0
   rw [zlS (b x hx).1 (b x hx).2]
   ac_nf0
 ac_nf0
 simp only [tI] at ec
 rw [ec]
 ac_nf0
 rw [zkC]
 ac_nf0
 rfl
theorem znS (s:Stk m os):(zlj m os).length<=4096:=by
 have ol:=s.len
 unfold zlj
 rw [(TS.zdp _ _).length_eq]
 refine qaS (List.length_filter_le _ _) ?_
 rw [zg7]
 exact Nat.pow_le_pow_right (n:=2) (by decide) ol
theorem ziS (s:Stk m os) (x:Int×List Int):x∈zjs m os↔x∈(zlj m os).map fun ls=>(pr os ls,ls):=by
 unfold zjs
 rw [qaU,qaU]
 constructor
 ·rintro ⟨ls,h,rfl⟩
  obtain ⟨h1,h2⟩:=List.mem_filter.mp h
  obtain ⟨h3,h4⟩:=(zex os.length os.length ls (qaV _)).mp h1
  exact ⟨ls,(zf9 s).mpr ⟨⟨h3,fun y hy=>by have:=h4 y hy;omega⟩,zfb.mp h2⟩,rfl⟩
 ·rintro ⟨ls,h,rfl⟩
  obtain ⟨⟨h1,h2⟩,h3⟩:=(zf9 s).mp h
  exact ⟨ls,List.mem_filter.mpr ⟨(zex os.length os.length ls (qaV _)).mpr ⟨h1,fun y hy=>by have:=h2 y hy;omega⟩,zfb.mpr h3⟩,rfl⟩
theorem zn8 (s:Stk m os) (hf:zf7 m os=true):F_33 [zbb m os]=pure (pD2 (zgX m os)):=by
 have cl:=znS s
 have hne:=zia s hf
 have eb:zgX m os=((zlj m os).map fun ls=>(pr os ls,ls)).getD (zdd ((zlj m os).map fun ls=>(pr os ls,ls))) (0,[]):=zkX hne (ziS s)
 have hne2:((zlj m os).map fun ls=>(pr os ls,ls))≠[]:=fun z=>by
  obtain ⟨x,hx⟩:=List.exists_mem_of_ne_nil _ hne
  rw [ziS s,z] at hx
  cases hx
 rw [d_33]
 simp only [G_33]
 have ec:zaw (iSq (zaA (zaq 1 F_32) (zac (zaf 0) zan))) (zaC 0) (fun _=>pure true) zcR [none,some 0] [some (zbb m os)]=pure (.lst (((zlj m os).map fun ls=>(pr os ls,ls)).map pD2)):=by
  rw [zb9 (g':=tI) (xs:=zlj m os) (k:=fun ls=>some (pD2 (pr os ls,ls))) (by ac_nf0;rw [zk5 s];ac_nf0) ⋯ fun ls hls=> ?_]
  ·congr 2
   rw [qaT]
   exact congrFun List.filterMap_eq_map' _
  ·obtain ⟨⟨h1,h2⟩,_⟩:=(zf9 s).mp hls
   have hl:=zfm (m:=os.length) ⋯ (h1.imp fun h=>by omega) h2
   have ol:=s.len
   have ep:=zkV s (ls:=ls) ⋯ h2
   rw [show zao [none,some 0] [some (zbb m os)]=[none,some (zbb m os)] from rfl]
   simp only [za9,zcR]
   ac_nf0
   simp only [tI] at ep
   rw [ep]
   ac_nf0
   rfl
 ac_nf0
 rw [ec]
 ac_nf0
 rw [zhz hne2, <-eb]
 ac_nf0
theorem zjC (s:Stk m os) (hf:zf7 m os=true):zgX m os∈zjs m os/\ ∀ q∈zjs m os,pLt q (zgX m os)=false:=by
 obtain ⟨a1,a2⟩:=zdW (zia s hf)
 exact ⟨by unfold zgX;simp [List.getD,a1],a2⟩
theorem znT (s:Stk m os) (ho: ∀ o∈os,zej m o) (hf:zf7 m os=true):(zgX m os).1=dd os m.toNat:=by
 have m0:=s.m0
 have hc:=(zdJ s).mp hf
 obtain ⟨h1,h2⟩:=zjC s hf
 have hlow:dd os m.toNat<=(zgX m os).1:=by
  obtain ⟨ls,h3,e⟩:=qaU.mp h1
  obtain ⟨h4,h5⟩:=List.mem_filter.mp h3
  obtain ⟨h6,h7⟩:=(zex os.length os.length ls (qaV _)).mp h4
  rw [<- e]
  exact zqC ho ⋯ (fun x hx=>by have:=h7 x hx;omega) (zfb.mp h5)
 obtain ⟨ls,l1,l2,l3,l4⟩:=zqh ho ⋯ hc
 have hm:(pr os ls,ls)∈zjs m os:=qaU.mpr ⟨ls,List.mem_filter.mpr ⟨(zex os.length os.length ls (qaV _)).mpr ⟨l1,fun y hy=>by have:=l2 y hy;omega⟩,zfb.mpr l3⟩,rfl⟩
 have h3:=h2 _ hm
 have h4: ¬pr os ls<(zgX m os).1:=fun z=>by
  unfold pLt at h3
  simp [z] at h3
  omega
 omega
def shL (g:Int) (os:List (List Int×Int)):List (List Int×Int):=(os.map fun o=>(o.1.filter fun x=> !(x==g),o.2)).filter fun o=> !o.1.isEmpty
theorem zmX (s:Stk m os) {g:Int}:F_42 [zbb m os,.int g]=pure (zbb m (shL g os)):=by
 have hl:=s.len
 rw [d_42]
 simp only [G_42]
 have e1: ∀ {s2:Option D},zaw (iSq (cOp dIx (zaf 0) (cK (.int 1)))) (zbY 2 (zav (zaC 0) (zav (zaC 1) zbW))) (fun _=>pure true) zcI [none,none,some 1] [some (zbb m os),some (.int g),s2]=pure (.lst ((os.map fun o=>(o.1.filter fun x=> !(x==g),o.2)).map zb4)):=fun {s2}=>by
  rw [zaX (g':=zb4) (xs:=os) (k:=fun o=>some (zb4 (o.1.filter fun x=> !(x==g),o.2))) (by ac_nf0;rw [zll];ac_nf0) ⋯ fun o ho=> ?_]
  ·congr 2
   rw [qaT]
   exact congrFun List.filterMap_eq_map' _
  ·rw [show zao [none,none,some 1] [some (zbb m os),some (.int g),s2]=[none,none,some (.int g)] from rfl]
   simp only [za9,zcI]
   ac_nf0
   have e2:zaw (iSq (zaf 0)) (zaC 0) zcS zcF [none,some 2] [some (.tup (o.1.map D.int)),some (.int o.2),some (.int g)]=pure (.lst ((o.1.filter fun x=> !(x==g)).map D.int)):=by
    rw [<- zbu]
    refine zaX (g':=D.int) (by ac_nf0) (by have:=s.olen o ho;omega) fun x hx=> ?_
    rw [show zao [none,some 2] [some (.tup (o.1.map D.int)),some (.int o.2),some (.int g)]=[none,some (.int g)] from rfl]
    simp only [za9,zcS,zcF]
    ac_nf0
    rw [zsN]
    ac_nf0
    split<;>rfl
   rw [e2]
   ac_nf0
 have e3: ∀ {os1:List (List Int×Int)},os1.length<=12->zaw (iSq (zaf 2)) (zaC 0) zcT zcJ [none] [some (zbb m os),some (.int g),some (.lst (os1.map zb4))]=pure (.lst ((os1.filter fun o=> !o.1.isEmpty).map zb4)):=fun {os1} h1=>by
  rw [<- zbu]
  refine zaX (g':=zb4) (by ac_nf0) ⋯ fun o ho=> ?_
  rw [show zao [none] [some (zbb m os),some (.int g),some (.lst (os1.map zb4))]=[none] from rfl]
  simp only [za9,zcT,zcJ]
  ac_nf0
  have e5:=znu o.1
  unfold tI at e5
  rw [e5]
  ac_nf0
  split<;>rfl
 ac_nf0
 rw [e1]
 ac_nf0
 rw [e3 (by rw [qaH];exact hl),zny]
 ac_nf0
 rfl
theorem zfT {g:Int} {o:List Int×Int} (h:o∈shL g os): ∃ o'∈os,o=(o'.1.filter fun x=> !(x==g),o'.2)/\o.1≠[]:=by
 obtain ⟨h1,h2⟩:=List.mem_filter.mp h
 obtain ⟨o',h3,rfl⟩:=qaU.mp h1
 exact ⟨o',h3,rfl,by intro e;rw [e] at h2;simp at h2⟩
theorem zqO {xs:List Int} {g:Int} (hne:xs≠[]) (h:xs.Pairwise (· < ·)) (hs:zje xs=true) (hg:g=0/\(∀ x∈xs,0<=x)\/ ∀ x∈xs,x<=g) (hz:xs.filter (fun x=> !(x==g))≠[]):zje (xs.filter fun x=> !(x==g))=true:=by
 have hu:(xs.filter fun x=> !(x==g)).Pairwise (· < ·):=h.sublist List.filter_sublist
 have hb:=btw hu
 have f1:=zdk hz
 have l1:=zdl hz
 have hle:=(hb _ l1).1
 rw [<- zgt hz hu,beq_iff_eq]
 refine zrn hu ?_ fun k=> ?_
 ·rw [List.pairwise_map]
  exact List.pairwise_lt_range.imp fun h=>by omega
 ·have hf:=List.mem_filter.mp f1
  have hl:=List.mem_filter.mp l1
  have nf:zb1 (xs.filter fun x=> !(x==g))≠g:=by simpa using hf.2
  have nl:zeN (xs.filter fun x=> !(x==g))≠g:=by simpa using hl.2
  constructor
  ·intro hk
   have:=hb k hk
   exact qaU.mpr ⟨(k - zb1 (xs.filter fun x=> !(x==g))).toNat,List.mem_range.mpr ⋯,⋯⟩
  ·intro hk
   obtain ⟨j,hj,rfl⟩:=qaU.mp hk
   have hj:=List.mem_range.mp hj
   have b1:=(zek hne h hs).mp hf.1
   have b2:=(zek hne h hs).mp hl.1
   have hx:zb1 (xs.filter fun x=> !(x==g))+(j:Int)∈xs:=(zek hne h hs).mpr ⟨⋯,⋯⟩
   refine List.mem_filter.mpr ⟨hx,?_⟩
   have: ¬zb1 (xs.filter fun x=> !(x==g))+(j:Int)=g:=fun z=>by
    rcases hg with ⟨rfl,hg⟩ | hg
    ·have:=hg _ hf.1
     omega
    ·have:=hg _ hl.1
     omega
   simpa using this
theorem zoW (s:Stk m os) {g:Int}:Stk m (shL g os):=by
 refine ⟨s.m0,s.m1,?_,fun o ho=> ?_,fun o ho=> ?_,fun o ho=> ?_,fun o ho=> ?_⟩
 ·have h1:=List.length_filter_le (fun o:List Int×Int=> !o.1.isEmpty) (os.map fun o=>(o.1.filter fun x=> !(x==g),o.2))
  rw [qaH] at h1
  exact qaS h1 s.len
 ·obtain ⟨o',h1,rfl,_⟩:=zfT ho
  exact (s.up o' h1).filter _
 ·obtain ⟨o',h1,rfl,_⟩:=zfT ho
  exact fun x hx=>s.bd o' h1 x (List.mem_filter.mp hx).1
 ·exact (zfT ho).choose_spec.2.2
 ·obtain ⟨o',h1,rfl,_⟩:=zfT ho
  exact s.pos o' h1
theorem zsr (ho: ∀ o∈os,zej m o) {g:Int} (hg:g=0\/g=m - 1):zkt (shL g os)=true:=List.all_eq_true.mpr fun o h=>by
 obtain ⟨o',h1,rfl,h2⟩:=zfT h
 obtain ⟨o1,o2,o3,o4,o5⟩:=ho o' h1
 refine zqO o3 o1 o5 ?_ h2
 rcases hg with rfl | rfl
 ·exact .inl ⟨rfl,fun x hx=>(o2 x hx).1⟩
 ·exact .inr fun x hx=>by have:=o2 x hx;omega
theorem zsC (s:Stk m os) {g:Int} (g0:0<=g) (g1:g<m):zf7 m (shL g os)=false:=by
 cases h:zf7 m (shL g os) with
 | false=>rfl
 | true=>
  obtain ⟨o,ho,hx⟩:=(zdJ (zoW s)).mp h g g0 g1
  obtain ⟨o',_,rfl,_⟩:=zfT ho
  have:=(List.mem_filter.mp hx).2
  simp at this
theorem zjE (s:Stk m os) (ho: ∀ o∈os,zej m o) (hf:zf7 m os=true) (n9:os.length<=10):Ev (F_41 [zbb m os]) (.bl true):=by
 have m0:=s.m0
 have m1:=s.m1
 have hc:=(zdJ s).mp hf
 have ea:=zoa s ho hf n9
 have el:=zn8 s hf
 have eq:=znT s ho hf
 have yl:((rgI m.toNat).map (yv os)).length=m.toNat:=by simp [rgI]
 have y0: ∀ y∈(rgI m.toNat).map (yv os),0<=y:=fun y hy=>by
  obtain ⟨t,ht,rfl⟩:=qaU.mp hy
  have hb:=zci t ht
  have:=zpF ho (n:=t.toNat) (by rw [Int.toNat_of_nonneg hb.1];exact hc t hb.1 ⋯)
  unfold yv
  omega
 have ys: ∀ o∈os,(o.1.map fun x=>((rgI m.toNat).map (yv os)).getD x.toNat 0).sum<=o.2:=fun o h=>by
  have e:(o.1.map fun x=>((rgI m.toNat).map (yv os)).getD x.toNat 0)=o.1.map (yv os):=List.map_congr_left fun x hx=>by
   have hb:=s.bd o h x hx
   have hl:x.toNat<m.toNat:=by omega
   simp [List.getD,rgI,hl,hb.1]
   rw [Int.max_eq_left hb.1]
  rw [e]
  exact zp8 ho h
 have yt:=zqg (os:=os) m.toNat
 rw [<- eq] at yt
 have eb:=zqc s yl y0 ys
 obtain ⟨hm,_⟩:=zjC s hf
 have hcl:(zgX m os).2.length<=1000:=by
  obtain ⟨ls,h3,e⟩:=qaU.mp hm
  obtain ⟨h6,h7⟩:=(zex os.length os.length ls (qaV _)).mp (List.mem_filter.mp h3).1
  have:=zfm (m:=os.length) ⋯ (h6.imp fun h=>by omega) fun x hx=>by have:=h7 x hx;omega
  rw [<- e]
  show ls.length<=1000
  omega
 unfold brD at ea
 unfold pD2 at el
 generalize (rgI m.toNat).map (yv os)=zs at*
 generalize (zgX m os).1=pc at*
 generalize (zgX m os).2=cv at*
 have es:=zop (d:= .tup (zs.map f1)) (ys:=zs) rfl
 rw [yt] at es
 have ew: ∀ {sd:Sd},(cOp dIx (zaf 1) (cK (.int 0)):FE) sd=pure (tI cv)->zaw (iSq (cOp dIx (zaf 1) (cK (.int 0)))) (zaC 0) (fun _=>pure true) zcL [none] sd=pure (.lst ((cv.map fun _=>true).map D.bl)):=fun {sd} hsd=>by
  rw [zaX (g':=D.int) (xs:=cv) (k:=fun _=>some (.bl true)) (by rw [zm9,hsd];rfl) hcl fun x hx=> ?_]
  ·congr 2
   rw [qaT]
   exact congrFun List.filterMap_eq_map' _
  ·rw [show zao [none] sd=[none] from rfl]
   simp only [za9,zcL]
   ac_nf0
   rw [zfi rfl]
   ac_nf0
   rfl
 have en: ∀ {sd:Sd},(cOp dIx (zaf 1) (cK (.int 1)):FE) sd=pure (.tup (zs.map f1))->zaw (iSq (cOp dIx (zaf 1) (cK (.int 1)))) (zaC 0) zcQ zdw [none] sd=pure (.lst []):=fun {sd} hsd=>by
  rw [zaX (g':=f1) (xs:=zs) (k:=fun _=>none) (by rw [zm9,hsd];rfl) ⋯ fun x hx=> ?_]
  ·congr 2
   simp
  ·rw [show zao [none] sd=[none] from rfl]
   simp only [za9,zcQ,f1]
   ac_nf0
   rw [zsN]
   ac_nf0
   rfl
 have e1:=zo2 cv cv
 have e2:=zo2 [pc,1] [pc,1]
 have e3:=zjc [] []
 have e4:=zpO cv zs
 rw [beq_self_eq_true] at e1 e2 e3
 simp only [tI,qaM,List.map_nil] at e1 e2 e3 e4
 refine .of_wp fun h=> ?_
 rw [d_41]
 simp only [G_41]
 ac_nf0
 refine ea.wp fun h1 g1=> ?_
 ac_nf0
 rw [el]
 ac_nf0
 rw [zjg rfl,show isT (.tup [.tup (cv.map D.int),.tup (zs.map f1)])=true from rfl]
 ac_nf0
 rw [zsN,show (((1+1:Nat):Int)==2)=true from rfl]
 ac_nf0
 rw [e1]
 ac_nf0
 rw [zjg rfl,show isT (.tup (cv.map D.int))=true from rfl]
 ac_nf0
 rw [ew rfl]
 ac_nf0
 rw [zgc,show (cv.map fun _=>true).all id=true by simp]
 ac_nf0
 rw [eb]
 ac_nf0
 rw [en rfl]
 ac_nf0
 rw [e3]
 ac_nf0
 rw [es]
 simp only [f1]
 ac_nf0
 rw [e2]
 ac_nf0
 refine ea.wp fun h2 g2=> ?_
 rw [show D.tup [tI cv,.tup (zs.map f1)]= .tup [.tup (cv.map D.int),.tup (zs.map f1)] from rfl]
 rw [e4]
 ac_nf0
 exact ⟨trivial,g1.trans g2⟩
theorem zoY {x y:Str} {b:Bool} (hx:PyData.strOk x=true) (hy:PyData.strOk y=true) (e:(x==y)=b):dNe (.str x) (.str y)=pure (.bl (!b)):=by
 rw [zpc (a:= .str x) (b:= .str y) rfl rfl (by unfold zfY;simp [PyData.canLay0,hx,hy,PyData.depth])]
 simp [PyData.eqv,e]
theorem zi0 {ns:List Int}: ∀ (ds:List D) {h:Hh} {x1 x2 x3 x4 x5 x6:Option D},(∀ d∈ds, ∃ i:Int,d= .int i/\0<=i/\i<5)->
  wp (za4 (fun x sd=>do let sd1<-zaC 1 x sd;zfa sd1) ds [some (.scr (ns.map D.int)),x1,x2,x3,x4,x5,x6]) h fun o _=> ∃ sd,o= .nx sd
 | [],h,x1,x2,x3,x4,x5,x6,_=>by rw [zc3,zak];exact ⟨_,rfl⟩
 | d::r,h,x1,x2,x3,x4,x5,x6,hd=>by
  obtain ⟨i,rfl,i0,i1⟩:=hd _ qau
  have ih: ∀ {h:Hh} {x1 x2 x3 x4 x5 x6:Option D},wp (za4 (fun x sd=>do let sd1<-zaC 1 x sd;zfa sd1) r [some (.scr (ns.map D.int)),x1,x2,x3,x4,x5,x6]) h fun o _=> ∃ sd,o= .nx sd:=zi0 r fun y hy=>hd y (qan _ hy)
  rw [zcc]
  generalize za4 (fun x sd=>do let sd1<-zaC 1 x sd;zfa sd1) r=rest at ih ⊢
  simp only [zfa]
  ac_nf0
  refine zr2 i0 i1 fun z=> ?_
  have qb:Bx h.length (h++[.lst [.int z]]):=⟨z,by simp⟩
  generalize h.length=b at qb ⊢
  generalize h++[.lst [.int z]]=h1 at qb ⊢
  ac_nf0
  refine zm3 qb fun m os h2 s ol ho hw q2=> ?_
  have m0:=s.m0
  have m1:=s.m1
  have hf:=znv s hw
  ac_nf0
  refine (zjE s ho hf ol).wp fun h3 g3=> ?_
  have q3:=(g3.ext q2).1
  ac_nf0
  rw [zny]
  ac_nf0
  refine zaT q3 (by decide) (by decide) fun t h4 t0 t1 x4=> ?_
  obtain ⟨g,eg,hg⟩: ∃ g:Int,atI [D.int 0,.int (m - 1)] t=some (.int g)/\(g=0\/g=m - 1):=by
   have:t=0\/t=1:=by omega
   rcases this with rfl | rfl
   ·exact ⟨0,rfl,.inl rfl⟩
   ·exact ⟨m - 1,rfl,.inr rfl⟩
  ac_nf0
  rw [eg]
  ac_nf0
  rw [zmX s]
  ac_nf0
  refine (zlu (zoW s) (zsr ho hg) (zsC s ⋯ ⋯)).wp fun h5 g5=> ?_
  have q5:=(g5.ext x4.1).1
  rw [zoY (b:=true) ⋯ ⋯ ⋯]
  ac_nf0
  refine zpQ (by decide) (by decide) q5 fun m ods h6 q6 m0 m1 l0 l1 ho2 hc2=> ?_
  obtain ⟨os2,rfl,s2,_⟩:=zpf m0 m1 ⋯ ho2
  have hf2:=zro s2 hc2
  have ol2:os2.length<=10:=by rw [qaH] at l1;omega
  rw [show D.tup [.int m,.tup (os2.map zb4)]=zbb m os2 from rfl]
  ac_nf0
  rw [zlH s2]
  ac_nf0
  cases hr:zkt os2 with
  | true=>
   ac_nf0
   refine (zjE s2 (fun o h=>⟨s2.up o h,s2.bd o h,s2.ne o h,s2.pos o h,List.all_eq_true.mp hr o h⟩) hf2 ol2).wp fun h7 g7=> ?_
   ac_nf0
   exact ih
  | false=>
   ac_nf0
   rw [zny,zll]
   ac_nf0
   rw [zfQ ⋯ ⋯]
   ac_nf0
   rw [zaB (show os2.length+1<=1000 by omega)]
   ac_nf0
   have hw:zej m (rgI m.toNat,3):=by
    have:=ziW (m:=m) (i:=0) (j:=m) (p:=3) ⋯ ⋯ ⋯ ⋯
    have er:rgA 0 m=rgI m.toNat:=by
     unfold rgA rgI
     rw [Int.sub_zero]
     exact List.map_congr_left fun k _=>by omega
    rw [er] at this
    exact this
   have s3:Stk m (os2++[(rgI m.toNat,3)]):=by
    refine ⟨s2.m0,s2.m1,by rw [qav,List.length_singleton];omega,?_,?_,?_,?_⟩
    all_goals
     intro o hx
     rcases qaK.mp hx with z | z
     ·first | exact s2.up o z | exact s2.bd o z | exact s2.ne o z | exact s2.pos o z
     ·rw [List.mem_singleton.mp z]
      first | exact hw.1 | exact hw.2.1 | exact hw.2.2.1 | exact hw.2.2.2.1
   have hr3:zkt (os2++[(rgI m.toNat,3)])=false:=by
    unfold zkt at hr ⊢
    rw [List.all_append,hr,Bool.false_and]
   have e5:D.tup [.int m,.tup (os2.map zb4++[D.tup [.tup (((List.range m.toNat).map fun (k:Nat)=>(k:Int)).map D.int),.int 3]])]=zbb m (os2++[(rgI m.toNat,3)]):=by
    unfold zbb
    rw [List.map_append]
    rfl
   rw [e5,zhg s2 hr,zhg s3 hr3]
   ac_nf0
   rw [zoY (b:=true) ⋯ ⋯ ⋯]
   ac_nf0
   exact ih
theorem zmZ: ∀ ns:List Int,ns.length<=63-> ∃ h',F_43 [.scr (ns.map D.int)] []= .ok (.bl true) h':=by
 intro ns _
 have key:wp (F_43 [.scr (ns.map D.int)]) [] fun d _=>d= .bl true:=by
  rw [d_43]
  simp only [G_43]
  ac_nf0
  simp only [zoo]
  ac_nf0
  simp only [zsU]
  ac_nf0
  generalize hn:(if (if (3:Int)<(ns.length:Int) then (3:Int) else (ns.length:Int))>1 then (if (3:Int)<(ns.length:Int) then (3:Int) else (ns.length:Int)) else (1:Int))=n
  have n0:0<=n/\n<=5:=by
   rw [<- hn]
   split<;>split<;>omega
  rw [zbZ n0.1 ⋯]
  ac_nf0
  refine ziC (zi0 _ fun d hd=> ?_) ?_
  ·obtain ⟨i,e,i0,i1⟩:=zgz hd
   exact ⟨i,e,i0,⋯⟩
  ·rintro o h' ⟨sd,rfl⟩
   ac_nf0
 obtain ⟨d,h',e,rfl⟩:=key
 exact ⟨h',e⟩
end K72
namespace K72
open L2 L3
theorem zrL {l:W.OpenLaw} {w:World} {K:W.Frag} {h:Heap} {mg:Str->Option Value} {fa a_0 a_1 a_2 a_3 a_4 a_5 a_6 a_7 a_8 a_9 a_10 a_11 a_24 a_25 a_26 a_38 a_28 a_22 a_20 a_14 a_15 a_12 a_13 a_23 a_18 a_17 a_16 a_19 a_21 a_39 a_32 a_31 a_33 a_27 a_34 a_35 a_36 a_37 a_41 a_42 a_29 a_30 a_40 a_43:Addr} (X:K.In h) (G:h.Ns mainGlobals mg) (hfa:mg "law"=some (.ref fa))
  {od_43 an_43:Option Addr} {sl_43:Array (Option Value)} {oc_43 kV_43 dc_43 pm_43 cd_43 ct_43:Value}
  {d_24 d_25 d_26 d_38 d_28 d_22 d_20 d_14 d_15 d_12 d_13 d_23 d_18 d_17 d_16 d_19 d_21 d_39 d_32 d_31 d_33 d_27 d_34 d_35 d_36 d_37 d_41 d_42 d_29 d_30 d_40:FuncData}
  (f_24:Fd K "_law_cell" s_24 a_24 d_24)
  (f_25:Fd K "_law_box" s_25 a_25 d_25)
  (f_26:Fd K "_law_take" s_26 a_26 d_26)
  (f_38:Fd K "_law_rowed" s_38 a_38 d_38)
  (f_28:Fd K "_law_kind" s_28 a_28 d_28)
  (f_22:Fd K "is_stretch" s_22 a_22 d_22)
  (f_20:Fd K "in_row" s_20 a_20 d_20)
  (f_14:Fd K "things_together" s_14 a_14 d_14)
  (f_15:Fd K "have_all" s_15 a_15 d_15)
  (f_12:Fd K "is_full" s_12 a_12 d_12)
  (f_13:Fd K "need_full" s_13 a_13 d_13)
  (f_23:Fd K "least_from_left" s_23 a_23 d_23)
  (f_18:Fd K "bits_of" s_18 a_18 d_18)
  (f_17:Fd K "known_lots" s_17 a_17 d_17)
  (f_16:Fd K "priced_covers" s_16 a_16 d_16)
  (f_19:Fd K "cheapest_cover" s_19 a_19 d_19)
  (f_21:Fd K "row_cover" s_21 a_21 d_21)
  (f_39:Fd K "_law_asked" s_39 a_39 d_39)
  (f_32:Fd K "_law_covers" s_32 a_32 d_32)
  (f_31:Fd K "_law_price" s_31 a_31 d_31)
  (f_33:Fd K "_law_least" s_33 a_33 d_33)
  (f_27:Fd K "_law_whole" s_27 a_27 d_27)
  (f_34:Fd K "_law_frac" s_34 a_34 d_34)
  (f_35:Fd K "_law_is_frac" s_35 a_35 d_35)
  (f_36:Fd K "_law_sum" s_36 a_36 d_36)
  (f_37:Fd K "_law_is_bearing" s_37 a_37 d_37)
  (f_41:Fd K "_law_right" s_41 a_41 d_41)
  (f_42:Fd K "_law_short" s_42 a_42 d_42)
  (f_29:Fd K "_law_things" s_29 a_29 d_29)
  (f_30:Fd K "_law_full" s_30 a_30 d_30)
  (f_40:Fd K "_law_in_row" s_40 a_40 d_40)
  (e_43:W.nsIn K mainGlobals "law"=some (some (.ref a_43))) (l_43:K.lookup a_43=some ⟨oc_43,od_43,.func (W.fnOf "law" "law" (zeu s_43) (zcP s_43) (zae s_43) .none kV_43 dc_43 pm_43 an_43 cd_43 ct_43),sl_43⟩) (c_43:W.codeIn K cd_43 "law"=true) (k_43:W.keepIn K (.ref a_43)=true)
  (e_0:W.nsIn K mainGlobals "CoverError"=some (some (.ref a_0)))
  (e_1:W.nsIn K mainGlobals "NoStock"=some (some (.ref a_1)))
  (e_2:W.nsIn K mainGlobals "NoOffer"=some (some (.ref a_2)))
  (e_3:W.nsIn K mainGlobals "NoThing"=some (some (.ref a_3)))
  (e_4:W.nsIn K mainGlobals "NoCover"=some (some (.ref a_4)))
  (e_5:W.nsIn K mainGlobals "NoPaper"=some (some (.ref a_5)))
  (e_6:W.nsIn K mainGlobals "NoNumber"=some (some (.ref a_6)))
  (e_7:W.nsIn K mainGlobals "NotFull"=some (some (.ref a_7)))
  (e_8:W.nsIn K mainGlobals "NotInRow"=some (some (.ref a_8)))
  (e_9:W.nsIn K mainGlobals "NoText"=some (some (.ref a_9)))
  (e_10:W.nsIn K mainGlobals "NoRow"=some (some (.ref a_10)))
  (e_11:W.nsIn K mainGlobals "TooMany"=some (some (.ref a_11)))
  (z_ValueError:W.nsIn K mainGlobals "ValueError"=some none)
  (z_abs:W.nsIn K mainGlobals "abs"=some none)
  (z_all:W.nsIn K mainGlobals "all"=some none)
  (z_bool:W.nsIn K mainGlobals "bool"=some none)
  (z_int:W.nsIn K mainGlobals "int"=some none)
  (z_isinstance:W.nsIn K mainGlobals "isinstance"=some none)
  (z_len:W.nsIn K mainGlobals "len"=some none)
  (z_list:W.nsIn K mainGlobals "list"=some none)
  (z_max:W.nsIn K mainGlobals "max"=some none)
  (z_min:W.nsIn K mainGlobals "min"=some none)
  (z_range:W.nsIn K mainGlobals "range"=some none)
  (z_set:W.nsIn K mainGlobals "set"=some none)
  (z_sorted:W.nsIn K mainGlobals "sorted"=some none)
  (z_sum:W.nsIn K mainGlobals "sum"=some none)
  (z_tuple:W.nsIn K mainGlobals "tuple"=some none)
  (x_tab:zms K a_0 [("NoStock",a_1),("NoOffer",a_2),("NoThing",a_3),("NoCover",a_4),("NoPaper",a_5),("NoNumber",a_6),("NotFull",a_7),("NotInRow",a_8),("NoText",a_9),("NoRow",a_10),("TooMany",a_11)]=true)
  : ∃ fd:FuncData,(∀ (s:Shared) (v:Value),BindsTo s fd ⟨[v],[]⟩ [("script",v)])/\ ∀ base:Heap,K.In base->base.Ns mainGlobals mg->zb8 l.prog w K mg base CX0 9 fa fd ["script"] (zcu K 1 F_43):=by
 have e:=hfa.symm.trans (W.mg_of X G e_43)
 cases e
 have F_43:=zaK (st:=s_43) l_43 c_43 k_43
 have b_43:=F_43.binds (ps:=["script"]) fun _ _ _ _ _ _ us hl=>match us,hl with | [_],_=>rfl
 have T:Tx K mg ⟨a_0,a_1,a_2,a_3,a_4,a_5,a_6,a_7,a_8,a_9,a_10,a_11,a_24,_,a_25,_,a_26,_,a_38,_,a_28,_,a_22,_,a_20,_,a_14,_,a_15,_,a_12,_,a_13,_,a_23,_,a_18,_,a_17,_,a_16,_,a_19,_,a_21,_,a_39,_,a_32,_,a_31,_,a_33,_,a_27,_,a_34,_,a_35,_,a_36,_,a_37,_,a_41,_,a_42,_,a_29,_,a_30,_,a_40,_,fa,_⟩:=
  {g_0:=W.mg_of X G e_0,
    g_1:=W.mg_of X G e_1,
    g_2:=W.mg_of X G e_2,
    g_3:=W.mg_of X G e_3,
    g_4:=W.mg_of X G e_4,
    g_5:=W.mg_of X G e_5,
    g_6:=W.mg_of X G e_6,
    g_7:=W.mg_of X G e_7,
    g_8:=W.mg_of X G e_8,
    g_9:=W.mg_of X G e_9,
    g_10:=W.mg_of X G e_10,
    g_11:=W.mg_of X G e_11,
    k_1:=e_1,
    k_2:=e_2,
    k_3:=e_3,
    k_4:=e_4,
    k_5:=e_5,
    k_6:=e_6,
    k_7:=e_7,
    k_8:=e_8,
    k_9:=e_9,
    k_10:=e_10,
    k_11:=e_11,
    x_exc:=zmR.of x_tab,
    n_ValueError:=W.mg_none_of X G z_ValueError,
    n_abs:=W.mg_none_of X G z_abs,
    n_all:=W.mg_none_of X G z_all,
    n_bool:=W.mg_none_of X G z_bool,
    n_int:=W.mg_none_of X G z_int,
    n_isinstance:=W.mg_none_of X G z_isinstance,
    n_len:=W.mg_none_of X G z_len,
    n_list:=W.mg_none_of X G z_list,
    n_max:=W.mg_none_of X G z_max,
    n_min:=W.mg_none_of X G z_min,
    n_range:=W.mg_none_of X G z_range,
    n_set:=W.mg_none_of X G z_set,
    n_sorted:=W.mg_none_of X G z_sorted,
    n_sum:=W.mg_none_of X G z_sum,
    n_tuple:=W.mg_none_of X G z_tuple,
    m_24:=W.mg_of X G f_24.e,
    F_24:=f_24.F,
    b_24:=f_24.F.binds (ps:=["script","k"]) fun _ _ _ _ _ _ us hl=>match us,hl with | [_,_],_=>rfl,
    m_25:=W.mg_of X G f_25.e,
    F_25:=f_25.F,
    b_25:=f_25.F.binds (ps:=["script","k"]) fun _ _ _ _ _ _ us hl=>match us,hl with | [_,_],_=>rfl,
    m_26:=W.mg_of X G f_26.e,
    F_26:=f_26.F,
    b_26:=f_26.F.binds (ps:=["box","many"]) fun _ _ _ _ _ _ us hl=>match us,hl with | [_,_],_=>rfl,
    m_38:=W.mg_of X G f_38.e,
    F_38:=f_38.F,
    b_38:=f_38.F.binds (ps:=["box","most","lots"]) fun _ _ _ _ _ _ us hl=>match us,hl with | [_,_,_],_=>rfl,
    m_28:=W.mg_of X G f_28.e,
    F_28:=f_28.F,
    b_28:=f_28.F.binds (ps:=["e"]) fun _ _ _ _ _ _ us hl=>match us,hl with | [_],_=>rfl,
    m_22:=W.mg_of X G f_22.e,
    F_22:=f_22.F,
    b_22:=f_22.F.binds (ps:=["things"]) fun _ _ _ _ _ _ us hl=>match us,hl with | [_],_=>rfl,
    m_20:=W.mg_of X G f_20.e,
    F_20:=f_20.F,
    b_20:=f_20.F.binds (ps:=["stock"]) fun _ _ _ _ _ _ us hl=>match us,hl with | [_],_=>rfl,
    m_14:=W.mg_of X G f_14.e,
    F_14:=f_14.F,
    b_14:=f_14.F.binds (ps:=["offers"]) fun _ _ _ _ _ _ us hl=>match us,hl with | [_],_=>rfl,
    m_15:=W.mg_of X G f_15.e,
    F_15:=f_15.F,
    b_15:=f_15.F.binds (ps:=["stock","offers"]) fun _ _ _ _ _ _ us hl=>match us,hl with | [_,_],_=>rfl,
    m_12:=W.mg_of X G f_12.e,
    F_12:=f_12.F,
    b_12:=f_12.F.binds (ps:=["stock"]) fun _ _ _ _ _ _ us hl=>match us,hl with | [_],_=>rfl,
    m_13:=W.mg_of X G f_13.e,
    F_13:=f_13.F,
    b_13:=f_13.F.binds (ps:=["stock"]) fun _ _ _ _ _ _ us hl=>match us,hl with | [_],_=>rfl,
    m_23:=W.mg_of X G f_23.e,
    F_23:=f_23.F,
    b_23:=f_23.F.binds (ps:=["stock"]) fun _ _ _ _ _ _ us hl=>match us,hl with | [_],_=>rfl,
    m_18:=W.mg_of X G f_18.e,
    F_18:=f_18.F,
    b_18:=f_18.F.binds (ps:=["many","things"]) fun _ _ _ _ _ _ us hl=>match us,hl with | [_,_],_=>rfl,
    m_17:=W.mg_of X G f_17.e,
    F_17:=f_17.F,
    b_17:=f_17.F.binds (ps:=["stock"]) fun _ _ _ _ _ _ us hl=>match us,hl with | [_],_=>rfl,
    m_16:=W.mg_of X G f_16.e,
    F_16:=f_16.F,
    b_16:=f_16.F.binds (ps:=["stock"]) fun _ _ _ _ _ _ us hl=>match us,hl with | [_],_=>rfl,
    m_19:=W.mg_of X G f_19.e,
    F_19:=f_19.F,
    b_19:=f_19.F.binds (ps:=["stock"]) fun _ _ _ _ _ _ us hl=>match us,hl with | [_],_=>rfl,
    m_21:=W.mg_of X G f_21.e,
    F_21:=f_21.F,
    b_21:=f_21.F.binds (ps:=["stock"]) fun _ _ _ _ _ _ us hl=>match us,hl with | [_],_=>rfl,
    m_39:=W.mg_of X G f_39.e,
    F_39:=f_39.F,
    b_39:=f_39.F.binds (ps:=["stock"]) fun _ _ _ _ _ _ us hl=>match us,hl with | [_],_=>rfl,
    m_32:=W.mg_of X G f_32.e,
    F_32:=f_32.F,
    b_32:=f_32.F.binds (ps:=["stock"]) fun _ _ _ _ _ _ us hl=>match us,hl with | [_],_=>rfl,
    m_31:=W.mg_of X G f_31.e,
    F_31:=f_31.F,
    b_31:=f_31.F.binds (ps:=["stock","lot"]) fun _ _ _ _ _ _ us hl=>match us,hl with | [_,_],_=>rfl,
    m_33:=W.mg_of X G f_33.e,
    F_33:=f_33.F,
    b_33:=f_33.F.binds (ps:=["stock"]) fun _ _ _ _ _ _ us hl=>match us,hl with | [_],_=>rfl,
    m_27:=W.mg_of X G f_27.e,
    F_27:=f_27.F,
    b_27:=f_27.F.binds (ps:=["thing"]) fun _ _ _ _ _ _ us hl=>match us,hl with | [_],_=>rfl,
    m_34:=W.mg_of X G f_34.e,
    F_34:=f_34.F,
    b_34:=f_34.F.binds (ps:=["top","bottom"]) fun _ _ _ _ _ _ us hl=>match us,hl with | [_,_],_=>rfl,
    m_35:=W.mg_of X G f_35.e,
    F_35:=f_35.F,
    b_35:=f_35.F.binds (ps:=["thing"]) fun _ _ _ _ _ _ us hl=>match us,hl with | [_],_=>rfl,
    m_36:=W.mg_of X G f_36.e,
    F_36:=f_36.F,
    b_36:=f_36.F.binds (ps:=["some"]) fun _ _ _ _ _ _ us hl=>match us,hl with | [_],_=>rfl,
    m_37:=W.mg_of X G f_37.e,
    F_37:=f_37.F,
    b_37:=f_37.F.binds (ps:=["stock","thing"]) fun _ _ _ _ _ _ us hl=>match us,hl with | [_,_],_=>rfl,
    m_41:=W.mg_of X G f_41.e,
    F_41:=f_41.F,
    b_41:=f_41.F.binds (ps:=["stock"]) fun _ _ _ _ _ _ us hl=>match us,hl with | [_],_=>rfl,
    m_42:=W.mg_of X G f_42.e,
    F_42:=f_42.F,
    b_42:=f_42.F.binds (ps:=["stock","gone"]) fun _ _ _ _ _ _ us hl=>match us,hl with | [_,_],_=>rfl,
    m_29:=W.mg_of X G f_29.e,
    F_29:=f_29.F,
    b_29:=f_29.F.binds (ps:=["box","many"]) fun _ _ _ _ _ _ us hl=>match us,hl with | [_,_],_=>rfl,
    m_30:=W.mg_of X G f_30.e,
    F_30:=f_30.F,
    b_30:=f_30.F.binds (ps:=["box","most","lots"]) fun _ _ _ _ _ _ us hl=>match us,hl with | [_,_,_],_=>rfl,
    m_40:=W.mg_of X G f_40.e,
    F_40:=f_40.F,
    b_40:=f_40.F.binds (ps:=["stock"]) fun _ _ _ _ _ _ us hl=>match us,hl with | [_],_=>rfl,
    m_43:=W.mg_of X G e_43,
    F_43:=F_43,
    b_43:=b_43}
 exact ⟨W.fnOf "law" "law" (zeu s_43) (zcP s_43) (zae s_43) .none kV_43 dc_43 pm_43 an_43 cd_43 ct_43,fun s v=> .of_eq rfl,fun base _ _=>ok_43 T⟩
theorem zvu {l:W.OpenLaw} {q:Program} {loose:List Str} {XP:(Str->Option Value)->Heap->Prop} {YP:World->Heap->Prop} {d:DefRec} {K:Params->W.Frag} (hn:l.most=some 63) (hdf:d.params.defaults=[])
  (hY: ∀ (w:World) (h:Heap),YP w h->(K w.params).In h)
  (F: ∀ (w:World) (mg:Str->Option Value) (fa:Addr) (h:Heap),(K w.params).In h->h.Ns mainGlobals mg->mg d.name=some (.ref fa)->
    ∃ fd:FuncData,(∀ (s:Shared) (u:Value),BindsTo s fd ⟨[u],[]⟩ [("script",u)])/\ ∀ base:Heap,(K w.params).In base->base.Ns mainGlobals mg->zb8 l.prog w (K w.params) mg base CX0 9 fa fd ["script"] (zcu (K w.params) 1 F_43))
  (hm: ∀ ns:List Int,ns.length<=63-> ∃ h',F_43 [.scr (ns.map D.int)] []= .ok (.bl true) h'):
  W.WalkO q loose XP YP l.row.toRowW d [] (fun f vs=>PySem.call f vs):=
 L2.zqY (n:=63) (k:=9) (x:="script") (CX:=fun _=>CX0) (sp:=fun w=>zcu (K w.params) 1 F_43) hn (by decide) hdf ⟨rfl,by decide,by decide⟩ hY F (fun w H a ns hl _ hS=>ztJ hS (hm ns hl)) fun _ _ _ _ _ z=>z
end K72
open PySem.W
set_option maxRecDepth 100000 in
set_option maxHeartbeats 0 in
theorem PySem.Challenge.cw_cheapcovers_k72_covers_of_rows_holds : PySem.Challenge.rw_cheapcovers_k72_covers_of_rows.Holds := by
 w_on; o_law; k_head; (case hw => w_witness2)
 k_fill
 refine K72.zvu (l := PySem.Challenge.rw_cheapcovers_k72_covers_of_rows) rfl rfl (fun w h Y => W.kIn_of Y) ?F K72.zmZ
 case F =>
  intro w mg fa h KX G hmg
  refine' K72.zrL KX G hmg (L3.Fd.mk ?e__law_cell (L2.zaK ?l__law_cell ?c__law_cell ?k__law_cell)) (L3.Fd.mk ?e__law_box (L2.zaK ?l__law_box ?c__law_box ?k__law_box)) (L3.Fd.mk ?e__law_take (L2.zaK ?l__law_take ?c__law_take ?k__law_take)) (L3.Fd.mk ?e__law_rowed (L2.zaK ?l__law_rowed ?c__law_rowed ?k__law_rowed)) (L3.Fd.mk ?e__law_kind (L2.zaK ?l__law_kind ?c__law_kind ?k__law_kind)) (L3.Fd.mk ?e_is_stretch (L2.zaK ?l_is_stretch ?c_is_stretch ?k_is_stretch)) (L3.Fd.mk ?e_in_row (L2.zaK ?l_in_row ?c_in_row ?k_in_row)) (L3.Fd.mk ?e_things_together (L2.zaK ?l_things_together ?c_things_together ?k_things_together)) (L3.Fd.mk ?e_have_all (L2.zaK ?l_have_all ?c_have_all ?k_have_all)) (L3.Fd.mk ?e_is_full (L2.zaK ?l_is_full ?c_is_full ?k_is_full)) (L3.Fd.mk ?e_need_full (L2.zaK ?l_need_full ?c_need_full ?k_need_full)) (L3.Fd.mk ?e_least_from_left (L2.zaK ?l_least_from_left ?c_least_from_left ?k_least_from_left)) (L3.Fd.mk ?e_bits_of (L2.zaK ?l_bits_of ?c_bits_of ?k_bits_of)) (L3.Fd.mk ?e_known_lots (L2.zaK ?l_known_lots ?c_known_lots ?k_known_lots)) (L3.Fd.mk ?e_priced_covers (L2.zaK ?l_priced_covers ?c_priced_covers ?k_priced_covers)) (L3.Fd.mk ?e_cheapest_cover (L2.zaK ?l_cheapest_cover ?c_cheapest_cover ?k_cheapest_cover)) (L3.Fd.mk ?e_row_cover (L2.zaK ?l_row_cover ?c_row_cover ?k_row_cover)) (L3.Fd.mk ?e__law_asked (L2.zaK ?l__law_asked ?c__law_asked ?k__law_asked)) (L3.Fd.mk ?e__law_covers (L2.zaK ?l__law_covers ?c__law_covers ?k__law_covers)) (L3.Fd.mk ?e__law_price (L2.zaK ?l__law_price ?c__law_price ?k__law_price)) (L3.Fd.mk ?e__law_least (L2.zaK ?l__law_least ?c__law_least ?k__law_least)) (L3.Fd.mk ?e__law_whole (L2.zaK ?l__law_whole ?c__law_whole ?k__law_whole)) (L3.Fd.mk ?e__law_frac (L2.zaK ?l__law_frac ?c__law_frac ?k__law_frac)) (L3.Fd.mk ?e__law_is_frac (L2.zaK ?l__law_is_frac ?c__law_is_frac ?k__law_is_frac)) (L3.Fd.mk ?e__law_sum (L2.zaK ?l__law_sum ?c__law_sum ?k__law_sum)) (L3.Fd.mk ?e__law_is_bearing (L2.zaK ?l__law_is_bearing ?c__law_is_bearing ?k__law_is_bearing)) (L3.Fd.mk ?e__law_right (L2.zaK ?l__law_right ?c__law_right ?k__law_right)) (L3.Fd.mk ?e__law_short (L2.zaK ?l__law_short ?c__law_short ?k__law_short)) (L3.Fd.mk ?e__law_things (L2.zaK ?l__law_things ?c__law_things ?k__law_things)) (L3.Fd.mk ?e__law_full (L2.zaK ?l__law_full ?c__law_full ?k__law_full)) (L3.Fd.mk ?e__law_in_row (L2.zaK ?l__law_in_row ?c__law_in_row ?k__law_in_row)) ?e_law ?l_law ?c_law ?k_law ?e_CoverError ?e_NoStock ?e_NoOffer ?e_NoThing ?e_NoCover ?e_NoPaper ?e_NoNumber ?e_NotFull ?e_NotInRow ?e_NoText ?e_NoRow ?e_TooMany ?z_ValueError ?z_abs ?z_all ?z_bool ?z_int ?z_isinstance ?z_len ?z_list ?z_max ?z_min ?z_range ?z_set ?z_sorted ?z_sum ?z_tuple ?x_tab
  (case e__law_cell => k_is)
  (case l__law_cell => k_is)
  (case c__law_cell => k_is)
  (case k__law_cell => k_is)
  (case e__law_box => k_is)
  (case l__law_box => k_is)
  (case c__law_box => k_is)
  (case k__law_box => k_is)
  (case e__law_take => k_is)
  (case l__law_take => k_is)
  (case c__law_take => k_is)
  (case k__law_take => k_is)
  (case e__law_rowed => k_is)
  (case l__law_rowed => k_is)
  (case c__law_rowed => k_is)
  (case k__law_rowed => k_is)
  (case e__law_kind => k_is)
  (case l__law_kind => k_is)
  (case c__law_kind => k_is)
  (case k__law_kind => k_is)
  (case e_is_stretch => k_is)
  (case l_is_stretch => k_is)
  (case c_is_stretch => k_is)
  (case k_is_stretch => k_is)
  (case e_in_row => k_is)
  (case l_in_row => k_is)
  (case c_in_row => k_is)
  (case k_in_row => k_is)
  (case e_things_together => k_is)
  (case l_things_together => k_is)
  (case c_things_together => k_is)
  (case k_things_together => k_is)
  (case e_have_all => k_is)
  (case l_have_all => k_is)
  (case c_have_all => k_is)
  (case k_have_all => k_is)
  (case e_is_full => k_is)
  (case l_is_full => k_is)
  (case c_is_full => k_is)
  (case k_is_full => k_is)
  (case e_need_full => k_is)
  (case l_need_full => k_is)
  (case c_need_full => k_is)
  (case k_need_full => k_is)
  (case e_least_from_left => k_is)
  (case l_least_from_left => k_is)
  (case c_least_from_left => k_is)
  (case k_least_from_left => k_is)
  (case e_bits_of => k_is)
  (case l_bits_of => k_is)
  (case c_bits_of => k_is)
  (case k_bits_of => k_is)
  (case e_known_lots => k_is)
  (case l_known_lots => k_is)
  (case c_known_lots => k_is)
  (case k_known_lots => k_is)
  (case e_priced_covers => k_is)
  (case l_priced_covers => k_is)
  (case c_priced_covers => k_is)
  (case k_priced_covers => k_is)
  (case e_cheapest_cover => k_is)
  (case l_cheapest_cover => k_is)
  (case c_cheapest_cover => k_is)
  (case k_cheapest_cover => k_is)
  (case e_row_cover => k_is)
  (case l_row_cover => k_is)
  (case c_row_cover => k_is)
  (case k_row_cover => k_is)
  (case e__law_asked => k_is)
  (case l__law_asked => k_is)
  (case c__law_asked => k_is)
  (case k__law_asked => k_is)
  (case e__law_covers => k_is)
  (case l__law_covers => k_is)
  (case c__law_covers => k_is)
  (case k__law_covers => k_is)
  (case e__law_price => k_is)
  (case l__law_price => k_is)
  (case c__law_price => k_is)
  (case k__law_price => k_is)
  (case e__law_least => k_is)
  (case l__law_least => k_is)
  (case c__law_least => k_is)
  (case k__law_least => k_is)
  (case e__law_whole => k_is)
  (case l__law_whole => k_is)
  (case c__law_whole => k_is)
  (case k__law_whole => k_is)
  (case e__law_frac => k_is)
  (case l__law_frac => k_is)
  (case c__law_frac => k_is)
  (case k__law_frac => k_is)
  (case e__law_is_frac => k_is)
  (case l__law_is_frac => k_is)
  (case c__law_is_frac => k_is)
  (case k__law_is_frac => k_is)
  (case e__law_sum => k_is)
  (case l__law_sum => k_is)
  (case c__law_sum => k_is)
  (case k__law_sum => k_is)
  (case e__law_is_bearing => k_is)
  (case l__law_is_bearing => k_is)
  (case c__law_is_bearing => k_is)
  (case k__law_is_bearing => k_is)
  (case e__law_right => k_is)
  (case l__law_right => k_is)
  (case c__law_right => k_is)
  (case k__law_right => k_is)
  (case e__law_short => k_is)
  (case l__law_short => k_is)
  (case c__law_short => k_is)
  (case k__law_short => k_is)
  (case e__law_things => k_is)
  (case l__law_things => k_is)
  (case c__law_things => k_is)
  (case k__law_things => k_is)
  (case e__law_full => k_is)
  (case l__law_full => k_is)
  (case c__law_full => k_is)
  (case k__law_full => k_is)
  (case e__law_in_row => k_is)
  (case l__law_in_row => k_is)
  (case c__law_in_row => k_is)
  (case k__law_in_row => k_is)
  (case e_law => k_is)
  (case l_law => k_is)
  (case c_law => k_is)
  (case k_law => k_is)
  (case e_CoverError => k_is)
  (case e_NoStock => k_is)
  (case e_NoOffer => k_is)
  (case e_NoThing => k_is)
  (case e_NoCover => k_is)
  (case e_NoPaper => k_is)
  (case e_NoNumber => k_is)
  (case e_NotFull => k_is)
  (case e_NotInRow => k_is)
  (case e_NoText => k_is)
  (case e_NoRow => k_is)
  (case e_TooMany => k_is)
  (case z_ValueError => k_is)
  (case z_abs => k_is)
  (case z_all => k_is)
  (case z_bool => k_is)
  (case z_int => k_is)
  (case z_isinstance => k_is)
  (case z_len => k_is)
  (case z_list => k_is)
  (case z_max => k_is)
  (case z_min => k_is)
  (case z_range => k_is)
  (case z_set => k_is)
  (case z_sorted => k_is)
  (case z_sum => k_is)
  (case z_tuple => k_is)
  (case x_tab => kernel_rfl)
