import PyProof.Rows.All
import Wide.All
import OpenK.AllK
import Wide.FinOn
import PyProof.EqAt
import PyProof.EqKinds
import PyProof.TupleCall
import PyProof.StationsW
import PyProof.ExcArgs
import PyProof.Seq
import PyProof.TupleIter
import PyProof.RangeIter
import PyProof.WalkInts
import PyProof.SumWalkG
import PyProof.ListRange
import PyProof.Rows.Range3
import OpenK.KDescr
import PyProof.ExcAttrAll.ValueError
import PyProof.Draws
import PyProof.EnumFor
import PyProof.EnumMake
import PyProof.LayNew
import PyProof.Rows.EnumRows
import PyProof.MinMaxWalk
import Lean
import PySem.Challenge.RW_cheapcovers_k96_texts_of_stocks_and_lots
set_option Elab.async false
set_option linter.all false
set_option maxRecDepth 100000
set_option maxHeartbeats 8000000
set_option compiler.extract_closed false
set_option bootstrap.genMatcherCode false
set_option genSizeOfSpec false
open PySem PySem.Spec PyProof.Rows
open List (all_cons all_eq_true any_cons any_eq_true append_nil count_le_length flatten_cons getElem_mem length_drop length_eq_zero_iff length_pos_iff length_take lookup_cons map_congr_left map_id map_nil mem_filter mem_filterMap mem_range mem_singleton nodup_cons of_mem_zip replicate replicate_succ)
open Nat (gcd le_of_eq le_of_lt le_succ lt_succ_of_lt lt_trans min_le_right mod_lt ne_of_gt toDigits zero_le)
open Option (isSome_iff_exists isSome_some)
noncomputable section
local macro_rules | `(term| ⋯) => `(term| by first | decide +kernel | omega)
section
open PyProof
abbrev qaa := @List.getElem?_append_right
abbrev qab := @Array.getElem?_eq_some_iff
abbrev qac := @List.getElem?_eq_some_iff
abbrev qad := @List.getElem?_append_left
abbrev qaf := @List.getElem?_eq_getElem
abbrev qag := @Heap.get?_push_of_some
abbrev qah := @Heap.get?_update_other
abbrev qai := @List.getElem?_set_self
abbrev qak := @List.mem_append_right
abbrev qal := @Heap.get?_update_self
abbrev qan := @List.mem_cons_of_mem
abbrev qao := @List.getElem?_set_ne
abbrev qap := @Around.under_plainId
abbrev qar := @Heap.get?_push_size
abbrev qas := @Array.length_toList
abbrev qat := @List.filterMap_cons
abbrev qau := @List.mem_cons_self
abbrev qav := @List.length_append
abbrev qaw := @Nat.lt_of_lt_of_le
abbrev qax := @Bool.false_eq_true
abbrev qay := @List.pairwise_cons
abbrev qaA := @List.size_toArray
abbrev qaB := @Int.toNat_natCast
abbrev qaC := @wpAny_newObj_type
abbrev qaD := @decide_eq_true_eq
abbrev qaE := @List.length_cons
abbrev qaF := @List.not_mem_nil
abbrev qaG := @Bool.and_eq_true
abbrev qaH := @List.length_map
abbrev qaI := @List.length_set
abbrev qaJ := @List.length_nil
abbrev qaK := @List.mem_append
abbrev qaL := @Heap.size_push
abbrev qaM := @List.map_cons
abbrev qaN := @Nat.lt_irrefl
abbrev qaO := @wpAny_holding
abbrev qaP := @List.mem_cons
abbrev qaQ := @Heap.lt_size
abbrev qaR := @Nat.ne_of_lt
abbrev qaS := @Nat.le_trans
abbrev qaT := @List.map_map
abbrev qaU := @List.mem_map
abbrev qaV := @Nat.le_refl
abbrev qaW := @wpAny_bind
abbrev qaX := @wpAny_pure
abbrev qaZ := @wpAny_mono
abbrev qa0 := @False.elim
abbrev qa4 := @if_pos
abbrev qa5 := @if_neg
end
def PySem.W.Fast.tw14238123874000623927:Nat:=0
def PySem.W.Fast.tw1296407482175999394:Nat:=0
def PySem.W.Fast.tw2611209113338990219:Nat:=0
def PySem.W.Fast.tw10782930731199414230:Nat:=0
def PySem.W.Fast.tw6486693770230329223:Nat:=0
def PySem.W.Fast.tw16725729596073548819:Nat:=0
def PySem.W.Fast.tw16830127147156837428:Nat:=0
def PySem.W.Fast.tw13901253878575494705:Nat:=0
def PySem.W.Fast.tw16922411654388638849:Nat:=0
def PySem.W.Fast.tw11549174371054995986:Nat:=0
def PySem.W.Fast.tw2609829164888317992:Nat:=0
def PySem.W.Fast.tw7348275876208975520:Nat:=0
def PySem.W.Fast.tw7645404037033585369:Nat:=0
def PySem.W.Fast.tw4524610112594301688:Nat:=0
def PySem.W.Fast.tw12868239069719477769:Nat:=0
def PySem.W.Fast.tw10352613593073987264:Nat:=0
def PySem.W.Fast.tw10389962710923907781:Nat:=0
def PySem.W.Fast.tw1956135459066633801:Nat:=0
def PySem.W.Fast.tw17584552546619807910:Nat:=0
def PySem.W.Fast.tw2401601986356112044:Nat:=0
def PySem.W.Fast.tw10210168726670040668:Nat:=0
def PySem.W.Fast.tw11893828977491933470:Nat:=0
def PySem.W.Fast.tw7826154934827796916:Nat:=0
def PySem.W.Fast.tw14900829183665526358:Nat:=0
namespace L3
def zhg (h:Heap) (e:Addr) (cls head:Value):Prop:= ∃ ob vs,h.get? e=some ob/\ob.cls=cls/\ob.dict=none/\ob.data= .fields vs/\vs[2]? = some .none/\vs[1]? = some head
def zt7 (h B:Heap) (e:Addr) (head fl:Value):Prop:= ∃ T ot ts,head= .ref T/\B.get? T=none/\T≠e/\h.get? T=some ot/\ot.data= .fields ts/\ts[3]? = some fl
structure Fly (B:Heap) (l:List Env) (e:Addr) (cls fl:Value) (h:Heap):Prop where
 stays:B.StaysIn h
 new:B.get? e=none
 frames:h.FunFrames B l
 exc: ∃ head,zhg h e cls head/\zt7 h B e head fl
theorem zmu (o:Obj) (f):(o.mapFields f).dict=o.dict:=by
 obtain ⟨c,d,t,z⟩:=o
 cases t<;>rfl
section
variable {M:Model} {A:Around} {E:Value->Shared->Prop} {s:Shared} {B:Heap} {env:Env} {outer l:List Env} {L e:Addr} {cls head fl:Value}
theorem zfy {hd0:Value} {hadNext:Bool} {Q:Unit->Shared->Prop} (hfr:A.frames=some (env::outer)) (hl:s.heap.FunFrames B (env::outer)) (hf:env.frame=some L) (hx:zhg s.heap e cls head)
  (hkb:B.StaysIn s.heap) (hen:B.get? e=none) (q: ∀ h',Fly B (env::outer) e cls (rawInt L) h'->s.heap.UpToSlots h'->Q () {s with heap:=h'}):
  wpAny M A (do let a<-frameOf env;let pl<-entryPlaceOf L hadNext;let b<-EntryCells.newEntry hd0 a .none (rawInt L) .none pl;setField (.ref e) 1 b) Q E s:=by
 obtain ⟨ob,vs,h1,h2,h3,h4,h5,h6⟩:=hx
 have hsz:1<vs.size:=(qab.mp h6).1
 have nfr:e∉(env::outer).filterMap (·.frame):=λz=>by
  obtain ⟨_,o,ho,hn⟩:=hl.mem z
  rw [h1] at ho
  cases ho
  exact hn vs h4
 refine qaW (wpAny_frameOf_fun hfr hl hf λg sg=> ?_)
 refine qaW (wpAny_entryPlaceOf λpl hpl=> ?_)
 unfold EntryCells.newEntry newFields
 refine qaW (qaC ?_ (hpl.sizeOk5 _ _ _ _ _))
 have e1:g.get? e=some ob:=(sg.2.1 e nfr).trans h1
 have kb:B.StaysIn g:=λb o z=>(sg.2.1 b λw=>by rw [(hl.mem w).1] at z;cases z).trans (hkb b o z)
 generalize hob:({cls:= .type "traceback",dict:=none,data:= .fields ([hd0,.ref L,.none,rawInt L,.none]++(if pl.isEmpty then replicate 6 Value.none else pl)).toArray}:Obj)=tb
 have e2:(g.push tb).get? e=some ob:=qag _ e1
 have ne:g.objs.size≠e:=ne_of_gt (qaQ e1)
 have d3:=Obj.data_mapFields h4 (·.setIfInBounds 1 (Value.ref g.objs.size))
 have e3:=qal (Obj.mapFields (·.setIfInBounds 1 (Value.ref g.objs.size))) e2 (Obj.isFreed_of_fields d3)
 have ft:tb.isFreed=false:=by rw [<- hob];rfl
 have t3:((g.push tb).update e (Obj.mapFields (·.setIfInBounds 1 (Value.ref g.objs.size)))).get? g.objs.size=some tb:=(qah _ _ (Ne.symm ne)).trans (qar g ft)
 have stay: ∀ b o,b≠e->g.get? b=some o->((g.push tb).update e (Obj.mapFields (·.setIfInBounds 1 (Value.ref g.objs.size)))).get? b=some o:=λb o hb z=>by
  rw [qah _ _ (Ne.symm hb)]
  exact qag _ z
 have nrec: ∀ b o,s.heap.get? b=some o->(∀ ws,o.data≠ .fields ws)->b≠e:=λb o z hn w=>by
  rw [w,h1] at z
  cases z
  exact hn vs h4
 have ht: ∃ ts,tb.data= .fields ts/\ts[3]? = some (rawInt L):=⟨_,by rw [<- hob],by rcases hpl with rfl | ⟨_,_,_,_,_,_,_,rfl⟩<;>simp⟩
 obtain ⟨ts,ht1,ht2⟩:=ht
 refine wpAny_setField e2 h4 hsz (q _ ⟨λb o z=>stay b o (λw=>by rw [w,hen] at z;cases z) (kb b o z),hen,hl.of_keeps λb o z hn=> ?_,.ref g.objs.size,⟨_,_,e3,(Obj.cls_mapFields _ _).trans h2,(zmu _ _).trans h3,d3,?_,?_⟩,g.objs.size,tb,ts,rfl,kb.fresh,ne,t3,ht1,ht2⟩ λb o z hn=> ?_)
 ·obtain ⟨sl,hs⟩:=sg.2.2 b o z
  exact ⟨_,stay b _ (nrec b o z hn) hs,rfl⟩
 ·rw [Array.getElem?_setIfInBounds_ne (by decide)]
  exact h5
 ·simp [hsz]
 ·obtain ⟨sl,hs⟩:=sg.2.2 b o z
  exact ⟨sl,stay b _ (nrec b o z hn) hs⟩
theorem ziX {Q:Unit->Shared->Prop} (hfr:A.frames=some (env::outer)) (hl:s.heap.FunFrames B (env::outer)) (hf:env.frame=some L) (hx:zhg s.heap e cls .none)
  (hkb:B.StaysIn s.heap) (hen:B.get? e=none) (q: ∀ h',Fly B (env::outer) e cls (rawInt L) h'->s.heap.UpToSlots h'->Q () {s with heap:=h'}):wpAny M A (noteFrame (.ref e) env) Q E s:=by
 obtain ⟨ob,vs,h1,h2,h3,h4,h5,h6⟩:=id hx
 unfold noteFrame
 simp only [hf]
 refine qaW (wpAny_field h1 h4 h6 ?_)
 rw [qa5 (by decide)]
 exact zfy hfr hl hf hx hkb hen q
theorem zlz {Q:Unit->Shared->Prop} (hfr:A.frames=some (env::outer)) (hf:env.frame=some L) (y:Fly B (env::outer) e cls .none s.heap)
  (q: ∀ h',Fly B (env::outer) e cls (rawInt L) h'->s.heap.UpToSlots h'->Q () {s with heap:=h'}):wpAny M A (noteFrame (.ref e) env) Q E s:=by
 obtain ⟨hkb,hen,hl,hd,⟨ob,vs,h1,h2,h3,h4,h5,h6⟩,T,ot,ts,rfl,t1,t2,t3,t4,t5⟩:=y
 unfold noteFrame
 simp only [hf]
 refine qaW (wpAny_field h1 h4 h6 ?_)
 rw [qa4 (show (Value.ref T != Value.none)=true by simp)]
 refine qaW (wpAny_field t3 t4 t5 ?_)
 rw [qa5 (show ¬(Value.none==rawInt L)=true by simp [rawInt])]
 refine qaW (wpAny_setField t3 t4 (qab.mp t5).1 ?_)
 have oth: ∀ b,b≠T->(s.heap.update T (Obj.mapFields (·.setIfInBounds 3 Value.none))).get? b=s.heap.get? b:=λb hb=>qah _ _ (Ne.symm hb)
 have nrec: ∀ b o,s.heap.get? b=some o->(∀ ws,o.data≠ .fields ws)->b≠T:=λb o z hn w=>by
  rw [w,t3] at z
  cases z
  exact hn ts t4
 refine zfy hfr (hl.of_keeps λb o z hn=>⟨o,(oth b (nrec b o z hn)).trans z,rfl⟩) hf ⟨ob,vs,(oth e (Ne.symm t2)).trans h1,h2,h3,h4,h5,h6⟩ (λb o z=>(oth b λw=>by rw [w,t1] at z;cases z).trans (hkb b o z)) hen λh' y u=> ?_
 exact q h' y λb o z hn=>u b o ((oth b (nrec b o z hn)).trans z) hn
theorem zc5 {Q:Unit->Shared->Prop} (y:Fly B l e cls fl s.heap) (q: ∀ h',Fly B l e cls .none h'->(∀ b o,s.heap.get? b=some o->(∀ ws,o.data≠ .fields ws)->h'.get? b=some o)->Q () {s with heap:=h'}):
  wpAny M A (setFlight (.ref e) none) Q E s:=by
 obtain ⟨hkb,hen,hl,hd,⟨ob,vs,h1,h2,h3,h4,h5,h6⟩,T,ot,ts,rfl,t1,t2,t3,t4,t5⟩:=y
 have hsz:=(qab.mp t5).1
 have oth: ∀ b,b≠T->(s.heap.update T (Obj.mapFields (·.setIfInBounds 3 ((none:Option Addr).elim Value.none λf=>rawInt f)))).get? b=s.heap.get? b:=λb hb=>qah _ _ (Ne.symm hb)
 have nrec: ∀ b o,s.heap.get? b=some o->(∀ ws,o.data≠ .fields ws)->b≠T:=λb o z hn w=>by
  rw [w,t3] at z
  cases z
  exact hn ts t4
 unfold setFlight
 refine qaW (wpAny_field h1 h4 h6 ?_)
 rw [qa4 (show (Value.ref T != Value.none)=true by simp)]
 refine wpAny_setField t3 t4 hsz (q _ ⟨λb o z=>(oth b λw=>by rw [w,t1] at z;cases z).trans (hkb b o z),hen,hl.of_keeps λb o z hn=>⟨o,(oth b (nrec b o z hn)).trans z,rfl⟩,
   .ref T,⟨ob,vs,(oth e (Ne.symm t2)).trans h1,h2,h3,h4,h5,h6⟩,T,_,_,rfl,t1,t2,qal _ t3 (Obj.isFreed_of_fields (Obj.data_mapFields t4 _)),Obj.data_mapFields t4 _,by simp [hsz]⟩ λb o z hn=>(oth b (nrec b o z hn)).trans z)
theorem Fly.tail {h:Heap} (y:Fly B (env::outer) e cls fl h):Fly B outer e cls fl h:=⟨y.stays,y.new,y.frames.2.2,y.exc⟩
theorem zhA {Q:Unit->Shared->Prop} (hfr:A.frames=some (env::outer)) (hl:s.heap.FunFrames B (env::outer)) (hf:env.frame=some L) (hx:zhg s.heap e cls .none)
  (hkb:B.StaysIn s.heap) (hen:B.get? e=none) (q: ∀ h',Fly B outer e cls .none h'->s.heap.UpToSlots h'->Q () {s with heap:=h'}):wpAny M A (leaving env (.ref e)) Q E s:=by
 unfold leaving
 refine qaW (ziX hfr hl hf hx hkb hen λh1 y1 u1=> ?_)
 refine zc5 (s:={s with heap:=h1}) y1 λh2 y2 k2=>q h2 y2.tail (u1.trans λb o z hn=>⟨o.slots,k2 b o z hn⟩)
theorem zmD {Q:Unit->Shared->Prop} (hfr:A.frames=some (env::outer)) (hf:env.frame=some L) (y:Fly B (env::outer) e cls .none s.heap)
  (q: ∀ h',Fly B outer e cls .none h'->s.heap.UpToSlots h'->Q () {s with heap:=h'}):wpAny M A (leaving env (.ref e)) Q E s:=by
 unfold leaving
 refine qaW (zlz hfr hf y λh1 y1 u1=> ?_)
 refine zc5 (s:={s with heap:=h1}) y1 λh2 y2 k2=>q h2 y2.tail (u1.trans λb o z hn=>⟨o.slots,k2 b o z hn⟩)
theorem zmJ {h h':Heap} {args:List Value} (x:Heap.MadeExcOf h h' e cls args):zhg h' e cls .none:=by
 obtain ⟨t,h1,_,_⟩:=x.there
 exact ⟨_,_,h1,rfl,rfl,rfl,rfl,rfl⟩
end
theorem zfG:entryFor table "proto.unchain"=some Builtin.«proto.unchain» := entryFor_of_tree (by kernel_rfl)
section
variable {prog:Program} {w:World} {A:Around} {E:Value->Shared->Prop} {s:Shared}
theorem zc6 {α:Type} {a h:Addr} {o:Obj} {us:Array Value} {cls head:Value} {Q:α->Shared->Prop} (hh:A.handled=some (.ref h)) (hx:zhg s.heap h cls head) (ho:s.heap.get? a=some o) (hd:o.data= .fields us) (hz:2<us.size) (hne:h≠a)
  (q:E (.ref a) {s with heap:=s.heap.update a (Obj.mapFields (·.setIfInBounds 2 (.ref h)))}):wpAny (model prog w) A (raiseNew (.ref a):Sem α) Q E s:=by
 obtain ⟨ob,vs,h1,h2,h3,h4,h5,h6⟩:=hx
 unfold raiseNew
 refine qaW (wpAny_handled ?_)
 rw [hh]
 dsimp only
 rw [qa4 (show (Value.ref h != Value.ref a)=true by simp [hne])]
 refine qaW (qaO (wpAny_runValue (codeAny_builtin zfG ?_)))
 unfold Builtin.«proto.unchain»
 refine qaW (wpAny_field h1 h4 h5 ?_)
 rw [qa4 (show (Value.none==Value.none)=true from rfl)]
 refine qaW (qaX (qaX ?_))
 refine qaW ?_
 obtain ⟨c,d,dt,sl⟩:=o
 dsimp only at hd
 subst hd
 unfold updateField
 refine qaW (wpAny_load ho ?_)
 dsimp only
 rw [qa4 hz]
 exact wpAny_update ho (wpAny_throw q)
def zn0 (A:Around) (h:Heap):Prop:=A.handled=none\/ ∃ a cls head,A.handled=some (.ref a)/\zhg h a cls head
theorem ziA {it l:Addr} {i:Nat} {items:Array Value} {Q:Option Value->Shared->Prop} (hh:zn0 A s.heap) (hit:s.heap.IsListIter it l i) (hl:s.heap.IsList l items) (hx:items[i]? = none)
  (k: ∀ h',Heap.ExtBut it s.heap h'->Q none {s with heap:=h'}):wpAny (model prog w) A (pyNext (.ref it)) Q E s:=by
 rcases hh with hh | ⟨ha,cls,head,hh,hX⟩
 ·exact wpAny_pyNext_list_end hh hit hl hx k
 obtain ⟨o,h1,h2,h3⟩:=id hit
 obtain ⟨ol,l1,_,nl,l2⟩:=hl
 unfold pyNext
 refine qaW (wpAny_attempt (wpAny_callSpecial?_slot (name:=Str.ofString "__next__") hit.typeIs slot_listiter_next (wpAny_call_entry slot_listiter_next hit.typeIs entry_listiter_next ?_ (args_listiter_next _))))
 show wpAny _ _ (field (.ref it) 0>>=_) _ _ s
 refine qaW (wpAny_field h1 h3 (x:= .ref l) rfl ?_)
 show wpAny _ _ (if (Value.ref l==Value.none)=true then _ else _) _ _ s
 rw [qa5 (show ¬(Value.ref l==Value.none)=true from nofun)]
 show wpAny _ _ (field (.ref it) 1>>=_) _ _ s
 refine qaW (wpAny_field h1 h3 (x:= .int i 0) rfl ?_)
 show wpAny _ _ (seqItems? (.ref l)>>=_) _ _ s
 refine qaW (wpAny_seqItems l1 l2 ?_)
 simp only [qaB,hx]
 refine qaW (wpAny_rule (qaW (wpAny_setField h1 h3 (by simp) ?_)))
 have nit:ha≠it:=λz=>by
  subst z
  obtain ⟨ob,vs,x1,_,_,x4,x5,x6⟩:=hX
  rw [h1] at x1
  cases x1
  rw [h3] at x4
  cases x4
  simp at x5
 have hX1:zhg (s.heap.update it (Obj.mapFields (·.setIfInBounds 0 Value.none))) ha cls head:=by
  obtain ⟨ob,vs,x1,x2⟩:=hX
  exact ⟨ob,vs,(qah _ _ (Ne.symm nit)).trans x1,x2⟩
 show wpAny _ _ (newExc (.type "StopIteration") []>>=_) _ _ _
 refine qaW ?_
 simp only [newExc,newTuple]
 refine qaW (qaC ?_ (by size_fits))
 refine qaW (m:=firstArgMember _ _) (wpAny_of_eq (a:=Value.none) (by first | rfl | (simp only [firstArgMember];rfl)) ?_)
 refine qaC ?_ (by size_fits)
 obtain ⟨ob,vs,x1,x2⟩:=hX1
 have y1:=qag {cls:= .type "tuple",dict:=none,data:= .seq [].toArray} x1
 refine zc6 (h:=ha) (cls:=cls) (head:=head) hh ⟨ob,vs,qag _ y1,x2⟩ (qar _ rfl) rfl (by simp;omega) (qaR (qaQ y1)) ?_
 refine qaW (wpAny_isInstance (T:="StopIteration") (b:=true) ⟨_,qal _ (qar _ rfl) rfl,rfl⟩ isSubtype_stop ?_)
 refine qaX (k _ λb o hb z=> ?_)
 have z1:(s.heap.update it (Obj.mapFields (·.setIfInBounds 0 Value.none))).get? b=some o:=(qah _ _ (Ne.symm hb)).trans z
 have z2:=qag {cls:= .type "tuple",dict:=none,data:= .seq [].toArray} z1
 rw [qah _ _ (ne_of_gt (qaQ z2))]
 exact qag _ z2
theorem zlw {it l:Addr} {i:Nat} {items:Array Value} {Q:Option Value->Shared->Prop} (hh:zn0 A s.heap) (hit:s.heap.IsTupleIter it l i) (hl:s.heap.IsTuple l items) (hx:items[i]? = none)
  (k: ∀ h',Heap.ExtBut it s.heap h'->Q none {s with heap:=h'}):wpAny (model prog w) A (pyNext (.ref it)) Q E s:=by
 rcases hh with hh | ⟨ha,cls,head,hh,hX⟩
 ·exact wpAny_pyNext_tuple_end hh hit hl hx k
 obtain ⟨o,h1,h2,h3⟩:=id hit
 obtain ⟨ol,l1,_,nl,l2⟩:=hl
 unfold pyNext
 refine qaW (wpAny_attempt (wpAny_callSpecial?_slot (name:=Str.ofString "__next__") hit.typeIs F.slot_tuple_iterator_next (wpAny_call_entry F.slot_tuple_iterator_next hit.typeIs F.entry_tuple_iterator_next ?_ (F.args_tuple_iterator_next_1 _))))
 show wpAny _ _ (field (.ref it) 0>>=_) _ _ s
 refine qaW (wpAny_field h1 h3 (x:= .ref l) rfl ?_)
 show wpAny _ _ (if (Value.ref l==Value.none)=true then _ else _) _ _ s
 rw [qa5 (show ¬(Value.ref l==Value.none)=true from nofun)]
 show wpAny _ _ (field (.ref it) 1>>=_) _ _ s
 refine qaW (wpAny_field h1 h3 (x:= .int i 0) rfl ?_)
 show wpAny _ _ (seqItems? (.ref l)>>=_) _ _ s
 refine qaW (wpAny_seqItems l1 l2 ?_)
 simp only [qaB,hx]
 refine qaW (wpAny_rule (qaW (wpAny_setField h1 h3 (by simp) ?_)))
 have nit:ha≠it:=λz=>by
  subst z
  obtain ⟨ob,vs,x1,_,_,x4,x5,x6⟩:=hX
  rw [h1] at x1
  cases x1
  rw [h3] at x4
  cases x4
  simp at x5
 have hX1:zhg (s.heap.update it (Obj.mapFields (·.setIfInBounds 0 Value.none))) ha cls head:=by
  obtain ⟨ob,vs,x1,x2⟩:=hX
  exact ⟨ob,vs,(qah _ _ (Ne.symm nit)).trans x1,x2⟩
 show wpAny _ _ (newExc (.type "StopIteration") []>>=_) _ _ _
 refine qaW ?_
 simp only [newExc,newTuple]
 refine qaW (qaC ?_ (by size_fits))
 refine qaW (m:=firstArgMember _ _) (wpAny_of_eq (a:=Value.none) (by first | rfl | (simp only [firstArgMember];rfl)) ?_)
 refine qaC ?_ (by size_fits)
 obtain ⟨ob,vs,x1,x2⟩:=hX1
 have y1:=qag {cls:= .type "tuple",dict:=none,data:= .seq [].toArray} x1
 refine zc6 (h:=ha) (cls:=cls) (head:=head) hh ⟨ob,vs,qag _ y1,x2⟩ (qar _ rfl) rfl (by simp;omega) (qaR (qaQ y1)) ?_
 refine qaW (wpAny_isInstance (T:="StopIteration") (b:=true) ⟨_,qal _ (qar _ rfl) rfl,rfl⟩ isSubtype_stop ?_)
 refine qaX (k _ λb o hb z=> ?_)
 have z1:(s.heap.update it (Obj.mapFields (·.setIfInBounds 0 Value.none))).get? b=some o:=(qah _ _ (Ne.symm hb)).trans z
 have z2:=qag {cls:= .type "tuple",dict:=none,data:= .seq [].toArray} z1
 rw [qah _ _ (ne_of_gt (qaQ z2))]
 exact qag _ z2
theorem zjO {it:Addr} {x left step:Int} {Q:Option Value->Shared->Prop} (hh:zn0 A s.heap) (hit:IsRangeIter s.heap it x left step) (hleft:left<=0)
  (k: ∀ h',Heap.ExtBut it s.heap h'->Q none {s with heap:=h'}):wpAny (model prog w) A (pyNext (.ref it)) Q E s:=by
 rcases hh with hh | ⟨ha,cls,head,hh,hX⟩
 ·exact wpAny_pyNext_range_end hh hit hleft k
 have hT:s.TypeIs (.ref it) "range_iterator":=⟨_,hit,rfl⟩
 unfold pyNext
 refine qaW (wpAny_attempt (wpAny_callSpecial?_slot (name:=Str.ofString "__next__") hT F.slot_range_iterator_next (wpAny_call_entry F.slot_range_iterator_next hT F.entry_range_iterator_next ?_ (F.args_range_iterator_next_1 _))))
 show wpAny _ _ (field (.ref it) 0>>=_) _ _ s
 refine qaW (wpAny_field hit rfl (x:=rawInt x) rfl ?_)
 show wpAny _ _ (field (.ref it) 1>>=_) _ _ s
 refine qaW (wpAny_field hit rfl (x:=rawInt left) rfl ?_)
 show wpAny _ _ (field (.ref it) 2>>=_) _ _ s
 refine qaW (wpAny_field hit rfl (x:=rawInt step) rfl ?_)
 show wpAny _ _ (if left<=0 then _ else _) _ _ s
 rw [qa4 hleft]
 refine qaW (wpAny_rule (qaW ?_))
 show wpAny _ _ (newExc (.type "StopIteration") []>>=_) _ _ _
 refine qaW ?_
 simp only [newExc,newTuple]
 refine qaW (qaC ?_ (by size_fits))
 refine qaW (m:=firstArgMember _ _) (wpAny_of_eq (a:=Value.none) (by first | rfl | (simp only [firstArgMember];rfl)) ?_)
 refine qaC ?_ (by size_fits)
 obtain ⟨ob,vs,x1,x2⟩:=hX
 have y1:=qag {cls:= .type "tuple",dict:=none,data:= .seq [].toArray} x1
 refine zc6 (h:=ha) (cls:=cls) (head:=head) hh ⟨ob,vs,qag _ y1,x2⟩ (qar _ rfl) rfl (by simp;omega) (qaR (qaQ y1)) ?_
 refine qaW (wpAny_isInstance (T:="StopIteration") (b:=true) ⟨_,qal _ (qar _ rfl) rfl,rfl⟩ isSubtype_stop ?_)
 refine qaX (k _ λb o hb z=> ?_)
 have z2:=qag {cls:= .type "tuple",dict:=none,data:= .seq [].toArray} z
 rw [qah _ _ (ne_of_gt (qaQ z2))]
 exact qag _ z2
theorem zhg.keep {h h':Heap} {a:Addr} {cls head:Value} (x:zhg h a cls head) (k: ∀ o,h.get? a=some o->h'.get? a=some o):zhg h' a cls head:=by
 obtain ⟨ob,vs,x1,x2⟩:=x
 exact ⟨ob,vs,k _ x1,x2⟩
theorem zjn {ha:Addr} {cls head:Value} (hh:A.handled=some (.ref ha)) (I ax:Addr) (hne:ax≠I) (hn2:ha≠I) (items:Array Value):
  Walks prog w A I [I,ax,ha] [I] items.size (λi v=>items[i]? = some v) (λi h=>h.IsListIter I ax i/\h.IsList ax items/\zhg h ha cls head) where
 sub:=λb hb=>by simp at hb;simp [hb]
 frame:=λ_ _ _ st hk=>⟨st.1.at λo e=>hk I (by simp) o e,st.2.1.at λo e=>hk ax (by simp) o e,st.2.2.keep λo e=>hk ha (by simp) o e⟩
 item:=λi s Q E hi st hQ=>by
  refine wpAny_pyNext_list_item st.1 st.2.1 (x:=items[i]) (by simp [hi]) λh' hit' hs'=> ?_
  exact hQ _ h' s.toks (by simp [hi]) ⟨hit',st.2.1.extBut hs'.extBut hne,st.2.2.keep λo e=>hs'.extBut ha o hn2 e⟩ λb o hb e=>hs'.extBut b o (λh=>hb (by simp [h])) e
 done:=λs Q E st hQ=>ziA (.inr ⟨ha,cls,head,hh,st.2.2⟩) st.1 st.2.1 (by simp) λh' he'=>hQ h' s.toks λb o hb e=>he' b o (λh=>hb (by simp [h])) e
 self:=λ_ _ _ _ st hQ=>wpAny_pyIter_listiter st.1 hQ
end
end L3
namespace L2
abbrev Key:=Sum Int Str
def zr4:Key->Value->Bool
 | .inl k,v=>Value.isInt k v
 | .inr x,v=>Value.isStrOf x v
def zuv (w:World):Key->Int
 | .inl k=>hashInt k
 | .inr x=>hashStr w x
theorem za1: ∀ {k:Key} {v:Value},zr4 k v=true->(∃ i t,k=Sum.inl i/\v=Value.int i t)\/(∃ x t,k=Sum.inr x/\v=Value.str x t)
 | .inl i,v,h=>by
  obtain ⟨t,e⟩:=Value.isInt_shape (k:=i) (v:=v) h
  exact .inl ⟨i,t,rfl,e⟩
 | .inr x,v,h=>by
  obtain ⟨t,e⟩:=Value.isStrOf_shape (x:=x) (v:=v) h
  exact .inr ⟨x,t,rfl,e⟩
theorem zqg (a b:Int):decide ((Sum.inl a:Key)=Sum.inl b)=(a==b):=by
 by_cases e:a=b
 ·subst e;simp
 ·have h: ¬(Sum.inl a:Key)=Sum.inl b:=λq=>e (Sum.inl.inj q)
  rw [decide_eq_false h]
  exact (beq_eq_false_iff_ne.mpr e).symm
theorem zry (a b:Str):decide ((Sum.inr a:Key)=Sum.inr b)=decide (a=b):=by
 by_cases e:a=b
 ·subst e;simp
 ·have h: ¬(Sum.inr a:Key)=Sum.inr b:=λq=>e (Sum.inr.inj q)
  rw [decide_eq_false h,decide_eq_false e]
theorem zqx (a:Int) (b:Str):decide ((Sum.inl a:Key)=Sum.inr b)=false:=decide_eq_false (λq=>nomatch q)
theorem zrm (a:Str) (b:Int):decide ((Sum.inr a:Key)=Sum.inl b)=false:=decide_eq_false (λq=>nomatch q)
def zhi (prog:Program) (w:World):PySem.KeyKind prog w Key where
 is:=zr4
 hash:=zuv w
 inj:=λv a b ha hb=>by
  rcases za1 ha with ⟨i,t,rfl,rfl⟩ | ⟨x,t,rfl,rfl⟩
  ·rcases za1 hb with ⟨j,u,rfl,e⟩ | ⟨y,u,rfl,e⟩
   ·injection e with e1 _;rw [e1]
   ·exact nomatch e
  ·rcases za1 hb with ⟨j,u,rfl,e⟩ | ⟨y,u,rfl,e⟩
   ·exact nomatch e
   ·injection e with e1 _;rw [e1]
 byValue:=λk v h=>by
  rcases za1 h with ⟨i,t,rfl,rfl⟩ | ⟨x,t,rfl,rfl⟩<;>rfl
 pyHash:=λhv h=>by
  rcases za1 hv with ⟨i,t,rfl,rfl⟩ | ⟨x,t,rfl,rfl⟩
  ·exact wpAny_pyHash_int h
  ·exact wpAny_pyHash_str h
 eqBool:=λhu hv h=>by
  rcases za1 hu with ⟨i,t,rfl,rfl⟩ | ⟨x,t,rfl,rfl⟩
  ·rcases za1 hv with ⟨j,u,rfl,rfl⟩ | ⟨y,u,rfl,rfl⟩
   ·rw [zqg] at h;exact wpAny_eqBool_int h
   ·rw [zqx] at h;exact SeqAt.EqAt.int_str i t y u _ _ _ _ h
  ·rcases za1 hv with ⟨j,u,rfl,rfl⟩ | ⟨y,u,rfl,rfl⟩
   ·rw [zrm] at h;exact SeqAt.EqAt.str_int x t j u _ _ _ _ h
   ·rw [zry] at h;exact wpAny_eqBool_str h
 «strs» := λk x t v h=>by
  rcases za1 h with ⟨i,u,rfl,e⟩ | ⟨y,u,rfl,e⟩
  ·exact nomatch e
  ·injection e with e1 _
   subst e1
   cases v<;>rfl
inductive V where
 | non | bl (b:Bool) | int (i:Int) | str (x:Str) | byt (b:Array UInt8) | flt (b:UInt64) | ref (a:Addr) | ty (n:String)
 deriving DecidableEq
def zbB:V->Value->Prop
 | .non,u=>u=Value.none
 | .bl b,u=>u=Value.bool b
 | .int i,u=> ∃ t,u=Value.int i t
 | .str x,u=> ∃ t,u=Value.str x t
 | .byt b,u=> ∃ t,u=Value.bytes b t
 | .flt b,u=> ∃ t,u=Value.float b t
 | .ref a,u=>u=Value.ref a
 | .ty n,u=>u=Value.type n
abbrev za7:List V->List Value->Prop:=Paired zbB
theorem za7.length {xs:List V} {us:List Value} (r:za7 xs us):xs.length=us.length:=Paired.length r
theorem za7.get: ∀ {xs:List V} {us:List Value} {i:Nat} {x:V},za7 xs us->xs[i]? = some x-> ∃ u,us[i]? = some u/\zbB x u
 | _,_,_,_,.nil,e=>by simp at e
 | _,_,0,_,.cons r _,e=>by simp at e;subst e;exact ⟨_,rfl,r⟩
 | _,_,i+1,x,.cons _ t,e=>by
  obtain ⟨u,h1,h2⟩:=za7.get (i:=i) (x:=x) t (by simpa using e)
  exact ⟨u,by simpa using h1,h2⟩
theorem za7.set {x:V} {u:Value} (r:zbB x u): ∀ {xs:List V} {us:List Value} (i:Nat),za7 xs us->za7 (xs.set i x) (us.set i u)
 | _,_,_,.nil=> .nil
 | _,_,0,.cons _ t=> .cons r t
 | _,_,i+1,.cons q t=> .cons q (za7.set r i t)
theorem za7.append: ∀ {xs ys:List V} {us ws:List Value},za7 xs us->za7 ys ws->za7 (xs++ys) (us++ws)
 | _,_,_,_,.nil,s=>s
 | _,_,_,_,.cons r t,s=> .cons r (za7.append t s)
theorem za7.take: ∀ {xs:List V} {us:List Value} (n:Nat),za7 xs us->za7 (xs.take n) (us.take n)
 | _,_,0,_=> .nil
 | _,_,_+1,.nil=> .nil
 | _,_,n+1,.cons r t=> .cons r (za7.take n t)
theorem za7.drop: ∀ {xs:List V} {us:List Value} (n:Nat),za7 xs us->za7 (xs.drop n) (us.drop n)
 | _,_,0,r=>r
 | _,_,_+1,.nil=> .nil
 | _,_,n+1,.cons _ t=>za7.drop n t
def zta:Option V->Option Value->Prop
 | some v,some u=>zbB v u
 | none,none=>True
 | _,_=>False
def KV {κ:Type}:List (κ×V)->List (κ×Value)->Prop:=Paired λ(p:κ×V) (q:κ×Value)=>p.1=q.1/\zbB p.2 q.2
def kV:Key->V
 | .inl i=> .int i
 | .inr x=> .str x
inductive HO where
 | lst (xs:List V)
 | tup (xs:List V)
 | dK (kvs:List (Key×V)) | dT (kvs:List (List Key×V))
 | set (S:Int->Bool) (n:Nat)
 | ins (C dx:Addr) (fs:List (Str×V))
 | own (x:Addr)
 | xd (fs:List (Str×V))
 | met (f x:Addr)
 | rng (lo hi:Int)
 | frz (o:Obj) (u:HO)
 | tbl (ps:Array Value)
 | ext (φ:Heap->Prop)
abbrev Hp:=Addr->Option HO
def upd (H:Hp) (a:Addr) (o:HO):Hp:=λb=>if b=a then some o else H b
theorem zaV {H:Hp} {a:Addr} {o:HO}:upd H a o a=some o:=by unfold upd;rw [qa4 rfl]
theorem zaz {H:Hp} {a b:Addr} {o:HO} (h:b≠a):upd H a o b=H b:=by unfold upd;rw [qa5 h]
theorem zaN {H:Hp} {a b:Addr} {o:HO} (h:H a=some o) (h':H b=none):a≠b:=by
 intro e;subst e;rw [h] at h';cases h'
def zlG (h:Heap) (a:Addr) (items:Array Value):Prop:= ∃ o,h.get? a=some o/\o.cls= .type "tuple"/\ ∃ n,o.data= .seq items n/\o.dict=none
theorem zlG.is {h:Heap} {a:Addr} {items:Array Value} (x:zlG h a items):IsTup h a items:=by
 obtain ⟨o,h1,h2,n,h3,_⟩:=x
 exact ⟨o,h1,h2,n,h3⟩
theorem zlG.new (h:Heap) (items:Array Value):zlG (h.push {cls:= .type "tuple",data:= .seq items}) h.objs.size items:=⟨_,qar _ rfl,rfl,_,rfl,rfl⟩
section
variable (P:Program) (w:World)
def zbZ (H:Hp) (h:Heap) (a:Addr):HO->Prop
 | .lst xs=>xs.length<=sizeLine/\ ∃ (its:List Value) (n:Nat),za7 xs its/\h.get? a=some {cls:= .type "list",data:= .seq its.toArray n}
 | .tup xs=>xs.length<=sizeLine/\ ∃ its:List Value,za7 xs its/\zlG h a its.toArray
 | .dK kvs=>kvs.length<=sizeLine/\(a==sysModules)=false/\ ∃ vs,KV kvs vs/\h.DictOf (zhi P w) a vs
 | .dT kvs=>kvs.length<=sizeLine/\(a==sysModules)=false/\ ∃ xs:List (List Key×Addr×Value),
   Paired (λ(p:List Key×V) (q:List Key×Addr×Value)=>p.1=q.1/\H q.2.1=some (.tup (p.1.map kV))/\zbB p.2 q.2.2) kvs xs/\
   ∃ o es ep,h.get? a=some o/\o.ExactDict/\o.data= .dict es ep/\es.toList=xs.map (entryOfKey (tupleKind (zhi P w)))/\(xs.map (·.1)).Nodup
 | .set S n=>h.SetOf (intKind P w) a S n
 | .ins C dx fs=>H dx=some (.own a)/\fs.length<=1000/\dx≠a/\h.get? a=some (W.instObj C dx)/\
   ∃ mA,h.Ns1 dx mA/\(∀ f,zta (fs.lookup f) (mA f))/\PySem.Within mA (fs.map (·.1))
 | .own _=> ∃ o,h.get? a=some o
 | .xd fs=> ∃ mA,h.Ns1 a mA/\ ∀ f,zta (fs.lookup f) (mA f)
 | .rng lo hi=> ∃ t u v,h.get? a=some {cls:= .type "range",data:= .fields #[.int lo t,.int hi u,.int 1 v]}
 | .frz o u=>h.get? a=some o/\zbZ H h a u
 | .tbl ps=>h.get? a=some {cls:= .none,data:= .fields ps}
 | .met f x=>h.get? a=some (W.methodObj (.ref f) (.ref x))
 | .ext φ=>φ h/\(∃ o,h.get? a=some o)/\ ∀ h1 h2:Heap,φ h1->(∀ o,h1.get? a=some o->h2.get? a=some o)->φ h2
def HOk (H:Hp) (h:Heap):Prop:= ∀ a o,H a=some o->zbZ P w H h a o
end
section
variable {P:Program} {w:World} {H H':Hp} {h h':Heap} {a:Addr} {o:HO}
theorem zbZ.lt (x:zbZ P w H h a o):a<h.objs.size:=by
 cases o with
 | lst xs=>obtain ⟨_,_,_,_,e⟩:=x;exact qaQ e
 | tup xs=>obtain ⟨_,_,_,p⟩:=x;exact p.is.lt
 | dK kvs=>obtain ⟨_,_,_,_,o,_,_,e,_⟩:=x;exact qaQ e
 | dT kvs=>obtain ⟨_,_,_,_,o,_,_,e,_⟩:=x;exact qaQ e
 | set S n=>obtain ⟨o,_,_,_,e,_⟩:=x;exact qaQ e
 | ins C dx fs=>obtain ⟨_,_,_,e,_⟩:=x;exact qaQ e
 | own y=>obtain ⟨_,e⟩:=x;exact qaQ e
 | xd fs=>obtain ⟨_,⟨_,_,_,e,_⟩,_⟩:=x;exact qaQ e
 | rng lo hi=>obtain ⟨_,_,_,e⟩:=x;exact qaQ e
 | frz ob u=>obtain ⟨e,_⟩:=x;exact qaQ e
 | tbl ps=>exact qaQ (show h.get? a=some _ from x)
 | met f y=>exact qaQ (show h.get? a=some _ from x)
 | ext φ=>obtain ⟨_,⟨_,e⟩,_⟩:=x;exact qaQ e
theorem Paired.mapP {α β:Type} {F G:α->β->Prop}: ∀ {l₁:List α} {l₂:List β},Paired F l₁ l₂->(∀ a b,F a b->G a b)->Paired G l₁ l₂
 | _,_,.nil,_=> .nil
 | _,_,.cons r t,f=> .cons (f _ _ r) (Paired.mapP t f)
theorem zbZ.stay (x:zbZ P w H h a o) (k: ∀ b u,(b=a\/H b=some (.own a))->h.get? b=some u->h'.get? b=some u)
  (ho: ∀ b,H b=some (.own a)->H' b=some (.own a)) (ht: ∀ b xs,H b=some (.tup xs)->H' b=some (.tup xs)):zbZ P w H' h' a o:=by
 induction o with
 | lst xs=>obtain ⟨z,its,n,r,e⟩:=x;exact ⟨z,its,n,r,k _ _ (.inl rfl) e⟩
 | tup xs=>obtain ⟨z,its,r,ob,e,c⟩:=x;exact ⟨z,its,r,ob,k _ _ (.inl rfl) e,c⟩
 | dK kvs=>obtain ⟨z,y,vs,r,ob,es,ep,e,c⟩:=x;exact ⟨z,y,vs,r,ob,es,ep,k _ _ (.inl rfl) e,c⟩
 | dT kvs=>
  obtain ⟨z,y,xs,r,ob,es,ep,e,c⟩:=x
  exact ⟨z,y,xs,Paired.mapP r λp q z=>⟨z.1,ht _ _ z.2.1,z.2.2⟩,ob,es,ep,k _ _ (.inl rfl) e,c⟩
 | set S n=>obtain ⟨ob,es,ep,t,e,c⟩:=x;exact ⟨ob,es,ep,t,k _ _ (.inl rfl) e,c⟩
 | ins C dx fs=>
  obtain ⟨d,z,ne,e,mA,⟨od,es,ep,e2,c⟩,r⟩:=x
  exact ⟨ho _ d,z,ne,k _ _ (.inl rfl) e,mA,⟨od,es,ep,k _ _ (.inr d) e2,c⟩,r⟩
 | own y=>obtain ⟨ob,e⟩:=x;exact ⟨ob,k _ _ (.inl rfl) e⟩
 | xd fs=>obtain ⟨mA,⟨od,es,ep,e,c⟩,r⟩:=x;exact ⟨mA,⟨od,es,ep,k _ _ (.inl rfl) e,c⟩,r⟩
 | rng lo hi=>obtain ⟨t,u,v,e⟩:=x;exact ⟨t,u,v,k _ _ (.inl rfl) e⟩
 | frz ob u ih=>obtain ⟨e,q⟩:=x;exact ⟨k _ _ (.inl rfl) e,ih q⟩
 | tbl ps=>
  have e:h.get? a=some {cls:= .none,data:= .fields ps}:=x
  show h'.get? a=some {cls:= .none,data:= .fields ps}
  exact k a _ (.inl rfl) e
 | met f y=>
  have e:h.get? a=some (W.methodObj (.ref f) (.ref y)):=x
  show h'.get? a=some (W.methodObj (.ref f) (.ref y))
  exact k a _ (.inl rfl) e
 | ext φ=>obtain ⟨p,⟨o,e⟩,st⟩:=x;exact ⟨st _ _ p λo q=>k _ _ (.inl rfl) q,⟨o,k _ _ (.inl rfl) e⟩,st⟩
theorem HOk.lt (x:HOk P w H h) (e:H a=some o):a<h.objs.size:=(x a o e).lt
theorem HOk.fresh (x:HOk P w H h) (e:h.objs.size<=a):H a=none:=by
 cases q:H a with
 | none=>rfl
 | some u=>exact absurd (qaw (x.lt q) e) (qaN _)
theorem HOk.kept (x:HOk P w H h) (k: ∀ b u,h.get? b=some u->h'.get? b=some u):HOk P w H h':=λa o e=>
 (x a o e).stay (λb u _ q=>k b u q) (λ_ q=>q) λ_ _ q=>q
theorem HOk.laid (x:HOk P w H h) (k: ∀ b u,h.get? b=some u->h'.get? b=some u) (hp:h.objs.size<=a) (new:zbZ P w (upd H a o) h' a o):HOk P w (upd H a o) h':=λb u e=>by
 have hn:=x.fresh hp
 by_cases hb:b=a
 ·subst hb;rw [zaV] at e;cases e;exact new
 ·rw [zaz hb] at e
  exact (x b u e).stay (λc v _ q=>k c v q) (λc q=>by rw [zaz (zaN q hn)];exact q) λc xs q=>by rw [zaz (zaN q hn)];exact q
end
def Rd (H:Hp) (a:Addr) (u:HO):Prop:=H a=some u\/ ∃ o,H a=some (.frz o u)
theorem Rd.ok {P:Program} {w:World} {H:Hp} {h:Heap} {a:Addr} {u:HO} (r:Rd H a u) (x:HOk P w H h):zbZ P w H h a u:=by
 rcases r with r | ⟨o,r⟩
 ·exact x a u r
 ·obtain ⟨_,q⟩:=x a _ r
  exact q
def Mut:Option HO->Prop
 | some (.lst _)=>True
 | some (.dK _)=>True
 | some (.dT _)=>True
 | some (.set _ _)=>True
 | some (.ins _ _ _)=>True
 | some (.ext _)=>True
 | _=>False
section
variable {P:Program} {w:World} {H:Hp} {h h':Heap} {x e:Addr} {o':HO}
theorem HOk.write (ok:HOk P w H h) (mu:Mut (H x)) (he:e=x\/H e=some (.own x)) (k: ∀ b u,b≠e->h.get? b=some u->h'.get? b=some u) (heo: ∃ u,h'.get? e=some u)
  (new:zbZ P w (upd H x o') h' x o'):HOk P w (upd H x o') h':=λb u q=>by
 have nown: ∀ c y,H c=some (.own y)->c≠x:=λc y r z=>by subst z;rw [r] at mu;exact mu
 have ntup: ∀ c xs,H c=some (.tup xs)->c≠x:=λc xs r z=>by subst z;rw [r] at mu;exact mu
 by_cases hb:b=x
 ·subst hb;rw [zaV] at q;cases q;exact new
 ·rw [zaz hb] at q
  by_cases hbe:b=e
  ·have q':H b=some (.own x):=by
    rcases he with z | z
    ·exact absurd (hbe.trans z) hb
    ·rw [hbe];exact z
   rw [q] at q';cases q'
   obtain ⟨v,hv⟩:=heo
   exact ⟨v,by rw [hbe];exact hv⟩
  ·refine (ok b u q).stay (λc v hc r=>k c v ?_ r) (λc r=>by rw [zaz (nown c b r)];exact r) λc xs r=>by rw [zaz (ntup c xs r)];exact r
   rcases hc with rfl | hc
   ·exact hbe
   ·rintro rfl
    rcases he with z | z
    ·exact nown c b hc z
    ·rw [hc] at z;cases z;exact hb rfl
end
structure Un (fs ex:List Addr) (H H':Hp) (h h':Heap):Prop where
 keep: ∀ b o,h.get? b=some o->H b=none->b∉fs->b∉ex->h'.get? b=some o
 slot: ∀ b o,h.get? b=some o->H b=none->b∈fs->b∉ex-> ∃ sl,h'.get? b=some {o with slots:=sl}
 free: ∀ b o,h.get? b=some o->H b=none->b∉ex->H' b=none
 there: ∀ b o,h.get? b=some o->b∉ex-> ∃ o',h'.get? b=some o'
 tups: ∀ b xs,H b=some (.tup xs)->H' b=some (.tup xs)
 frzs: ∀ b o u,H b=some (.frz o u)->H' b=some (.frz o u)
 tbls: ∀ b ps,H b=some (.tbl ps)-> ∃ more,H' b=some (.tbl (ps++more))
section
variable {fs fs' ex ex':List Addr} {H H1 H2:Hp} {h h1 h2 h':Heap} {a x e:Addr} {o:HO}
theorem Un.any (u:Un fs ex H H1 h h1) {b:Addr} {ob:Obj} (q:h.get? b=some ob) (n:H b=none) (hx:b∉ex): ∃ sl,h1.get? b=some {ob with slots:=sl}:=by
 by_cases hb:b∈fs
 ·exact u.slot b ob q n hb hx
 ·exact ⟨ob.slots,u.keep b ob q n hb hx⟩
theorem Un.trans (a:Un fs ex H H1 h h1) (b:Un fs ex H1 H2 h1 h2):Un fs ex H H2 h h2 where
 keep:=λc ob q n hc hx=>b.keep c ob (a.keep c ob q n hc hx) (a.free c ob q n hx) hc hx
 slot:=λc ob q n hc hx=>by
  obtain ⟨sl,e1⟩:=a.slot c ob q n hc hx
  obtain ⟨sl',e2⟩:=b.slot c _ e1 (a.free c ob q n hx) hc hx
  exact ⟨sl',e2⟩
 free:=λc ob q n hx=>by
  obtain ⟨o',e1⟩:=a.there c ob q hx
  exact b.free c o' e1 (a.free c ob q n hx) hx
 there:=λc ob q hx=>by
  obtain ⟨o',e1⟩:=a.there c ob q hx
  exact b.there c o' e1 hx
 tups:=λc xs q=>b.tups c xs (a.tups c xs q)
 frzs:=λc ob xs q=>b.frzs c ob xs (a.frzs c ob xs q)
 tbls:=λc ps q=>by
  obtain ⟨m1,e1⟩:=a.tbls c ps q
  obtain ⟨m2,e2⟩:=b.tbls c _ e1
  exact ⟨m1++m2,by rw [e2,Array.append_assoc]⟩
theorem Un.kept (k: ∀ b u,h.get? b=some u->h'.get? b=some u):Un fs ex H H h h':=
 ⟨λb ob q _ _ _=>k b ob q,λb ob q _ _ _=>⟨ob.slots,k b ob q⟩,λ_ _ _ n _=>n,λb ob q _=>⟨ob,k b ob q⟩,λ_ _ q=>q,λ_ _ _ q=>q,λ_ ps q=>⟨#[],by rw [q];simp⟩⟩
theorem Un.refl:Un fs ex H H h h:=Un.kept λ_ _ q=>q
theorem Un.laid (k: ∀ b u,h.get? b=some u->h'.get? b=some u) (hp:h.objs.size<=a) (hn:H a=none):Un fs ex H (upd H a o) h h' where
 keep:=λb u q _ _ _=>k b u q
 slot:=λb u q _ _ _=>⟨u.slots,k b u q⟩
 free:=λb u q n _=>by rw [zaz (qaR (qaw (qaQ q) hp))];exact n
 there:=λb u q _=>⟨u,k b u q⟩
 tups:=λb xs q=>by rw [zaz (zaN q hn)];exact q
 frzs:=λb u xs q=>by rw [zaz (zaN q hn)];exact q
 tbls:=λb ps q=>⟨#[],by rw [zaz (zaN q hn),q];simp⟩
theorem Un.write (mu:Mut (H x)) (he:e=x\/H e=some (.own x)) (k: ∀ b u,b≠e->h.get? b=some u->h'.get? b=some u) (heo: ∃ u,h'.get? e=some u):Un fs ex H (upd H x o) h h':=by
 have hx: ∀ b,H b=none->b≠x:=λb n z=>by subst z;rw [n] at mu;exact mu
 have hb: ∀ b,H b=none->b≠e:=λb n z=>by
  subst z
  rcases he with r | r
  ·exact hx b n r
  ·rw [n] at r;cases r
 have hm: ∀ b u,H b=some u-> ¬Mut (some u)->b≠x:=λb u q nm z=>by subst z;rw [q] at mu;exact nm mu
 refine ⟨λb u q n _ _=>k b u (hb b n) q,λb u q n _ _=>⟨u.slots,k b u (hb b n) q⟩,λb u q n _=>by rw [zaz (hx b n)];exact n,λb u q _=> ?_,
   λb xs q=>by rw [zaz (hm b _ q λz=>z)];exact q,λb u xs q=>by rw [zaz (hm b _ q λz=>z)];exact q,λb ps q=>⟨#[],by rw [zaz (hm b _ q λz=>z),q];simp⟩⟩
 by_cases hbe:b=e
 ·subst hbe;exact heo
 ·exact ⟨u,k b u hbe q⟩
end
def trk (h:Heap) (H:Hp):List Addr:=(List.range h.objs.size).filter λa=>(H a).isSome
def zl9 (h:Heap) (H:Hp):Heap:=W.hideAll h (trk h H)
theorem zkg (h:Heap) (H:Hp):(zl9 h H).objs.size=h.objs.size:=W.hideAll_size _ _
theorem zms {h:Heap} {H:Hp} {b:Addr} {o:Obj} (e:h.get? b=some o) (n:H b=none):(zl9 h H).get? b=some o:=
 W.hideAll_get _ e λhm=>by
  have q:(H b).isSome=true:=(mem_filter.mp hm).2
  rw [n] at q;simp at q
theorem zos {h:Heap} {H:Hp} {b:Addr} {o:Obj} (e:(zl9 h H).get? b=some o):h.get? b=some o/\H b=none:=by
 have e':h.get? b=some o:=W.of_hideAll (trk h H) e
 refine ⟨e',?_⟩
 cases q:H b with
 | none=>rfl
 | some x=>
  have hm:b∈trk h H:=mem_filter.mpr ⟨mem_range.mpr (qaQ e'),by simp [q]⟩
  have z:(zl9 h H).get? b=none:=W.hideAll_none (trk h H) hm
  rw [z] at e;cases e
def zpv (g h:Heap) (L:Addr):List (Addr×Obj):=(List.range h.objs.size).filterMap λa=>if a=L\/(g.get? a).isSome=true then none else (h.get? a).map λo=>(a,o)
def rest (g h:Heap) (L d:Addr):List (Addr×Obj):=(zpv g h L).filter λp=>decide (p.1≠d)
structure Mod (K:W.Frag) (mg:Str->Option Value) (base:Heap):Prop where
 kin:K.In base
 glob:base.Ns mainGlobals mg
 blt: ∃ mb,base.Ns builtinsNs mb/\ ∀ x:Str,x≠"__name__"->mb x=bootBuiltins x
 nolimit:base.NoLimit
structure Cx where
 prog:Program
 w:World
 K:W.Frag
 mg:Str->Option Value
 base:Heap
 A:Around
 N:List Str
 s₀:Shared
 H₀:Hp
 env:Env
 outer:List Env
 stack:List Env
 ex:List Addr
 fn:Str->Bool
 calm:Bool
 pn:List (Addr×Obj)
 xe:Value->Shared->Prop
def frs (l:List Env):List Addr:=l.filterMap (·.frame)
abbrev Cx.fs (X:Cx):List Addr:=frs X.outer
def Vis (sc:Scope) (x:Str):Prop:=sc.names.lookup x=some .local\/sc.names.lookup x=some .cell\/sc.names.lookup x=some .free
def Loc (sc:Scope) (x:Str):Prop:=sc.names.lookup x=some .local\/sc.names.lookup x=some .cell
def zud (env:Env) (h:Heap) (m:Str->Option Value) (x:Str) (u:Value):Prop:=
 (env.kindOf x=some .local/\m x=some u)\/((env.kindOf x=some .cell\/env.kindOf x=some .free)/\ ∃ c,env.cells.lookup x=some c/\h.IsCell c (some u))
def zg2 (A:Around) (H:Hp):Prop:=A.handled=none\/ ∃ a o cls head vs,A.handled=some (.ref a)/\H a=some (.frz o (.own 0))/\o.cls=cls/\o.dict=none/\o.data= .fields vs/\vs[2]? = some .none/\vs[1]? = some head
structure Cx.Ok (X:Cx):Prop where
 mod:Mod X.K X.mg X.base
 kind:X.env.scope.kind= .function
 glob:X.env.globals=mainGlobals
 blt:X.env.builtins=builtinsNs
 above:X.s₀.heap.objs.size<=X.env.locals
 inj: ∀ x y c,X.env.cells.lookup x=some c->X.env.cells.lookup y=some c->x=y
 has: ∀ x,(X.env.kindOf x=some .cell\/X.env.kindOf x=some .free)-> ∃ c,X.env.cells.lookup x=some c
 cab: ∀ x c,X.fn x=true->X.env.cells.lookup x=some c->X.s₀.heap.objs.size<=c
 hd:X.calm=true->X.A.handled=none
 hx:zg2 X.A X.H₀
 frames:X.A.frames=some X.stack
 stk:X.stack=X.outer\/(X.stack=X.env::X.outer/\X.env.frame=some X.env.locals)
 exf: ∀ b∈X.ex,b≠X.env.locals/\ ∀ x c,X.env.cells.lookup x=some c->c≠b
 bs: ∀ b o,X.base.get? b=some o->X.s₀.heap.get? b=some o/\X.H₀ b=none
 bsz:X.base.objs.size<=X.s₀.heap.objs.size
 noex: ∀ b o,X.base.get? b=some o->b∉X.ex
 exfs: ∀ b∈X.ex,b∉X.fs
 funs:X.s₀.heap.FunFrames X.base X.outer
 frf: ∀ b∈X.fs,X.H₀ b=none
structure Inv (X:Cx) (pins:List (Addr×Obj)) (σ:List (Option V)) (H:Hp) (s:Shared):Prop where
 ok:X.Ok
 os:s.os=X.s₀.os
 bare:AllBare s.gens
 base:Un X.fs X.ex X.H₀ H X.s₀.heap s.heap
 loc: ∃ m,s.heap.Ns X.env.locals m/\ ∀ (i:Nat) (x:Str) (v:V),X.N[i]? = some x->σ[i]? = some (some v)->Vis X.env.scope x-> ∃ u,zbB v u/\zud X.env s.heap m x u
 cell: ∀ x c,X.env.cells.lookup x=some c-> ∃ v,s.heap.IsCell c v
 free:H X.env.locals=none
 freeC: ∀ x c,X.env.cells.lookup x=some c->H c=none
 pin: ∀ p∈X.pn++pins,s.heap.get? p.1=some p.2/\H p.1=none/\p.1≠X.env.locals/\p.1∉X.fs/\ ∀ v,p.2.data≠ .cell v
 hok:HOk X.prog X.w H s.heap
 len:σ.length=X.N.length
section
variable {X:Cx} {pins:List (Addr×Obj)} {σ:List (Option V)} {H H':Hp} {s:Shared} {h':Heap}
theorem Cx.Ok.nofr (ok:X.Ok) {b:Addr} {o:Obj} (e:X.base.get? b=some o):b∉X.fs:=λhb=>by
 have:=(ok.funs.mem hb).1
 rw [e] at this;cases this
theorem Inv.bs (I:Inv X pins σ H s): ∀ b o,X.base.get? b=some o->s.heap.get? b=some o/\H b=none:=λb o e=>
 ⟨I.base.keep b o (I.ok.bs b o e).1 (I.ok.bs b o e).2 (I.ok.nofr e) (I.ok.noex b o e),I.base.free b o (I.ok.bs b o e).1 (I.ok.bs b o e).2 (I.ok.noex b o e)⟩
theorem Inv.bk (I:Inv X pins σ H s): ∀ b o,X.base.get? b=some o->s.heap.get? b=some o:=λb o e=>(I.bs b o e).1
theorem Inv.mod (I:Inv X pins σ H s):Mod X.K X.mg X.base:=I.ok.mod
theorem Inv.kIn (I:Inv X pins σ H s):X.K.In s.heap:=I.ok.mod.kin.keeps I.bk
theorem Inv.lt (I:Inv X pins σ H s):X.env.locals<s.heap.objs.size:=let ⟨_,hn,_⟩:=I.loc;hn.lt
theorem Inv.sz (I:Inv X pins σ H s):X.s₀.heap.objs.size<=s.heap.objs.size:=qaS I.ok.above (le_of_lt I.lt)
theorem Inv.nofs (I:Inv X pins σ H s) {a:Addr} (h:s.heap.objs.size<=a):a∉X.fs:=λhb=>by
 obtain ⟨_,o,ho,_⟩:=I.ok.funs.mem hb
 exact absurd (qaw (qaQ ho) (qaS I.sz h)) (qaN _)
theorem Inv.cne (I:Inv X pins σ H s): ∀ x c,X.env.cells.lookup x=some c->c≠X.env.locals:=λx c e z=>by
 obtain ⟨v,o,ho,hd⟩:=I.cell x c e
 obtain ⟨m,⟨o',es,ep,ho',hd',_⟩,_⟩:=I.loc
 rw [z,ho'] at ho;cases ho;rw [hd'] at hd;cases hd
theorem Inv.funs (I:Inv X pins σ H s):s.heap.FunFrames X.base X.outer:=by
 have all: ∀ (l:List Env),(∀ b∈frs l,b∈X.fs)->X.s₀.heap.FunFrames X.base l->s.heap.FunFrames X.base l:=by
  intro l
  induction l with
  | nil=>intro _ _;trivial
  | cons env r ih=>
   intro hs hl
   obtain ⟨hk,⟨L,o,hf,hn,ho,hd⟩,hr⟩:=hl
   have hL:L∈X.fs:=hs L (by unfold frs;rw [qat,hf];exact qau)
   obtain ⟨sl,e⟩:=I.base.slot L o ho (I.ok.frf L hL) hL λz=>I.ok.exfs L z hL
   exact ⟨hk,⟨L,_,hf,hn,e,hd⟩,ih (λb hb=>hs b (by unfold frs;rw [qat,hf];exact qan _ hb)) hr⟩
 exact all X.outer (λ_ hb=>hb) I.ok.funs
theorem Inv.stack (I:Inv X pins σ H s):s.heap.FunFrames X.base X.stack:=by
 rcases I.ok.stk with e | ⟨e,hf⟩
 ·rw [e];exact I.funs
 ·rw [e]
  obtain ⟨m,hn,_⟩:=I.loc
  refine .cons (by rw [I.ok.kind];decide) hf hn ?_ I.funs
  exact Heap.get?_none_of_le (qaS I.ok.bsz I.ok.above)
theorem Inv.stkSub (I:Inv X pins σ H s): ∀ b∈frs X.stack,b∈X.env.locals::X.fs:=λb hb=>by
 rcases I.ok.stk with e | ⟨e,hf⟩
 ·rw [e] at hb;exact qan _ hb
 ·rw [e] at hb
  unfold frs at hb
  rw [qat,hf] at hb
  exact hb
theorem Inv.stkFree (I:Inv X pins σ H s): ∀ b∈frs X.stack,H b=none:=λb hb=>by
 rcases qaP.mp (I.stkSub b hb) with e | hb
 ·rw [e];exact I.free
 ·obtain ⟨_,o,ho,_⟩:=I.ok.funs.mem hb
  exact I.base.free b o ho (I.ok.frf b hb) λz=>I.ok.exfs b z hb
theorem Inv.step {g':Array GenState} {t':Nat} {d':Drawn} {ch:List Addr} (I:Inv X pins σ H s)
  (hch: ∀ b∈ch,(b∈X.ex\/X.s₀.heap.objs.size<=b)/\b≠X.env.locals/\(∀ x c,X.env.cells.lookup x=some c->c≠b)/\ ∀ p∈X.pn++pins,p.1≠b)
  (keep: ∀ b o,b≠X.env.locals->b∉X.fs->b∉ch->s.heap.get? b=some o->H b=none->h'.get? b=some o)
  (slot: ∀ b o,b≠X.env.locals->b∈X.fs->b∉ch->s.heap.get? b=some o->H b=none-> ∃ sl,h'.get? b=some {o with slots:=sl}) (free: ∀ b o,b∉ch->s.heap.get? b=some o->H b=none->H' b=none)
  (there: ∀ b o,b∉ch->s.heap.get? b=some o-> ∃ o',h'.get? b=some o')
  (tups: ∀ b xs,H b=some (.tup xs)->H' b=some (.tup xs)) (frzs: ∀ b o u,H b=some (.frz o u)->H' b=some (.frz o u)) (tbls: ∀ b ps,H b=some (.tbl ps)-> ∃ more,H' b=some (.tbl (ps++more)))
  (ns: ∀ m,s.heap.Ns X.env.locals m->h'.Ns X.env.locals m) (hok:HOk X.prog X.w H' h') (hg:AllBare g'):
  Inv X pins σ H' {s with heap:=h',gens:=g',drawn:=d',toks:=t'}:=by
 have neL: ∀ b o,X.s₀.heap.get? b=some o->b≠X.env.locals:=λb o e=>qaR (qaw (qaQ e) I.ok.above)
 have neC: ∀ b o,X.s₀.heap.get? b=some o->b∉X.ex->b∉ch:=λb o e hx hb=>by
  rcases (hch b hb).1 with z | z
  ·exact hx z
  ·exact absurd (qaw (qaQ e) z) (qaN _)
 have cellK: ∀ x c,X.env.cells.lookup x=some c-> ∀ v,s.heap.IsCell c v->h'.IsCell c v:=λx c e v ⟨o,ho,hd⟩=>by
  have nch:c∉ch:=λz=>(hch c z).2.2.1 x c e rfl
  by_cases hc:c∈X.fs
  ·obtain ⟨sl,q⟩:=slot c o (I.cne x c e) hc nch ho (I.freeC x c e)
   exact ⟨_,q,hd⟩
  ·exact ⟨o,keep c o (I.cne x c e) hc nch ho (I.freeC x c e),hd⟩
 refine ⟨I.ok,I.os,hg,⟨λb o e n hb hx=> ?_,λb o e n hb hx=> ?_,λb o e n hx=> ?_,λb o e hx=> ?_,λb xs e=>tups b xs (I.base.tups b xs e),λb o xs e=>frzs b o xs (I.base.frzs b o xs e),λb ps e=> ?_⟩,?_,λx c e=> ?_,?_,λx c e=> ?_,λp hp=> ?_,hok,I.len⟩
 ·exact keep b o (neL b o e) hb (neC b o e hx) (I.base.keep b o e n hb hx) (I.base.free b o e n hx)
 ·obtain ⟨sl,e1⟩:=I.base.slot b o e n hb hx
  obtain ⟨sl',e2⟩:=slot b _ (neL b o e) hb (neC b o e hx) e1 (I.base.free b o e n hx)
  exact ⟨sl',e2⟩
 ·obtain ⟨o',e1⟩:=I.base.there b o e hx
  exact free b o' (neC b o e hx) e1 (I.base.free b o e n hx)
 ·obtain ⟨o',e1⟩:=I.base.there b o e hx
  exact there b o' (neC b o e hx) e1
 ·obtain ⟨m1,e1⟩:=I.base.tbls b ps e
  obtain ⟨m2,e2⟩:=tbls b _ e1
  exact ⟨m1++m2,by rw [e2,Array.append_assoc]⟩
 ·obtain ⟨m,hn,hl⟩:=I.loc
  refine ⟨m,ns m hn,λi x v e1 e2 e3=> ?_⟩
  obtain ⟨u,r,l⟩:=hl i x v e1 e2 e3
  refine ⟨u,r,?_⟩
  rcases l with l | ⟨k,c,e,z⟩
  ·exact .inl l
  ·exact .inr ⟨k,c,e,cellK x c e _ z⟩
 ·obtain ⟨v,z⟩:=I.cell x c e
  exact ⟨v,cellK x c e v z⟩
 ·obtain ⟨m,⟨o,_,_,ho,_⟩,_⟩:=I.loc
  exact free _ o (λz=>(hch _ z).2.1 rfl) ho I.free
 ·obtain ⟨v,o,ho,hd⟩:=I.cell x c e
  exact free c o (λz=>(hch c z).2.2.1 x c e rfl) ho (I.freeC x c e)
 ·obtain ⟨e,n,ne,nf,d⟩:=I.pin p hp
  have nch:p.1∉ch:=λz=>(hch p.1 z).2.2.2 p hp rfl
  exact ⟨keep p.1 p.2 ne nf nch e n,free p.1 p.2 nch e n,ne,nf,d⟩
theorem Inv.un {t':Nat} (I:Inv X pins σ H s) (u:Un X.fs [] H H' s.heap h') (hok:HOk X.prog X.w H' h'):Inv X pins σ H' {s with heap:=h',toks:=t'}:=by
 obtain ⟨m,⟨o,es,ep,ho,r⟩,_⟩:=id I.loc
 obtain ⟨sl,hL⟩:=u.any ho I.free (by simp)
 exact I.step (g':=s.gens) (d':=s.drawn) (ch:=[]) (λ_ z=>nomatch z) (λb o _ hb _ e n=>u.keep b o e n hb (by simp)) (λb o _ hb _ e n=>u.slot b o e n hb (by simp)) (λb o _ e n=>u.free b o e n (by simp)) (λb o _ e=>u.there b o e (by simp)) u.tups u.frzs u.tbls (λm' hm=>by
   obtain ⟨o',es',ep',ho',r'⟩:=hm
   rw [ho] at ho';cases ho'
   exact ⟨_,es',ep',hL,r'⟩) hok I.bare
theorem Inv.call {g':Array GenState} {t':Nat} {d':Drawn} {ch:List Addr} (I:Inv X pins σ H s) (u:Un (frs X.stack) ch H H' s.heap h') (hok:HOk X.prog X.w H' h') (hg:AllBare g')
  (hch: ∀ b∈ch,(b∈X.ex\/X.s₀.heap.objs.size<=b)/\b≠X.env.locals/\(∀ x c,X.env.cells.lookup x=some c->c≠b)/\ ∀ p∈X.pn++pins,p.1≠b):
  Inv X pins σ H' {s with heap:=h',gens:=g',drawn:=d',toks:=t'}:=by
 obtain ⟨m,⟨o,es,ep,ho,r⟩,_⟩:=id I.loc
 obtain ⟨sl,hL⟩:=u.any ho I.free λz=>(hch _ z).2.1 rfl
 exact I.step (ch:=ch) hch (λb o hL hb hc e n=>u.keep b o e n (λz=>(qaP.mp (I.stkSub b z)).elim hL hb) hc) (λb o _ _ hc e n=>u.any e n hc) (λb o hc e n=>u.free b o e n hc) (λb o hc e=>u.there b o e hc) u.tups u.frzs u.tbls (λm' hm=>by
   obtain ⟨o',es',ep',ho',r'⟩:=hm
   rw [ho] at ho';cases ho'
   exact ⟨_,es',ep',hL,r'⟩) hok hg
theorem Inv.turned {t':Nat} {it:Addr} (I:Inv X pins σ H s) (k: ∀ b o,b≠it->s.heap.get? b=some o->h'.get? b=some o) (hn:H it=none) (hL:it≠X.env.locals)
  (h1:it∈X.ex\/X.s₀.heap.objs.size<=it) (h2: ∀ x c,X.env.cells.lookup x=some c->c≠it) (h3: ∀ p∈X.pn++pins,p.1≠it):Inv X pins σ H {s with heap:=h',toks:=t'}:=by
 have nit: ∀ b u,H b=some u->b≠it:=λb u e z=>by rw [z,hn] at e;cases e
 refine I.step (g':=s.gens) (d':=s.drawn) (ch:=[it]) (λb hb=> ?_) (λb o _ _ hc e _=>k b o (λz=>hc (by simp [z])) e) (λb o _ _ hc e _=>⟨o.slots,k b o (λz=>hc (by simp [z])) e⟩) (λ_ _ _ _ n=>n)
  (λb o hc e=>⟨o,k b o (λz=>hc (by simp [z])) e⟩) (λ_ _ e=>e) (λ_ _ _ e=>e) (λb ps e=>⟨#[],by rw [e];simp⟩) (λm hm=> ?_) (λb u e=> ?_) I.bare
 ·have e:b=it:=by simpa using hb
  subst e
  exact ⟨h1,hL,h2,h3⟩
 ·obtain ⟨o,es,ep,ho,r⟩:=hm
  exact ⟨o,es,ep,k _ o (Ne.symm hL) ho,r⟩
 ·refine (I.hok b u e).stay (λc v hc q=>k c v ?_ q) (λ_ q=>q) λ_ _ q=>q
  rcases hc with z | z
  ·rw [z];exact nit b u e
  ·exact nit c _ z
theorem Inv.tok (I:Inv X pins σ H s) (t:Nat):Inv X pins σ H {s with toks:=t}:=I.un (h':=s.heap) (t':=t) Un.refl I.hok
theorem Inv.kept {t':Nat} (I:Inv X pins σ H s) (k: ∀ b u,s.heap.get? b=some u->h'.get? b=some u):Inv X pins σ H {s with heap:=h',toks:=t'}:=I.un (Un.kept k) (I.hok.kept k)
theorem Inv.laid {a:Addr} {o:HO} {t':Nat} (I:Inv X pins σ H s) (k: ∀ b u,s.heap.get? b=some u->h'.get? b=some u) (hp:s.heap.objs.size<=a) (new:zbZ X.prog X.w (upd H a o) h' a o):
  Inv X pins σ (upd H a o) {s with heap:=h',toks:=t'}:=I.un (Un.laid k hp (I.hok.fresh hp)) (I.hok.laid k hp new)
theorem Inv.write {x e:Addr} {o:HO} {t':Nat} (I:Inv X pins σ H s) (mu:Mut (H x)) (he:e=x\/H e=some (.own x)) (k: ∀ b u,b≠e->s.heap.get? b=some u->h'.get? b=some u) (heo: ∃ u,h'.get? e=some u)
  (new:zbZ X.prog X.w (upd H x o) h' x o):Inv X pins σ (upd H x o) {s with heap:=h',toks:=t'}:=I.un (Un.write mu he k heo) (I.hok.write mu he k heo new)
theorem Inv.pins_of {pins':List (Addr×Obj)} (I:Inv X pins σ H s) (h: ∀ p∈pins',s.heap.get? p.1=some p.2/\H p.1=none/\p.1≠X.env.locals/\p.1∉X.fs/\ ∀ v,p.2.data≠ .cell v):Inv X pins' σ H s:=
 ⟨I.ok,I.os,I.bare,I.base,I.loc,I.cell,I.free,I.freeC,λp hp=>(qaK.mp hp).elim (λz=>I.pin p (List.mem_append_left _ z)) (h p),I.hok,I.len⟩
theorem zfB {N:List Str} (hN:N.Nodup) {i j:Nat} {x:Str} (a:N[i]? = some x) (b:N[j]? = some x):i=j:=by
 obtain ⟨h1,e1⟩:=qac.mp a
 obtain ⟨h2,e2⟩:=qac.mp b
 exact (List.getElem_inj hN).mp (e1.trans e2.symm)
theorem zg8 {M:Model} {A:Around} {E:Value->Shared->Prop} {i:Nat} {x:Str} {v:V} {u:Value} {Q:Unit->Shared->Prop} (I:Inv X pins σ H s) (hN:X.N.Nodup) (hi:X.N[i]? = some x) (hx:Loc X.env.scope x) (r:zbB v u)
  (h: ∀ s',Inv X pins (σ.set i (some v)) H s'->(∃ a,Heap.SameBut a s.heap s'.heap/\(a=X.env.locals\/X.env.cells.lookup x=some a))->Q () s') (hf:X.fn x=true\/X.env.scope.names.lookup x=some .local:=by first | exact .inl rfl | exact .inr rfl | assumption):wpAny M A (storeName X.env x u) Q E s:=by
 obtain ⟨m,hn,hl⟩:=id I.loc
 have hcls:(X.env.scope.kind== .class || (X.env.scope.kind== .module && X.env.locals != X.env.globals))=false:=by rw [I.ok.kind];rfl
 have hiσ:i<σ.length:=by rw [I.len];exact (qac.mp hi).1
 have cne:=I.cne
 have tracked: ∀ {a:Addr} {h':Heap},(∃ o,s.heap.get? a=some o/\H a=none)->Heap.SameBut a s.heap h'->HOk X.prog X.w H h':=λ{a h'} ha hs b ob e=>by
  obtain ⟨_,_,hfree⟩:=ha
  refine (I.hok b ob e).stay (λc w' hc q=>(hs.2 c ?_).trans q) (λ_ q=>q) λ_ _ q=>q
  rintro rfl
  rcases hc with rfl | hc
  ·rw [hfree] at e;cases e
  ·rw [hfree] at hc;cases hc
 rcases hx with hk | hk
 ·refine wpAny_storeName_local hk hn (λh' hn' hs=> ?_) hcls
  obtain ⟨oL,_,_,hoL,_⟩:=id hn
  refine h _ ⟨I.ok,I.os,I.bare,⟨λb o e n hb hx=> ?_,λb o e n hb hx=> ?_,I.base.free,λb o e hx=> ?_,I.base.tups,I.base.frzs,I.base.tbls⟩,⟨_,hn',λj y v' e1 e2 e3=> ?_⟩,λy c e=> ?_,I.free,I.freeC,λp hp=> ?_,tracked ⟨oL,hoL,I.free⟩ hs,by simpa using I.len⟩ ⟨_,hs,.inl rfl⟩
  ·exact (hs.2 b (qaR (qaw (qaQ e) I.ok.above))).trans (I.base.keep b o e n hb hx)
  ·obtain ⟨sl,e1⟩:=I.base.slot b o e n hb hx
   exact ⟨sl,(hs.2 b (qaR (qaw (qaQ e) I.ok.above))).trans e1⟩
  ·obtain ⟨o',e1⟩:=I.base.there b o e hx
   exact ⟨o',(hs.2 b (qaR (qaw (qaQ e) I.ok.above))).trans e1⟩
  ·by_cases hj:j=i
   ·subst hj
    rw [hi] at e1;cases e1
    rw [qai hiσ] at e2
    cases e2
    exact ⟨u,r,.inl ⟨hk,by simp⟩⟩
   ·rw [qao (Ne.symm hj)] at e2
    obtain ⟨u',r',q⟩:=hl j y v' e1 e2 e3
    refine ⟨u',r',?_⟩
    rcases q with ⟨k,e⟩ | ⟨k,c,e,z⟩
    ·refine .inl ⟨k,?_⟩
     have:y≠x:=λe=>hj (zfB hN e1 (e▸hi))
     simp [this,e]
    ·exact .inr ⟨k,c,e,z.sameBut hs (cne y c e)⟩
  ·obtain ⟨w',z⟩:=I.cell y c e
   exact ⟨w',z.sameBut hs (cne y c e)⟩
  ·obtain ⟨e,n,ne,nf,d⟩:=I.pin p hp
   exact ⟨(hs.2 p.1 ne).trans e,n,ne,nf,d⟩
 ·have hfn:X.fn x=true:=by
   rcases hf with z | z
   ·exact z
   ·rw [z] at hk;cases hk
  obtain ⟨c,hc⟩:=I.ok.has x (.inl hk)
  obtain ⟨w',z⟩:=I.cell x c hc
  refine wpAny_storeName_cell I.ok.kind hk hc z (λh' hc' hs=> ?_)
  obtain ⟨oc,hoc,hocd⟩:=id z
  refine h {s with heap:=h'} ⟨I.ok,I.os,I.bare,⟨λb o e n hb hx=> ?_,λb o e n hb hx=> ?_,I.base.free,λb o e hx=> ?_,I.base.tups,I.base.frzs,I.base.tbls⟩,⟨m,hn.sameBut hs (Ne.symm (cne x c hc)),λj y v' e1 e2 e3=> ?_⟩,λy c' e=> ?_,I.free,I.freeC,λp hp=> ?_,tracked ⟨oc,hoc,I.freeC x c hc⟩ hs,by simpa using I.len⟩ ⟨c,hs,.inr hc⟩
  ·exact (hs.2 b (qaR (qaw (qaQ e) (I.ok.cab x c hfn hc)))).trans (I.base.keep b o e n hb hx)
  ·obtain ⟨sl,e1⟩:=I.base.slot b o e n hb hx
   exact ⟨sl,(hs.2 b (qaR (qaw (qaQ e) (I.ok.cab x c hfn hc)))).trans e1⟩
  ·obtain ⟨o',e1⟩:=I.base.there b o e hx
   exact ⟨o',(hs.2 b (qaR (qaw (qaQ e) (I.ok.cab x c hfn hc)))).trans e1⟩
  ·by_cases hj:j=i
   ·subst hj
    rw [hi] at e1;cases e1
    rw [qai hiσ] at e2
    cases e2
    exact ⟨u,r,.inr ⟨.inl hk,c,hc,hc'⟩⟩
   ·rw [qao (Ne.symm hj)] at e2
    obtain ⟨u',r',q⟩:=hl j y v' e1 e2 e3
    refine ⟨u',r',?_⟩
    rcases q with q | ⟨k,c',e,z'⟩
    ·exact .inl q
    ·refine .inr ⟨k,c',e,z'.sameBut hs ?_⟩
     rintro rfl
     exact hj (zfB hN e1 (I.ok.inj _ _ _ e hc▸hi))
  ·by_cases hcc:c'=c
   ·subst hcc;exact ⟨_,hc'⟩
   ·obtain ⟨w2,z2⟩:=I.cell y c' e
    exact ⟨w2,z2.sameBut hs hcc⟩
  ·obtain ⟨e,n,ne,nf,d⟩:=I.pin p hp
   refine ⟨(hs.2 p.1 ?_).trans e,n,ne,nf,d⟩
   intro q
   rw [q,hoc] at e
   have q':oc=p.2:=Option.some.inj e
   exact d w' (by rw [<- q'];exact hocd)
theorem zc7 {M:Model} {A:Around} {E:Value->Shared->Prop} {i:Nat} {x:Str} {v:V} {u:Value} {Q:Unit->Shared->Prop} (I:Inv X pins σ H s) (hN:X.N.Nodup) (hi:X.N[i]? = some x) (hx:Loc X.env.scope x) (r:zbB v u)
  (h: ∀ s',Inv X pins (σ.set i (some v)) H s'->Q () s') (hf:X.fn x=true\/X.env.scope.names.lookup x=some .local:=by first | exact .inl rfl | exact .inr rfl | assumption):wpAny M A (storeName X.env x u) Q E s:=
 zg8 I hN hi hx r (λs' I' _=>h s' I') hf
theorem Inv.call' {s':Shared} {ch:List Addr} (I:Inv X pins σ H s) (ho:s'.os=s.os) (u:Un (frs X.stack) ch H H' s.heap s'.heap) (hok:HOk X.prog X.w H' s'.heap) (hg:AllBare s'.gens)
  (hch: ∀ b∈ch,(b∈X.ex\/X.s₀.heap.objs.size<=b)/\b≠X.env.locals/\(∀ x c,X.env.cells.lookup x=some c->c≠b)/\ ∀ p∈X.pn++pins,p.1≠b):Inv X pins σ H' s':=by
 obtain ⟨h',g',d',t',o'⟩:=s'
 have e:o'=s.os:=ho
 subst e
 exact I.call (g':=g') (t':=t') (d':=d') u hok hg hch
end
abbrev XK:=Value->Option Addr->Hp->Prop
abbrev St:=List (Option V)
abbrev VK:=V->Hp->Prop
abbrev TE:=St->Hp->VK->Prop
abbrev TT:=St->Hp->(Bool->Hp->Prop)->Prop
abbrev TA:=St->Hp->(List V->Hp->Prop)->Prop
structure znx where
 nx:St->Hp->Prop
 rt:VK
 bk:St->Hp->Prop:=λ_ _=>False
 ct:St->Hp->Prop:=λ_ _=>False
abbrev TS:=znx->St->Hp->Prop
def EP (X:Cx) (pins:List (Addr×Obj)) (σ:St) (Q:VK) (u:Value) (s':Shared):Prop:= ∃ v H',Inv X pins σ H' s'/\zbB v u/\Q v H'
def TP (X:Cx) (pins:List (Addr×Obj)) (σ:St) (Q:Bool->Hp->Prop) (b:Bool) (s':Shared):Prop:= ∃ H',Inv X pins σ H' s'/\Q b H'
def AP (X:Cx) (pins:List (Addr×Obj)) (σ:St) (Q:List V->Hp->Prop) (us:List Value) (s':Shared):Prop:= ∃ vs H',Inv X pins σ H' s'/\za7 vs us/\Q vs H'
def SP (X:Cx) (pins:List (Addr×Obj)) (D:znx) (f:Flow) (s':Shared):Prop:=
 match f with
 | .next=> ∃ σ' H',Inv X pins σ' H' s'/\D.nx σ' H'
 | .brk=> ∃ σ' H',Inv X pins σ' H' s'/\D.bk σ' H'
 | .cont=> ∃ σ' H',Inv X pins σ' H' s'/\D.ct σ' H'
 | .ret u=> ∃ v σ' H',Inv X pins σ' H' s'/\zbB v u/\D.rt v H'
def PE (X:Cx) (e:Expr) (t:TE):Prop:=
 ∀ (pins:List (Addr×Obj)) (s:Shared) (σ:St) (H:Hp) (Q:VK),Inv X pins σ H s->t σ H Q->wpAny (model X.prog X.w) X.A (eval e X.env) (EP X pins σ Q) X.xe s
def PT (X:Cx) (e:Expr) (t:TT):Prop:=
 ∀ (pins:List (Addr×Obj)) (s:Shared) (σ:St) (H:Hp) (Q:Bool->Hp->Prop),Inv X pins σ H s->t σ H Q->wpAny (model X.prog X.w) X.A (isTrue e X.env (eval e X.env)) (TP X pins σ Q) X.xe s
def PW (X:Cx) (e:Expr) (t:TT):Prop:=
 ∀ (whole:Sem Value) (pins:List (Addr×Obj)) (s:Shared) (σ:St) (H:Hp) (Q:Bool->Hp->Prop),Inv X pins σ H s->t σ H Q->wpAny (model X.prog X.w) X.A (isTrue e X.env whole) (TP X pins σ Q) X.xe s
theorem PW.pt {X:Cx} {e:Expr} {t:TT} (h:PW X e t):PT X e t:=h _
def PA (X:Cx) (es:List Expr) (t:TA):Prop:=
 ∀ (pos:Pos) (pins:List (Addr×Obj)) (s:Shared) (σ:St) (H:Hp) (Q:List V->Hp->Prop),Inv X pins σ H s->t σ H Q->wpAny (model X.prog X.w) X.A (spliced (backTo pos (starEach es X.env))) (AP X pins σ Q) X.xe s
def PS (X:Cx) (st:Stmt) (t:TS):Prop:=
 ∀ (pins:List (Addr×Obj)) (s:Shared) (σ:St) (H:Hp) (D:znx),Inv X pins σ H s->t D σ H->wpAny (model X.prog X.w) X.A (exec st X.env) (SP X pins D) X.xe s
def PSs (X:Cx) (st:List Stmt) (t:TS):Prop:=
 ∀ (pins:List (Addr×Obj)) (s:Shared) (σ:St) (H:Hp) (D:znx),Inv X pins σ H s->t D σ H->wpAny (model X.prog X.w) X.A (execs st X.env) (SP X pins D) X.xe s
theorem thn {α:Type} {t:Sem α} {Q Q':α->Shared->Prop} {M:Model} {A:Around} {E:Value->Shared->Prop} {s:Shared} (h:wpAny M A t Q E s) (hQ: ∀ a s,Q a s->Q' a s):wpAny M A t Q' E s:=qaZ h hQ λ_ _ x=>x
section
variable {X:Cx}
def ztN (i:Nat):TE:=λσ H Q=> ∃ v,σ[i]? = some (some v)/\Q v H
def tC (v:V):TE:=λ_ H Q=>Q v H
theorem znk {i:Nat} {x:Str} {pos:Pos} (hN:X.N[i]? = some x) (hv:Vis X.env.scope x) (hd:(x==("__debug__":Str))=false:=by decide) (hcd:(x==("__classdict__":Str))=false:=by decide):PE X (.Name x pos) (ztN i):=by
 intro pins s σ H Q I h
 obtain ⟨v,e,h⟩:=h
 obtain ⟨m,hn,hl⟩:=I.loc
 obtain ⟨u,r,l⟩:=hl i x v hN e hv
 have fin:EP X pins σ Q u s:=⟨v,H,I,r,h⟩
 rcases l with ⟨hk,hm⟩ | ⟨hk,c,hc,hcell⟩
 ·exact wpAny_Name (wpAny_loadName_local I.ok.kind hk hn hm fin) hd
 ·rcases hk with hk | hk
  ·exact wpAny_Name (wpAny_loadName_cell I.ok.kind hk hc hcell fin) hd
  ·exact wpAny_Name (wpAny_loadName_free I.ok.kind hk hc hcell fin hcd) hd
theorem znt {i j pos}:PE X (.Constant (.int i) j pos) (tC (.int i)):=λ_ _ _ H _ I h=>wpAny_Constant_int ⟨.int i,H,I.tok _,⟨_,rfl⟩,h⟩
theorem zqo {b j pos}:PE X (.Constant (.bool b) j pos) (tC (.bl b)):=λ_ _ _ H _ I h=>Constant_bool ⟨.bl b,H,I,rfl,h⟩
theorem zrN {j pos}:PE X (.Constant .none j pos) (tC .non):=λ_ _ _ H _ I h=>Constant_none ⟨.non,H,I,rfl,h⟩
theorem znH {x j pos}:PE X (.Constant (.str x) j pos) (tC (.str x)):=λ_ _ _ H _ I h=>Calls.Constant_str ⟨.str x,H,I.tok _,⟨_,rfl⟩,h⟩
def Gl (X:Cx) (x:Str):Prop:=X.env.kindOf x=some .globalImplicit
theorem zhr {E:Value->Shared->Prop} {pins:List (Addr×Obj)} {s:Shared} {σ:St} {H:Hp} {x:Str} {u:Value} {pos:Pos} {Q:Value->Shared->Prop} (I:Inv X pins σ H s) (hg:Gl X x) (hm:X.mg x=some u) (h:Q u s)
  (hd:(x==("__debug__":Str))=false:=by decide):wpAny (model X.prog X.w) X.A (eval (.Name x pos) X.env) Q E s:=
 Calls.Name_function_global I.ok.kind hg (Calls.loadGlobal_global (by rw [I.ok.glob];exact I.mod.glob.keeps I.bk) hm h) hd
theorem zh3 {E:Value->Shared->Prop} {pins:List (Addr×Obj)} {s:Shared} {σ:St} {H:Hp} {x:Str} {u:Value} {pos:Pos} {Q:Value->Shared->Prop} (I:Inv X pins σ H s) (hg:Gl X x) (hm:X.mg x=none) (hv:bootBuiltins x=some u) (h:Q u s)
  (hn:x≠"__name__":=by decide) (hd:(x==("__debug__":Str))=false:=by decide):wpAny (model X.prog X.w) X.A (eval (.Name x pos) X.env) Q E s:=by
 obtain ⟨mb,h1,h2⟩:=I.mod.blt
 exact Calls.Name_function_global I.ok.kind hg (Calls.loadGlobal_builtin (by rw [I.ok.glob];exact I.mod.glob.keeps I.bk) hm (by rw [I.ok.blt];exact h1.keeps I.bk) ((h2 x hn).trans hv) h) hd
theorem zfD {x:Str} {v:V} {u:Value} {pos:Pos} (hg:Gl X x) (hm:X.mg x=some u) (r:zbB v u) (hd:(x==("__debug__":Str))=false:=by decide):PE X (.Name x pos) (tC v):=
 λ_ _ _ H _ I h=>zhr I hg hm ⟨v,H,I,r,h⟩ hd
theorem zlj {x:Str} {v:V} {u:Value} {pos:Pos} (hg:Gl X x) (hm:X.mg x=none) (hv:bootBuiltins x=some u) (r:zbB v u) (hn:x≠"__name__":=by decide) (hd:(x==("__debug__":Str))=false:=by decide):PE X (.Name x pos) (tC v):=
 λ_ _ _ H _ I h=>zh3 I hg hm hv ⟨v,H,I,r,h⟩ hn hd
def t2I (ta tb:TE) (k:Int->Int->Hp->Prop):St->Hp->Prop:=λσ H=>ta σ H λx H1=>tb σ H1 λy H2=> ∃ i j,x= .int i/\y= .int j/\k i j H2
variable {a b:Expr} {ta tb:TE} {pos:Pos}
def zbq (p:Int->Int->Bool) (ta tb:TE):TE:=λσ H Q=>t2I ta tb (λi j H2=>Q (.bl (p i j)) H2) σ H
def tB (t:TE):TT:=λσ H Q=>t σ H λx H1=> ∃ c,x= .bl c/\Q c H1
theorem zsc {e:Expr} {t:TE} (h:PE X e t) (he: ∀ whole,isTrue e X.env whole=(do let v<-whole;standAt e.pos;holding [v] (truthy v)):=by intro _;rfl):PT X e (tB t):=by
 intro pins s σ H Q I hw
 refine isTrue_plain (thn (h pins s σ H _ I hw) λv s1 ⟨x,H1,I1,r1,q1⟩=> ?_) (he _)
 obtain ⟨d,rfl,q⟩:=q1
 cases r1
 exact wpAny_truthy_bool ⟨H1,I1,q⟩
variable {tA tB':TT} {rest:List Expr}
def zpL (t u:TT):TT:=λσ H Q=>t σ H λc H1=>if c=true then u σ H1 Q else Q false H1
def tOr (t u:TT):TT:=λσ H Q=>t σ H λc H1=>if c=true then Q true H1 else u σ H1 Q
def zhe (t:TT):TT:=λσ H Q=>t σ H λc H1=>Q (!c) H1
theorem pw_and1 (ha:PT X a tA):PW X (.BoolOp .And [a] pos) tA:=by
 intro wh pins s σ H Q I h
 refine isTrue_and (thn (ha pins s σ H Q I h) λc s1 e=> ?_)
 cases c with
 | true=>exact isTrue_and_nil e
 | false=>exact e
theorem pw_or1 (ha:PT X a tA):PW X (.BoolOp .Or [a] pos) tA:=by
 intro wh pins s σ H Q I h
 refine isTrue_or (thn (ha pins s σ H Q I h) λc s1 e=> ?_)
 cases c with
 | false=>exact isTrue_or_nil e
 | true=>exact e
theorem pw_and (ha:PT X a tA) (hb:PW X (.BoolOp .And (b::rest) pos) tB'):PW X (.BoolOp .And (a::b::rest) pos) (zpL tA tB'):=by
 intro wh pins s σ H Q I h
 refine isTrue_and (thn (ha pins s σ H _ I h) λc s1 ⟨H1,I1,q1⟩=> ?_)
 cases c with
 | true=>exact hb wh pins s1 σ H1 Q I1 q1
 | false=>exact ⟨H1,I1,q1⟩
theorem pw_or (ha:PT X a tA) (hb:PW X (.BoolOp .Or (b::rest) pos) tB'):PW X (.BoolOp .Or (a::b::rest) pos) (tOr tA tB'):=by
 intro wh pins s σ H Q I h
 refine isTrue_or (thn (ha pins s σ H _ I h) λc s1 ⟨H1,I1,q1⟩=> ?_)
 cases c with
 | true=>exact ⟨H1,I1,q1⟩
 | false=>exact hb wh pins s1 σ H1 Q I1 q1
theorem zrs (ha:PT X a tA):PT X (.UnaryOp .Not a pos) (zhe tA):=by
 intro pins s σ H Q I h
 exact isTrue_not (ha pins s σ H (λc H1=>Q (!c) H1) I h)
def zsV (ta tb:TE):TE:=λσ H Q=>ta σ H λx H1=> ∃ c,x= .bl c/\if c=true then tb σ H1 Q else Q (.bl false) H1
def zuy (ta tb:TE):TE:=λσ H Q=>ta σ H λx H1=> ∃ c,x= .bl c/\if c=true then Q (.bl true) H1 else tb σ H1 Q
def ztg (ta:TE):TE:=λσ H Q=>ta σ H λx H1=> ∃ c,x= .bl c/\Q (.bl (!c)) H1
theorem zrI {op} {t:TE} (h:PE X a t):PE X (.BoolOp op [a] pos) t:=λpins s σ H Q I hw=>BoolOp_one (h pins s σ H Q I hw)
theorem zqM (ha:PE X a ta) (hb:PE X (.BoolOp .And (b::rest) pos) tb):PE X (.BoolOp .And (a::b::rest) pos) (zsV ta tb):=by
 intro pins s σ H Q I h
 refine BoolOp_and (thn (ha pins s σ H _ I h) λv s1 ⟨x,H1,I1,r1,q1⟩=> ?_)
 obtain ⟨c,rfl,q1⟩:=q1
 cases r1
 refine wpAny_truthy_bool ?_
 cases c with
 | true=>exact hb pins s1 σ H1 Q I1 q1
 | false=>exact ⟨.bl false,H1,I1,rfl,q1⟩
theorem zst (ha:PE X a ta) (hb:PE X (.BoolOp .Or (b::rest) pos) tb):PE X (.BoolOp .Or (a::b::rest) pos) (zuy ta tb):=by
 intro pins s σ H Q I h
 refine BoolOp_or (thn (ha pins s σ H _ I h) λv s1 ⟨x,H1,I1,r1,q1⟩=> ?_)
 obtain ⟨c,rfl,q1⟩:=q1
 cases r1
 refine wpAny_truthy_bool ?_
 cases c with
 | false=>exact hb pins s1 σ H1 Q I1 q1
 | true=>exact ⟨.bl true,H1,I1,rfl,q1⟩
theorem zrO (ha:PE X a ta):PE X (.UnaryOp .Not a pos) (ztg ta):=by
 intro pins s σ H Q I h
 refine UnaryOp_ (thn (ha pins s σ H _ I h) λv s1 ⟨x,H1,I1,r1,q1⟩=> ?_)
 obtain ⟨c,rfl,q1⟩:=q1
 cases r1
 exact not_of (wpAny_truthy_bool ⟨.bl (!c),H1,I1,rfl,q1⟩)
def tIf (t:TT) (ta tb:TE):TE:=λσ H Q=>t σ H λc H1=>if c=true then ta σ H1 Q else tb σ H1 Q
theorem zme {c:Expr} (hc:PT X c tA) (ha:PE X a ta) (hb:PE X b tb):PE X (.IfExp c a b pos) (tIf tA ta tb):=by
 intro pins s σ H Q I h
 refine wpAny_IfExp (thn (hc pins s σ H _ I h) λd s1 ⟨H1,I1,q1⟩=> ?_)
 cases d with
 | true=>exact ha pins s1 σ H1 Q I1 q1
 | false=>exact hb pins s1 σ H1 Q I1 q1
end
def SqL (K:W.Frag) (H:Hp) (a:Addr) (xs:List V):Prop:=
 Rd H a (.lst xs)\/
  ∃ (o:Obj) (its:Array Value) (n:Nat),K.lookup a=some o/\o.cls= .type "list"/\o.dict=none/\o.data= .seq its n/\its.size<=sizeLine/\za7 xs its.toList
def SqT (K:W.Frag) (H:Hp) (a:Addr) (xs:List V):Prop:=
 Rd H a (.tup xs)\/
  ∃ (o:Obj) (its:Array Value) (n:Nat),K.lookup a=some o/\o.cls= .type "tuple"/\o.dict=none/\o.data= .seq its n/\its.size<=sizeLine/\za7 xs its.toList
def zui:Value->Option V
 | .none=>some .non
 | .bool b=>some (.bl b)
 | .int i _=>some (.int i)
 | .str x _=>some (.str x)
 | .bytes b _=>some (.byt b)
 | .float b _=>some (.flt b)
 | .ref a=>some (.ref a)
 | .type n=>some (.ty n)
 | _=>none
theorem zbB.abs {x:V} {u:Value} (r:zbB x u):zui u=some x:=by
 cases x with
 | non=>cases r;rfl
 | bl _=>cases r;rfl
 | int _=>obtain ⟨t,rfl⟩:=r;rfl
 | str _=>obtain ⟨t,rfl⟩:=r;rfl
 | byt _=>obtain ⟨t,rfl⟩:=r;rfl
 | flt _=>obtain ⟨t,rfl⟩:=r;rfl
 | ref _=>cases r;rfl
 | ty _=>cases r;rfl
theorem zbB.inj {x y:V} {u:Value} (r:zbB x u) (q:zbB y u):x=y:=Option.some.inj (r.abs.symm.trans q.abs)
theorem za7.inj: ∀ {xs ys:List V} {us:List Value},za7 xs us->za7 ys us->xs=ys
 | _,_,_,.nil,.nil=>rfl
 | _,_,_,.cons r t,.cons r' t'=>by rw [r.inj r',za7.inj t t']
section
variable {X:Cx} {pins:List (Addr×Obj)} {σ:St} {H:Hp} {s:Shared} {a:Addr} {xs ys:List V}
theorem SqL.of {K:W.Frag} (h:H a=some (.lst xs)):SqL K H a xs:= .inl (.inl h)
theorem Inv.list (I:Inv X pins σ H s) (h:SqL X.K H a xs): ∃ its:List Value,za7 xs its/\PlainL s.heap a its.toArray/\xs.length<=sizeLine:=by
 rcases h with h | ⟨o,its,n,hk,hc,hd,hs,hz,r⟩
 ·obtain ⟨z,its,n,r,e⟩:=h.ok I.hok
  exact ⟨its,r,⟨_,n,e,rfl,rfl,rfl⟩,z⟩
 ·refine ⟨its.toList,r,⟨o,n,I.kIn a o hk,hc,hd,by simpa using hs⟩,?_⟩
  have e:=r.length
  simp only [qas] at e
  omega
theorem Inv.tupleD (I:Inv X pins σ H s) (h:SqT X.K H a xs): ∃ its:List Value,za7 xs its/\zlG s.heap a its.toArray/\xs.length<=sizeLine:=by
 rcases h with h | ⟨o,its,n,hk,hc,hd,hs,hz,r⟩
 ·obtain ⟨z,its,r,p⟩:=h.ok I.hok
  exact ⟨its,r,p,z⟩
 ·refine ⟨its.toList,r,⟨o,I.kIn a o hk,hc,n,by simpa using hs,hd⟩,?_⟩
  have e:=r.length
  simp only [qas] at e
  omega
theorem Inv.tuple (I:Inv X pins σ H s) (h:SqT X.K H a xs): ∃ its:List Value,za7 xs its/\IsTup s.heap a its.toArray/\xs.length<=sizeLine:=by
 obtain ⟨its,r,p,z⟩:=I.tupleD h
 exact ⟨its,r,p.is,z⟩
theorem Inv.list_inj (I:Inv X pins σ H s) (h:SqL X.K H a xs) (h':SqL X.K H a ys):xs=ys:=by
 obtain ⟨its,r,⟨o,n,e,_,_,d⟩,_⟩:=I.list h
 obtain ⟨its',r',⟨o',n',e',_,_,d'⟩,_⟩:=I.list h'
 rw [e] at e';cases e'
 rw [d] at d'
 injection d' with d1 _
 have:its=its':=by simpa using congrArg Array.toList d1
 subst this
 exact r.inj r'
theorem Inv.tuple_inj (I:Inv X pins σ H s) (h:SqT X.K H a xs) (h':SqT X.K H a ys):xs=ys:=by
 obtain ⟨its,r,⟨o,e,_,n,d⟩,_⟩:=I.tuple h
 obtain ⟨its',r',⟨o',e',_,n',d'⟩,_⟩:=I.tuple h'
 rw [e] at e';cases e'
 rw [d] at d'
 injection d' with d1 _
 have:its=its':=by simpa using congrArg Array.toList d1
 subst this
 exact r.inj r'
end
abbrev Cx.wish (X:Cx) (E:Value->Shared->Prop):Cx:={X with xe:=E}
abbrev Cx.nox (X:Cx):Cx:=X.wish λ_ _=>False
theorem Cx.Ok.wish {X:Cx} (ok:X.Ok) (E:Value->Shared->Prop):(X.wish E).Ok:=
 ⟨ok.mod,ok.kind,ok.glob,ok.blt,ok.above,ok.inj,ok.has,ok.cab,ok.hd,ok.hx,ok.frames,ok.stk,ok.exf,ok.bs,ok.bsz,ok.noex,ok.exfs,ok.funs,ok.frf⟩
theorem Cx.Ok.unwish {X:Cx} {E:Value->Shared->Prop} (ok:(X.wish E).Ok):X.Ok:=
 ⟨ok.mod,ok.kind,ok.glob,ok.blt,ok.above,ok.inj,ok.has,ok.cab,ok.hd,ok.hx,ok.frames,ok.stk,ok.exf,ok.bs,ok.bsz,ok.noex,ok.exfs,ok.funs,ok.frf⟩
section
variable {X:Cx} {pins:List (Addr×Obj)} {σ:St} {H:Hp} {s:Shared} {E:Value->Shared->Prop}
theorem Inv.wish (I:Inv X pins σ H s) (E:Value->Shared->Prop):Inv (X.wish E) pins σ H s:=⟨I.ok.wish E,I.os,I.bare,I.base,I.loc,I.cell,I.free,I.freeC,I.pin,I.hok,I.len⟩
theorem Inv.unwish (I:Inv (X.wish E) pins σ H s):Inv X pins σ H s:=⟨I.ok.unwish,I.os,I.bare,I.base,I.loc,I.cell,I.free,I.freeC,I.pin,I.hok,I.len⟩
theorem SP.unwish {D:znx} {f:Flow} {s':Shared} (h:SP (X.wish E) pins D f s'):SP X pins D f s':=by
 cases f with
 | next=>obtain ⟨σ',H',I,q⟩:=h;exact ⟨σ',H',I.unwish,q⟩
 | brk=>obtain ⟨σ',H',I,q⟩:=h;exact ⟨σ',H',I.unwish,q⟩
 | cont=>obtain ⟨σ',H',I,q⟩:=h;exact ⟨σ',H',I.unwish,q⟩
 | ret u=>obtain ⟨v,σ',H',I,r,q⟩:=h;exact ⟨v,σ',H',I.unwish,r,q⟩
theorem PSs.nox {st:List Stmt} {t:TS} (h:PSs X.nox st t):PSs X st t:=λpins s σ H D I hw=>
 qaZ (h pins s σ H D (I.wish _) hw) (λ_ _ q=>q.unwish) λ_ _ z=>qa0 z
end
section
variable {X:Cx} {st:Stmt} {rest:List Stmt} {t u:TS} {e:Expr} {te:TE} {pos:Pos}
def zte:TS:=λD σ H=>D.nx σ H
def zuu (t u:TS):TS:=λD σ H=>t {D with nx:=u D} σ H
theorem zpg:PSs X [] zte:=λ_ _ σ H _ I h=>wpAny_execs_nil ⟨σ,H,I,h⟩
theorem zmE (h1:PS X st t) (h2:PSs X rest u):PSs X (st::rest) (zuu t u):=by
 intro pins s σ H D I h
 refine wpAny_execs_cons (thn (h1 pins s σ H {D with nx:=u D} I h) λf s1 q=> ?_)
 cases f with
 | next=>
  obtain ⟨σ',H',I',q⟩:=q
  exact h2 pins s1 σ' H' D I' q
 | ret v=>exact q
 | brk=>exact q
 | cont=>exact q
theorem zoI (h1:PS X st t):PSs X [st] t:=by
 intro pins s σ H D I h
 refine wpAny_execs_cons (thn (h1 pins s σ H D I h) λf s1 q=> ?_)
 cases f with
 | next=>exact wpAny_execs_nil q
 | ret v=>exact q
 | brk=>exact q
 | cont=>exact q
theorem Inv.quiet {pins:List (Addr×Obj)} {σ:St} {H:Hp} {s:Shared} (I:Inv X pins σ H s):interactive X.env=false:=by simp [interactive,I.ok.kind]
def ztl (te:TE):TS:=λD σ H=>te σ H λ_ H1=>D.nx σ H1
theorem zpk (he:PE X e te) (hs:swapsWith e none pos.line X.env=pure false:=by rfl):PS X (.Expr e pos) (ztl te):=by
 intro pins s σ H D I h
 exact wpAny_Expr_any (thn (he pins s σ H _ I h) λv s1 ⟨x,H1,I1,r1,q1⟩=>⟨σ,H1,I1,q1⟩) I.quiet hs
def zt6 (te:TE):TS:=λD σ H=>te σ H D.rt
theorem zqy (he:PE X e te):PS X (.Return (some e) pos) (zt6 te):=by
 intro pins s σ H D I h
 exact wpAny_Return_some (thn (he pins s σ H _ I h) λv s1 ⟨x,H1,I1,r1,q1⟩=>⟨x,σ,H1,I1,r1,q1⟩)
def zuw (c:TT) (t u:TS):TS:=λD σ H=>c σ H λb H1=>if b=true then t D σ H1 else u D σ H1
theorem zsJ {c:Expr} {a b:List Stmt} {tc:TT} (hc:PT X c tc) (ha:PSs X a t) (hb:PSs X b u):PS X (.If c a b pos) (zuw tc t u):=by
 intro pins s σ H D I h
 refine wpAny_If (thn (hc pins s σ H _ I h) λd s1 ⟨H1,I1,q1⟩=> ?_)
 cases d with
 | true=>exact ha pins s1 σ H1 D I1 q1
 | false=>exact hb pins s1 σ H1 D I1 q1
end
abbrev TG:=V->St->Hp->(St->Hp->Prop)->Prop
abbrev TGs:=List V->St->Hp->(St->Hp->Prop)->Prop
def PG (X:Cx) (target:Expr) (t:TG):Prop:=
 ∀ (pins:List (Addr×Obj)) (s:Shared) (σ:St) (H:Hp) (v:V) (u:Value) (Q:St->Hp->Prop),Inv X pins σ H s->zbB v u->t v σ H Q->
  wpAny (model X.prog X.w) X.A (assign target X.env u) (λ_ s'=> ∃ σ' H',Inv X pins σ' H' s'/\Q σ' H') X.xe s
def PGs (X:Cx) (ts:List Expr) (t:TGs):Prop:=
 ∀ (pins:List (Addr×Obj)) (s:Shared) (σ:St) (H:Hp) (vs:List V) (us:List Value) (Q:St->Hp->Prop),Inv X pins σ H s->za7 vs us->t vs σ H Q->
  wpAny (model X.prog X.w) X.A (assignInOrder ((assignEach ts X.env).map (·.2)) us) (λ_ s'=> ∃ σ' H',Inv X pins σ' H' s'/\Q σ' H') X.xe s
abbrev zsl:=V->V->V->Hp->(Hp->Prop)->Prop
def zsY (X:Cx) (t:zsl):Prop:=
 ∀ (pins:List (Addr×Obj)) (s:Shared) (σ:St) (H:Hp) (o i v:V) (ov iv u:Value) (Q:Hp->Prop),Inv X pins σ H s->zbB o ov->zbB i iv->zbB v u->t o i v H Q->
  wpAny (model X.prog X.w) X.A (setItem ov iv u) (λ_ s'=> ∃ H',Inv X pins σ H' s'/\Q H') X.xe s
section
variable {X:Cx} {pos:Pos}
def zlK (i:Nat):TG:=λv σ H Q=>Q (σ.set i (some v)) H
theorem zpy {i:Nat} {x:Str} (hN:X.N.Nodup) (hi:X.N[i]? = some x) (hx:Loc X.env.scope x) (hf:X.fn x=true\/X.env.scope.names.lookup x=some .local:=by first | exact .inl rfl | exact .inr rfl | assumption):PG X (.Name x pos) (zlK i):=by
 intro pins s σ H v u Q I r h
 exact wpAny_assign_Name (zc7 I hN hi hx r (λs' I'=>⟨_,H,I',h⟩) hf)
def zug:TGs:=λvs σ H Q=>vs=[]/\Q σ H
def zs1 (t:TG) (u:TGs):TGs:=λvs σ H Q=> ∃ v r,vs=v::r/\t v σ H λσ' H'=>u r σ' H' Q
theorem zoP:PGs X [] zug:=by
 intro pins s σ H vs us Q I r h
 obtain ⟨e,h⟩:=h
 subst e
 cases r
 exact assignInOrder_nil ⟨σ,H,I,h⟩
theorem zlN {e:Expr} {es:List Expr} {t:TG} {u:TGs} (h1:PG X e t) (h2:PGs X es u)
  (hs:(assignEach (e::es) X.env).map (·.2)=assign e X.env::(assignEach es X.env).map (·.2):=by rfl):PGs X (e::es) (zs1 t u):=by
 intro pins s σ H vs us Q I r h
 obtain ⟨v,vr,e1,h⟩:=h
 subst e1
 cases r with
 | cons r rr=>
  rw [hs]
  refine assignInOrder_cons (thn (h1 pins s σ H _ _ _ I r h) λ_ s1 ⟨σ1,H1,I1,q1⟩=> ?_)
  exact h2 pins s1 σ1 H1 _ _ Q I1 rr q1
def zur (K:W.Frag) (n:Nat) (t:TGs):TG:=λv σ H Q=> ∃ a xs,v= .ref a/\SqT K H a xs/\xs.length=n/\t xs σ H Q
theorem zqb {es:List Expr} {k:Nat} {t:TGs} {n:Nat} (hc:X.calm=true) (h:PGs X es t)
  (hn:(assignEach es X.env).length=n:=by rfl) (hst:(assignEach es X.env).findIdx? (·.1)=none:=by rfl):PG X (.Tuple es k pos) (zur X.K n t):=by
 intro pins s σ H v u Q I r hw
 obtain ⟨a,xs,e1,hq,hl,hw⟩:=hw
 subst e1
 cases r
 obtain ⟨its,rv,ht,hz⟩:=I.tuple hq
 refine assign_Tuple_tuple (I.ok.hd hc) ht (by simp [hn, <-hl,rv.length]) hst λh' hx=> ?_
 have I1:Inv X pins σ H {s with heap:=h'}:=I.kept (t':=s.toks) λb o e=>hx b o (qaR (qaQ e)) e
 exact h pins _ σ H xs _ Q I1 (by simpa using rv) hw
def ztO (to ti:TE) (t:zsl):TG:=λv σ H Q=>to σ H λo H1=>ti σ H1 λi H2=>t o i v H2 λH3=>Q σ H3
theorem zr0 {o i:Expr} {to ti:TE} {t:zsl} (ho:PE X o to) (hi:PE X i ti) (hs:zsY X t)
  (ha: ∀ v,assign (.Subscript o i pos) X.env v=(do
    let ov<-holding [v] (eval o X.env)
    let iv<-holding [v,ov] (eval i X.env)
    standAt pos
    holding [v,ov,iv] (setItem ov iv v)
    release [v,ov,iv] []):=by intro _;rfl):PG X (.Subscript o i pos) (ztO to ti t):=by
 intro pins s σ H v u Q I r h
 rw [ha]
 refine qaW (qaO (thn (ho pins s σ H _ I h) λov s1 ⟨x,H1,I1,r1,q1⟩=> ?_))
 refine qaW (qaO (thn (hi pins s1 σ H1 _ I1 q1) λiv s2 ⟨y,H2,I2,r2,q2⟩=> ?_))
 refine qaW (wpAny_standAt (qaW (qaO (thn (hs pins s2 σ H2 x y v ov iv u _ I2 r1 r2 r q2) λ_ s3 ⟨H3,I3,q3⟩=> ?_))))
 exact wpAny_release ⟨σ,H3,I3,q3⟩
def zsk (te:TE) (g:TG):TS:=λD σ H=>te σ H λx H1=>g x σ H1 D.nx
theorem zq3 {tg e:Expr} {te:TE} {g:TG} (he:PE X e te) (hg:PG X tg g) (hs:swapsWithSole [tg] e pos.line X.env=pure false:=by rfl) (hw:swappedStores [tg] e X.env=pure none:=by rfl)
  (h1:(assignEach [tg] X.env).map (·.2)=[assign tg X.env]:=by rfl):PS X (.Assign [tg] e pos) (zsk te g):=by
 intro pins s σ H D I h
 refine wpAny_Assign_stores (thn (he pins s σ H _ I h) λv s1 ⟨x,H1,I1,r1,q1⟩=> ?_) hs hw
 rw [h1]
 exact thn (hg pins s1 σ H1 x v _ I1 r1 q1) λ_ s2 q=>q
theorem zri {i:Nat} {x:Str} {e:Expr} {te:TE} {pos':Pos} (hN:X.N.Nodup) (hi:X.N[i]? = some x) (hx:Loc X.env.scope x) (he:PE X e te) (hs:swapsWith e (some (.Name x pos')) pos.line X.env=pure false:=by rfl) (hf:X.fn x=true\/X.env.scope.names.lookup x=some .local:=by first | exact .inl rfl | exact .inr rfl | assumption):
  PS X (.Assign [.Name x pos'] e pos) (zsk te (zlK i)):=by
 intro pins s σ H D I h
 refine wpAny_Assign_Name (thn (he pins s σ H _ I h) λv s1 ⟨y,H1,I1,r1,q1⟩=> ?_) hs
 exact zc7 I1 hN hi hx r1 (λs2 I2=>⟨_,H1,I2,q1⟩) hf
def ztT (i j:Nat) (ta:TA):TS:=λD σ H=>ta σ H λvs H1=> ∃ v w,vs=[v,w]/\D.nx ((σ.set i (some v)).set j (some w)) H1
theorem zpV {i j:Nat} {x y:Str} {a b:Expr} {ta:TA} {px py pt:Pos} {kt k2 pt2} (hc:X.calm=true) (hN:X.N.Nodup) (hi:X.N[i]? = some x) (hj:X.N[j]? = some y) (hij:i≠j)
  (hx:X.env.scope.names.lookup x=some .local) (hy:X.env.scope.names.lookup y=some .local) (ha:PA X [a,b] ta)
  (hw:swappedStores [.Tuple [.Name x px,.Name y py] kt pt] (.Tuple [a,b] k2 pt2) X.env=pure (some [x,y]))
  (hs:swapsWithSole [.Tuple [.Name x px,.Name y py] kt pt] (.Tuple [a,b] k2 pt2) pos.line X.env=pure false:=by rfl):
  PS X (.Assign [.Tuple [.Name x px,.Name y py] kt pt] (.Tuple [a,b] k2 pt2) pos) (ztT i j ta):=by
 intro pins s σ H D I h
 rw [exec_Assign_arm]
 refine qaW (wpAny_standAt ?_)
 rw [hs]
 refine qaW (qaX ?_)
 rw [qa5 (by decide)]
 refine qaW (Tuple_ (thn (ha _ pins s σ H _ I h) λus s1 ⟨vs,H1,I1,r1,q1⟩=> ?_))
 obtain ⟨v,w,e1,q1⟩:=q1
 subst e1
 obtain ⟨u1,u2,rfl,rv,rw'⟩: ∃ u1 u2,us=[u1,u2]/\zbB v u1/\zbB w u2:=by
  cases r1 with
  | cons p q=>
   cases q with
   | cons p' q'=>
    cases q'
    exact ⟨_,_,rfl,p,p'⟩
 refine qaC ?_ (by show 2<=sizeLine;decide)
 have I2:Inv X pins σ H1 {s1 with heap:=s1.heap.push {cls:= .type "tuple",data:= .seq [u1,u2].toArray}}:=I1.kept (t':=s1.toks) λb o e=>qag _ e
 rw [hw]
 refine qaW (qaX ?_)
 show wpAny (model X.prog X.w) X.A (do rule "assign.swapped-stores";let items<-unpackItems (.ref s1.heap.objs.size) 2 none;assignInOrder [λv=>bindName X.env y v,λv=>bindName X.env x v] items.reverse;pure Flow.next) _ _ _
 refine qaW (wpAny_rule (qaW (unpackItems_tuple (items:= #[u1,u2]) (I.ok.hd hc) (IsTup.new s1.heap _) λh' hx'=> ?_)))
 have I3:=I2.kept (h':=h') (t':=s1.toks) λb o e=>hx' b o (qaR (qaQ e)) e
 show wpAny _ _ (assignInOrder [λv=>bindName X.env y v,λv=>bindName X.env x v] [u2,u1]>>=λ_=>pure Flow.next) _ _ _
 refine qaW (assignInOrder_cons (wpAny_bindName (zc7 I3 hN hj (.inl hy) rw' (λs2 I4=> ?_) (.inr hy))))
 refine assignInOrder_cons (wpAny_bindName (zc7 I4 hN hi (.inl hx) rv (λs3 I5=>assignInOrder_nil (qaX ?_)) (.inr hx)))
 rw [List.set_comm _ _ (Ne.symm hij)] at I5
 exact ⟨_,H1,I5,q1⟩
end
section
variable {X:Cx} {pos:Pos}
def zq9 (c:TT) (tb:TS):TS:=λD σ H=> ∃ W:Nat->St->Hp->Prop,(∃ m,W m σ H)/\ ∀ m σ H,W m σ H->
 c σ H λb H1=>if b=true then ∃ N:St->Hp->Prop,(∀ σ' H',N σ' H'-> ∃ m',m'<m/\W m' σ' H')/\tb {D with nx:=N,ct:=N,bk:=D.nx} σ H1 else D.nx σ H1
theorem zmg {c:Expr} {body:List Stmt} {tc:TT} {tb:TS} (hp:PassesOwn (model X.prog X.w) X.A X.env X.xe) (hc:PT X c tc) (hb:PSs X body tb):PS X (.While c body [] pos) (zq9 tc tb):=by
 intro pins s σ H D I h
 obtain ⟨W,⟨m0,w0⟩,turn⟩:=h
 refine wpAny_While (codeAny_whileLoop (λn s'=> ∃ σ' H',Inv X pins σ' H' s'/\W n σ' H') ?_ m0 ⟨σ,H,I,w0⟩)
 rintro n s1 ⟨σ1,H1,I1,w1⟩
 refine wpAny_passesOwn hp (thn (hc pins s1 σ1 H1 _ I1 (turn n σ1 H1 w1)) λb s2 ⟨H2,I2,q2⟩=> ?_)
 cases b with
 | true=>
  obtain ⟨N,hN,q2⟩:=q2
  rw [qa4 rfl]
  refine wpAny_passesOwn hp (thn (hb pins s2 σ1 H2 _ I2 q2) λf s3 q3=> ?_)
  cases f with
  | next=>
   obtain ⟨σ3,H3,I3,n3⟩:=q3
   obtain ⟨m',hm,w3⟩:=hN σ3 H3 n3
   exact ⟨m',hm,σ3,H3,I3,w3⟩
  | cont=>
   obtain ⟨σ3,H3,I3,n3⟩:=q3
   obtain ⟨m',hm,w3⟩:=hN σ3 H3 n3
   exact ⟨m',hm,σ3,H3,I3,w3⟩
  | brk=>exact q3
  | ret v=>exact q3
 | false=>
  rw [qa5 Bool.false_ne_true]
  exact wpAny_execs_nil ⟨σ1,H2,I2,q2⟩
end
structure It where
 go:Nat->Hp->Prop
 yld:Nat->Hp->V->Hp->Prop
 stop:Nat->Hp->Prop
def zjc (X:Cx) (pins:List (Addr×Obj)) (H:Hp) (b:Addr):Prop:=
 H b=none/\b≠X.env.locals/\b∉X.fs/\(b∈X.ex\/X.s₀.heap.objs.size<=b)/\(∀ x c,X.env.cells.lookup x=some c->c≠b)/\ ∀ p∈X.pn++pins,p.1≠b
theorem Inv.fpOk {X:Cx} {pins:List (Addr×Obj)} {σ:St} {H H':Hp} {s:Shared} {b:Addr} (I:Inv X pins σ H s) (hb:s.heap.objs.size<=b) (hn:H' b=none):zjc X pins H' b:=by
 refine ⟨hn,ne_of_gt (qaw I.lt hb),I.nofs hb,.inr (qaS I.sz hb),λx c e z=> ?_,λp hp z=> ?_⟩
 ·obtain ⟨v,q⟩:=I.cell x c e
  exact absurd (qaw q.lt (by rw [z];exact hb)) (qaN _)
 ·exact absurd (qaw (qaQ (I.pin p hp).1) (by rw [z];exact hb)) (qaN _)
structure zoa (P:Program) (w:World) (K:W.Frag) (tg:Expr) (J:It) (fp:List Addr) (it:Addr) (tn:Nat->Heap->Prop):Prop where
 mem:it∈fp
 obj: ∀ i h,tn i h-> ∀ b∈fp, ∃ o,h.get? b=some o/\ ∀ v,o.data≠ .cell v
 keep: ∀ i h h',tn i h->(∀ b∈fp, ∀ o,h.get? b=some o->h'.get? b=some o)->tn i h'
 item: ∀ (X:Cx),X.prog=P->X.w=w->X.K=K-> ∀ (i:Nat) (pins:List (Addr×Obj)) (s:Shared) (σ:St) (H:Hp) (E:Value->Shared->Prop),Inv X pins σ H s->(∀ b∈fp,zjc X pins H b)->tn i s.heap->J.go i H->
  wpAny (model P w) X.A (pyNext (.ref it)) (λr s1=> ∃ u,r=some u/\
    wpAny (model P w) X.A (letOwnedTupleGo tg (.ref it) u) (λ_ s2=> ∃ x H',Inv X pins σ H' s2/\zbB x u/\J.yld i H x H'/\tn (i+1) s2.heap/\ ∀ b∈fp,H' b=none) E s1) E s
 done: ∀ (X:Cx),X.prog=P->X.w=w->X.K=K-> ∀ (i:Nat) (pins:List (Addr×Obj)) (s:Shared) (σ:St) (H:Hp) (E:Value->Shared->Prop),Inv X pins σ H s->(∀ b∈fp,zjc X pins H b)->tn i s.heap->J.stop i H->
  wpAny (model P w) X.A (pyNext (.ref it)) (λr s1=>r=none/\Inv X pins σ H s1) E s
 self: ∀ (A:Around) (i:Nat) (s:Shared) (Q:Value->Shared->Prop) (E:Value->Shared->Prop),tn i s.heap->Q (.ref it) s->wpAny (model P w) A (pyIter (.ref it)) Q E s
abbrev TI:=St->Hp->(It->Hp->Prop)->Prop
def PIE (X:Cx) (pins:List (Addr×Obj)) (σ:St) (tg:Expr) (R:It->Hp->Prop) (itv:Value) (s2:Shared):Prop:=
 ∃ (it:Addr) (fp:List Addr) (tn:Nat->Heap->Prop) (J:It) (H':Hp),itv= .ref it/\Inv X pins σ H' s2/\zoa X.prog X.w X.K tg J fp it tn/\tn 0 s2.heap/\(∀ b∈fp,zjc X pins H' b)/\R J H'
def PI (X:Cx) (tg iter:Expr) (wi:TI):Prop:=
 ∀ (pins:List (Addr×Obj)) (s:Shared) (σ:St) (H:Hp) (R:It->Hp->Prop),Inv X pins σ H s->wi σ H R->
  wpAny (model X.prog X.w) X.A (eval iter X.env) (λv s1=>wpAny (model X.prog X.w) X.A (pyIter v) (PIE X pins σ tg R) X.xe s1) X.xe s
theorem zmy {M:Model} {A:Around} {E:Value->Shared->Prop} {s:Shared} {tg:Expr} {it:Addr} {u:Value} {o:Obj} {n:String} {vs:Array Value} {Q:Unit->Shared->Prop} (ho:s.heap.get? it=some o) (hc:o.cls= .type n) (hd:o.data= .fields vs)
  (hn:["enumerate","zip","dict_itemiterator","dict_reverseitemiterator","odict_iterator","itertools.zip_longest","itertools.pairwise"].contains n=false) (hQ:Q () s):wpAny M A (letOwnedTupleGo tg (.ref it) u) Q E s:=by
 unfold letOwnedTupleGo
 cases tg<;>first
  | exact qaX hQ
  | (cases u<;>first
      | exact qaX hQ
      | (refine qaW (wpAny_load ho ?_)
         rw [hc,hd]
         show wpAny M A (if (["enumerate","zip","dict_itemiterator","dict_reverseitemiterator","odict_iterator","itertools.zip_longest","itertools.pairwise"].contains n && vs[0]? == some (rawInt _))=true then _ else _) Q E s
         rw [qa5 (by intro h;rw [hn,Bool.false_and] at h;cases h)]
         exact qaX hQ))
def Itl (K:W.Frag) (a:Addr):It:=
 ⟨λi H=> ∃ xs x,SqL K H a xs/\xs[i]? = some x,λi H x H'=>H'=H/\ ∀ xs,SqL K H a xs->xs[i]? = some x,λi H=> ∃ xs,SqL K H a xs/\xs.length<=i⟩
def Itt (K:W.Frag) (a:Addr):It:=
 ⟨λi H=> ∃ xs x,SqT K H a xs/\xs[i]? = some x,λi H x H'=>H'=H/\ ∀ xs,SqT K H a xs->xs[i]? = some x,λi H=> ∃ xs,SqT K H a xs/\xs.length<=i⟩
def Itr (lo:Int) (n:Nat):It:=⟨λi _=>i<n,λi H x H'=>H'=H/\x= .int (lo+i),λi _=>n<=i⟩
theorem zg2.keep {A:Around} {H H':Hp} (x:zg2 A H) (k: ∀ b o u,H b=some (.frz o u)->H' b=some (.frz o u)):zg2 A H':=by
 rcases x with x | ⟨a,o,cls,head,vs,x1,x2,x3⟩
 ·exact .inl x
 ·exact .inr ⟨a,o,cls,head,vs,x1,k _ _ _ x2,x3⟩
theorem zg2.at_ {A:Around} {P:Program} {w:World} {H:Hp} {h:Heap} (x:zg2 A H) (ok:HOk P w H h):L3.zn0 A h:=by
 rcases x with x | ⟨a,o,cls,head,vs,x1,x2,x3⟩
 ·exact .inl x
 ·exact .inr ⟨a,cls,head,x1,o,vs,(ok a _ x2).1,x3⟩
theorem Inv.handA {X:Cx} {pins:List (Addr×Obj)} {σ:St} {H:Hp} {s:Shared} (I:Inv X pins σ H s):zg2 X.A H:=I.ok.hx.keep I.base.frzs
theorem Inv.hand {X:Cx} {pins:List (Addr×Obj)} {σ:St} {H:Hp} {s:Shared} (I:Inv X pins σ H s):L3.zn0 X.A s.heap:=I.handA.at_ I.hok
theorem zkJ {P:Program} {w:World} {K:W.Frag} {tg:Expr} (a it:Addr):zoa P w K tg (Itl K a) [it] it (λi h=>h.IsListIter it a i) where
 mem:=by simp
 obj:=λi h st b hb=>by
  have e:b=it:=by simpa using hb
  subst e
  obtain ⟨o,e,c,d⟩:=st
  exact ⟨o,e,λv z=>by rw [d] at z;cases z⟩
 keep:=λi h h' st k=>st.at λo e=>k it (by simp) o e
 item:=by
  intro X hP hw hK i pins s σ H E I hf st hg
  subst hP hw hK
  obtain ⟨xs,x,hq,hx⟩:=hg
  obtain ⟨its,rv,p,hz⟩:=I.list hq
  obtain ⟨u,hu,ru⟩:=rv.get hx
  obtain ⟨f0,f1,f2,f3,f4,f5⟩:=hf it (by simp)
  refine wpAny_pyNext_list_item st p.isList (x:=u) (by simpa using hu) λh' st' sb=> ?_
  have I1:Inv X pins σ H {s with heap:=h'}:=I.turned (t':=s.toks) (λb o hb e=>(sb.2 b hb).trans e) f0 f1 f3 f4 f5
  obtain ⟨o,e,c,d⟩:=id st'
  exact ⟨u,rfl,zmy (s:={s with heap:=h'}) e c d (by decide) ⟨x,H,I1,ru,⟨rfl,λys hy=>by rw [I.list_inj hy hq];exact hx⟩,st',λb hb=>(hf b hb).1⟩⟩
 done:=by
  intro X hP hw hK i pins s σ H E I hf st hg
  subst hP hw hK
  obtain ⟨xs,hq,hx⟩:=hg
  obtain ⟨its,rv,p,hz⟩:=I.list hq
  obtain ⟨f0,f1,f2,f3,f4,f5⟩:=hf it (by simp)
  have hl:=rv.length
  exact L3.ziA I.hand st p.isList (by simp;omega) λh' eb=>⟨rfl,I.turned (t':=s.toks) (λb o hb e=>eb b o hb e) f0 f1 f3 f4 f5⟩
 self:=λ_ _ _ _ _ st h=>wpAny_pyIter_listiter st h
theorem ziS {P:Program} {w:World} {K:W.Frag} {tg:Expr} (a it:Addr):zoa P w K tg (Itt K a) [it] it (λi h=>h.IsTupleIter it a i) where
 mem:=by simp
 obj:=λi h st b hb=>by
  have e:b=it:=by simpa using hb
  subst e
  obtain ⟨o,e,c,d⟩:=st
  exact ⟨o,e,λv z=>by rw [d] at z;cases z⟩
 keep:=λi h h' st k=>st.at λo e=>k it (by simp) o e
 item:=by
  intro X hP hw hK i pins s σ H E I hf st hg
  subst hP hw hK
  obtain ⟨xs,x,hq,hx⟩:=hg
  obtain ⟨its,rv,p,hz⟩:=I.tuple hq
  obtain ⟨u,hu,ru⟩:=rv.get hx
  obtain ⟨f0,f1,f2,f3,f4,f5⟩:=hf it (by simp)
  refine wpAny_pyNext_tuple_item st (show s.heap.IsTuple a its.toArray from p) (x:=u) (by simpa using hu) λh' st' sb=> ?_
  have I1:Inv X pins σ H {s with heap:=h'}:=I.turned (t':=s.toks) (λb o hb e=>(sb.2 b hb).trans e) f0 f1 f3 f4 f5
  obtain ⟨o,e,c,d⟩:=id st'
  exact ⟨u,rfl,zmy (s:={s with heap:=h'}) e c d (by decide) ⟨x,H,I1,ru,⟨rfl,λys hy=>by rw [I.tuple_inj hy hq];exact hx⟩,st',λb hb=>(hf b hb).1⟩⟩
 done:=by
  intro X hP hw hK i pins s σ H E I hf st hg
  subst hP hw hK
  obtain ⟨xs,hq,hx⟩:=hg
  obtain ⟨its,rv,p,hz⟩:=I.tuple hq
  obtain ⟨f0,f1,f2,f3,f4,f5⟩:=hf it (by simp)
  have hl:=rv.length
  exact L3.zlw I.hand st (show s.heap.IsTuple a its.toArray from p) (by simp;omega) λh' eb=>⟨rfl,I.turned (t':=s.toks) (λb o hb e=>eb b o hb e) f0 f1 f3 f4 f5⟩
 self:=λ_ _ _ _ _ st h=>wpAny_pyIter_tupleiter st h
theorem zi0 {P:Program} {w:World} {K:W.Frag} {tg:Expr} (it:Addr) (lo:Int) (n:Nat):zoa P w K tg (Itr lo n) [it] it (λi h=>IsRangeIter h it (lo+(i:Nat)*1) ((n:Int) - (i:Nat)) 1) where
 mem:=by simp
 obj:=λi h st b hb=>by
  have e:b=it:=by simpa using hb
  subst e
  exact ⟨_,st,λv z=>by
    have z':Data.fields _=Data.cell v:=z
    cases z'⟩
 keep:=λi h h' st k=>k it (by simp) _ st
 item:=by
  intro X hP hw hK i pins s σ H E I hf st hg
  subst hP hw hK
  obtain ⟨f0,f1,f2,f3,f4,f5⟩:=hf it (by simp)
  refine wpAny_pyNext_range_item st (by have:i<n:=hg;omega) λh' st' kk=> ?_
  have e1:lo+(i:Nat)*1+1=lo+((i+1:Nat):Int)*1:=by omega
  have e2:(n:Int) - (i:Nat) - 1=(n:Int) - ((i+1:Nat):Int):=by omega
  rw [e1,e2] at st'
  have I1:Inv X pins σ H {s with heap:=h',toks:=s.toks+1}:=I.turned (λb o hb e=>(kk.2 b hb).trans e) f0 f1 f3 f4 f5
  refine ⟨_,rfl,zmy (s:={s with heap:=h',toks:=s.toks+1}) (n:="range_iterator") st' rfl rfl (by decide) ⟨.int (lo+i),H,I1,⟨s.toks,?_⟩,⟨rfl,rfl⟩,st',λb hb=>(hf b hb).1⟩⟩
  rw [Int.mul_one]
 done:=by
  intro X hP hw hK i pins s σ H E I hf st hg
  subst hP hw hK
  obtain ⟨f0,f1,f2,f3,f4,f5⟩:=hf it (by simp)
  exact L3.zjO I.hand st (by have:n<=i:=hg;omega) λh' eb=>⟨rfl,I.turned (t':=s.toks) (λb o hb e=>eb b o hb e) f0 f1 f3 f4 f5⟩
 self:=λ_ _ _ _ _ st h=>wpAny_pyIter_rangeiter st h
section
variable {X:Cx} {tg:Expr}
theorem zmR {pins:List (Addr×Obj)} {σ:St} {H:Hp} {s:Shared} {R:It->Hp->Prop} {E:Value->Shared->Prop} {lo hi:Int} {t u v:Tok} {tk:Nat} (I:Inv X pins σ H s) (h1: -(2^62)<=lo) (h2:lo<2^62) (h3: -(2^62)<=hi) (h4:hi<2^62)
  (q:R (Itr lo (hi - lo).toNat) H):wpAny (model X.prog X.w) X.A (pyIter (.ref s.heap.objs.size)) (PIE X pins σ tg R) E {s with heap:=s.heap.push {cls:= .type "range",data:= .fields #[.int lo t,.int hi u,.int 1 v]},toks:=tk}:=by
 refine wpAny_pyIter_range (IsRange.new ..) (small_one h1 h2 h3 h4) ?_
 have I1:Inv X pins σ H {s with heap:=s.heap.push {cls:= .type "range",data:= .fields #[.int lo t,.int hi u,.int 1 v]},toks:=tk}:=I.kept λb o e=>qag _ e
 refine ⟨(s.heap.push {cls:= .type "range",data:= .fields #[.int lo t,.int hi u,.int 1 v]}).objs.size,[(s.heap.push {cls:= .type "range",data:= .fields #[.int lo t,.int hi u,.int 1 v]}).objs.size],_,_,H,rfl,
   I1.kept (t':=tk) λb o e=>qag _ e,zi0 _ lo (hi - lo).toNat,?_,λb hb=> ?_,q⟩
 ·have e1:lo+((0:Nat):Int)*1=lo:=by simp
  have e2:(((hi - lo).toNat:Nat):Int) - ((0:Nat):Int)=Builtin.Range.rangeSize lo hi 1:=by rw [rangeSize_one];split<;>omega
  show IsRangeIter _ _ (lo+((0:Nat):Int)*1) ((((hi - lo).toNat:Nat):Int) - ((0:Nat):Int)) 1
  rw [e1,e2]
  exact qar _ rfl
 ·have e:b=(s.heap.push {cls:= .type "range",data:= .fields #[.int lo t,.int hi u,.int 1 v]}).objs.size:=by simpa using hb
  subst e
  exact I1.fpOk (qaV _) (I1.hok.fresh (qaV _))
def zts (ta:TA):TI:=λσ H R=>ta σ H λvs H1=> ∃ j:Int,vs=[.int j]/\ -(2^62)<=j/\j<2^62/\R (Itr 0 j.toNat) H1
theorem zk2 {a:Expr} {ta:TA} {p pos:Pos} (hg:Gl X "range") (hm:X.mg "range"=none) (ha:PA X [a] ta) (hs:starEach [a] X.env=[(false,eval a X.env)]:=by rfl):PI X tg (.Call (.Name "range" p) [a] [] pos) (zts ta):=by
 intro pins s σ H R I h
 refine Call_ (zh3 I hg hm boot_range (PyProof.Rows.callWith_type1 (thn (ha pos pins s σ H _ I h) λus s1 ⟨vs,H1,I1,r1,q1⟩=> ?_) hs rfl))
 obtain ⟨j,e,q1,q2,q⟩:=q1
 subst e
 cases r1 with
 | cons r rr=>
  cases rr
  obtain ⟨t,rfl⟩:=r
  exact call_range_1 (zmR I1 ⋯ ⋯ q1 q2 (by simpa using q))
def zt3 (wi:TI) (g:TG) (tb:TS):TS:=λD σ H=>wi σ H λJ H1=> ∃ W:Nat->Nat->St->Hp->Prop,(∃ m,W 0 m σ H1)/\ ∀ i m σ H,W i m σ H->
 (J.stop i H/\D.nx σ H)\/(J.go i H/\ ∃ N:St->Hp->Prop,(∀ σ' H',N σ' H'-> ∃ m',m'<m/\W (i+1) m' σ' H')/\ ∀ x H',J.yld i H x H'->g x σ H' λσ2 H2=>tb {D with nx:=N,ct:=N,bk:=D.nx} σ2 H2)
def zfs (fp:List Addr) (h:Heap):List (Addr×Obj):=fp.filterMap λb=>(h.get? b).map λo=>(b,o)
theorem zbL {fp:List Addr} {h:Heap} {b:Addr} {o:Obj} (hb:b∈fp) (e:h.get? b=some o):(b,o)∈zfs fp h:=mem_filterMap.mpr ⟨b,hb,by rw [e];rfl⟩
theorem zkb {fp:List Addr} {h:Heap} {p:Addr×Obj} (hp:p∈zfs fp h):p.1∈fp/\h.get? p.1=some p.2:=by
 obtain ⟨b,hb,e⟩:=mem_filterMap.mp hp
 cases q:h.get? b with
 | none=>rw [q] at e;cases e
 | some o=>
  rw [q] at e
  have e':(b,o)=p:=Option.some.inj e
  subst e'
  exact ⟨hb,q⟩
theorem Inv.pinned {pins:List (Addr×Obj)} {σ:St} {H:Hp} {s:Shared} {fp:List Addr} (I:Inv X pins σ H s) (hf: ∀ b∈fp,zjc X pins H b) (ho: ∀ b∈fp, ∃ o,s.heap.get? b=some o/\ ∀ v,o.data≠ .cell v):Inv X (pins++zfs fp s.heap) σ H s:=
 I.pins_of λp hp=>(qaK.mp hp).elim (λz=>I.pin p (qak _ z)) λz=>by
  obtain ⟨hb,e⟩:=zkb z
  obtain ⟨f0,f1,f2,_⟩:=hf p.1 hb
  obtain ⟨o,e',d⟩:=ho p.1 hb
  rw [e] at e';cases e'
  exact ⟨e,f0,f1,f2,d⟩
theorem Inv.unpinned {pins pl:List (Addr×Obj)} {σ:St} {H:Hp} {s:Shared} (I:Inv X (pins++pl) σ H s):Inv X pins σ H s:=I.pins_of λp hp=>I.pin p (qak _ (List.mem_append_left _ hp))
theorem zqC {iter:Expr} {body:List Stmt} {wi:TI} {g:TG} {tb:TS} {pos:Pos} (hp:PassesOwn (model X.prog X.w) X.A X.env X.xe) (hc:X.calm=true) (hi:PI X tg iter wi) (hg:PG X tg g) (hb:PSs X body tb)
  (hs: ∀ x,foldedSetIterable iter X.env x=pure x:=by intro _;rfl):PS X (.For tg iter body [] pos) (zt3 wi g tb):=by
 intro pins s σ H D I h
 refine wpAny_For (thn (hi pins s σ H _ I h) λv s1 h1=>thn h1 λitv s2 h2=> ?_) hs
 obtain ⟨it,fp,tn,J,H2,e,I2,T,st2,f2,W,⟨m0,w0⟩,turn⟩:=h2
 subst e
 have stat: ∀ {H':Hp},(∀ b∈fp,H' b=none)-> ∀ b∈fp,zjc X pins H' b:=λhn b hb=>⟨hn b hb,(f2 b hb).2⟩
 refine codeAny_forLoop_any (λn s'=> ∃ i σ' H',Inv X pins σ' H' s'/\tn i s'.heap/\(∀ b∈fp,H' b=none)/\W i n σ' H') ?_ m0 ⟨0,σ,H2,I2,st2,λb hb=>(f2 b hb).1,w0⟩
 rintro n s3 ⟨i,σ3,H3,I3,st3,fr3,w3⟩
 rcases turn i n σ3 H3 w3 with ⟨stop,qn⟩ | ⟨go,N,hN,step⟩
 ·refine wpAny_passesOwn hp (thn (T.done X rfl rfl rfl i pins s3 σ3 H3 X.xe I3 (stat fr3) st3 stop) λr s4 ⟨hr,I4⟩=> ?_)
  subst hr
  exact wpAny_execs_nil ⟨σ3,H3,I4,qn⟩
 ·refine wpAny_passesOwn hp (thn (T.item X rfl rfl rfl i pins s3 σ3 H3 X.xe I3 (stat fr3) st3 go) λr s4 ⟨u,hr,h4⟩=> ?_)
  subst hr
  refine wpAny_passesOwn hp (thn h4 λ_ s5 ⟨x,H5,I5,r5,y5,st5,fr5⟩=> ?_)
  have I5':=I5.pinned (stat fr5) (T.obj _ _ st5)
  refine wpAny_passesOwn hp (thn (hg _ s5 σ3 H5 x u _ I5' r5 (step x H5 y5)) λ_ s6 ⟨σ6,H6,I6,q6⟩=> ?_)
  refine wpAny_passesOwn hp (thn (hb _ s6 σ6 H6 _ I6 q6) λf s7 q7=> ?_)
  have again: ∀ {σ7:St} {H7:Hp},Inv X (pins++zfs fp s5.heap) σ7 H7 s7->N σ7 H7-> ∃ m,m<n/\ ∃ i σ' H',Inv X pins σ' H' s7/\tn i s7.heap/\(∀ b∈fp,H' b=none)/\W i m σ' H':=λ{σ7 H7} I7 n7=>by
   obtain ⟨m',hm,w7⟩:=hN σ7 H7 n7
   refine ⟨m',hm,i+1,σ7,H7,I7.unpinned,T.keep _ _ _ st5 λb hb o e=>(I7.pin (b,o) (qak _ (qak _ (zbL hb e)))).1,λb hb=> ?_,w7⟩
   obtain ⟨o,e,d⟩:=T.obj _ _ st5 b hb
   exact (I7.pin (b,o) (qak _ (qak _ (zbL hb e)))).2.1
  cases f with
  | next=>obtain ⟨σ7,H7,I7,n7⟩:=q7;exact again I7 n7
  | cont=>obtain ⟨σ7,H7,I7,n7⟩:=q7;exact again I7 n7
  | brk=>obtain ⟨σ7,H7,I7,q7⟩:=q7;exact ⟨σ7,H7,I7.unpinned,q7⟩
  | ret v=>obtain ⟨x7,σ7,H7,I7,r7,q7⟩:=q7;exact ⟨x7,σ7,H7,I7.unpinned,r7,q7⟩
end
abbrev R2:=V->V->Hp->VK->Prop
def OpR (X:Cx) (f:Value->Value->Sem Value) (r:R2):Prop:=
 ∀ (pins:List (Addr×Obj)) (s:Shared) (σ:St) (H:Hp) (x y:V) (v u:Value) (Q:VK),Inv X pins σ H s->zbB x v->zbB y u->r x y H Q->
  wpAny (model X.prog X.w) X.A (f v u) (EP X pins σ Q) X.xe s
def UnR (X:Cx) (f:Value->Sem Value) (r:V->Hp->VK->Prop):Prop:=
 ∀ (pins:List (Addr×Obj)) (s:Shared) (σ:St) (H:Hp) (x:V) (v:Value) (Q:VK),Inv X pins σ H s->zbB x v->r x H Q->
  wpAny (model X.prog X.w) X.A (f v) (EP X pins σ Q) X.xe s
def zaO (X:Cx) (f:Value) (r:List V->Hp->VK->Prop):Prop:=
 ∀ (pins:List (Addr×Obj)) (s:Shared) (σ:St) (H:Hp) (xs:List V) (us:List Value) (Q:VK),Inv X pins σ H s->za7 xs us->r xs H Q->
  wpAny (model X.prog X.w) X.A (call f us) (EP X pins σ Q) X.xe s
def zuq (X:Cx) (r:V->Hp->(Bool->Hp->Prop)->Prop):Prop:=
 ∀ (pins:List (Addr×Obj)) (s:Shared) (σ:St) (H:Hp) (x:V) (v:Value) (Q:Bool->Hp->Prop),Inv X pins σ H s->zbB x v->r x H Q->
  wpAny (model X.prog X.w) X.A (truthy v) (TP X pins σ Q) X.xe s
def tOp (r:R2) (ta tb:TE):TE:=λσ H Q=>ta σ H λx H1=>tb σ H1 λy H2=>r x y H2 Q
def tUn (r:V->Hp->VK->Prop) (ta:TE):TE:=λσ H Q=>ta σ H λx H1=>r x H1 Q
def rI (C:Int->Int->Prop) (g:Int->Int->V):R2:=λx y H Q=> ∃ i j,x= .int i/\y= .int j/\C i j/\Q (g i j) H
def rI0 (g:Int->Int->V):R2:=λx y H Q=> ∃ i j,x= .int i/\y= .int j/\Q (g i j) H
def rU (g:Int->V):V->Hp->VK->Prop:=λx H Q=> ∃ i,x= .int i/\Q (g i) H
section
variable {X:Cx} {a b c:Expr} {ta tb tc:TE} {pos:Pos}
theorem zss (ha:PE X a ta) (hb:PE X b tb) {pins:List (Addr×Obj)} {s:Shared} {σ:St} {H:Hp} {R:V->V->Hp->Prop} (I:Inv X pins σ H s)
  (h:ta σ H λx H1=>tb σ H1 λy H2=>R x y H2) {Q:Value->Shared->Prop} {f:Value->Value->Sem Value}
  (hf: ∀ v u s2 x y H2,Inv X pins σ H2 s2->zbB x v->zbB y u->R x y H2->wpAny (model X.prog X.w) X.A (f v u) Q X.xe s2):
  wpAny (model X.prog X.w) X.A (eval a X.env) (λv s₁=>wpAny (model X.prog X.w) X.A (eval b X.env) (λu s₂=>wpAny (model X.prog X.w) X.A (f v u) Q X.xe s₂) X.xe s₁) X.xe s:=by
 refine thn (ha pins s σ H _ I h) λv s1 ⟨x,H1,I1,r1,q1⟩=> ?_
 refine thn (hb pins s1 σ H1 _ I1 q1) λu s2 ⟨y,H2,I2,r2,q2⟩=> ?_
 exact hf v u s2 x y H2 I2 r1 r2 q2
theorem ztr {op:Operator} {r:R2} (ho:OpR X (binaryOp op) r) (ha:PE X a ta) (hb:PE X b tb):PE X (.BinOp a op b pos) (tOp r ta tb):=by
 intro pins s σ H Q I h
 exact wpAny_BinOp (zss ha hb I h λv u s2 x y H2 I2 rx ry q=>ho pins s2 σ H2 x y v u Q I2 rx ry q)
theorem zrZ {op:UnaryOp} {r:V->Hp->VK->Prop} (ho:UnR X (unaryOp op) r) (ha:PE X a ta):PE X (.UnaryOp op a pos) (tUn r ta):=by
 intro pins s σ H Q I h
 exact UnaryOp_ (thn (ha pins s σ H _ I h) λv s1 ⟨x,H1,I1,r1,q1⟩=>ho pins s1 σ H1 x v Q I1 r1 q1)
theorem opI {f:Value->Value->Sem Value} {C:Int->Int->Prop} {g:Int->Int->Int}
  (rule: ∀ (i j:Int) (t u:Tok) (s:Shared) (Q:Value->Shared->Prop) (E:Value->Shared->Prop),C i j->Q (.int (g i j) s.toks) {s with toks:=s.toks+1}->wpAny (model X.prog X.w) X.A (f (.int i t) (.int j u)) Q E s):
  OpR X f (rI C λi j=> .int (g i j)):=by
 intro pins s σ H x y v u Q I rx ry h
 obtain ⟨i,j,rfl,rfl,hc,q⟩:=h
 obtain ⟨t,rfl⟩:=rx
 obtain ⟨t',rfl⟩:=ry
 exact rule i j t t' s _ _ hc ⟨.int (g i j),H,I.tok _,⟨_,rfl⟩,q⟩
theorem zty {f:Value->Value->Sem Value} {g:Int->Int->Int}
  (rule: ∀ (i j:Int) (t u:Tok) (s:Shared) (Q:Value->Shared->Prop) (E:Value->Shared->Prop),Q (.int (g i j) s.toks) {s with toks:=s.toks+1}->wpAny (model X.prog X.w) X.A (f (.int i t) (.int j u)) Q E s):
  OpR X f (rI0 λi j=> .int (g i j)):=by
 intro pins s σ H x y v u Q I rx ry h
 obtain ⟨i,j,rfl,rfl,q⟩:=h
 obtain ⟨t,rfl⟩:=rx
 obtain ⟨t',rfl⟩:=ry
 exact rule i j t t' s _ _ ⟨.int (g i j),H,I.tok _,⟨_,rfl⟩,q⟩
theorem zs6 {f:Value->Value->Sem Value} {g:Int->Int->Bool}
  (rule: ∀ (i j:Int) (t u:Tok) (s:Shared) (Q:Value->Shared->Prop) (E:Value->Shared->Prop),Q (.bool (g i j)) s->wpAny (model X.prog X.w) X.A (f (.int i t) (.int j u)) Q E s):
  OpR X f (rI0 λi j=> .bl (g i j)):=by
 intro pins s σ H x y v u Q I rx ry h
 obtain ⟨i,j,rfl,rfl,q⟩:=h
 obtain ⟨t,rfl⟩:=rx
 obtain ⟨t',rfl⟩:=ry
 exact rule i j t t' s _ _ ⟨.bl (g i j),H,I,rfl,q⟩
def zsg (i j:Int):Prop:=0<=j/\j<=1000000/\i.natAbs<2^64
def zsZ (i j:Int):Prop:=(-(2^64)<i/\i<2^64)\/(-(2^64)<j/\j<2^64)
theorem zsZ.ok {i j:Int} (h:zsZ i j):IntMulOk i j:=by
 rcases h with ⟨h1,h2⟩ | ⟨h1,h2⟩
 ·exact .of_left (intBits_le_64 h1 h2)
 ·exact .of_right (intBits_le_64 h1 h2)
theorem two_pow_nn (k:Nat):(0:Int)<=2^k:=by
 rw [two_pow_cast]
 exact Int.natCast_nonneg _
theorem zp1:OpR X (binaryOp .Add) (rI0 λi j=> .int (i+j)):=zty λ_ _ _ _ _ _ _ q=>add_int q
theorem zpX:OpR X (binaryOp .Sub) (rI0 λi j=> .int (i - j)):=zty λ_ _ _ _ _ _ _ q=>sub_int q
theorem zrg:OpR X (binaryOp .Mult) (rI zsZ λi j=> .int (i*j)):=opI λ_ _ _ _ _ _ _ hc q=>mul_int q hc.ok
theorem zqJ:OpR X (binaryOp .Mod) (rI (λ_ j=>0<j) λi j=> .int (i % j)):=opI λi j _ _ _ _ _ hc q=>by
 have h1:(0:Int)<j:=hc
 exact mod_int' ⋯ (by rw [Int.fmod_eq_emod_of_nonneg i ⋯];exact q)
theorem zqH:OpR X (binaryOp .Pow) (rI zsg λi j=> .int (i^j.toNat)):=opI λ_ _ _ _ _ _ _ hc q=>pow_int_small hc.1 hc.2.1 hc.2.2 q
theorem zpY:OpR X (binaryOp .LShift) (rI zsg λi j=> .int (i*2^j.toNat)):=opI λ_ _ _ _ _ _ _ hc q=>lshift_int_small hc.1 hc.2.1 hc.2.2 q
theorem zrJ:OpR X (binaryOp .RShift) (rI (λ_ j=>0<=j) λi j=> .int (i / 2^j.toNat)):=opI λi j _ _ _ _ _ hc q=>
 rshift_int hc (by rw [Int.fdiv_eq_ediv_of_nonneg i (two_pow_nn _)];exact q)
theorem zqk:OpR X (binaryOp .BitAnd) (rI0 λi j=> .int (Builtin.bitAnd i j)):=zty λ_ _ _ _ _ _ _ q=>and_int q
theorem unI {f:Value->Sem Value} {g:Int->Int}
  (rule: ∀ (i:Int) (t:Tok) (s:Shared) (Q:Value->Shared->Prop) (E:Value->Shared->Prop),Q (.int (g i) s.toks) {s with toks:=s.toks+1}->wpAny (model X.prog X.w) X.A (f (.int i t)) Q E s):
  UnR X f (rU λi=> .int (g i)):=by
 intro pins s σ H x v Q I rx h
 obtain ⟨i,rfl,q⟩:=h
 obtain ⟨t,rfl⟩:=rx
 exact rule i t s _ _ ⟨.int (g i),H,I.tok _,⟨_,rfl⟩,q⟩
theorem znJ:UnR X (unaryOp .USub) (rU λi=> .int (-i)):=unI λ_ _ _ _ _ q=>neg_int q
end
section
variable {X:Cx} {a b c:Expr} {ta tb tc:TE} {pos:Pos}
theorem zii {pins:List (Addr×Obj)} {σ:St} {H:Hp} {s:Shared} {Q:VK} {k k':Bool} (I:Inv X pins σ H s) (q:Q (.bl k) H) (e:k=k'):EP X pins σ Q (.bool k') s:=by
 subst e
 exact ⟨.bl k,H,I,rfl,q⟩
theorem zsD:OpR X (compareOp .Lt) (rI0 λi j=> .bl (decide (i<j))):=zs6 λ_ _ _ _ _ _ _ q=>lt_int q
theorem zsS:OpR X (compareOp .Gt) (rI0 λi j=> .bl (decide (j<i))):=zs6 λ_ _ _ _ _ _ _ q=>gt_int q
theorem zsO:OpR X (compareOp .GtE) (rI0 λi j=> .bl (decide (j<=i))):=zs6 λ_ _ _ _ _ _ _ q=>ge_int q
theorem zk0:OpR X (compareOp .In) (λx y H Q=> ∃ i j,x= .str i/\y= .str j/\Q (.bl (!(Builtin.Str.occurrences j i 0 j.length 1).isEmpty)) H):=by
 intro pins s σ H x y v u Q I rx ry h
 obtain ⟨i,j,rfl,rfl,q⟩:=h
 obtain ⟨t,rfl⟩:=rx
 obtain ⟨t',rfl⟩:=ry
 exact in_str (zii I q rfl)
theorem zjT:OpR X (compareOp .Is) (λx y H Q=>y= .non/\Q (.bl (decide (x= .non))) H):=by
 intro pins s σ H x y v u Q I rx ry h
 obtain ⟨rfl,q⟩:=h
 cases ry
 refine is_none_gen (zii I q ?_)
 cases x<;>first
  | (cases rx;rfl)
  | (obtain ⟨t,rfl⟩:=rx;rfl)
theorem OpR.or {f:Value->Value->Sem Value} {r r':R2} (h:OpR X f r) (h':OpR X f r'):OpR X f (λx y H Q=>r x y H Q\/r' x y H Q):=by
 intro pins s σ H x y v u Q I rx ry q
 rcases q with q | q
 ·exact h pins s σ H x y v u Q I rx ry q
 ·exact h' pins s σ H x y v u Q I rx ry q
theorem zoB {op:CmpOp} {r:R2} (ho:OpR X (compareOp op) r) (ha:PE X a ta) (hb:PE X b tb) (hm:behindInMarks op b=false):PE X (.Compare a [op] [b] pos) (tOp r ta tb):=by
 intro pins s σ H Q I h
 exact wpAny_Compare1 (zss ha hb I h λv u s2 x y H2 I2 rx ry q=>ho pins s2 σ H2 x y v u Q I2 rx ry q) hm
def zto (t:TE):TT:=λσ H Q=>t σ H λx H'=> ∃ k,x= .bl k/\Q k H'
theorem zn9 {op:CmpOp} {r:R2} (ho:OpR X (compareOp op) r) (ha:PE X a ta) (hb:PE X b tb) (hm:behindInMarks op b=false):PT X (.Compare a [op] [b] pos) (zto (tOp r ta tb)):=by
 intro pins s σ H Q I h
 refine wpAny_isTrue_Compare1 (thn (ha pins s σ H _ I h) λv s1 ⟨x,H1,I1,r1,q1⟩=>thn (hb pins s1 σ H1 _ I1 q1) λu s2 ⟨y,H2,I2,r2,q2⟩=>
   thn (ho pins s2 σ H2 x y v u _ I2 r1 r2 q2) λc s3 ⟨z,H3,I3,r3,k,e,q3⟩=> ?_) hm
 subst e
 cases r3
 exact wpAny_truthy_bool ⟨H3,I3,q3⟩
def ztQ (K:W.Frag) (x:V) (H:Hp) (k:Bool):Prop:=
 match x with
 | .non=>k=false
 | .bl b=>k=b
 | .int i=>k=(i != 0)
 | .str y=>y.length<=sizeLine/\k=((y.length:Int) != 0)
 | .byt y=>y.size<=sizeLine/\k=((y.size:Int) != 0)
 | .ref p=>(∃ xs,SqL K H p xs/\k= !xs.isEmpty)\/(∃ xs,SqT K H p xs/\k= !xs.isEmpty)\/ ∃ kvs,H p=some (.dK kvs)/\k= !kvs.isEmpty
 | _=>False
theorem zi7 {κ:Type} {kvs:List (κ×V)} {vs:List (κ×Value)} (r:KV kvs vs):(!vs.isEmpty)= !kvs.isEmpty:=by
 cases r<;>rfl
theorem zfo {xs:List V} {its:List Value} (r:za7 xs its):(!its.toArray.isEmpty)= !xs.isEmpty:=by
 cases r<;>simp
theorem zeC:(sizeLine:Nat)<2^63:=by rw [sizeLine_eq];decide
theorem zr1:zuq X (λx H Q=> ∃ k,ztQ X.K x H k/\Q k H):=by
 intro pins s σ H x v Q I rx h
 obtain ⟨k,e,q⟩:=h
 have hl:=zeC
 have hs:sizeLine=16777216:=sizeLine_eq
 cases x with
 | non=>
  cases rx
  have e':k=false:=e
  subst e'
  exact truthy_none ⟨H,I,q⟩
 | bl b=>
  cases rx
  have e':k=b:=e
  subst e'
  exact wpAny_truthy_bool ⟨H,I,q⟩
 | int i=>
  obtain ⟨t,rfl⟩:=rx
  have e':k=(i != 0):=e
  subst e'
  exact PySem.P.truthy_int ⟨H,I,q⟩
 | str y=>
  obtain ⟨t,rfl⟩:=rx
  obtain ⟨hy,e'⟩:y.length<=sizeLine/\k=((y.length:Int) != 0):=e
  subst e'
  exact PySem.P.truthy_str ⋯ ⟨H,I.tok _,q⟩
 | byt y=>
  obtain ⟨t,rfl⟩:=rx
  obtain ⟨hy,e'⟩:y.size<=sizeLine/\k=((y.size:Int) != 0):=e
  subst e'
  exact W.truthy_bytes ⋯ ⟨H,I.tok _,q⟩
 | ref p=>
  cases rx
  have e':(∃ xs,SqL X.K H p xs/\k= !xs.isEmpty)\/(∃ xs,SqT X.K H p xs/\k= !xs.isEmpty)\/ ∃ kvs,H p=some (.dK kvs)/\k= !kvs.isEmpty:=e
  rcases e' with ⟨xs,hx,e'⟩ | ⟨xs,hx,e'⟩ | ⟨kvs,hx,e'⟩
  ·subst e'
   obtain ⟨its,r,pl,hz⟩:=I.list hx
   have hlen:=r.length
   exact wpAny_truthy_list pl.isList (by simp only [qaA];omega) ⟨H,I.tok _,by rw [zfo r];exact q⟩
  ·subst e'
   obtain ⟨its,r,pl,hz⟩:=I.tuple hx
   have hlen:=r.length
   exact truthy_tuple pl (by simp only [qaA];omega) ⟨H,I.tok _,by rw [zfo r];exact q⟩
  ·subst e'
   obtain ⟨hz,hS,vs,r,m⟩:kvs.length<=sizeLine/\(p==sysModules)=false/\ ∃ vs,KV kvs vs/\s.heap.DictOf (zhi X.prog X.w) p vs:=I.hok p _ hx
   have hlen:kvs.length=vs.length:=Paired.length r
   exact wpAny_truthy_dict hS m ⋯ ⟨H,I.tok _,by rw [zi7 r];exact q⟩
 | _=>exact (show False from e).elim
theorem zmP (ha:PE X a ta) (he: ∀ whole,isTrue a X.env whole=(do let v<-whole;standAt a.pos;holding [v] (truthy v))):
  PT X a (λσ H Q=>ta σ H λx H'=> ∃ k,ztQ X.K x H' k/\Q k H'):=by
 intro pins s σ H Q I h
 exact isTrue_plain (thn (ha pins s σ H _ I h) λv s1 ⟨x,H1,I1,r1,q1⟩=>zr1 pins s1 σ H1 x v Q I1 r1 q1) (he _)
theorem zjq:OpR X (binaryOp .Add) (λx y H Q=> ∃ i j,x= .str i/\y= .str j/\i.length+j.length<=sizeLine/\Q (.str (i++j)) H):=by
 intro pins s σ H x y v u Q I rx ry h
 obtain ⟨i,j,rfl,rfl,hz,q⟩:=h
 obtain ⟨t,rfl⟩:=rx
 obtain ⟨t',rfl⟩:=ry
 exact add_str (λt' tk=>⟨.str (i++j),H,I.tok _,⟨_,rfl⟩,q⟩) hz
theorem zcX {x:V} {us:List Value} (r:za7 [x] us): ∃ u,us=[u]/\zbB x u:=by
 cases r with
 | cons r1 r2=>cases r2;exact ⟨_,rfl,r1⟩
theorem zpT {x y:V} {us:List Value} (r:za7 [x,y] us): ∃ u w',us=[u,w']/\zbB x u/\zbB y w':=by
 cases r with
 | cons r1 r2=>
  cases r2 with
  | cons r3 r4=>cases r4;exact ⟨_,_,rfl,r1,r3⟩
theorem zlu (hc:X.calm=true):zaO X (.builtin "max") (λxs H Q=> ∃ i j,xs=[.int i,.int j]/\Q (.int (if j>i then j else i)) H):=by
 intro pins s σ H xs us Q I r h
 obtain ⟨i,j,rfl,q⟩:=h
 obtain ⟨u,w',rfl,⟨t,rfl⟩,⟨t',rfl⟩⟩:=zpT r
 refine max_two_ints (I.ok.hd hc) λh' tk k=>⟨_,H,I.kept k,?_,q⟩
 by_cases hj:j>i
 ·rw [qa4 hj,qa4 hj];exact ⟨_,rfl⟩
 ·rw [qa5 hj,qa5 hj];exact ⟨_,rfl⟩
theorem zlb (hc:X.calm=true):zaO X (.builtin "min") (λxs H Q=> ∃ i j,xs=[.int i,.int j]/\Q (.int (if j<i then j else i)) H):=by
 intro pins s σ H xs us Q I r h
 obtain ⟨i,j,rfl,q⟩:=h
 obtain ⟨u,w',rfl,⟨t,rfl⟩,⟨t',rfl⟩⟩:=zpT r
 refine min_two_ints (I.ok.hd hc) λh' tk k=>⟨_,H,I.kept k,?_,q⟩
 by_cases hj:j<i
 ·rw [qa4 hj,qa4 hj];exact ⟨_,rfl⟩
 ·rw [qa5 hj,qa5 hj];exact ⟨_,rfl⟩
theorem zkq:zaO X (.type "int") (λxs H Q=>(∃ i,xs=[.int i]/\Q (.int i) H)\/ ∃ k,xs=[.bl k]/\Q (.int (if k then 1 else 0)) H):=by
 intro pins s σ H xs us Q I r h
 rcases h with ⟨i,rfl,q⟩ | ⟨k,rfl,q⟩
 ·obtain ⟨u,rfl,t,rfl⟩:=zcX r
  exact call_int_int ⟨.int i,H,I,⟨_,rfl⟩,q⟩
 ·obtain ⟨u,rfl,r1⟩:=zcX r
  cases r1
  exact call_int_bool ⟨.int (if k then 1 else 0),H,I.tok _,⟨_,rfl⟩,q⟩
theorem zgy:zaO X (.type "str") (λxs H Q=> ∃ i,xs=[.int i]/\i.natAbs.log2<1920/\Q (.str (toString i)) H):=by
 intro pins s σ H xs us Q I r h
 obtain ⟨i,rfl,hz,q⟩:=h
 obtain ⟨u,rfl,t,rfl⟩:=zcX r
 exact PySem.P.str_of_int hz ⟨.str _,H,I.tok _,⟨_,rfl⟩,q⟩
end
structure zti (h:Heap) (x dx C:Addr) (mA:Str->Option Value):Prop where
 obj:h.get? x=some (W.instObj C dx)
 ns:h.Ns1 dx mA
 ne:dx≠x
theorem zlc {h:Heap} {dx:Addr} {mA:Str->Option Value} (n:h.Ns1 dx mA): ∃ od,h.get? dx=some od/\ ∀ name,W.lookIn name od=some (mA name):=by
 obtain ⟨o,es,ep,ho,hd,hk,_,hm⟩:=n
 refine ⟨o,ho,λname=> ?_⟩
 have e:=hm name
 unfold nsFind findBy at e
 rw [<- Array.find?_toList] at e
 unfold W.lookIn
 rw [hd]
 dsimp only
 split
 ·rename_i y q
  rw [q] at e
  exact congrArg some e
 ·rename_i q
  rw [q] at e
  have a:es.toList.any (·.refKey)=false:=by
   rw [List.any_eq_false]
   intro y hy
   obtain ⟨z,t,hkey⟩:=hk y (Array.mem_toList_iff.mp hy)
   simp [DictEntry.refKey,hkey]
  have a': ¬es.toList.any (·.refKey)=true:=by rw [a];exact Bool.false_ne_true
  rw [qa5 a']
  exact congrArg some e
theorem zti.look {h:Heap} {x dx C:Addr} {mA:Str->Option Value} (I:zti h x dx C mA): ∃ od,W.InstAt h x (W.instObj C dx) C (some od)/\ ∀ name,W.lookIn name od=some (mA name):=
 let ⟨od,ho,hl⟩:=zlc I.ns
 ⟨od,⟨I.obj,rfl,rfl,ho⟩,hl⟩
section
variable {prog:Program} {w:World} {A:Around} {E:Value->Shared->Prop} {s:Shared} {K:W.Frag} {x dx C f:Addr} {mA:Str->Option Value} {name:Str} {v:Value}
end
section
variable {P:Program} {w:World} {H H':Hp} {h h':Heap} {a C dx:Addr} {fs fs':List (Str×V)}
theorem zoz (hok:HOk P w H h) (e:H a=some (.ins C dx fs)): ∃ mA,zti h a dx C mA/\(∀ f,zta (fs.lookup f) (mA f))/\PySem.Within mA (fs.map (·.1))/\fs.length<=1000/\H dx=some (.own a):=by
 obtain ⟨d,z,ne,ob,mA,n,r,q⟩:=(show zbZ P w H h a (.ins C dx fs) from hok a _ e)
 exact ⟨mA,⟨ob,n,ne⟩,r,q,z,d⟩
end
structure Cls (K:W.Frag) (C:Addr):Prop where
 pg:W.plainGet K C Str.empty=true
 hd:W.hasDictIn K C=true
 po:W.plainOver K C=true
 sa:W.findIn K (.ref C) "__setattr__"=some (some (.builtin "object.__setattr__"))
theorem Cls.get {K:W.Frag} {C:Addr} (c:Cls K C) (f:Str):W.plainGet K C f=true:=c.pg
structure Con (K:W.Frag) (C:Addr) (f:Str) (v:V) (u:Value):Prop where
 at_:W.findIn K (.ref C) f=some (some u)
 rel:zbB v u
 get:W.specialIn K u "__get__"=some none
 cp:W.copiedNames.contains f=false
structure zuD (K:W.Frag) (C:Addr) (m:Str) (f:Addr):Prop where
 at_:W.findIn K (.ref C) m=some (some (.ref f))
 fn:W.isFn K (.ref f)=true
 kp:W.keepIn K (.ref f)=true
section
variable {X:Cx} {pins:List (Addr×Obj)} {σ:St} {H:Hp} {s:Shared} {a C dx:Addr} {fs:List (Str×V)} {f:Str} {v:V} {A:Around} {E:Value->Shared->Prop}
end
section
variable {X:Cx} {o e value:Expr} {f:Str} {pos pos' tpos:Pos} {ta tv:TE}
end
section
variable {X:Cx} {pins:List (Addr×Obj)} {σ:St} {H:Hp} {s:Shared} {A:Around} {E:Value->Shared->Prop} {Q:Value->Shared->Prop} {c:Value} {b:Bool}
inductive zhQ (K:W.Frag) (H:Hp):V->Value->Prop where
 | non:zhQ K H .non (.type "NoneType")
 | bl (x:Bool):zhQ K H (.bl x) (.type "bool")
 | int (i:Int):zhQ K H (.int i) (.type "int")
 | str (x:Str):zhQ K H (.str x) (.type "str")
 | flt (x:UInt64):zhQ K H (.flt x) (.type "float")
 | lst {a:Addr} {xs:List V} (e:H a=some (.lst xs)):zhQ K H (.ref a) (.type "list")
 | frz {a:Addr} {o:Obj} {xs:List V} (e:H a=some (.frz o (.lst xs))):zhQ K H (.ref a) (.type "list")
 | tup {a:Addr} {xs:List V} (e:H a=some (.tup xs)):zhQ K H (.ref a) (.type "tuple")
 | dK {a:Addr} {kvs:List (Key×V)} (e:H a=some (.dK kvs)):zhQ K H (.ref a) (.type "dict")
 | dT {a:Addr} {kvs:List (List Key×V)} (e:H a=some (.dT kvs)):zhQ K H (.ref a) (.type "dict")
 | ins {a C dx:Addr} {fs:List (Str×V)} (e:H a=some (.ins C dx fs)) (cl:Cls K C) (ha:W.findIn K (.ref C) "__class__"=some (some (.builtin "object.__class__")))
   (hn:W.specialIn K (.builtin "object.__class__") "__get__"=some (some (.builtin "getset_descriptor.__get__"))) (htk:W.takesIn K (.builtin "object.__class__")=some true)
   (hm:W.mroIn K C (.type "object")=some true):zhQ K H (.ref a) (.ref C)
theorem zkh {x:V} {u t:Value} (I:Inv X pins σ H s) (rx:zbB x u) (ty:zhQ X.K H x t) (e:W.kitOne X.K t c=some b) (h: ∀ tk,Q (.bool b) {s with toks:=tk}):
  wpAny (model X.prog X.w) A (call (.builtin "isinstance") [u,c]) Q E s:=by
 cases ty with
 | non=>cases (show u=Value.none from rx);exact W.kia_one W.kitx_none I.kIn True.intro e (λz=>nomatch z) h
 | bl y=>cases (show u=Value.bool y from rx);exact W.kia_one W.kitx_bool I.kIn True.intro e (λz=>nomatch z) h
 | int i=>obtain ⟨t,q⟩:=(show ∃ t,u=Value.int i t from rx);cases q;exact W.kia_one W.kitx_int I.kIn True.intro e (λz=>nomatch z) h
 | str y=>obtain ⟨t,q⟩:=(show ∃ t,u=Value.str y t from rx);cases q;exact W.kia_one W.kitx_str I.kIn True.intro e (λz=>nomatch z) h
 | flt y=>obtain ⟨t,q⟩:=(show ∃ t,u=Value.float y t from rx);cases q;exact W.kia_one W.kitx_float I.kIn True.intro e (λz=>nomatch z) h
 | @lst a xs ea=>
  cases (show u=Value.ref a from rx)
  obtain ⟨_,_,n,_,h1⟩:=(show zbZ X.prog X.w H s.heap a (.lst xs) from I.hok a _ ea)
  exact W.kia_one W.kitx_list I.kIn ⟨_,h1,rfl⟩ e (λz=>nomatch z) h
 | @frz a ob xs ea=>
  cases (show u=Value.ref a from rx)
  obtain ⟨_,_,_,n,_,h1⟩:=(show zbZ X.prog X.w H s.heap a (.frz ob (.lst xs)) from I.hok a _ ea)
  exact W.kia_one W.kitx_list I.kIn ⟨_,h1,rfl⟩ e (λz=>nomatch z) h
 | @tup a xs ea=>
  cases (show u=Value.ref a from rx)
  obtain ⟨_,_,_,p⟩:=(show zbZ X.prog X.w H s.heap a (.tup xs) from I.hok a _ ea)
  obtain ⟨o,h1,h2,_⟩:=p
  exact W.kia_one W.kitx_tuple I.kIn ⟨o,h1,h2⟩ e (λz=>nomatch z) h
 | @dK a kvs ea=>
  cases (show u=Value.ref a from rx)
  obtain ⟨_,_,vs,_,p⟩:=(show zbZ X.prog X.w H s.heap a (.dK kvs) from I.hok a _ ea)
  obtain ⟨o,es,ep,h1,h2,_⟩:=p
  exact W.kia_one W.kitx_dict I.kIn ⟨o,h1,h2.1⟩ e (λz=>nomatch z) h
 | @dT a kvs ea=>
  cases (show u=Value.ref a from rx)
  obtain ⟨_,_,xs,_,o,es,ep,h1,h2,_⟩:=(show zbZ X.prog X.w H s.heap a (.dT kvs) from I.hok a _ ea)
  exact W.kia_one W.kitx_dict I.kIn ⟨o,h1,h2.1⟩ e (λz=>nomatch z) h
 | @ins a C dx fs ea cl ha hn htk hm=>
  cases (show u=Value.ref a from rx)
  obtain ⟨mA,O,_⟩:=zoz I.hok ea
  obtain ⟨od,J,_⟩:=O.look
  exact W.kia_one (W.kitx_own (cl.get _) cl.hd ha hn htk hm) I.kIn J e (λz=>nomatch z) h
end
structure zdL (k:Nat) (A:Around):Prop where
 hd:A.handled=none
 dp:A.depth+3*k+5<recursionLimit
 un:A.units+16*k+200<cLine
theorem zdL.mono {j k:Nat} {A:Around} (r:zdL k A) (h:j<=k):zdL j A:=⟨r.hd,by have:=r.dp;omega,by have:=r.un;omega⟩
theorem zdL.deeper {k:Nat} {A:Around} (r:zdL (k+1) A) (env:Env):zdL k (A.deeper env):=
 ⟨r.hd,by have:=r.dp;show A.depth+1+3*k+5<_;omega,by have:=r.un;show A.units+3+16*k+200<_;omega⟩
theorem zdL.depth {k:Nat} {A:Around} (r:zdL k A):A.depth<recursionLimit:=by have:=r.dp;omega
theorem zdL.units {k:Nat} {A:Around} (r:zdL k A):A.units+64<cLine:=by have:=r.un;omega
def zux:TA:=λ_ H Q=>Q [] H
def ztE (ta:TE) (tr:TA):TA:=λσ H Q=>ta σ H λx H1=>tr σ H1 λxs H2=>Q (x::xs) H2
section
variable {X:Cx} {e:Expr} {es:List Expr} {te:TE} {t:TA} {pos:Pos}
theorem zcn:PA X [] zux:=λ_ _ _ _ H Q I h=>Calls.spliced_nil ⟨[],H,I,.nil,h⟩
theorem zbc (ha:PE X e te) (hr:PA X es t) (hs:starEach (e::es) X.env=(false,eval e X.env)::starEach es X.env:=by rfl):PA X (e::es) (ztE te t):=by
 intro pos pins s σ H Q I h
 rw [hs]
 show wpAny _ _ (spliced ((false,eval e X.env)::backTo pos (starEach es X.env))) _ _ s
 refine Calls.spliced_cons (thn (ha pins s σ H _ I h) λu s1 ⟨x,H1,I1,r1,q1⟩=> ?_)
 exact thn (hr pos pins s1 σ H1 _ I1 q1) λus s2 ⟨xs,H2,I2,r2,q2⟩=>⟨x::xs,H2,I2,.cons r1 r2,q2⟩
def zue (t:TA):TE:=λσ H Q=>t σ H λxs H1=>xs.length<=sizeLine/\ ∀ p,H1 p=none->Q (.ref p) (upd H1 p (.tup xs))
def zqz (t:TA):TE:=λσ H Q=>t σ H λxs H1=>xs.length<=sizeLine/\ ∀ p,H1 p=none->Q (.ref p) (upd H1 p (.lst xs))
theorem zqX {x1} (h:PA X es t):PE X (.Tuple es x1 pos) (zue t):=by
 intro pins s σ H Q I hq
 refine wpAny_Tuple_spliced (thn (h pos pins s σ H _ I hq) λus s1 ⟨xs,H1,I1,r,z,q⟩=>⟨by rw [<- r.length];exact z,?_⟩)
 have hf:H1 s1.heap.objs.size=none:=I1.hok.fresh (qaV _)
 refine ⟨.ref s1.heap.objs.size,upd H1 s1.heap.objs.size (.tup xs),I1.laid (t':=s1.toks) (λb u e=>qag _ e) (qaV _) ?_,rfl,q _ hf⟩
 exact ⟨z,us,r,⟨_,qar _ rfl,rfl,_,rfl,rfl⟩⟩
theorem zjK (h:PA X es t):PE X (.List es pos) (zqz t):=by
 intro pins s σ H Q I hq
 refine wpAny_List_spliced (thn (h pos pins s σ H _ I hq) λus s1 ⟨xs,H1,I1,r,z,q⟩=>⟨by rw [<- r.length];exact z,?_⟩)
 have hf:H1 s1.heap.objs.size=none:=I1.hok.fresh (qaV _)
 refine ⟨.ref s1.heap.objs.size,upd H1 s1.heap.objs.size (.lst xs),I1.laid (t':=s1.toks) (λb u e=>qag _ e) (qaV _) ?_,rfl,q _ hf⟩
 exact ⟨z,us,0,r,qar _ rfl⟩
end
abbrev Sp:=List V->Hp->VK->XK->Prop
abbrev CXT:=List Env->Hp->Shared->XK->Value->Shared->Prop
structure zpS (P:Program) (w:World) (K:W.Frag) (mg:Str->Option Value) (base:Heap) (A:Around) (outer:List Env) (s:Shared) (H:Hp):Prop where
 frames:A.frames=some outer
 mod:Mod K mg base
 bs: ∀ b o,base.get? b=some o->s.heap.get? b=some o/\H b=none
 bsz:base.objs.size<=s.heap.objs.size
 funs:s.heap.FunFrames base outer
 frf: ∀ b∈frs outer,H b=none
 hok:HOk P w H s.heap
 bare:AllBare s.gens
 hand:zg2 A H
def CE (outer:List Env) (P:Program) (w:World) (H:Hp) (s:Shared) (Q:VK) (u:Value) (s':Shared):Prop:=
 ∃ v H',s'.os=s.os/\AllBare s'.gens/\Un (frs outer) [] H H' s.heap s'.heap/\HOk P w H' s'.heap/\zbB v u/\Q v H'
def CR (CX:CXT) (outer:List Env) (P:Program) (w:World) (H:Hp) (s:Shared) (Q:VK) (E:XK) (r:Result) (s':Shared):Prop:=
 match r with
 | .ok (.ret u)=>CE outer P w H s Q u s'
 | .ok _=>False
 | .error e=>CX outer H s E e s'
structure zbE (P:Program) (w:World) (K:W.Frag) (mg:Str->Option Value) (base:Heap) (CX:CXT) (k:Nat) (f:Addr) (fd:FuncData) (ps:List Str) (sp:Sp):Prop where
 len: ∀ vs H Q E,sp vs H Q E->vs.length=ps.length
 run: ∀ (A:Around) (outer:List Env) (s:Shared) (H:Hp) (args:Args) (us:List Value) (vs:List V) (Q:VK) (E:XK),zdL k A->zpS P w K mg base A outer s H->BindsTo s fd args (ps.zip us)->za7 vs us->sp vs H Q E->
  codeAny (model P w) A (.call (.ref f) args) (CR CX outer P w H s Q E) s
section
variable {X:Cx} {pins:List (Addr×Obj)} {σ:St} {H:Hp} {s s':Shared}
theorem Inv.env0 (I:Inv X pins σ H s):zpS X.prog X.w X.K X.mg X.base X.A X.stack s H:=
 ⟨I.ok.frames,I.ok.mod,I.bs,qaS I.ok.bsz I.sz,I.stack,I.stkFree,I.hok,I.bare,I.handA⟩
theorem Inv.after {Q:VK} {u:Value} (I:Inv X pins σ H s) (h:CE X.stack X.prog X.w H s Q u s'):EP X pins σ Q u s':=by
 obtain ⟨v,H',os,bare,un,hok,r,q⟩:=h
 obtain ⟨hh,g,d,t,os'⟩:=s'
 obtain rfl:os'=s.os:=os
 exact ⟨v,H',I.call (h':=hh) (g':=g) (d':=d) (t':=t) (ch:=[]) un hok bare (λb z=>absurd z (by simp)),r,q⟩
end
def ztz (sp:Sp) (dvs:List V) (E:XK) (t:TA):TE:=λσ H Q=>t σ H λvs H1=>sp (vs++dvs) H1 Q E
def zaJ (K:W.Frag) (fd:FuncData) (ps:List Str) (ds:List Value):Prop:=
 ∀ (s:Shared) (us:List Value),K.In s.heap->(us++ds).length=ps.length->BindsTo s fd ⟨us,[]⟩ (ps.zip (us++ds))
theorem zaJ.all {K:W.Frag} {fd:FuncData} {ps:List Str} (h: ∀ us:List Value,us.length=ps.length->bindArgs fd ⟨us,[]⟩=pure (ps.zip us)):zaJ K fd ps []:=λs us _ hl=>by
 rw [append_nil] at hl ⊢
 exact .of_eq (h us hl)
def zbH (CX:CXT) (X:Cx) (E:XK):Prop:= ∀ (pins:List (Addr×Obj)) (σ:St) (H:Hp) (s:Shared) (e:Value) (s':Shared),Inv X pins σ H s->CX X.stack H s E e s'->X.xe e s'
section
variable {X:Cx} {CX:CXT} {k:Nat} {f C:Addr} {fd:FuncData} {ps:List Str} {sp:Sp} {dvs:List V} {ds:List Value} {E:XK} {x m:Str} {p pos apos:Pos} {e o:Expr} {es:List Expr} {ta:TE} {t:TA}
theorem znL {pins:List (Addr×Obj)} {σ:St} {H:Hp} {s:Shared} {Q:VK} {us:List Value} {vs:List V} (F:zbE X.prog X.w X.K X.mg X.base CX k f fd ps sp) (hr:zdL k X.A) (hb:zaJ X.K fd ps ds) (hd:za7 dvs ds) (hx:zbH CX X E)
  (I:Inv X pins σ H s) (r:za7 vs us) (h:sp (vs++dvs) H Q E):wpAny (model X.prog X.w) X.A (call (.ref f) us) (EP X pins σ Q) X.xe s:=by
 have r2:za7 (vs++dvs) (us++ds):=r.append hd
 have hl:(us++ds).length=ps.length:=by rw [<- r2.length];exact F.len _ _ _ _ h
 refine wpAny_call (codeAny_mono (F.run X.A X.stack s H ⟨us,[]⟩ (us++ds) (vs++dvs) Q E hr I.env0 (hb s us I.kIn hl) r2 h) λr s' hq=> ?_)
 cases r with
 | error e=>exact hx pins σ H s e s' I hq
 | ok fl=>
  cases fl with
  | ret u=>exact I.after hq
  | next=>exact qa0 hq
  | brk=>exact qa0 hq
  | cont=>exact qa0 hq
theorem zhm (F:zbE X.prog X.w X.K X.mg X.base CX k f fd ps sp) (hr:zdL k X.A) (hg:Gl X x) (hm:X.mg x=some (.ref f)) (hk:W.keepIn X.K (.ref f)=true) (hb:zaJ X.K fd ps ds) (hd:za7 dvs ds) (hx:zbH CX X E)
  (ha:PA X (e::es) t) (hdb:(x==("__debug__":Str))=false:=by decide) (he:starEach (e::es) X.env=(false,eval e X.env)::starEach es X.env:=by rfl) (hpl:(backTo pos (starEach es X.env)).any (·.1)=false:=by rfl):
  PE X (.Call (.Name x p) (e::es) [] pos) (ztz sp dvs E t):=by
 intro pins s σ H Q I h
 refine wpAny_Call_Name_kw (zhr I hg hm ?_ hdb)
 refine W.callWith_K (h₀:=X.base) I.ok.mod.kin hk (thn (ha pos pins s σ H _ I h) λus s1 ⟨vs,H1,I1,r,q⟩=>⟨I1.kIn,?_⟩) he hpl
 exact znL F hr hb hd hx I1 r q
structure Mk (K:W.Frag) (C f:Addr):Prop where
 makes:W.makesIn K C=true
 init:W.findIn K (.ref C) "__init__"=some (some (.ref f))
 fn:W.isFn K (.ref f)=true
 kp:W.keepIn K (.ref C)=true
end
section
variable {X:Cx} {CX:CXT} {k:Nat} {f C:Addr} {fd:FuncData} {ps ks:List Str} {sp:Sp} {E:XK} {x m:Str} {p pos apos kpos:Pos} {e o:Expr} {es:List Expr} {kws:List Keyword} {te ta:TE} {t tk:TA} {nm:Option Str}
structure ztW (K:W.Frag) (fd:FuncData) (ps ks:List Str) (g:List Value->List Value->List Value) (gV:List V->List V->List V):Prop where
 to: ∀ (s:Shared) (us ws:List Value),K.In s.heap->(g us ws).length=ps.length->BindsTo s fd ⟨us,ks.zip ws⟩ (ps.zip (g us ws))
 rel: ∀ {vs:List V} {us:List Value} {zs:List V} {ws:List Value},za7 vs us->za7 zs ws->za7 (gV vs zs) (g us ws)
variable {g:List Value->List Value->List Value} {gV:List V->List V->List V}
end
structure zao (N P:List Str) (sc:Scope):Prop where
 kind:sc.kind= .function
 co:sc.isCoroutine=false
 gen:sc.isGenerator=false
 nd:N.Nodup
 pre:N.take P.length=P
 par: ∀ x∈P,sc.names.lookup x=some .local\/sc.names.lookup x=some .cell
 nofree: ∀ y∈sc.names,y.2≠ .free
theorem zgx {kindOf:Str->Option NameKind} {x:Str}: ∀ {binds:List (Str×Value)} {m:Str->Option Value},(∀ v,(x,v)∉binds)->bindL kindOf binds m x=m x
 | [],_,_=>rfl
 | (n,v)::r,m,h=>by
  unfold bindL
  rw [zgx λw hw=>h w (qan _ hw)]
  split
  ·have:x≠n:=by rintro rfl;exact h v qau
   simp [this]
  ·rfl
theorem zg4 {kindOf:Str->Option NameKind} {x:Str}: ∀ {binds:List (Str×Value)} {m:Str->Option Value},(∀ v,(x,v)∉binds)->bindC kindOf binds m x=m x
 | [],_,_=>rfl
 | (n,v)::r,m,h=>by
  unfold bindC
  rw [zg4 λw hw=>h w (qan _ hw)]
  split
  ·rfl
  ·have:x≠n:=by rintro rfl;exact h v qau
   simp [this]
theorem zgF {kindOf:Str->Option NameKind} {x:Str} {v:Value}: ∀ {P:List Str} {vs:List Value} {i:Nat} {m:Str->Option Value},P.Nodup->P[i]? = some x->vs[i]? = some v->kindOf x=some .local->
  bindL kindOf (P.zip vs) m x=some v
 | [],_,_,_,_,h,_,_=>by simp at h
 | _::_,[],_,_,_,_,h,_=>by simp at h
 | p::P,w::vs,0,m,nd,h1,h2,hk=>by
  simp at h1 h2;subst h1;subst h2
  show bindL kindOf ((p,w)::P.zip vs) m p=_
  unfold bindL
  rw [zgx λv hv=>(nodup_cons.mp nd).1 (of_mem_zip hv).1,qa4 hk]
  simp
 | p::P,w::vs,i+1,m,nd,h1,h2,hk=>by
  show bindL kindOf ((p,w)::P.zip vs) m x=_
  unfold bindL
  exact zgF (i:=i) (nodup_cons.mp nd).2 (by simpa using h1) (by simpa using h2) hk
theorem zgL {kindOf:Str->Option NameKind} {x:Str} {v:Value}: ∀ {P:List Str} {vs:List Value} {i:Nat} {m:Str->Option Value},P.Nodup->P[i]? = some x->vs[i]? = some v->kindOf x≠some .local->
  bindC kindOf (P.zip vs) m x=some v
 | [],_,_,_,_,h,_,_=>by simp at h
 | _::_,[],_,_,_,_,h,_=>by simp at h
 | p::P,w::vs,0,m,nd,h1,h2,hk=>by
  simp at h1 h2;subst h1;subst h2
  show bindC kindOf ((p,w)::P.zip vs) m p=_
  unfold bindC
  rw [zg4 λv hv=>(nodup_cons.mp nd).1 (of_mem_zip hv).1,qa5 hk]
  simp
 | p::P,w::vs,i+1,m,nd,h1,h2,hk=>by
  show bindC kindOf ((p,w)::P.zip vs) m x=_
  unfold bindC
  exact zgL (i:=i) (nodup_cons.mp nd).2 (by simpa using h1) (by simpa using h2) hk
def zd4 (N:List Str) (vs:List V):St:=vs.map some++replicate (N.length - vs.length) none
def zgU (CX:CXT) (P:Program) (w:World) (K:W.Frag) (mg:Str->Option Value) (base:Heap) (N:List Str) (qual:Str) (scope:Scope) (f:Addr) (cd:Value) (A:Around) (outer:List Env) (s:Shared) (H:Hp) (E:XK):Cx where
 prog:=P
 w:=w
 K:=K
 mg:=mg
 base:=base
 A:=A.deeper (envOfC qual scope s.heap.objs.size f cd)
 N:=N
 s₀:=s
 H₀:=H
 env:=envOfC qual scope s.heap.objs.size f cd
 outer:=outer
 stack:=envOfC qual scope s.heap.objs.size f cd::outer
 ex:=[]
 calm:=true
 fn:=λ_=>true
 pn:=[]
 xe:=λe s'=>wpAny (model P w) (A.deeper (envOfC qual scope s.heap.objs.size f cd)) (leaving (envOfC qual scope s.heap.objs.size f cd) e) (λ_ s''=>CX outer H s E e s'') (λe' s''=>CX outer H s E e' s'') s'
theorem ziD {sc:Scope} {n:Nat} {x:Str} (h:sc.names.lookup x=some .cell): ∃ c,(cellsFrom n sc.names []).lookup x=some c:=by
 have q:=W.cellsFrom_some sc.names n [] (.inl h)
 exact isSome_iff_exists.mp q
theorem zg9 {CX:CXT} {P:Program} {w:World} {K:W.Frag} {mg:Str->Option Value} {base:Heap} {N ps:List Str} {qual:Str} {scope:Scope} {f:Addr} {cd:Value} {A:Around} {outer:List Env} {s s1:Shared} {H:Hp} {E:XK} {us:List Value} {vs:List V}
  (S:zao N ps scope) {cm:Bool} (hd:cm=true->A.handled=none) (e0:zpS P w K mg base A outer s H) (hl:vs.length=ps.length) (r:za7 vs us)
  (x:InCallC s s.heap.objs.size (bindL (envOfC qual scope s.heap.objs.size f cd).kindOf (ps.zip us) λ_=>none) (cellsFrom (s.heap.objs.size+1) scope.names []) (bindC (envOfC qual scope s.heap.objs.size f cd).kindOf (ps.zip us) λ_=>none) s1):
  Inv {zgU CX P w K mg base N qual scope f cd A outer s H E with calm:=cm} [] (zd4 N vs) H s1:=by
 have hpl:ps.length<=N.length:=by have:=congrArg List.length S.pre;rw [length_take] at this;omega
 obtain ⟨h1,tk,rfl,hk⟩:=x.done
 have noA: ∀ b:Addr,b∉(zgU CX P w K mg base N qual scope f cd A outer s H E).ex:=λb z=>absurd (show b∈([]:List Addr) from z) (by simp)
 refine ⟨⟨e0.mod,S.kind,rfl,rfl,qaV _,λy z c h1 h2=> ?_,λy hy=> ?_,λy c _ h=> ?_,hd,e0.hand,Around.frames_deeper e0.frames,.inr ⟨rfl,rfl⟩,λb z=>absurd z (noA b),e0.bs,e0.bsz,λb _ _=>noA b,λb z=>absurd z (noA b),e0.funs,e0.frf⟩,
   rfl,e0.bare,Un.kept hk,⟨_,x.toInCall.ns,λi y v h1 h2 h3=> ?_⟩,λy c h=>⟨_,x.cell y c h⟩,e0.hok.fresh (qaV _),λy c h=> ?_,λp hp=>absurd (show p∈([]:List (Addr×Obj)) from hp) (by simp),e0.hok.kept hk,?_⟩
 ·exact name_of_addr x.apart (PySem.mem_of_lookup h1) (PySem.mem_of_lookup h2)
 ·have hy:scope.names.lookup y=some .cell\/scope.names.lookup y=some .free:=hy
  rcases hy with hy | hy
  ·exact ziD hy
  ·exact absurd rfl (S.nofree _ (PySem.mem_of_lookup hy))
 ·exact le_of_lt (x.above y c (PySem.mem_of_lookup h))
 ·have hi:i<vs.length:=by
   unfold zd4 at h2
   by_cases hi:i<vs.length
   ·exact hi
   ·rw [qaa (by simpa using hi)] at h2
    rw [List.getElem?_replicate] at h2
    split at h2<;>cases h2
  have ha:vs[i]? = some v:=by
   unfold zd4 at h2
   rw [qad (by simpa using hi),List.getElem?_map] at h2
   cases e:vs[i]? with
   | none=>rw [e] at h2;cases h2
   | some a=>rw [e] at h2;cases h2;rfl
  obtain ⟨u,hu,rv⟩:=r.get ha
  have hp:ps[i]? = some y:=by
   rw [<- S.pre,List.getElem?_take_of_lt ⋯];exact h1
  have ndP:ps.Nodup:=by rw [<- S.pre];exact S.nd.sublist (List.take_sublist _ _)
  refine ⟨u,rv,?_⟩
  rcases S.par y (List.mem_of_getElem? hp) with k | k
  ·exact .inl ⟨k,zgF ndP hp hu k⟩
  ·obtain ⟨c,e⟩:=ziD (n:=s.heap.objs.size+1) k
   refine .inr ⟨.inl k,c,e,?_⟩
   have q:=x.cell y c e
   rw [zgL ndP hp hu (by show scope.names.lookup y≠_;rw [k];decide)] at q
   exact q
 ·exact e0.hok.fresh (le_of_lt (x.above y c (PySem.mem_of_lookup h)))
 ·unfold zd4
  show _=N.length
  rw [qav,qaH,List.length_replicate]
  omega
theorem zrl {CX:CXT} {P:Program} {w:World} {K:W.Frag} {mg:Str->Option Value} {base:Heap} {k:Nat} {f:Addr} {name qual:Str} {params:Arguments} {body:List Stmt} {scope:Scope} {dV kV doc pm cdv ct oc:Value} {an od:Option Addr}
  {osl:Array (Option Value)} {N ps:List Str} {sp:Sp} (lk:K.lookup f=some ⟨oc,od,.func (W.fnOf name qual params body scope dV kV doc pm an cdv ct),osl⟩) (hcd:W.codeIn K cdv qual=true) (S:zao N ps scope)
  (len: ∀ vs H Q E,sp vs H Q E->vs.length=ps.length)
  (hbody: ∀ (A:Around) (outer:List Env) (s:Shared) (H:Hp) (vs:List V) (Q:VK) (E:XK),zdL k (A.deeper (envOfC qual scope s.heap.objs.size f cdv))->sp vs H Q E->
    ∃ t,PSs (zgU CX P w K mg base N qual scope f cdv A outer s H E) body t/\t {nx:=λ_ H'=>Q .non H',rt:=Q} (zd4 N vs) H):
  zbE P w K mg base CX (k+1) f (W.fnOf name qual params body scope dV kV doc pm an cdv ct) ps sp:=by
 refine ⟨len,λA outer s H args us vs Q E hr e0 hb r hsp=> ?_⟩
 have hl:=len _ _ _ _ hsp
 have KX:K.In s.heap:=e0.mod.kin.keeps λb o e=>(e0.bs b o e).1
 have lim:s.heap.NoLimit:=e0.mod.nolimit.keeps λb o e=>(e0.bs b o e).1
 have hkind: ∀ y∈ps.zip us,scope.names.lookup y.1=some .local\/(scope.names.lookup y.1=some .cell/\((cellsFrom (s.heap.objs.size+1) scope.names []).lookup y.1).isSome=true):=λ⟨n,v⟩ hy=>by
  rcases S.par n (of_mem_zip hy).1 with q | q
  ·exact .inl q
  ·exact .inr ⟨q,W.cellsFrom_some _ _ _ (.inl q)⟩
 refine codeAny_call_function hr.depth (KX _ _ lk) rfl S.co S.gen rfl (W.codeRec_of KX hcd) (hb _ _ _ _ ?_)
 refine wpAny_newFunctionEnv_cells S.kind hkind λenv he s1 x=> ?_
 subst he
 refine ⟨lim.keeps x.toInCall.keep,codeAny_func ?_⟩
 obtain ⟨t,ht,hq⟩:=hbody A outer s H vs Q E (hr.deeper _) hsp
 have I:Inv (zgU CX P w K mg base N qual scope f cdv A outer s H E) [] (zd4 N vs) H s1:=zg9 (cm:=true) S (λ_=>hr.hd) e0 hl r x
 refine qaZ (ht [] s1 (zd4 N vs) H _ I hq) (λfl s' hs=> ?_) λe s' hs=>hs
 have fin: ∀ {σ':St} {H':Hp} {v:V} {u:Value},Inv (zgU CX P w K mg base N qual scope f cdv A outer s H E) [] σ' H' s'->zbB v u->Q v H'->CE outer P w H s Q u s':=
  λ{σ' H' v u} J rv q=>⟨v,H',J.os,J.bare,J.base,J.hok,rv,q⟩
 cases fl with
 | ret u=>
  obtain ⟨v,σ',H',J,rv,q⟩:=hs
  exact fin J rv q
 | next=>
  obtain ⟨σ',H',J,q⟩:=hs
  exact fin (v:=V.non) (u:=Value.none) J rfl q
 | brk=>
  obtain ⟨_,_,_,q⟩:=hs
  exact qa0 q
 | cont=>
  obtain ⟨_,_,_,q⟩:=hs
  exact qa0 q
section
variable {X:Cx} {x:Str} {p pos:Pos} {e:Expr} {es:List Expr} {t:TA} {id T:String} {r:List V->Hp->VK->Prop}
def tCB (r:List V->Hp->VK->Prop) (t:TA):TE:=λσ H Q=>t σ H λvs H1=>r vs H1 Q
theorem zdD (hc:zaO X (.builtin id) r) (hg:Gl X x) (hm:X.mg x=none) (hv:bootBuiltins x=some (.builtin id)) (ha:PA X (e::es) t) (hn:x≠"__name__":=by decide) (hdb:(x==("__debug__":Str))=false:=by decide)
  (he:starEach (e::es) X.env=(false,eval e X.env)::starEach es X.env:=by rfl) (hpl:(backTo pos (starEach es X.env)).any (·.1)=false:=by rfl):PE X (.Call (.Name x p) (e::es) [] pos) (tCB r t):=by
 intro pins s σ H Q I h
 refine wpAny_Call_Name_kw (zh3 I hg hm hv ?_ hn hdb)
 exact PyProof.Rows.callWith_builtin1 (thn (ha pos pins s σ H _ I h) λus s1 ⟨vs,H1,I1,r1,q1⟩=>hc pins s1 σ H1 vs us Q I1 r1 q1) he hpl
theorem zg5 (hc:zaO X (.type T) r) (hg:Gl X x) (hm:X.mg x=none) (hv:bootBuiltins x=some (.type T)) (ha:PA X (e::es) t) (hn:x≠"__name__":=by decide) (hdb:(x==("__debug__":Str))=false:=by decide)
  (he:starEach (e::es) X.env=(false,eval e X.env)::starEach es X.env:=by rfl) (hpl:(backTo pos (starEach es X.env)).any (·.1)=false:=by rfl):PE X (.Call (.Name x p) (e::es) [] pos) (tCB r t):=by
 intro pins s σ H Q I h
 refine wpAny_Call_Name_kw (zh3 I hg hm hv ?_ hn hdb)
 exact PyProof.Rows.callWith_type1 (thn (ha pos pins s σ H _ I h) λus s1 ⟨vs,H1,I1,r1,q1⟩=>hc pins s1 σ H1 vs us Q I1 r1 q1) he hpl
end
end L2
namespace HT
section
open PySem.SeqAt
open PySem.AutoSeq1 (wpAny_loadPart')
open PySem.MeetsSeq PySem.MeetsSeq2 PySem.MeetsSeq3
end
section
variable {prog:Program} {w:World} {A:Around} {E:Value->Shared->Prop} {s:Shared}
theorem znZ {t b:Addr} {vs ws:List Value} {Q:Value->Shared->Prop} (ht:IsTup s.heap t vs.toArray) (hb:IsTup s.heap b ws.toArray) (hv:vs≠[])
  (h1:ws=[]->Q (.ref t) s) (h2:ws≠[]->Q (.ref s.heap.objs.size) {s with heap:=s.heap.push {cls:= .type "tuple",data:= .seq (vs++ws).toArray}})
  (hsz:vs.length+ws.length<=sizeLine):wpAny (model prog w) A (binaryOp .Add (.ref t) (.ref b)) Q E s:=by
 obtain ⟨⟨cls,dd,data,sl⟩,ho,hc,n,hd⟩:=id ht
 obtain ⟨⟨cls2,dd2,data2,sl2⟩,ho2,hc2,n2,hd2⟩:=id hb
 simp only at hc hd hc2 hd2
 subst hc hd hc2 hd2
 have e:vs.toArray++ws.toArray=(vs++ws).toArray:=by simp
 by_cases hw:ws=[]
 ·exact concat_meets ⟨_,ho,rfl⟩ ⟨_,ho2,rfl⟩ noFill_tuple_add seq_tuple_add PySem.F.slot_tuple_add PySem.F.entry_tuple_add (PySem.F.args_tuple_add_2 _ _)
   (tuple_addW1 t b vs.toArray ws.toArray n n2 dd dd2 sl sl2 (by simpa using hv) (by simp [hw])) ⟨ho,ho2,h1 hw⟩
 ·refine concat_meets ⟨_,ho,rfl⟩ ⟨_,ho2,rfl⟩ noFill_tuple_add seq_tuple_add PySem.F.slot_tuple_add PySem.F.entry_tuple_add (PySem.F.args_tuple_add_2 _ _)
   (tuple_addW2 t b vs.toArray ws.toArray n n2 dd dd2 sl sl2 (by simpa using hv) (by simpa using hw) (by rw [qaA,qaA];exact hsz)) ⟨ho,ho2,?_⟩
  rw [e]
  exact h2 hw
def sIx (n d:Nat):Option Int->Nat
 | none=>d
 | some v=>if v<0 then (v+(n:Int)).toNat else min v.toNat n
theorem zoR (n d k:Nat):sIx n d (some (k:Int))=min k n:=by
 show (if (k:Int)<0 then ((k:Int)+(n:Int)).toNat else min (k:Int).toNat n)=min k n
 rw [qa5 ⋯,qaB]
theorem zqL (n d:Nat) (hd:d<=n) (o:Option Int):sIx n d o<=n:=by
 cases o with
 | none=>exact hd
 | some v=>
  show (if v<0 then (v+(n:Int)).toNat else min v.toNat n)<=n
  by_cases hv:v<0
  ·rw [qa4 hv];omega
  ·rw [qa5 hv];exact min_le_right _ _
theorem zlv (v:Int) (n d:Nat):(if v<0 then max (v+(n:Int)) 0 else min v (n:Int))=((sIx n d (some v):Nat):Int):=by
 show (if v<0 then max (v+(n:Int)) 0 else min v (n:Int))=(((if v<0 then (v+(n:Int)).toNat else min v.toNat n):Nat):Int)
 by_cases hv:v<0
 ·simp only [qa4 hv];omega
 ·simp only [qa5 hv];omega
theorem zjb (lo hi:Option Int) (n:Nat):Builtin.Slice.sliceAdjust lo hi 1 (n:Int)=(((sIx n 0 lo:Nat):Int),((sIx n n hi:Nat):Int)):=by
 have h1: ¬((1:Int)<0):=by omega
 unfold Builtin.Slice.sliceAdjust
 simp only [h1,if_false]
 refine Prod.ext ?_ ?_
 ·cases lo with
  | none=>rfl
  | some v=>exact zlv v n 0
 ·cases hi with
  | none=>rfl
  | some v=>exact zlv v n n
theorem zi5 (i j:Nat):Builtin.Slice.slicePlaces (i:Int) (j:Int) 1=j - i:=by
 unfold Builtin.Slice.slicePlaces
 have h1:(1:Int)>0:=by omega
 simp only [h1,if_true,Int.ediv_one]
 split<;>omega
theorem zfq {v:Value} {o:Option Int} {Q:Option Int->Shared->Prop} (p:IsPart v o) (h:Q o s):wpAny (model prog w) A (Builtin.Slice.slicePartIndex v) Q E s:=by
 cases p with
 | none=>exact slicePart_none h
 | int i t=>exact slicePart_int h
theorem zcE {sl:Addr} {vl vu:Value} {lo hi:Option Int} {n:Nat} {Q:Int×Int×Nat->Shared->Prop} (hs:s.heap.IsSliceOf sl vl vu .none) (pl:IsPart vl lo) (pu:IsPart vu hi)
  (h:Q (((sIx n 0 lo:Nat):Int),1,sIx n n hi - sIx n 0 lo) s):wpAny (model prog w) A (Builtin.Slice.sliceApplied (.ref sl) (pure (n:Int))) Q E s:=by
 obtain ⟨os,hos,hcs,hds⟩:=id hs
 unfold Builtin.Slice.sliceApplied Builtin.Slice.sliceFields
 refine qaW (qaW (wpAny_field hos hds (x:=vl) rfl (qaW (wpAny_field hos hds (x:=vu) rfl (qaW (wpAny_field hos hds (x:= .none) rfl (qaX ?_)))))))
 refine qaW (slicePart_none ?_)
 show wpAny _ _ (if ((1:Int)==0)=true then _ else _) _ _ s
 rw [qa5 (by decide)]
 refine qaW (zfq pl (qaW (zfq pu (qaW (qaX ?_)))))
 show wpAny _ _ (match Builtin.Slice.sliceAdjust lo hi 1 (n:Int) with | (lo,hi)=>pure (lo,(1:Int),Builtin.Slice.slicePlaces lo hi 1)) _ _ s
 rw [zjb lo hi n]
 show wpAny _ _ (pure (((sIx n 0 lo:Nat):Int),(1:Int),Builtin.Slice.slicePlaces ((sIx n 0 lo:Nat):Int) ((sIx n n hi:Nat):Int) 1)) _ _ s
 rw [zi5]
 exact qaX h
theorem znf (xs:Array Value) (i k:Nat):((List.range k).filterMap λ(m:Nat)=>xs[((i:Int)+(m:Int)*1).toNat]?).toArray=((xs.toList.drop i).take k).toArray:=by
 have e:(λ(m:Nat)=>xs[((i:Int)+(m:Int)*1).toNat]?)=λm=>xs[i+m]? := by
  funext m
  have:((i:Int)+(m:Int)*1).toNat=i+m:=by omega
  rw [this]
 rw [e]
 have:=pick_run xs i k
 rw [List.filterMap_map] at this
 have e2:((λx=>xs[x]?)∘λx=>i+x)=λm=>xs[i+m]? := rfl
 rw [e2] at this
 rw [this]
theorem zd3 {t sl:Addr} {items:Array Value} {vl vu:Value} {lo hi:Option Int} {Q:Value->Shared->Prop} (ht:IsTup s.heap t items) (hs:s.heap.IsSliceOf sl vl vu .none) (pl:IsPart vl lo) (pu:IsPart vu hi)
  (hw: ¬(sIx items.size 0 lo=0/\sIx items.size items.size hi=items.size))
  (h:Q (.ref s.heap.objs.size) {s with heap:=s.heap.push {cls:= .type "tuple",data:= .seq ((items.toList.drop (sIx items.size 0 lo)).take (sIx items.size items.size hi - sIx items.size 0 lo)).toArray}})
  (hsz:items.size<=sizeLine):wpAny (model prog w) A (getItem (.ref t) (.ref sl)) Q E s:=by
 have htake:sizeOk (.seq ((items.toList.drop (sIx items.size 0 lo)).take (sIx items.size items.size hi - sIx items.size 0 lo)).toArray):=by
  show ((items.toList.drop (sIx items.size 0 lo)).take (sIx items.size items.size hi - sIx items.size 0 lo)).toArray.size<=sizeLine
  rw [qaA,length_take,length_drop,qas]
  omega
 have hj:sIx items.size items.size hi<=items.size:=zqL _ _ (qaV _) hi
 obtain ⟨os,hos,hcs,hds⟩:=id hs
 have hTs:s.TypeIs (.ref sl) "slice":=⟨os,hos,hcs⟩
 unfold getItem
 try with_reducible refine qaO ?_
 first | refine qaW (qaX ?_) | skip
 refine qaW (wpAny_sequenceKey ht.typeIs (by decide) ?_)
 refine qaW (wpAny_callSpecial?_slot (name:=Str.ofString "__getitem__") ht.typeIs PyProof.Rows.slot_tuple_getitem
   (wpAny_call_entry PyProof.Rows.slot_tuple_getitem ht.typeIs entry_tuple_getitem ?_ (args_tuple_getitem _ _)))
 show wpAny _ _ (Builtin.Tuple.tupleItemsOf (.ref t)>>=_) _ _ s
 refine qaW (tupleItemsOf_ ht ?_)
 refine qaW (wpAny_typeOf hTs ?_)
 rw [qa4 (by decide)]
 refine qaW (zcE hs pl pu ?_)
 have hno: ¬((((sIx items.size 0 lo:Nat):Int)==0 && (1:Int)==1 && (sIx items.size items.size hi - sIx items.size 0 lo)==items.size)=true):=by
  intro q
  rw [qaG,qaG] at q
  have q1:((sIx items.size 0 lo:Nat):Int)=0:=eq_of_beq q.1.1
  have q2:sIx items.size items.size hi - sIx items.size 0 lo=items.size:=eq_of_beq q.2
  exact hw ⟨⋯,⋯⟩
 show wpAny _ _ (if (((sIx items.size 0 lo:Nat):Int)==0 && (1:Int)==1 && (sIx items.size items.size hi - sIx items.size 0 lo)==items.size)=true then _ else _) _ _ s
 rw [qa5 hno,znf]
 first
  | exact qaW (m:=Builtin.Tuple.tupleExact _) (qaC (qaX ⟨_,rfl,qaX h⟩) htake)
  | exact qaW (m:=Builtin.Tuple.tupleExact _) (qaC (qaW (qaX (qaX ⟨_,rfl,qaX h⟩))) htake)
  | exact qaW (qaW (m:=Builtin.Tuple.tupleExact _) (qaC (qaX (qaX ⟨_,rfl,qaX h⟩)) htake))
  | exact qaW (qaW (m:=Builtin.Tuple.tupleExact _) (qaC (qaX ⟨_,rfl,qaX h⟩) htake))
end
end HT
namespace L2
abbrev TO:=St->Hp->(Option Int->Hp->Prop)->Prop
def PO (X:Cx) (e:Option Expr) (t:TO):Prop:=
 ∀ (pins:List (Addr×Obj)) (s:Shared) (σ:St) (H:Hp) (Q:Option Int->Hp->Prop),Inv X pins σ H s->t σ H Q->
  wpAny (model X.prog X.w) X.A (evalPart e X.env) (λu s'=> ∃ o H',Inv X pins σ H' s'/\IsPart u o/\Q o H') X.xe s
def zpf:TO:=λ_ H Q=>Q none H
def zsQ (t:TE):TO:=λσ H Q=>t σ H λx H1=> ∃ i,x= .int i/\Q (some i) H1
theorem zck {ns:List Int}: ∀ {us:List Value},za7 (ns.map V.int) us->IntsAre us ns:=by
 induction ns with
 | nil=>intro us r;rw [map_nil] at r;cases r;exact .nil
 | cons n ns ih=>
  intro us r
  rw [qaM] at r
  cases r with
  | cons r1 r2=>
   obtain ⟨t,e⟩:=r1
   subst e
   exact .cons n t (ih r2)
section
variable {X:Cx} {e:Expr} {te:TE} {lo hi:Option Expr} {tl th:TO} {pos p2:Pos}
theorem zop:PO X none zpf:=by
 intro pins s σ H Q I h
 rw [evalPart_none]
 exact qaX ⟨none,H,I,.none,h⟩
theorem zph (h:PE X e te):PO X (some e) (zsQ te):=by
 intro pins s σ H Q I hw
 rw [evalPart_some]
 refine thn (h pins s σ H _ I hw) λu s1 ⟨x,H1,I1,r1,q1⟩=> ?_
 obtain ⟨i,rfl,q⟩:=q1
 obtain ⟨t,rfl⟩:=r1
 exact ⟨some i,H1,I1,.int i t,q⟩
def SlR (X:Cx) (r:V->Option Int->Option Int->Hp->VK->Prop):Prop:=
 ∀ (pins:List (Addr×Obj)) (s:Shared) (σ:St) (H:Hp) (x:V) (v vl vu:Value) (lo hi:Option Int) (sl:Addr) (Q:VK),Inv X pins σ H s->zbB x v->s.heap.IsSliceOf sl vl vu .none->IsPart vl lo->IsPart vu hi->r x lo hi H Q->
  ∃ T id,typeLookup (.type T) "__getitem__"=pure (some (.builtin id))/\s.TypeIs v T/\wpAny (model X.prog X.w) X.A (getItem v (.ref sl)) (EP X pins σ Q) X.xe s
theorem SlR.or {r r':V->Option Int->Option Int->Hp->VK->Prop} (h:SlR X r) (h':SlR X r'):SlR X (λx lo hi H Q=>r x lo hi H Q\/r' x lo hi H Q):=by
 intro pins s σ H x v vl vu lo hi sl Q I rx hs pl pu q
 rcases q with q | q
 ·exact h pins s σ H x v vl vu lo hi sl Q I rx hs pl pu q
 ·exact h' pins s σ H x v vl vu lo hi sl Q I rx hs pl pu q
def tSl (r:V->Option Int->Option Int->Hp->VK->Prop) (te:TE) (tl th:TO):TE:=λσ H Q=>te σ H λx H1=>tl σ H1 λl H2=>th σ H2 λu H3=>r x l u H3 Q
theorem zix {r:V->Option Int->Option Int->Hp->VK->Prop} (hr:SlR X r) (he:PE X e te) (hl:PO X lo tl) (hu:PO X hi th):PE X (.Subscript e (.Slice lo hi none p2) pos) (tSl r te tl th):=by
 intro pins s σ H Q I h
 refine Subscript_ (thn (he pins s σ H _ I h) λv s1 ⟨x,H1,I1,r1,q1⟩=> ?_)
 refine wpAny_Slice (thn (hl pins s1 σ H1 _ I1 q1) λvl s2 ⟨l,H2,I2,pl,q2⟩=>thn (hu pins s2 σ H2 _ I2 q2) λvu s3 ⟨u,H3,I3,pu,q3⟩=> ?_)
 rw [evalPart_none]
 refine qaX ?_
 have I4:Inv X pins σ H3 {s3 with heap:=s3.heap.push {cls:= .type "slice",data:= .fields #[vl,vu,.none]}}:=I3.kept (t':=s3.toks) λb ob q=>qag _ q
 obtain ⟨T,id,hT,ht,hg⟩:=hr pins {s3 with heap:=s3.heap.push {cls:= .type "slice",data:= .fields #[vl,vu,.none]}} σ H3 x v vl vu l u s3.heap.objs.size Q I4 r1 (Heap.IsSliceOf.new ..) pl pu q3
 show wpAny (model X.prog X.w) X.A (subscriptTail e (.Slice lo hi none p2) v (.ref s3.heap.objs.size)) (EP X pins σ Q) X.xe {s3 with heap:=s3.heap.push {cls:= .type "slice",data:= .fields #[vl,vu,.none]}}
 exact tail_any (ops:=[.ref s3.heap.objs.size,v]) ht hT hg (by with_unfolding_all rfl)
def znl (xs:List V) (lo hi:Option Int):List V:=(xs.drop (HT.sIx xs.length 0 lo)).take (HT.sIx xs.length xs.length hi - HT.sIx xs.length 0 lo)
theorem zeI (xs:List V) (lo hi:Option Int):(znl xs lo hi).length<=xs.length:=by
 unfold znl
 rw [length_take,length_drop]
 omega
def zuC (K:W.Frag):V->Option Int->Option Int->Hp->VK->Prop:=λx lo hi H Q=> ∃ a xs,x= .ref a/\SqT K H a xs/\
 ¬ (HT.sIx xs.length 0 lo=0/\HT.sIx xs.length xs.length hi=xs.length)/\ ∀ p,H p=none->Q (.ref p) (upd H p (.tup (znl xs lo hi)))
theorem zpZ:SlR X (zuC X.K):=by
 intro pins s σ H x v vl vu lo hi sl Q I rx hs pl pu h
 obtain ⟨a,xs,rfl,hx,hw,q⟩:=h
 cases rx
 obtain ⟨its,r,ht,hz⟩:=I.tuple hx
 have hlen:its.toArray.size=xs.length:=by rw [qaA];exact r.length.symm
 refine ⟨"tuple",_,PyProof.Rows.slot_tuple_getitem.lookup,ht.typeIs,?_⟩
 refine HT.zd3 ht hs pl pu (by rw [hlen];exact hw) ?_ (by rw [hlen];exact hz)
 rw [hlen]
 refine ⟨.ref s.heap.objs.size,_,I.laid (t':=s.toks) (o:= .tup (znl xs lo hi)) (λb ob q=>qag _ q) (qaV _) ?_,rfl,q _ (I.hok.fresh (qaV _))⟩
 exact ⟨qaS (zeI xs lo hi) hz,_,(r.drop (HT.sIx xs.length 0 lo)).take (HT.sIx xs.length xs.length hi - HT.sIx xs.length 0 lo),zlG.new _ _⟩
def zth (K:W.Frag):R2:=λx y H Q=> ∃ a b xs ys,x= .ref a/\y= .ref b/\SqT K H a xs/\SqT K H b ys/\xs≠[]/\xs.length+ys.length<=sizeLine/\
 (ys=[]->Q (.ref a) H)/\(ys≠[]-> ∀ p,H p=none->Q (.ref p) (upd H p (.tup (xs++ys))))
theorem za7.nil_iff {xs:List V} {us:List Value} (r:za7 xs us):us=[]↔xs=[]:=by
 cases r with
 | nil=>simp
 | cons _ _=>simp
theorem zo6:OpR X (binaryOp .Add) (zth X.K):=by
 intro pins s σ H x y v u Q I rx ry h
 obtain ⟨a,b,xs,ys,rfl,rfl,ha,hb,hx,hz,q1,q2⟩:=h
 cases rx
 cases ry
 obtain ⟨its,r1,p1,_⟩:=I.tuple ha
 obtain ⟨its2,r2,p2,_⟩:=I.tuple hb
 refine HT.znZ p1 p2 (λz=>hx (r1.nil_iff.mp z)) (λz=>⟨.ref a,H,I,rfl,q1 (r2.nil_iff.mp z)⟩) (λz=> ?_) (by rw [<- r1.length, <-r2.length];exact hz)
 refine ⟨.ref s.heap.objs.size,_,I.laid (t':=s.toks) (o:= .tup (xs++ys)) (λb ob q=>qag _ q) (qaV _) ?_,rfl,q2 (λw=>z (r2.nil_iff.mpr w)) _ (I.hok.fresh (qaV _))⟩
 exact ⟨by rw [qav];exact hz,_,r1.append r2,zlG.new _ _⟩
end
def ixN (n:Nat) (i:Int):Option Nat:=if 0<=i then (if i<n then some i.toNat else none) else if -(n:Int)<=i then some (i+n).toNat else none
def atI {α:Type} (xs:List α) (i:Int):Option α:=(ixN xs.length i).bind λj=>xs[j]?
theorem zkN {n:Nat} {i:Int} {j:Nat} (h:ixN n i=some j):seqIndex? i n=some j/\j<n/\ -(n:Int)<=i/\i<n:=by
 unfold ixN at h
 by_cases h0:0<=i
 ·rw [qa4 h0] at h
  by_cases h1:i<n
  ·rw [qa4 h1] at h
   have e:i.toNat=j:=Option.some.inj h
   exact ⟨by rw [seqIndex_of h0 h1,e],⋯,⋯,h1⟩
  ·rw [qa5 h1] at h;cases h
 ·rw [qa5 h0] at h
  by_cases h1: -(n:Int)<=i
  ·rw [qa4 h1] at h
   have e:(i+n).toNat=j:=Option.some.inj h
   exact ⟨by rw [seqIndex_neg ⋯ h1,e],⋯,h1,⋯⟩
  ·rw [qa5 h1] at h;cases h
theorem zhP {α:Type} {xs:List α} {i:Int} {v:α} (h:atI xs i=some v): ∃ j,seqIndex? i xs.length=some j/\xs[j]? = some v/\j<xs.length/\ -(xs.length:Int)<=i/\i<xs.length:=by
 unfold atI at h
 cases e:ixN xs.length i with
 | none=>rw [e] at h;cases h
 | some j=>
  rw [e] at h
  obtain ⟨h1,h2,h3,h4⟩:=zkN e
  exact ⟨j,h1,h,h2,h3,h4⟩
theorem zdS {α:Type} {xs:List α} {j:Nat} {v:α} (h:xs[j]? = some v):atI xs (j:Int)=some v:=by
 have hj:j<xs.length:=(qac.mp h).1
 have e:ixN xs.length (j:Int)=some j:=by
  unfold ixN
  rw [qa4 ⋯,qa4 ⋯];simp
 unfold atI;rw [e];exact h
theorem zhZ {α:Type} (xs:List α) (v:α):atI (xs++[v]) (-1)=some v:=by
 have hl:(xs++[v]).length=xs.length+1:=by simp
 have e:ixN (xs++[v]).length (-1)=some xs.length:=by
  unfold ixN
  rw [hl,qa5 (by decide),qa4 ⋯]
  congr 1
  omega
 unfold atI
 rw [e]
 show (xs++[v])[xs.length]? = some v
 simp
def ze0 (b:Expr):Prop:= ∀ o i,subscripted b false o i=operate [o,i] (getItem o i)
def IxR (X:Cx) (r:R2):Prop:=
 ∀ (value slice:Expr) (pins:List (Addr×Obj)) (s:Shared) (σ:St) (H:Hp) (x y:V) (v u:Value) (Q:VK),Inv X pins σ H s->zbB x v->zbB y u->r x y H Q->
  subscripted slice false v u=operate [v,u] (getItem v u)->wpAny (model X.prog X.w) X.A (subscriptTail value slice v u) (EP X pins σ Q) X.xe s
def MtR (X:Cx) (id:String) (r:V->List V->Hp->VK->Prop):Prop:=
 ∀ (pins:List (Addr×Obj)) (s:Shared) (σ:St) (H:Hp) (x:V) (xs:List V) (v:Value) (us:List Value) (Q:VK),Inv X pins σ H s->zbB x v->za7 xs us->r x xs H Q->
  wpAny (model X.prog X.w) X.A (call (.builtin id) (v::us)) (EP X pins σ Q) X.xe s
section
variable {X:Cx} {a b:Expr} {ta tb:TE} {pos:Pos}
theorem IxR.or {r r':R2} (h:IxR X r) (h':IxR X r'):IxR X (λx y H Q=>r x y H Q\/r' x y H Q):=by
 intro value slice pins s σ H x y v u Q I rx ry q hs
 rcases q with q | q
 ·exact h value slice pins s σ H x y v u Q I rx ry q hs
 ·exact h' value slice pins s σ H x y v u Q I rx ry q hs
theorem zsd {r:R2} (hr:IxR X r) (ha:PE X a ta) (hb:PE X b tb) (hs:ze0 b):PE X (.Subscript a b pos) (tOp r ta tb):=by
 intro pins s σ H Q I h
 exact Subscript_ (zss ha hb I h λv u s2 x y H2 I2 rx ry q=>hr a b pins s2 σ H2 x y v u Q I2 rx ry q (hs _ _))
def zt8 (K:W.Frag):R2:=λx y H Q=> ∃ p xs i v,x= .ref p/\y= .int i/\SqL K H p xs/\atI xs i=some v/\Q v H
def zuj (K:W.Frag):R2:=λx y H Q=> ∃ p xs i v,x= .ref p/\y= .int i/\SqT K H p xs/\atI xs i=some v/\Q v H
def zuf:R2:=λx y H Q=> ∃ z i c,x= .str z/\y= .int i/\z.length<=sizeLine/\atI z.cps.toList i=some c/\Q (.str ⟨#[c]⟩) H
theorem zkW:IxR X (zt8 X.K):=by
 intro value slice pins s σ H x y v u Q I rx ry h hs
 obtain ⟨p,xs,i,z,rfl,rfl,hq,he,q⟩:=h
 cases rx
 obtain ⟨t,rfl⟩:=ry
 obtain ⟨its,r,pl,hz⟩:=I.list hq
 obtain ⟨j,h1,h2,h3,h4,h5⟩:=zhP he
 obtain ⟨w,ew,rw'⟩:=r.get h2
 have hl:=r.length
 have hn:=zeC
 have fin:EP X pins σ Q w s:=⟨z,H,I,rw',q⟩
 by_cases h0:0<=i
 ·have hj:i.toNat=j:=by
   rw [seqIndex_of h0 h5] at h1
   exact Option.some.inj h1
  exact item_listR pl.isList h0 ⋯ (by rw [hj];simpa using ew) fin hs
 ·have hj:(i+(its.toArray.size:Int)).toNat=j:=by
   rw [seqIndex_neg ⋯ h4] at h1
   rw [qaA, <-hl]
   exact Option.some.inj h1
  exact subscriptTail_builtinR (x:=w) pl.isList.typeIs slot_list_getitem.lookup
   (wpAny_getItem_list_neg (Q:=λr s'=>r=w/\EP X pins σ Q r s') pl.isList ⋯ (by rw [qaA]<;>omega) ⋯ (by rw [hj];simpa using ew) ⟨rfl,fin⟩) hs
theorem zp9:IxR X (zuj X.K):=by
 intro value slice pins s σ H x y v u Q I rx ry h hs
 obtain ⟨p,xs,i,z,rfl,rfl,hq,he,q⟩:=h
 cases rx
 obtain ⟨t,rfl⟩:=ry
 obtain ⟨its,r,pl,hz⟩:=I.tuple hq
 obtain ⟨j,h1,h2,h3,h4,h5⟩:=zhP he
 obtain ⟨w,ew,rw'⟩:=r.get h2
 have hl:=r.length
 have hn:=zeC
 have fin:EP X pins σ Q w s:=⟨z,H,I,rw',q⟩
 exact subscriptTail_builtinR (x:=w) pl.typeIs slot_tuple_getitem.lookup
  (getItem_tuple (j:=j) (Q:=λr s'=>r=w/\EP X pins σ Q r s') pl ⋯ ⋯ (by rw [qaA, <-hl];exact h1) (by simpa using ew) ⟨rfl,fin⟩) hs
theorem zrA:IxR X zuf:=by
 intro value slice pins s σ H x y v u Q I rx ry h hs
 obtain ⟨z,i,c,rfl,rfl,hz,he,q⟩:=h
 obtain ⟨t,rfl⟩:=rx
 obtain ⟨t',rfl⟩:=ry
 obtain ⟨j,h1,h2,h3,h4,h5⟩:=zhP he
 have hl:z.cps.toList.length=z.length:=by simp [Str.length]
 rw [hl] at h1 h4 h5
 have hn:=zeC
 exact tail_any (typeIs_str s z t) slot_str_getitem.lookup (getItem_str (c:=c) (by
   have e1:decide (i< -(2^63:Int))=false:=decide_eq_false ⋯
   have e2:decide (i>=2^63)=false:=decide_eq_false ⋯
   rw [e1,e2,Bool.or_false]) (by rw [h1];simpa using h2) ⟨.str ⟨#[c]⟩,H,I.tok _,⟨_,rfl⟩,q⟩) hs
theorem zjo (its:List Value) (n j:Nat) (u:Value):Obj.mapSeq (·.setIfInBounds j u) {cls:= .type "list",data:= .seq its.toArray n}={cls:= .type "list",data:= .seq (its.set j u).toArray n}:=by
 simp [Obj.mapSeq]
theorem Inv.lst {pins:List (Addr×Obj)} {σ:St} {H:Hp} {s:Shared} {p:Addr} {xs:List V} (I:Inv X pins σ H s) (h:H p=some (.lst xs)):
  ∃ (its:List Value) (n:Nat),za7 xs its/\s.heap.get? p=some {cls:= .type "list",data:= .seq its.toArray n}/\xs.length<=sizeLine:=by
 obtain ⟨z,its,n,r,e⟩:=I.hok p _ h
 exact ⟨its,n,r,e,z⟩
theorem Inv.lstUpd {pins:List (Addr×Obj)} {σ:St} {H:Hp} {s:Shared} {p:Addr} {xs ys:List V} {its its':List Value} {n n':Nat} {f:Obj->Obj} (I:Inv X pins σ H s) (h:H p=some (.lst xs))
  (ho:s.heap.get? p=some {cls:= .type "list",data:= .seq its.toArray n}) (hf:f {cls:= .type "list",data:= .seq its.toArray n}={cls:= .type "list",data:= .seq its'.toArray n'}) (r:za7 ys its') (hz:ys.length<=sizeLine) (t:Nat):
  Inv X pins σ (upd H p (.lst ys)) {s with heap:=s.heap.update p f,toks:=t}:=by
 have e:(s.heap.update p f).get? p=some {cls:= .type "list",data:= .seq its'.toArray n'}:=by
  rw [qal f ho (by rw [hf]<;>rfl),hf]
 refine I.write (x:=p) (e:=p) (by rw [h];trivial) (.inl rfl) (λb u hb q=>(qah _ _ (Ne.symm hb)).trans q) ⟨_,e⟩ ?_
 exact ⟨hz,its',n',r,e⟩
def zsx:V->V->V->Hp->(Hp->Prop)->Prop:=λo i v H Q=> ∃ p xs k j,o= .ref p/\i= .int k/\H p=some (.lst xs)/\ixN xs.length k=some j/\Q (upd H p (.lst (xs.set j v)))
theorem zmC:zsY X zsx:=by
 intro pins s σ H o i v ov iv u Q I ro ri rv h
 obtain ⟨p,xs,k,j,rfl,rfl,hp,hj,q⟩:=h
 cases ro
 obtain ⟨t,rfl⟩:=ri
 obtain ⟨its,n,r,ho,hz⟩:=I.lst hp
 obtain ⟨h1,h2,h3,h4⟩:=zkN hj
 have hl:=r.length
 have hn:=zeC
 have I':Inv X pins σ (upd H p (.lst (xs.set j v))) {s with heap:=s.heap.update p (Obj.mapSeq (·.setIfInBounds j u))}:=
  I.lstUpd hp ho (zjo its n j u) (r.set rv j) (by rw [qaI];exact hz) s.toks
 by_cases h0:0<=k
 ·have hk:k.toNat=j:=by
   rw [seqIndex_of h0 h4] at h1
   exact Option.some.inj h1
  exact W.ki_setAt ho h0 ⋯ (by rw [qaA, <-hl];exact h4) (by rw [hk];exact ⟨_,I',q⟩)
 ·have hk:(k+(its.toArray.size:Int)).toNat=j:=by
   rw [seqIndex_neg ⋯ h3] at h1
   rw [qaA, <-hl]
   exact Option.some.inj h1
  exact W.ki_setBack ho ⋯ (by rw [qaA, <-hl];exact h3) ⋯ (by rw [hk];exact ⟨_,I',q⟩)
theorem zgP (lo hi:Option Int) (n:Nat):(sliceBounds lo hi none n).1=((HT.sIx n 0 lo:Nat):Int)/\(sliceBounds lo hi none n).2.1=((HT.sIx n n hi:Nat):Int)/\(sliceBounds lo hi none n).2.2=1:=by
 refine ⟨?_,?_,rfl⟩
 ·cases lo with
  | none=>simp [sliceBounds,HT.sIx]
  | some i=>
   simp only [sliceBounds,HT.sIx,Option.getD_none,show (1:Int)>0 by decide,if_true]
   by_cases h:i<0
   ·simp only [h,if_true]<;>omega
   ·simp only [h,if_false]<;>omega
 ·cases hi with
  | none=>simp [sliceBounds,HT.sIx]
  | some i=>
   simp only [sliceBounds,HT.sIx,Option.getD_none,show (1:Int)>0 by decide,if_true]
   by_cases h:i<0
   ·simp only [h,if_true]<;>omega
   ·simp only [h,if_false]<;>omega
theorem zfx (its:List Value) (lo hi:Option Int):slicePick its.toArray lo hi none=((its.drop (HT.sIx its.length 0 lo)).take (HT.sIx its.length its.length hi - HT.sIx its.length 0 lo)).toArray:=by
 obtain ⟨h1,h2,h3⟩:=zgP lo hi its.toArray.size
 unfold slicePick
 rw [h1,h2,h3]
 simp only [sliceRange_one,pick_run,qaA]<;>rfl
def zt5 (K:W.Frag):V->Option Int->Option Int->Hp->VK->Prop:=λx lo hi H Q=> ∃ a xs,x= .ref a/\SqL K H a xs/\ ∀ p,H p=none->Q (.ref p) (upd H p (.lst (znl xs lo hi)))
theorem zo1:SlR X (zt5 X.K):=by
 intro pins s σ H x v vl vu lo hi sl Q I rx hs pl pu h
 obtain ⟨a,xs,rfl,hx,q⟩:=h
 cases rx
 obtain ⟨its,r,ht,hz⟩:=I.list hx
 have hlen:=r.length
 refine ⟨"list",_,slot_list_getitem.lookup,ht.isList.typeIs,?_⟩
 refine wpAny_getItem_list_slice ht.isList hs pl pu .none (by simp) ?_ (by rw [qaA]<;>omega)
 rw [zfx, <-hlen]
 refine ⟨.ref s.heap.objs.size,_,I.laid (t':=s.toks) (o:= .lst (znl xs lo hi)) (λb ob q=>qag _ q) (qaV _) ?_,rfl,q _ (I.hok.fresh (qaV _))⟩
 exact ⟨qaS (zeI xs lo hi) hz,_,0,(r.drop (HT.sIx xs.length 0 lo)).take (HT.sIx xs.length xs.length hi - HT.sIx xs.length 0 lo),qar _ rfl⟩
theorem zgX:zaO X (.builtin "len") (λxs H Q=> ∃ p ys,xs=[.ref p]/\(SqL X.K H p ys\/SqT X.K H p ys)/\Q (.int ys.length) H):=by
 intro pins s σ H xs us Q I r h
 obtain ⟨p,ys,rfl,hq,q⟩:=h
 obtain ⟨u,rfl,rx⟩:=zcX r
 cases rx
 have hn:=zeC
 rcases hq with hq | hq
 ·obtain ⟨its,r',pl,hz⟩:=I.list hq
  have hlen:=r'.length
  exact Calls.call_len_list pl.isList (by simp only [qaA]<;>omega) ⟨.int ys.length,H,I.tok _,⟨s.toks+1,by rw [qaA,hlen]⟩,q⟩
 ·obtain ⟨its,r',pl,hz⟩:=I.tuple hq
  have hlen:=r'.length
  exact len_tuple pl (by simp only [qaA]<;>omega) ⟨.int ys.length,H,I.tok _,⟨s.toks+1,by rw [qaA,hlen]⟩,q⟩
theorem zgd:zaO X (.builtin "len") (λxs H Q=> ∃ z,xs=[.str z]/\z.length<=sizeLine/\Q (.int z.length) H):=by
 intro pins s σ H xs us Q I r h
 obtain ⟨z,rfl,hz,q⟩:=h
 obtain ⟨u,rfl,t,rfl⟩:=zcX r
 have hn:=zeC
 exact len_str ⋯ ⟨.int z.length,H,I.tok _,⟨_,rfl⟩,q⟩
theorem zf3:zaO X (.type "tuple") (λxs H Q=> ∃ p ys,xs=[.ref p]/\((SqL X.K H p ys/\ ∀ l,H l=none->Q (.ref l) (upd H l (.tup ys)))\/(SqT X.K H p ys/\Q (.ref p) H))):=by
 intro pins s σ H xs us Q I r h
 obtain ⟨p,ys,rfl,h⟩:=h
 obtain ⟨u,rfl,rx⟩:=zcX r
 cases rx
 rcases h with ⟨hq,q⟩ | ⟨hq,q⟩
 ·obtain ⟨its,r',pl,hz⟩:=I.list hq
  have hlen:=r'.length
  refine call_tuple_list pl.isList (λh' kp=> ?_) (by simp only [qaA]<;>omega)
  have I1:Inv X pins σ H {s with heap:=h'}:=I.kept (t':=s.toks) kp
  have I2:Inv X pins σ (upd H h'.objs.size (.tup ys)) {s with heap:=h'.push {cls:= .type "tuple",data:= .seq its.toArray}}:=
   I1.laid (t':=s.toks) (λb o e=>qag _ e) (qaV _) (show zbZ X.prog X.w _ _ _ (.tup ys) from ⟨hz,its,r',zlG.new _ _⟩)
  exact ⟨.ref h'.objs.size,_,I2,rfl,q _ (I1.hok.fresh (qaV _))⟩
 ·obtain ⟨its,r',pl,hz⟩:=I.tuple hq
  exact call_tuple_same pl ⟨.ref p,H,I,rfl,q⟩
def tyV (K:W.Frag) (T:String) (x:V) (H:Hp):Prop:=match x with
 | .str _=>T="str"
 | .int _=>T="int"
 | .ref p=>(T="list"/\ ∃ xs,SqL K H p xs)\/(T="tuple"/\ ∃ xs,SqT K H p xs)\/
   (T="dict"/\((∃ kvs,H p=some (.dK kvs))\/ ∃ kvs,H p=some (.dT kvs)))\/(T="set"/\ ∃ S n,H p=some (.set S n))
 | _=>False
theorem zrk {pins:List (Addr×Obj)} {σ:St} {H:Hp} {s:Shared} {T:String} {x:V} {v:Value} (I:Inv X pins σ H s) (r:zbB x v) (ty:tyV X.K T x H):
  s.TypeIs v T/\ ∀ a,v= .ref a-> ∃ ob,s.heap.get? a=some ob/\ob.dict=none:=by
 cases x with
 | str z=>
  obtain ⟨t,rfl⟩:=r
  cases (show T="str" from ty)
  exact ⟨typeIs_str s z t,λ_ e=>nomatch e⟩
 | int i=>
  obtain ⟨t,rfl⟩:=r
  cases (show T="int" from ty)
  exact ⟨typeIs_int s i t,λ_ e=>nomatch e⟩
 | ref p=>
  cases r
  rcases ty with ⟨rfl,xs,hq⟩ | ⟨rfl,xs,hq⟩ | ⟨rfl,hk⟩ | ⟨rfl,S,n,hk⟩
  ·obtain ⟨its,_,pl,_⟩:=I.list hq
   refine ⟨pl.isList.typeIs,λa e=> ?_⟩
   cases e
   obtain ⟨o,n,e,c,hd,_⟩:=pl
   exact ⟨o,e,hd⟩
  ·obtain ⟨its,_,⟨o,e,c,n,_,hd⟩,_⟩:=I.tupleD hq
   refine ⟨⟨o,e,c⟩,λa e2=> ?_⟩
   cases e2
   exact ⟨o,e,hd⟩
  ·have z: ∃ o,s.heap.get? p=some o/\o.ExactDict:=by
    rcases hk with ⟨kvs,hk⟩ | ⟨kvs,hk⟩
    ·obtain ⟨_,_,_,_,o,_,_,e,ex,_⟩:=I.hok p _ hk
     exact ⟨o,e,ex⟩
    ·obtain ⟨_,_,_,_,o,_,_,e,ex,_⟩:=I.hok p _ hk
     exact ⟨o,e,ex⟩
   obtain ⟨o,e,ex⟩:=z
   refine ⟨⟨o,e,ex.1⟩,λa e2=> ?_⟩
   cases e2
   exact ⟨o,e,ex.2.1⟩
  ·obtain ⟨o,_,_,_,e,ex,_⟩:=I.hok p _ hk
   refine ⟨⟨o,e,ex.1⟩,λa e2=> ?_⟩
   cases e2
   exact ⟨o,e,ex.2.1⟩
 | _=>exact qa0 ty
def tBM (K:W.Frag) (T:String) (r:V->List V->Hp->VK->Prop) (to:TE) (t:TA):TE:=λσ H Q=>to σ H λx H1=>tyV K T x H1/\t σ H1 λxs H2=>r x xs H2 Q
variable {o e:Expr} {es:List Expr} {to:TE} {t:TA} {name:Str} {apos cpos:Pos} {T id:String} {r:V->List V->Hp->VK->Prop}
theorem ziV (pa:PlainAttrs T) (slot:Slot T name id) (hty:typeOf (.builtin id)=pure (.type "method_descriptor")) (hm:MtR X id r) (ho:PE X o to) (ha:PA X (e::es) t)
  (hbase:attributeBase o name X.env (eval o X.env)=eval o X.env:=by rfl)
  (hfew:((backTo cpos (starEach (e::es) X.env)).all (λx=> !x.1) && (backToKw cpos (keywordEach [] X.env)).all (λx=>x.1.isSome)
    && decide ((e::es).length+([]:List Keyword).length+(if ([]:List Keyword).isEmpty then 0 else 1)<30))=true:=by rfl)
  (hline:(apos.endLine==cpos.line)=true:=by rfl) (hs:starEach (e::es) X.env=(false,eval e X.env)::starEach es X.env:=by rfl) (hplain:(backTo cpos (starEach es X.env)).any (·.1)=false:=by rfl):
  PE X (.Call (.Attribute o name apos) (e::es) [] cpos) (tBM X.K T r to t):=by
 intro pins s σ H Q I h
 refine wpAny_Call_method_late hbase hfew hline rfl (thn (ho pins s σ H _ I h) λv s1 ⟨x,H1,I1,r1,ty,q1⟩=> ?_)
 obtain ⟨h1,h2⟩:=zrk I1 r1 ty
 refine ⟨T,id,pa,slot,hty,h1,h2,?_⟩
 have hA:=ha cpos pins s1 σ H1 _ I1 q1
 rw [hs] at hA ⊢
 refine Calls.callWith_builtin (by show (false || (backTo cpos (starEach es X.env)).any (·.1))=false;rw [hplain]<;>rfl) (Calls.evalArgs_plain ?_)
 exact thn hA λus s2 ⟨vs,H2,I2,r2,q2⟩=>hm pins s2 σ H2 x vs v us Q I2 r1 r2 q2
end
def MtM (X:Cx) (id:String) (r:V->List V->Hp->VK->Prop):Prop:=
 ∀ (pins:List (Addr×Obj)) (s:Shared) (σ:St) (H:Hp) (x:V) (xs:List V) (v:Value) (us:List Value) (Q:VK),Inv X pins σ H s->zbB x v->za7 xs us->r x xs H Q->
  wpAny (model X.prog X.w) X.A (call (.builtin id) (v::us)) (EP X pins σ Q) X.xe s
theorem za7.one: ∀ {x:V} {us:List Value},za7 [x] us-> ∃ u,us=[u]/\zbB x u
 | _,_,.cons r .nil=>⟨_,rfl,r⟩
theorem za7.rep {xs:List V} {us:List Value} (h:za7 xs us): ∀ k:Nat,za7 (replicate k xs).flatten (replicate k us).flatten
 | 0=> .nil
 | k+1=>by
  rw [replicate_succ,replicate_succ,flatten_cons,flatten_cons]
  exact za7.append h (za7.rep h k)
theorem zgg (its:List Value): ∀ (k:Nat) (acc:List Value),
  List.foldl (λx1 x2=>x1++x2) acc.toArray (replicate k its.toArray)=(acc++(replicate k its).flatten).toArray
 | 0,acc=>by simp
 | k+1,acc=>by
  have e:acc.toArray++its.toArray=(acc++its).toArray:=by simp
  have e2:(acc++its)++(replicate k its).flatten=acc++(replicate (k+1) its).flatten:=by
   rw [replicate_succ,flatten_cons,List.append_assoc]
  rw [<- e2, <-zgg its k (acc++its), <-e,replicate_succ,List.foldl_cons]
section
variable {X:Cx} {pins:List (Addr×Obj)} {σ:St} {H:Hp} {s:Shared} {l b:Addr} {xs ys zs:List V}
theorem Inv.lset {its its':List Value} {n:Nat} {f:Array Value->Array Value} {t':Nat} (I:Inv X pins σ H s) (hH:H l=some (.lst xs))
  (e:s.heap.get? l=some {cls:= .type "list",data:= .seq its.toArray n}) (hf:f its.toArray=its'.toArray) (hv:za7 ys its') (hz:ys.length<=sizeLine):
  Inv X pins σ (upd H l (.lst ys)) {s with heap:=s.heap.update l (Obj.mapSeq f),toks:=t'}:=by
 have q:=PySem.IsL.update e f
 rw [hf] at q
 refine I.write (x:=l) (e:=l) (by rw [hH];exact trivial) (.inl rfl) (λb' u hb hu=>(qah s.heap (Obj.mapSeq f) (Ne.symm hb)).trans hu) ⟨_,q⟩ ?_
 exact ⟨hz,its',_,hv,q⟩
theorem Inv.lnew {its:List Value} {t':Nat} (I:Inv X pins σ H s) (hv:za7 ys its) (hz:ys.length<=sizeLine):
  Inv X pins σ (upd H s.heap.objs.size (.lst ys)) {s with heap:=s.heap.push {cls:= .type "list",data:= .seq its.toArray},toks:=t'}:=
 I.laid (λ_ _ q=>qag _ q) (qaV _) ⟨hz,its,0,hv,qar _ rfl⟩
theorem Inv.fresh (I:Inv X pins σ H s):H s.heap.objs.size=none:=I.hok.fresh (qaV _)
theorem Inv.lstM (I:Inv X pins σ H s) (hH:H l=some (.lst xs)):xs.length<=sizeLine/\ ∃ (its:List Value) (n:Nat),za7 xs its/\xs.length=its.length/\s.heap.get? l=some {cls:= .type "list",data:= .seq its.toArray n}:=by
 obtain ⟨z,its,n,r,e⟩:=I.hok l _ hH
 exact ⟨z,its,n,r,r.length,e⟩
end
section
variable {X:Cx}
def zor:V->List V->Hp->VK->Prop:=λx vs H Q=> ∃ l xs y,x= .ref l/\vs=[y]/\H l=some (.lst xs)/\xs.length<sizeLine/\Q .non (upd H l (.lst (xs++[y])))
theorem zeS:MtM X "list.append" zor:=by
 intro pins s σ H x vs v us Q I rx rv h
 obtain ⟨l,xs,y,rfl,rfl,hH,hz,q⟩:=h
 cases rx
 obtain ⟨u,rfl,ru⟩:=rv.one
 obtain ⟨z,its,n,r,hl,e⟩:=I.lstM hH
 refine call_meets F.slot_list_append ⟨_,e,rfl⟩ F.entry_list_append (F.args_list_append_2 _ _) (PySem.list_append l its.toArray n u (by rw [qaA];omega)) ⟨e,?_⟩
 refine ⟨.non,_,I.lset (its':=its++[u]) hH e (by simp) (r.append (.cons ru .nil)) ?_,rfl,q⟩
 rw [qav,List.length_singleton]
 omega
def zun:R2:=λx y H Q=> ∃ l b xs zs,x= .ref l/\y= .ref b/\H l=some (.lst xs)/\H b=some (.lst zs)/\xs.length+zs.length<=sizeLine/\ ∀ p,H p=none->Q (.ref p) (upd H p (.lst (xs++zs)))
theorem zrC:OpR X (binaryOp .Add) zun:=by
 intro pins s σ H x y v u Q I rx ry h
 obtain ⟨l,b,xs,zs,rfl,rfl,hH,hB,hz,q⟩:=h
 cases rx
 cases ry
 obtain ⟨z,its,n,r,hl,e⟩:=I.lstM hH
 obtain ⟨z2,its2,n2,r2,hl2,e2⟩:=I.lstM hB
 refine PySem.P.add_list e e2 ?_ (by rw [qaA,qaA];omega)
 have ea:its.toArray++its2.toArray=(its++its2).toArray:=by simp
 rw [ea]
 exact ⟨.ref _,_,I.lnew (t':=s.toks) (r.append r2) (by rw [qav];omega),rfl,q _ I.fresh⟩
theorem zol {α:Type} (xs:List α) (k:Nat):(replicate k xs).flatten.length=k*xs.length:=by
 induction k with
 | zero=>simp
 | succ k ih=>rw [replicate_succ,flatten_cons,qav,ih,Nat.succ_mul,Nat.add_comm]
end
section
variable {prog:Program} {w:World} {A:Around} {E:Value->Shared->Prop} {s:Shared}
end
section
variable {X:Cx}
end
end L2
namespace Att
open PySem.W PySem.Calls
theorem zeU {P:Params} {h:Heap}: ∀ (ns:List Int) (vs:List Value),WellAll P h vs (ns.map WData.int)->IntsAre vs ns:=by
 intro ns
 induction ns with
 | nil=>
  intro vs w
  rw [map_nil] at w
  cases w
  exact .nil
 | cons n ns ih=>
  intro vs w
  rw [qaM] at w
  cases w with
  | cons a b=>
   cases a
   exact .cons _ _ (ih _ b)
theorem zkA {l:OpenLaw} {n:Nat} (hn:l.most=some n) {P:Params} {h:Heap} {args:List WData} {vals:List Value}
  (hpre:l.row.toRowW.claim.pre args=true) (hwl:WellAll P h vals args):
  ∃ a vs ns,vals=[Value.ref a]/\args=[WData.list (ns.map WData.int)]/\h.get? a=some {cls:= .type "list",data:= .seq vs.toArray}/\IntsAre vs ns/\ns.length<=n:=by
 have hsh:WShape.hasAll [] args [.list .int]=true:=(pre_splitW hpre).1
 have hc:l.pre.holds [] {args:=args}=true:=(pre_splitW hpre).2
 obtain ⟨d,r,rfl,h1,h2⟩:=hasAllW_cons hsh
 obtain rfl:=hasAllW_nil h2
 obtain ⟨xs,rfl,h3⟩:=hasW_list h1
 obtain ⟨ns,rfl⟩:=items_int h3
 have hlen:ns.length<=n:=by
  unfold OpenLaw.pre at hc
  have h4:(WTm.not (.lt (.lit (.int (n:Int))) (.len (.arg 0)))).holds [] {args:=[.list (ns.map .int)]}=true:=by
   have h4:=(holds_andW hc).1
   rw [hn] at h4
   exact h4
  have h5:=condW_of h4 (w_not (w_lt w_lit (w_len_list (w_arg rfl))))
  rw [qaH] at h5
  refine Nat.le_of_not_lt λq=> ?_
  have q':(n:Int)<((ns.length:Nat):Int):=by omega
  first
   | (rw [decide_eq_true q'] at h5;exact absurd h5 (by decide))
   | (simp at h5;omega)
 cases hwl with
 | cons w1 w2=>
  cases w2
  cases w1 with
  | list ho hall=>exact ⟨_,_,ns,rfl,rfl,ho,zeU ns _ hall,hlen⟩
theorem zll (l:OpenLaw) (args:List WData):l.row.toRowW.claim.post args (.bool true) args=true:=
 postW_of (r:=l.row.toRowW) (X:=(true==true))
  (show WShape.has [] (.bool true) .bool=true by first | rfl | decide | simp [WShape.has,WShape.arms,WShape.armsAll])
  (show (WTm.eq .res (.lit (.bool true))).value [] {args:=args,res:=some (.bool true),after:=args}=some (.bool (true==true)) from w_eq_bool (w_res rfl) w_lit) rfl
theorem zhM {l:OpenLaw} {n:Nat} {q:Program} {loose:List Str} {XP:(Str->Option Value)->Heap->Prop} {YP:World->Heap->Prop} {d:DefRec}
  (hn:l.most=some n) (hdf:d.params.defaults=[])
  (call: ∀ (w:World) (s₀ s₁:Shared) (mg mb:Str->Option Value) (fa:Addr) (o:Obj) (pm cd doc:Value) (a:Addr) (vs:List Value) (ns:List Int),
    Ground q loose [] XP w s₀ mg mb s₁.heap->YP w s₁.heap->
    s₁.heap.get? fa=some o->o.data= .func (docDef d.name d.params d.body d.scope pm cd doc)->s₁.heap.CodeRec cd d.name->mg d.name=some (.ref fa)->
    s₁.heap.get? a=some {cls:= .type "list",data:= .seq vs.toArray}->IntsAre vs ns->ns.length<=n->s₁.gens= #[]->
    codeAny (model l.prog w) callerA (.call (.ref fa) ⟨[.ref a],[]⟩) (λr s'=>r= .ok (.ret (.bool true))/\OldK s₁.heap s'.heap/\s'.os=s₁.os/\AllBare s'.gens) s₁):
  WalkO q loose XP YP l.row.toRowW d [] (λf vs=>PySem.call f vs):=by
 intro w s₀ s₁ mg mb G Y fa o pm cd doc dV kV ho hd hcd hD hmg hg args vals as hpre hlay hrd hwl hlo
 obtain rfl:dV= .none:=Dflts.none hD hdf
 obtain rfl:kV= .none:=Dflts.noKw hD
 obtain ⟨a,vs,ns,rfl,rfl,hobj,hints,hlen⟩:=zkA hn hpre hwl
 refine enter_call (codeAny_mono (call w s₀ s₁ mg mb fa o pm cd doc a vs ns G Y ho (fd_plain hd) hcd hmg hobj hints hlen hg) λr s' hq=> ?_)
 obtain ⟨rfl,h2,h3,h4⟩:=hq
 exact ⟨.inl ⟨.bool true,.bool true,[],rfl,λ_=>rfl,.bool true,zll l _,λ_=>⟨List.Pairwise.nil,λ_ hm=>(nomatch hm)⟩⟩,h2,h3,h4⟩
section
variable {prog:Program} {w:World} {A:Around} {E:Value->Shared->Prop} {s:Shared} {K:Frag}
end
end Att
namespace L2
theorem zeO: ∀ {vs:List Value} {ns:List Int},IntsAre vs ns->za7 (ns.map V.int) vs
 | _,_,.nil=> .nil
 | _,_,.cons n t h=> .cons ⟨t,rfl⟩ (zeO h)
def ztd (H:Hp):Prop:= ∀ b,H b=none\/ ∃ o xs,H b=some (.frz o (.lst xs))
theorem zma {P:Program} {w:World} {K:W.Frag} {mg mb:Str->Option Value} {CX:CXT} {k:Nat} {fa a:Addr} {fd:FuncData} {x:Str} {sp:Sp} {s₁:Shared} {vs:List Value} {ns:List Int}
  (KX:K.In s₁.heap) (hns:s₁.heap.Ns mainGlobals mg) (hb:s₁.heap.Ns builtinsNs mb) (hbb: ∀ x:Str,x≠"__name__"->mb x=bootBuiltins x) (hlim:s₁.heap.NoLimit) (hg:s₁.gens= #[])
  (ha:s₁.heap.get? a=some {cls:= .type "list",data:= .seq vs.toArray}) (hi:IntsAre vs ns) (hl:ns.length<=sizeLine) (hr:zdL k callerA)
  (F: ∀ base:Heap,K.In base->base.Ns mainGlobals mg->zbE P w K mg base CX k fa fd [x] sp) (hbind: ∀ (s:Shared) (u:Value),BindsTo s fd ⟨[u],[]⟩ [(x,u)])
  (hsp: ∀ H:Hp,ztd H->SqL K H a (ns.map V.int)->sp [.ref a] H (λv _=>v= .bl true) λ_ _ _=>False)
  (hCX: ∀ H e s',CX [] H s₁ (λ_ _ _=>False) e s'->False):
  codeAny (model P w) callerA (.call (.ref fa) ⟨[.ref a],[]⟩) (λr s'=>r= .ok (.ret (.bool true))/\OldK s₁.heap s'.heap/\s'.os=s₁.os/\AllBare s'.gens) s₁:=by
 have rv:=zeO hi
 have lenV:=hi.length
 have core: ∀ H:Hp,ztd H->SqL K H a (ns.map V.int)->HOk P w H s₁.heap->(∀ b,H b≠none->b=a)->(H a≠none->K.lookup a=none)->
   codeAny (model P w) callerA (.call (.ref fa) ⟨[.ref a],[]⟩) (λr s'=>r= .ok (.ret (.bool true))/\OldK s₁.heap s'.heap/\s'.os=s₁.os/\AllBare s'.gens) s₁:=by
  intro H hO hS hok hA hK
  have base_of: ∀ {b:Addr} {o:Obj},s₁.heap.get? b=some o->H b=none->(zl9 s₁.heap H).get? b=some o:=λe n=>zms e n
  have noA: ∀ {b:Addr} {o:Obj} {es:Array DictEntry} {ep:Nat},s₁.heap.get? b=some o->o.data= .dict es ep->H b=none:=λ{b o es ep} e d=>by
   cases q:H b with
   | none=>rfl
   | some u=>
    have e':b=a:=hA b (by rw [q];simp)
    subst e'
    rw [ha] at e;cases e
    have d':Data.seq vs.toArray _=Data.dict es ep:=d
    cases d'
  have nsK: ∀ {b:Addr} {m:Str->Option Value},s₁.heap.Ns b m->(zl9 s₁.heap H).Ns b m:=λ{b m} ⟨o,es,ep,e,d,r⟩=>⟨o,es,ep,base_of e (noA e d),d,r⟩
  have hKb:K.In (zl9 s₁.heap H):=λb o e=>base_of (KX b o e) (by
    cases q:H b with
    | none=>rfl
    | some u=>
      have e':b=a:=hA b (by rw [q];simp)
      subst e'
      rw [hK (by rw [q];simp)] at e;cases e)
  have hM:Mod K mg (zl9 s₁.heap H):=⟨hKb,nsK hns,⟨mb,nsK hb,hbb⟩,let ⟨mc,h1,h2⟩:=hlim;⟨mc,nsK h1,h2⟩⟩
  have e0:zpS P w K mg (zl9 s₁.heap H) callerA [] s₁ H:=⟨rfl,hM,λb o e=>zos e,le_of_eq (zkg _ _),trivial,λb hb=>absurd (show b∈([]:List Addr) from hb) (by simp),hok,.of_eq hg,.inl rfl⟩
  refine codeAny_mono ((F _ hKb (nsK hns)).run callerA [] s₁ H ⟨[.ref a],[]⟩ [.ref a] [.ref a] _ _ hr e0 (hbind s₁ (.ref a)) (.cons rfl .nil) (hsp H hO hS)) λr s' h=> ?_
  cases r with
  | error e=>exact (hCX H e s' h).elim
  | ok fl=>
   cases fl with
   | next=>exact qa0 h
   | brk=>exact qa0 h
   | cont=>exact qa0 h
   | ret u=>
    obtain ⟨v,H',os,bare,un,hok',r',q⟩:=h
    have q':v= .bl true:=q
    subst q'
    obtain rfl:u=Value.bool true:=r'
    refine ⟨rfl,OldK.of_keep λb o e=> ?_,os,bare⟩
    cases q:H b with
    | none=>exact un.keep b o e q (by intro z;exact absurd (show b∈([]:List Addr) from z) (by simp)) (by simp)
    | some u=>
     rcases hO b with z | ⟨ob,xs,z⟩
     ·rw [q] at z;cases z
     ·have z2:=un.frzs b ob _ z
      obtain ⟨e1,_⟩:=hok b _ z
      obtain ⟨e2,_⟩:=hok' b _ z2
      rw [e] at e1;cases e1
      exact e2
 cases hk:K.lookup a with
 | some o=>
  have e:=KX a o hk
  rw [ha] at e
  cases e
  refine core (λ_=>none) (λ_=> .inl rfl) (.inr ⟨_,vs.toArray,_,hk,rfl,rfl,rfl,by rw [qaA,lenV];exact hl,by simpa using rv⟩) (λb u z=>by have z':(none:Option HO)=some u:=z;cases z') (λb z=>absurd rfl z) λz=>absurd rfl z
 | none=>
  refine core (λb=>if b=a then some (.frz {cls:= .type "list",data:= .seq vs.toArray} (.lst (ns.map V.int))) else none) (λb=> ?_) (.inl (.inr ⟨{cls:= .type "list",data:= .seq vs.toArray},qa4 rfl⟩)) (λb u z=> ?_) (λb z=> ?_) λ_=>hk
  ·by_cases hb:b=a
   ·exact .inr ⟨_,_,qa4 hb⟩
   ·exact .inl (qa5 hb)
  ·by_cases hb:b=a
   ·have z':=(qa4 hb).symm.trans z
    cases z'
    subst hb
    exact ⟨ha,by rw [qaH];exact hl,vs,_,rv,ha⟩
   ·have z':=(qa5 hb).symm.trans z
    cases z'
  ·by_cases hb:b=a
   ·exact hb
   ·exact absurd (qa5 hb) z
theorem zoZ {l:W.OpenLaw} {n k:Nat} {q:Program} {loose:List Str} {XP:(Str->Option Value)->Heap->Prop} {YP:World->Heap->Prop} {d:DefRec} {K:Params->W.Frag} {CX:World->CXT} {sp:World->Sp} {x:Str}
  (hn:l.most=some n) (hn2:n<=sizeLine) (hdf:d.params.defaults=[]) (hr:zdL k callerA)
  (hY: ∀ (w:World) (h:Heap),YP w h->(K w.params).In h)
  (F: ∀ (w:World) (mg:Str->Option Value) (fa:Addr) (h:Heap),(K w.params).In h->h.Ns mainGlobals mg->mg d.name=some (.ref fa)->
    ∃ fd:FuncData,(∀ (s:Shared) (u:Value),BindsTo s fd ⟨[u],[]⟩ [(x,u)])/\
      ∀ base:Heap,(K w.params).In base->base.Ns mainGlobals mg->zbE l.prog w (K w.params) mg base (CX w) k fa fd [x] (sp w))
  (hsp: ∀ (w:World) (H:Hp) (a:Addr) (ns:List Int),ns.length<=n->ztd H->SqL (K w.params) H a (ns.map V.int)->sp w [.ref a] H (λv _=>v= .bl true) λ_ _ _=>False)
  (hCX: ∀ (w:World) (H:Hp) (s:Shared) (e:Value) (s':Shared),CX w [] H s (λ_ _ _=>False) e s'->False):
  W.WalkO q loose XP YP l.row.toRowW d [] (λf vs=>PySem.call f vs):=by
 refine Att.zhM hn hdf λw s₀ s₁ mg mb fa o pm cd doc a vs ns G Y ho hd hcd hmg hobj hints hlen hg=> ?_
 have KX:=hY w _ Y
 obtain ⟨fd,hb,hF⟩:=F w mg fa _ KX G.T.g hmg
 exact zma KX G.T.g G.T.b G.T.builtins G.T.nolimit hg hobj hints (qaS hlen hn2) hr hF hb (λH hO hS=>hsp w H a ns hlen hO hS) λH e s'=>hCX w H s₁ e s'
def zd2 (s:Stmt):Arguments:=match s with
 | .FunctionDef _ a _ _ _ _ _ _ _ _=>a
 | _=>{posonlyargs:=[],args:=[],vararg:=none,kwonlyargs:=[],kw_defaults:=[],kwarg:=none,defaults:=[]}
def zce (s:Stmt):List Stmt:=match s with
 | .FunctionDef _ _ b _ _ _ _ _ _ _=>b
 | _=>[]
def zae (s:Stmt):Scope:=match s with
 | .FunctionDef _ _ _ _ _ _ sc _ _ _=>sc
 | _=>{kind:= .function,names:=[],isGenerator:=false,isCoroutine:=false}
abbrev CX0:CXT:=λ_ _ _ _ _ _=>False
abbrev E0:XK:=λ_ _ _=>False
theorem zqp {X:Cx}:zbH CX0 X E0:=λ_ _ _ _ _ _ _ h=>h.elim
structure Fun (K:W.Frag) (x qual:Str) (st:Stmt) (f:Addr) (fd:FuncData):Prop where
 ex: ∃ (oc:Value) (od:Option Addr) (kV doc pm:Value) (an:Option Addr) (cdv ct:Value) (osl:Array (Option Value)),
  fd=W.fnOf x qual (zd2 st) (zce st) (zae st) .none kV doc pm an cdv ct/\K.lookup f=some ⟨oc,od,.func fd,osl⟩/\W.codeIn K cdv qual=true
 kp:W.keepIn K (.ref f)=true
section
variable {P:Program} {w:World} {K:W.Frag} {mg:Str->Option Value} {base:Heap}
theorem Fun.ok {x qual:Str} {st:Stmt} {f:Addr} {fd:FuncData} {N ps:List Str} {k:Nat} {sp:Sp} (F:Fun K x qual st f fd) (S:zao N ps (zae st)) (len: ∀ vs H Q E,sp vs H Q E->vs.length=ps.length)
  (hbody: ∀ (cdv:Value) (A:Around) (outer:List Env) (s:Shared) (H:Hp) (vs:List V) (Q:VK) (E:XK),zdL k (A.deeper (envOfC qual (zae st) s.heap.objs.size f cdv))->sp vs H Q E->
    ∃ t,PSs (zgU CX0 P w K mg base N qual (zae st) f cdv A outer s H E).nox (zce st) t/\t {nx:=λ_ H'=>Q .non H',rt:=Q} (zd4 N vs) H):zbE P w K mg base CX0 (k+1) f fd ps sp:=by
 obtain ⟨oc,od,kV,doc,pm,an,cdv,ct,osl,rfl,lk,hcd⟩:=F.ex
 refine zrl lk hcd S len λA outer s H vs Q E hr hsp=> ?_
 obtain ⟨t,h,q⟩:=hbody cdv A outer s H vs Q E hr hsp
 exact ⟨t,h.nox,q⟩
theorem Fun.binds {x qual:Str} {st:Stmt} {f:Addr} {fd:FuncData} {ps:List Str} (F:Fun K x qual st f fd)
  (h: ∀ (kV doc pm:Value) (an:Option Addr) (cdv ct:Value) (us:List Value),us.length=ps.length->bindArgs (W.fnOf x qual (zd2 st) (zce st) (zae st) .none kV doc pm an cdv ct) ⟨us,[]⟩=pure (ps.zip us)):zaJ K fd ps []:=by
 obtain ⟨oc,od,kV,doc,pm,an,cdv,ct,osl,rfl,lk,hcd⟩:=F.ex
 exact .all (h kV doc pm an cdv ct)
theorem zaG {x qual:Str} {st:Stmt} {f:Addr} {oc:Value} {od an:Option Addr} {osl:Array (Option Value)} {kV doc pm cdv ct:Value} (l:K.lookup f=some ⟨oc,od,.func (W.fnOf x qual (zd2 st) (zce st) (zae st) .none kV doc pm an cdv ct),osl⟩)
  (c:W.codeIn K cdv qual=true) (k:W.keepIn K (.ref f)=true):Fun K x qual st f (W.fnOf x qual (zd2 st) (zce st) (zae st) .none kV doc pm an cdv ct):=⟨⟨oc,od,kV,doc,pm,an,cdv,ct,osl,rfl,l,c⟩,k⟩
end
section
variable {X:Cx}
theorem pv (i:Nat) {x:Str} {pos:Pos} (hN:X.N[i]? = some x:=by rfl) (hv:Vis X.env.scope x:=by first | exact Or.inl rfl | exact Or.inr (Or.inl rfl) | exact Or.inr (Or.inr rfl)) (hd:(x==("__debug__":Str))=false:=by decide)
  (hcd:(x==("__classdict__":Str))=false:=by decide):PE X (.Name x pos) (ztN i):=znk hN hv hd hcd
end
theorem zoG {A B:Prop} (h:B):if false=true then A else B:=by
 rw [qa5 Bool.false_ne_true]
 exact h
theorem zn2 {A B:Prop} (h:A):if true=true then A else B:=by
 rw [qa4 rfl]
 exact h
def zbi (cells:List (Str×Addr)):List (Str×NameKind)->List (Str×Addr)->List (Str×Addr)
 | [],acc=>acc
 | (n,k)::r,acc=>if k== .free then zbi cells r ((n,(cells.lookup n).getD 0)::acc) else zbi cells r acc
theorem zbJ {scope:Scope} {env:Env} (h: ∀ x∈scope.names,x.2= .free-> ∃ c,env.cells.lookup x.1=some c):closureFor scope env=pure (zbi env.cells scope.names []):=by
 simp only [closureFor]
 generalize hn:scope.names=names at h
 clear hn
 generalize hacc:([]:List (Str×Addr))=acc
 clear hacc
 have key: ∀ (names:List (Str×NameKind)) (acc:List (Str×Addr)),(∀ x∈names,x.2= .free-> ∃ c,env.cells.lookup x.1=some c)->
   (forIn (m:=Sem) names acc λ(x:Str×NameKind) (r:List (Str×Addr))=>(match x with
     | (name,kind)=>if (kind==NameKind.free)=true then do
         let a<-cellOf env name
         pure (ForInStep.yield ((name,a)::r))
       else pure (ForInStep.yield r)))=pure (zbi env.cells names acc):=by
  intro names
  induction names with
  | nil=>intro acc _;rfl
  | cons x r ih=>
   intro acc h
   obtain ⟨n,k⟩:=x
   rw [List.forIn_cons]
   unfold zbi
   by_cases hk:(k==NameKind.free)=true
   ·simp only [hk,if_true]
    obtain ⟨c,hc⟩:=h (n,k) qau (by simpa using hk)
    have e:cellOf env n=pure c:=by unfold cellOf;rw [show env.cells.lookup n=some c from hc]
    rw [e,show (env.cells.lookup n).getD 0=c by rw [show env.cells.lookup n=some c from hc];rfl]
    exact ih _ λy hy=>h y (qan _ hy)
   ·simp only [hk,if_false]
    exact ih _ λy hy=>h y (qan _ hy)
 have k:=key names acc h
 refine Eq.trans (congrArg (λ(z:Sem (List (Str×Addr)))=>z>>=λr=>pure r) k) ?_
 rfl
theorem zdQ {cells:List (Str×Addr)}: ∀ {names:List (Str×NameKind)} {acc:List (Str×Addr)} {n:Str} {c:Addr},(n,c)∈zbi cells names acc->
  (n,c)∈acc\/((n,NameKind.free)∈names/\c=(cells.lookup n).getD 0)
 | [],_,_,_,h=> .inl h
 | (y,k)::r,acc,n,c,h=>by
  unfold zbi at h
  by_cases hk:(k==NameKind.free)=true
  ·rw [qa4 hk] at h
   have ek:k= .free:=by simpa using hk
   subst ek
   rcases zdQ h with h | ⟨h1,h2⟩
   ·rcases qaP.mp h with e | h
    ·cases e
     exact .inr ⟨qau,rfl⟩
    ·exact .inl h
   ·exact .inr ⟨qan _ h1,h2⟩
  ·rw [qa5 hk] at h
   rcases zdQ h with h | ⟨h1,h2⟩
   ·exact .inl h
   ·exact .inr ⟨qan _ h1,h2⟩
theorem zdl {cells:List (Str×Addr)} {x:Str} {c:Addr} (hc:cells.lookup x=some c): ∀ (names:List (Str×NameKind)) (acc:List (Str×Addr)),((x,NameKind.free)∈names\/acc.lookup x=some c)->(zbi cells names acc).lookup x=some c
 | [],acc,h=>h.elim (λz=>nomatch z) id
 | (y,k)::r,acc,h=>by
  unfold zbi
  by_cases hk:(k==NameKind.free)=true
  ·rw [qa4 hk]
   refine zdl hc r _ ?_
   by_cases hy:x=y
   ·subst hy
    exact .inr (by rw [lookup_cons,beq_self_eq_true,hc];rfl)
   ·rcases h with h | h
    ·rcases qaP.mp h with e | h
     ·cases e;exact absurd rfl hy
     ·exact .inl h
    ·refine .inr ?_
     rw [lookup_cons,show (x==y)=false by simpa using hy]
     exact h
  ·rw [qa5 hk]
   refine zdl hc r _ ?_
   rcases h with h | h
   ·rcases qaP.mp h with e | h
    ·cases e;exact absurd rfl hk
    ·exact .inl h
   ·exact .inr h
theorem zcu: ∀ {names:List (Str×NameKind)} {n:Nat} {acc:List (Str×Addr)} {x:Str} {c:Addr},(x,c)∈cellsFrom n names acc->(x,c)∈acc\/(n<=c/\(x,NameKind.cell)∈names)
 | [],_,_,_,_,h=> .inl h
 | (y,k)::r,n,acc,x,c,h=>by
  unfold cellsFrom at h
  by_cases hk:(k==NameKind.cell)=true
  ·rw [qa4 hk] at h
   have ek:k= .cell:=by simpa using hk
   subst ek
   rcases zcu h with h | ⟨h,h'⟩
   ·rcases qaP.mp h with e | h
    ·cases e;exact .inr ⟨qaV _,qau⟩
    ·exact .inl h
   ·exact .inr ⟨Nat.le_of_succ_le h,qan _ h'⟩
  ·rw [qa5 hk] at h
   rcases zcu h with h | ⟨h,h'⟩
   ·exact .inl h
   ·exact .inr ⟨h,qan _ h'⟩
theorem zbN {x:Str} {c:Addr}: ∀ (names:List (Str×NameKind)) (n:Nat) (acc:List (Str×Addr)),(x,NameKind.cell)∉names->acc.lookup x=some c->(cellsFrom n names acc).lookup x=some c
 | [],_,_,_,h=>h
 | (y,k)::r,n,acc,hn,h=>by
  unfold cellsFrom
  by_cases hk:(k==NameKind.cell)=true
  ·rw [qa4 hk]
   have ek:k= .cell:=by simpa using hk
   subst ek
   refine zbN r _ _ (λz=>hn (qan _ z)) ?_
   have hy:x≠y:=λe=>hn (by rw [e];exact qau)
   rw [lookup_cons,show (x==y)=false by simpa using hy]
   exact h
  ·rw [qa5 hk]
   exact zbN r _ _ (λz=>hn (qan _ z)) h
theorem zbQ: ∀ (names:List (Str×NameKind)) (n:Nat) (acc:List (Str×Addr)),(∀ x c,(x,c)∈acc->c<n)->(acc.Pairwise λx y=>x.2≠y.2)->(cellsFrom n names acc).Pairwise λx y=>x.2≠y.2
 | [],_,_,_,h=>h
 | (y,k)::r,n,acc,hlt,h=>by
  unfold cellsFrom
  by_cases hk:(k==NameKind.cell)=true
  ·rw [qa4 hk]
   refine zbQ r (n+1) _ (λx c hm=> ?_) (qay.mpr ⟨λz hz e=> ?_,h⟩)
   ·rcases qaP.mp hm with e | hm
    ·cases e;exact Nat.lt_succ_self _
    ·exact lt_succ_of_lt (hlt x c hm)
   ·have:=hlt z.1 z.2 hz
    have e':n=z.2:=e
    exact qaN _ (e'▸this)
  ·rw [qa5 hk]
   exact zbQ r n acc hlt h
def zmh (env:Env) (scope:Scope) (C:Addr):Env:=
 {scope:=relabel scope env,locals:=C,globals:=env.globals,cells:=cellsFrom (C+1) scope.names (zbi env.cells scope.names []),qual:=env.qual,func:=none,code:=env.code,frame:=env.frame,builtins:=env.builtins}
section
variable {M:Model} {A:Around} {E:Value->Shared->Prop} {s:Shared}
theorem zde {scope:Scope} {env:Env} {cl:List (Str×Addr)} {Q:Env->Shared->Prop}
  (hQ: ∀ h',(∀ b o,s.heap.get? b=some o->h'.get? b=some o)->h'.Ns s.heap.objs.size (λ_=>none)->(∀ x c,(x,NameKind.cell)∈scope.names->(x,c)∈cellsFrom (s.heap.objs.size+1) scope.names cl->(x,c)∉cl->h'.IsCell c none)->
    Q {scope,locals:=s.heap.objs.size,globals:=env.globals,cells:=cellsFrom (s.heap.objs.size+1) scope.names cl,qual:=env.qual,func:=none,code:=env.code,frame:=env.frame,builtins:=env.builtins} {s with heap:=h'}):
  wpAny M A (newFunctionEnv scope env.globals cl [] env.qual none .none (some env)) Q E s:=by
 simp only [newFunctionEnv,isSome_some,if_true]
 refine qaW (wpAny_alloc ?_)
 refine qaW (wpAny_layCells _ (λname kind cells=>by cases hkc:kind==NameKind.cell<;>simp [hkc]) _ _ _ _ ?_)
 simp only [List.forIn_nil]
 refine qaW (qaX (qaX ?_))
 rw [show ({s with heap:=s.heap.push {cls:= .type "dict",data:= .dict #[]}}:Shared).heap.objs.size=s.heap.objs.size+1 from qaL ..]
 have key: ∀ (names:List (Str×NameKind)) (h:Heap) (acc:List (Str×Addr)) (x:Str) (c:Addr),(x,c)∈cellsFrom h.objs.size names acc->(x,c)∉acc->(pushCells h names).IsCell c none:=by
  intro names
  induction names with
  | nil=>intro h acc x c hm hn;exact absurd hm hn
  | cons y r ih=>
   intro h acc x c hm hn
   obtain ⟨n,k⟩:=y
   unfold cellsFrom at hm
   unfold pushCells
   by_cases hk:(k==NameKind.cell)=true
   ·rw [qa4 hk] at hm ⊢
    by_cases hin:(x,c)∈((n,h.objs.size)::acc)
    ·rcases qaP.mp hin with e | e
     ·cases e
      exact ⟨_,pushCells_keeps _ _ _ _ (qar _ rfl),rfl⟩
     ·exact absurd e hn
    ·refine ih (h.push {cls:= .type "cell",data:= .cell none}) ((n,h.objs.size)::acc) x c ?_ hin
     rw [qaL]
     exact hm
   ·rw [qa5 hk] at hm ⊢
    exact ih h acc x c hm hn
 refine hQ _ (λb o e=>pushCells_keeps _ _ b o (qag _ e)) ((Heap.Ns.new s.heap (.type "dict")).keeps (pushCells_keeps _ _)) λx c _ hm hn=> ?_
 refine key scope.names _ cl x c ?_ hn
 rw [qaL]
 exact hm
end
section
variable {prog:Program} {w:World} {A:Around} {E:Value->Shared->Prop} {R:Result->Shared->Prop} {s:Shared}
theorem zgl {elt target iter:Expr} {ifs:List Expr} {scope:Scope} {pos:Pos} {it acc:Value} {env:Env} (I:Nat->Shared->Prop)
  (turn: ∀ n s,I n s->wpAny (model prog w) A (pyNext it) (λr s₁=>match r with
    | none=>R (.ok .next) s₁
    | some v=>wpAny (model prog w) A (letOwnedTupleGo target it v) (λ_ s₁'=>wpAny (model prog w) A (assign target env v) (λ_ s₂=>
        wpAny (model prog w) A (forIn ifs true λc r=>if r=true then do let ok<-isTrue c env (eval c env);pure (ForInStep.yield ok) else pure (ForInStep.yield r)) (λok s₃=>
          if ok=true then wpAny (model prog w) A (eval elt env) (λx s₄=>
            wpAny (model prog w) A (call (.builtin "list.append") [acc,x]) (λ_ s₅=> ∃ m,m<n/\I m s₅) (λ_ _=>False) s₄) (λ_ _=>False) s₃
          else ∃ m,m<n/\I m s₃) (λ_ _=>False) s₂) (λ_ _=>False) s₁') (λ_ _=>False) s₁) (λ_ _=>False) s)
  (n:Nat) (h:I n s):
  codeAny (model prog w) A (.compLoop (.ListComp elt [⟨target,iter,ifs,0⟩] scope pos) 0 it acc env) R s:=by
 refine codeAny_loop rfl I (λn s hI=> ?_) n h
 show wpAny _ A ((compTurn (.ListComp elt [⟨target,iter,ifs,0⟩] scope pos) 0 it acc env).onRaise (λx=>do noteFrame x env;theTreesLotGoes x)) _ _ s
 refine wpAny_noted ?_
 rw [compTurn_list]
 refine qaW (wpAny_standAt (qaW (qaZ (turn n s hI) (λr s₁ h₁=> ?_) λ_ _ h'=>h'.elim)))
 cases r with
 | none=>exact qaX h₁
 | some v=>
  refine qaW (qaZ h₁ (λ_ s₁' h₁'=> ?_) λ_ _ h'=>h'.elim)
  refine qaW (qaZ h₁' (λ_ s₂ h₂=>qaW (qaZ h₂ (λok s₃ h₃=> ?_) λ_ _ h'=>h'.elim)) λ_ _ h'=>h'.elim)
  cases ok with
  | false=>exact qaX ⟨rfl,h₃⟩
  | true=>
   exact qaW (qaW (qaZ h₃ (λx s₄ h₄=>qaW (qaZ h₄ (λ_ s₅ h₅=>qaX (qaX ⟨rfl,h₅⟩)) λ_ _ h'=>h'.elim)) λ_ _ h'=>h'.elim))
end
abbrev cxB (X:Cx) (scope:Scope) (N:List Str) (s:Shared) (H:Hp) (fp:List Addr):Cx:=
 {prog:=X.prog,w:=X.w,K:=X.K,mg:=X.mg,base:=X.base,A:=X.A,N:=N,s₀:=s,H₀:=H,env:=zmh X.env scope s.heap.objs.size,outer:=X.stack,stack:=X.stack,ex:=fp,
   fn:=λx=>scope.names.lookup x==some .cell,calm:=X.calm,pn:=[],xe:=λ_ _=>False}
def znF (Xn:List (Str×NameKind)) (XN:List Str) (names:List (Str×NameKind)) (N:List Str) (src:List (Option Nat)):Bool:=
 decide N.Nodup && decide (names.map (·.1)).Nodup && (src.length==N.length) &&
 names.all (λx=>x.2 != .local || names.lookup x.1==some .local) &&
 names.all (λx=>x.2 != .cell || names.lookup x.1==some .cell) &&
 names.all (λx=>x.2 != .free || Xn.lookup x.1==some .cell || Xn.lookup x.1==some .free) &&
 (N.zip src).all (λp=>match p.2 with
   | none=>true
   | some i=>XN[i]? == some p.1 && names.lookup p.1==some .free)
structure BOk (X:Cx) (scope:Scope) (N:List Str) (src:List (Option Nat)):Prop where
 kind:scope.kind= .function
 nd:N.Nodup
 keys:(scope.names.map (·.1)).Nodup
 len:src.length=N.length
 locs: ∀ x∈scope.names,x.2= .local->scope.names.lookup x.1=some .local
 cels: ∀ x∈scope.names,x.2= .cell->scope.names.lookup x.1=some .cell
 free: ∀ x∈scope.names,x.2= .free->X.env.kindOf x.1=some .cell\/X.env.kindOf x.1=some .free
 src: ∀ (k i:Nat) (x:Str),src[k]? = some (some i)->N[k]? = some x->X.N[i]? = some x/\scope.names.lookup x=some .free
theorem BOk.of {X:Cx} {scope:Scope} {N:List Str} {src:List (Option Nat)} {Xn:List (Str×NameKind)} {XN:List Str} (hk:scope.kind= .function) (hX:X.env.scope.names=Xn) (hN:X.N=XN)
  (h:znF Xn XN scope.names N src=true):BOk X scope N src:=by
 unfold znF at h
 simp only [qaG,qaD,all_eq_true,beq_iff_eq] at h
 obtain ⟨⟨⟨⟨⟨⟨h1,h2⟩,h3⟩,h4⟩,h4'⟩,h5⟩,h6⟩:=h
 refine ⟨hk,h1,h2,h3,λx hx e=> ?_,λx hx e=> ?_,λx hx e=> ?_,λk i x e1 e2=> ?_⟩
 ·have:=h4 x hx
  rw [e] at this
  simpa using this
 ·have:=h4' x hx
  rw [e] at this
  simpa using this
 ·have:=h5 x hx
  rw [e] at this
  unfold Env.kindOf
  rw [hX]
  simpa using this
 ·have hm:(x,some i)∈N.zip src:=by
   refine List.mem_iff_getElem?.mpr ⟨k,?_⟩
   rw [List.getElem?_zip_eq_some]
   exact ⟨e2,e1⟩
  have:=h6 _ hm
  dsimp only at this
  simp only [qaG,beq_iff_eq] at this
  rw [hN]
  exact this
def bStart (src:List (Option Nat)) (σ:St):St:=src.map λo=>o.bind λi=>(σ[i]?).join
theorem zfc {scope:Scope} {env:Env} {x:Str}:(relabel scope env).names.lookup x=(scope.names.lookup x).map λk=>if (k== .free && env.scope.kind== .function && env.kindOf x==some .cell) then .cell else k:=by
 show List.lookup x (scope.names.map _)=_
 induction scope.names with
 | nil=>rfl
 | cons y r ih=>
  obtain ⟨n,k⟩:=y
  rw [qaM]
  dsimp only
  by_cases hx:x=n
  ·subst hx
   by_cases hc:(k==NameKind.free && env.scope.kind== .function && env.kindOf x==some .cell)=true
   ·rw [qa4 hc,lookup_cons,lookup_cons,beq_self_eq_true]
    dsimp only [Option.map]
    rw [qa4 hc]
   ·rw [qa5 hc,lookup_cons,lookup_cons,beq_self_eq_true]
    dsimp only [Option.map]
    rw [qa5 hc]
  ·have hb:(x==n)=false:=by simpa using hx
   by_cases hc:(k==NameKind.free && env.scope.kind== .function && env.kindOf n==some .cell)=true
   ·rw [qa4 hc,lookup_cons,lookup_cons,hb]
    exact ih
   ·rw [qa5 hc,lookup_cons,lookup_cons,hb]
    exact ih
section
variable {X:Cx} {pins:List (Addr×Obj)} {σ:St} {H:Hp} {s:Shared} {scope:Scope} {N:List Str} {src:List (Option Nat)} {fp:List Addr}
theorem zox (I:Inv X pins σ H s) (B:BOk X scope N src) {x:Str} {c:Addr} (h:(x,c)∈zbi X.env.cells scope.names []):X.env.cells.lookup x=some c/\(x,NameKind.free)∈scope.names:=by
 rcases zdQ h with z | ⟨z,e⟩
 ·exact nomatch z
 ·obtain ⟨c',hc⟩:=I.ok.has x (B.free _ z rfl)
  rw [hc] at e
  exact ⟨by rw [hc,e];rfl,z⟩
theorem zha {l:List (Str×NameKind)} (h:(l.map (·.1)).Nodup) {x:Str} {j k:NameKind} (a:(x,j)∈l) (b:(x,k)∈l):j=k:=by
 induction l with
 | nil=>exact nomatch a
 | cons y r ih=>
  obtain ⟨h1,h2⟩:=nodup_cons.mp (show (y.1::r.map (·.1)).Nodup from h)
  rcases qaP.mp a with e | a<;>rcases qaP.mp b with e' | b
  ·rw [<- e] at e';cases e';rfl
  ·exact absurd (qaU.mpr ⟨_,b,by rw [<- e]⟩) h1
  ·exact absurd (qaU.mpr ⟨_,a,by rw [<- e']⟩) h1
  ·exact ih h2 a b
theorem zdR (I:Inv X pins σ H s): ∀ (names:List (Str×NameKind)) (acc:List (Str×Addr)),(∀ x∈names,x.2= .free-> ∃ c,X.env.cells.lookup x.1=some c)->(names.map (·.1)).Nodup->(∀ x c,(x,c)∈acc->X.env.cells.lookup x=some c/\x∉names.map (·.1))->
  (acc.Pairwise λx y=>x.2≠y.2)->(zbi X.env.cells names acc).Pairwise λx y=>x.2≠y.2
 | [],_,_,_,_,h=>h
 | (n,k)::r,acc,hf,nd,ha,h=>by
  unfold zbi
  obtain ⟨h1,h2⟩:=nodup_cons.mp (show (n::r.map (·.1)).Nodup from nd)
  by_cases hk:(k==NameKind.free)=true
  ·rw [qa4 hk]
   obtain ⟨c,hc⟩:=hf (n,k) qau (by simpa using hk)
   have hc:X.env.cells.lookup n=some c:=hc
   rw [show (X.env.cells.lookup n).getD 0=c by rw [hc];rfl]
   refine zdR I r _ (λx hx=>hf x (qan _ hx)) h2 (λx c' hm=> ?_) (qay.mpr ⟨λy hy e=> ?_,h⟩)
   ·rcases qaP.mp hm with e | hm
    ·cases e;exact ⟨hc,h1⟩
    ·exact ⟨(ha x c' hm).1,λz=>(ha x c' hm).2 (qan _ z)⟩
   ·obtain ⟨q1,q2⟩:=ha y.1 y.2 hy
    have e':c=y.2:=e
    rw [<- e'] at q1
    have:=I.ok.inj _ _ _ hc q1
    exact q2 (by rw [<- this];exact qau)
  ·rw [qa5 hk]
   exact zdR I r acc (λx hx=>hf x (qan _ hx)) h2 (λx c' hm=>⟨(ha x c' hm).1,λz=>(ha x c' hm).2 (qan _ z)⟩) h
theorem zgI (I:Inv X pins σ H s) (B:BOk X scope N src) (hf: ∀ b∈fp,zjc X pins H b) (hfo: ∀ b∈fp, ∃ o,s.heap.get? b=some o) {h':Heap} (hk: ∀ b o,s.heap.get? b=some o->h'.get? b=some o) (hns:h'.Ns s.heap.objs.size (λ_=>none))
  (hce: ∀ x c,(x,NameKind.cell)∈scope.names->(x,c)∈cellsFrom (s.heap.objs.size+1) scope.names (zbi X.env.cells scope.names [])->(x,c)∉zbi X.env.cells scope.names []->h'.IsCell c none):
  Inv (cxB X scope N s H fp) [] (bStart src σ) H {s with heap:=h'}:=by
 have cin: ∀ {x:Str} {c:Addr},(x,c)∈zbi X.env.cells scope.names []->X.env.cells.lookup x=some c/\(x,NameKind.free)∈scope.names:=λh=>zox I B h
 have old: ∀ {x:Str} {c:Addr},X.env.cells.lookup x=some c->c<s.heap.objs.size:=λ{x c} h=>(let ⟨_,q⟩:=I.cell x c h;q.lt)
 have all: ∀ {x:Str} {c:Addr},(x,c)∈cellsFrom (s.heap.objs.size+1) scope.names (zbi X.env.cells scope.names [])->(X.env.cells.lookup x=some c/\(x,NameKind.free)∈scope.names)\/(s.heap.objs.size<c/\(x,NameKind.cell)∈scope.names):=λ{x c} h=>by
  rcases zcu h with z | ⟨z,z'⟩
  ·exact .inl (cin z)
  ·exact .inr ⟨z,z'⟩
 have lk: ∀ {x:Str} {c:Addr},(zmh X.env scope s.heap.objs.size).cells.lookup x=some c->(x,c)∈cellsFrom (s.heap.objs.size+1) scope.names (zbi X.env.cells scope.names []):=λh=>PySem.mem_of_lookup h
 have hasF: ∀ x∈scope.names,x.2= .free-> ∃ c,X.env.cells.lookup x.1=some c:=λx hx e=>I.ok.has x.1 (B.free x hx e)
 have ap:(cellsFrom (s.heap.objs.size+1) scope.names (zbi X.env.cells scope.names [])).Pairwise λx y=>x.2≠y.2:=
  zbQ _ _ _ (λx c hm=>lt_succ_of_lt (old (cin hm).1)) (zdR I scope.names [] hasF B.keys (λ_ _ z=>nomatch z) .nil)
 have outer: ∀ {x:Str} {c:Addr},(x,NameKind.free)∈scope.names->X.env.cells.lookup x=some c->(zmh X.env scope s.heap.objs.size).cells.lookup x=some c:=λ{x c} h1 h2=>
  zbN _ _ _ (λz=>nomatch zha B.keys h1 z) (zdl h2 scope.names [] (.inl h1))
 have kinds: ∀ x,(zmh X.env scope s.heap.objs.size).kindOf x=(scope.names.lookup x).map λk=>if (k== .free && X.env.scope.kind== .function && X.env.kindOf x==some .cell) then .cell else k:=λx=>zfc
 have ckind: ∀ x,((zmh X.env scope s.heap.objs.size).kindOf x=some .cell\/(zmh X.env scope s.heap.objs.size).kindOf x=some .free)->scope.names.lookup x=some .cell\/scope.names.lookup x=some .free:=λx h=>by
  rw [kinds x] at h
  cases e:scope.names.lookup x with
  | none=>rw [e] at h;simp at h
  | some k=>
   rw [e] at h
   cases k<;>simp at h ⊢
 refine ⟨⟨I.ok.mod,B.kind,I.ok.glob,I.ok.blt,qaV _,λx y c h1 h2=>name_of_addr ap (lk h1) (lk h2),λx hx=> ?_,λx c hfn hx=> ?_,I.ok.hd,I.handA,I.ok.frames,.inl rfl,λb hb=> ?_,I.bs,qaS I.ok.bsz I.sz,λb o e hb=> ?_,λb hb hb'=> ?_,I.stack,I.stkFree⟩,
   rfl,I.bare,Un.kept hk,⟨_,hns,λi x v h1 h2 h3=> ?_⟩,λx c h=> ?_,I.hok.fresh (qaV _),λx c h=> ?_,λp hp=>absurd (show p∈([]:List (Addr×Obj)) from hp) (by simp),I.hok.kept hk,?_⟩
 ·-- has
  rcases ckind x hx with h | h
  ·exact isSome_iff_exists.mp (W.cellsFrom_some scope.names _ _ (.inl h))
  ·have hm:=PySem.mem_of_lookup h
   obtain ⟨c,hc⟩:=hasF _ hm rfl
   exact ⟨c,outer hm hc⟩
 ·-- cab
  have hfn:scope.names.lookup x=some .cell:=by simpa using hfn
  rcases all (lk hx) with ⟨_,z⟩ | ⟨z,_⟩
  ·exact absurd (zha B.keys z (PySem.mem_of_lookup hfn)) (by decide)
  ·exact le_of_lt z
 ·-- exf
  obtain ⟨o,ho⟩:=hfo b hb
  refine ⟨qaR (qaQ ho),λx c hx z=> ?_⟩
  rcases all (lk hx) with ⟨q,_⟩ | ⟨q,_⟩
  ·exact (hf b hb).2.2.2.2.1 x c q z
  ·have:=qaQ ho
   rw [<- z] at this
   exact qaN _ (lt_trans q this)
 ·-- noex
  rcases (hf b hb).2.2.2.1 with z | z
  ·exact I.ok.noex b o e z
  ·exact qaN _ (qaw (qaw (qaQ e) I.ok.bsz) z)
 ·-- exfs
  rcases qaP.mp (I.stkSub b hb') with z | z
  ·exact (hf b hb).2.1 z
  ·exact (hf b hb).2.2.1 z
 ·-- loc
  unfold bStart at h2
  rw [List.getElem?_map] at h2
  cases e:src[i]? with
  | none=>rw [e] at h2;cases h2
  | some o=>
   rw [e] at h2
   cases o with
   | none=>cases h2
   | some j=>
    have h2:(σ[j]?).join=some v:=by simpa using h2
    have e3:σ[j]? = some (some v):=by
     cases q:σ[j]? with
     | none=>rw [q] at h2;cases h2
     | some z=>rw [q] at h2;simp at h2;rw [h2]
    obtain ⟨b1,b2⟩:=B.src i j x e h1
    have hm:=PySem.mem_of_lookup b2
    obtain ⟨m,hn,hl⟩:=I.loc
    have hfr:=B.free _ hm rfl
    obtain ⟨u,r,l⟩:=hl j x v b1 e3 (.inr hfr)
    rcases l with ⟨k,_⟩ | ⟨k,c,hc,q⟩
    ·rcases hfr with z | z<;>(have z':=k.symm.trans z;cases z')
    ·refine ⟨u,r,.inr ⟨?_,c,outer hm hc,q.keeps hk⟩⟩
     rw [kinds x,b2]
     dsimp only [Option.map]
     split
     ·exact .inl rfl
     ·exact .inr rfl
 ·-- cell
  rcases all (lk h) with ⟨q,_⟩ | ⟨q,q'⟩
  ·obtain ⟨v,z⟩:=I.cell x c q
   exact ⟨v,z.keeps hk⟩
  ·exact ⟨none,hce x c q' (lk h) λz=>absurd (lt_trans q (old (cin z).1)) (qaN _)⟩
 ·-- freeC
  rcases all (lk h) with ⟨q,_⟩ | ⟨q,q'⟩
  ·exact I.freeC x c q
  ·exact I.hok.fresh (le_of_lt q)
 ·unfold bStart
  rw [qaH]
  exact B.len
end
def PCs (X:Cx) (ifs:List Expr) (t:TT):Prop:=
 ∀ (pins:List (Addr×Obj)) (s:Shared) (σ:St) (H:Hp) (Q:Bool->Hp->Prop),Inv X pins σ H s->t σ H Q->
  wpAny (model X.prog X.w) X.A (forIn ifs true λc r=>if r=true then do let ok<-isTrue c X.env (eval c X.env);pure (ForInStep.yield ok) else pure (ForInStep.yield r)) (TP X pins σ Q) X.xe s
def zt1:TT:=λ_ H Q=>Q true H
theorem zpu {X:Cx}:PCs X [] zt1:=λpins s σ H Q I h=>wpAny_tests_nil ⟨H,I,h⟩
theorem zpx {X:Cx} {c:Expr} {t:TT} (h:PT X c t):PCs X [c] t:=λpins s σ H Q I hw=>wpAny_tests_one (h pins s σ H Q I hw)
def zsh (J:It) (g:TG) (tc:TT) (te:TE) (σ0:St) (H1:Hp) (D:Addr) (Q:Hp->Prop):Prop:=
 ∃ W:Nat->Nat->St->Hp->Prop,(∃ m,W 0 m σ0 (upd H1 D (.lst [])))/\ ∀ i m σ' H',W i m σ' H'->
  (J.stop i H'/\Q H')\/(J.go i H'/\ ∃ Nn:St->Hp->Prop,(∀ σ2 H2,Nn σ2 H2-> ∃ m',m'<m/\W (i+1) m' σ2 H2)/\ ∀ x H2,J.yld i H' x H2->g x σ' H2 λσ2 H3=>tc σ2 H3 λb H4=>
    if b=true then te σ2 H4 λy H5=> ∃ xs,H5 D=some (.lst xs)/\xs.length<sizeLine/\Nn σ2 (upd H5 D (.lst (xs++[y]))) else Nn σ2 H4)
section
variable {X:Cx} {scope:Scope} {N:List Str} {src:List (Option Nat)} {tg iter elt:Expr} {ifs:List Expr} {pos:Pos}
theorem zhX {pins:List (Addr×Obj)} {σ:St} {H:Hp} {s₂:Shared} {it:Addr} {fp:List Addr} {tn:Nat->Heap->Prop} {J:It} {g:TG} {tc:TT} {te:TE} {Q:Addr->Hp->Prop} {E:Value->Shared->Prop} {RR:Value->Addr->Result->Shared->Prop}
  (B:BOk X scope N src)
  (hg: ∀ s H fp,PG (cxB X scope N s H fp) tg g) (ht: ∀ s H fp,PCs (cxB X scope N s H fp) ifs tc) (he: ∀ s H fp,PE (cxB X scope N s H fp) elt te)
  (I2:Inv X pins σ H s₂) (T:zoa X.prog X.w X.K tg J fp it tn) (st2:tn 0 s₂.heap) (f2: ∀ b∈fp,zjc X pins H b) (hw: ∀ D,H D=none->zsh J g tc te (bStart src σ) H D (Q D))
  (hRR: ∀ D C H' s' m,Inv X pins σ H' s'->s'.heap.Ns C m->s₂.heap.objs.size<=C->C<s'.heap.objs.size->H' C=none->Q D H'->RR (.ref D) C (.ok .next) s'):
  wpAny (model X.prog X.w) X.A (newList []) (λacc s₃=>wpAny (model X.prog X.w) X.A (newFunctionEnv scope X.env.globals (zbi X.env.cells scope.names []) [] X.env.qual none .none (some X.env)) (λcenv s₄=>
    codeAny (model X.prog X.w) X.A (.compStart (.ListComp elt [⟨tg,iter,ifs,0⟩] scope pos) 0 (.ref it) acc {cenv with scope:=relabel scope X.env}) (RR acc cenv.locals) s₄) E s₃) E s₂:=by
 refine qaC (zde λh₁ hk₁ hns₁ hce₁=> ?_)
 dsimp only at hk₁ hns₁ hce₁ ⊢
 have hfresh:H s₂.heap.objs.size=none:=I2.hok.fresh (qaV _)
 have I3:Inv X pins σ (upd H s₂.heap.objs.size (.lst [])) {s₂ with heap:=s₂.heap.push {cls:= .type "list",dict:=none,data:= .seq ([]:List Value).toArray}}:=by
  have:=I2.lnew (its:=[]) (ys:=[]) (t':=s₂.toks) .nil (zero_le _)
  exact this
 obtain ⟨W,⟨m0,w0⟩,turn⟩:=hw _ hfresh
 generalize hD:s₂.heap.objs.size=D at*
 generalize hs3:({s₂ with heap:=s₂.heap.push {cls:= .type "list",dict:=none,data:= .seq ([]:List Value).toArray}}:Shared)=s₃ at*
 have hh3:s₂.heap.push {cls:= .type "list",dict:=none,data:= .seq ([]:List Value).toArray}=s₃.heap:=by rw [<- hs3]
 rw [hh3] at hk₁ hns₁ hce₁ ⊢
 have push3: ∀ b o,s₂.heap.get? b=some o->s₃.heap.get? b=some o:=λb o e=>by rw [<- hs3];exact qag _ e
 have sz3:s₃.heap.objs.size=D+1:=by rw [<- hs3, <-hD];exact qaL ..
 have fpo: ∀ b∈fp, ∃ o,s₂.heap.get? b=some o/\ ∀ v,o.data≠ .cell v:=T.obj _ _ st2
 have fpD: ∀ b∈fp,b≠D:=λb hb z=>by
  obtain ⟨o,e,_⟩:=fpo b hb
  have:=qaQ e
  rw [z, <-hD] at this
  exact qaN _ this
 have f3: ∀ b∈fp,zjc X pins (upd H D (.lst [])) b:=λb hb=>⟨by rw [zaz (fpD b hb)];exact (f2 b hb).1,(f2 b hb).2⟩
 have I4:Inv (cxB X scope N s₃ (upd H D (.lst [])) fp) [] (bStart src σ) (upd H D (.lst [])) {s₃ with heap:=h₁}:=
  zgI I3 B f3 (λb hb=>let ⟨o,e,_⟩:=fpo b hb;⟨o,push3 b o e⟩) hk₁ hns₁ hce₁
 have fB: ∀ {H':Hp},(∀ b∈fp,H' b=none)-> ∀ b∈fp,zjc (cxB X scope N s₃ (upd H D (.lst [])) fp) [] H' b:=λ{H'} hn b hb=>
  ⟨hn b hb,(I4.ok.exf b hb).1,I4.ok.exfs b hb,.inl hb,λx c e=>(I4.ok.exf b hb).2 x c e,λp hp=>absurd (show p∈([]:List (Addr×Obj)) from hp) (by simp)⟩
 have stat4: ∀ s',s'=({s₃ with heap:=h₁}:Shared)->codeAny (model X.prog X.w) X.A (.compLoop (.ListComp elt [⟨tg,iter,ifs,0⟩] scope pos) 0 (.ref it) (.ref D) (zmh X.env scope s₃.heap.objs.size)) (RR (.ref D) s₃.heap.objs.size) s':=by
  intro s' es
  refine zgl (λn s'=> ∃ i σ' H',Inv (cxB X scope N s₃ (upd H D (.lst [])) fp) [] σ' H' s'/\tn i s'.heap/\(∀ b∈fp,H' b=none)/\W i n σ' H') ?_ m0 ⟨0,_,_,by rw [es];exact I4,by rw [es];exact T.keep _ _ _ st2 λb hb o e=>hk₁ b o (push3 b o e),λb hb=>(f3 b hb).1,w0⟩
  rintro n s5 ⟨i,σ5,H5,I5,st5,fr5,w5⟩
  rcases turn i n σ5 H5 w5 with ⟨stop,qn⟩ | ⟨go,Nn,hN,step⟩
  ·refine thn (T.done (cxB X scope N s₃ (upd H D (.lst [])) fp) rfl rfl rfl i [] s5 σ5 H5 _ I5 (fB fr5) st5 stop) λr s6 ⟨hr,I6⟩=> ?_
   subst hr
   obtain ⟨m,hnC,_⟩:=I6.loc
   have un:=I6.base
   have u2:Un (frs X.stack) fp H H5 s₂.heap s6.heap:=by
    refine Un.trans ?_ un
    have:=Un.laid (fs:=frs X.stack) (ex:=fp) (H:=H) (h:=s₂.heap) (h':=s₃.heap) (a:=D) (o:= .lst []) push3 (le_of_eq hD) hfresh
    exact this
   refine hRR D _ H5 s6 m (I2.call' (ch:=fp) (by rw [I6.os, <-hs3]) u2 I6.hok I6.bare λb hb=> ?_) hnC (by rw [sz3];exact le_succ _) hnC.lt I6.free qn
   obtain ⟨q0,q1,q2,q3,q4,q5⟩:=f2 b hb
   exact ⟨q3,q1,q4,q5⟩
  ·refine thn (T.item (cxB X scope N s₃ (upd H D (.lst [])) fp) rfl rfl rfl i [] s5 σ5 H5 _ I5 (fB fr5) st5 go) λr s6 ⟨u,hr,h6⟩=> ?_
   subst hr
   refine thn h6 λ_ s7 ⟨x,H7,I7,r7,y7,st7,fr7⟩=> ?_
   have I7':=I7.pinned (fB fr7) (T.obj _ _ st7)
   refine thn (hg _ _ _ _ s7 σ5 H7 x u _ I7' r7 (step x H7 y7)) λ_ s8 ⟨σ8,H8,I8,q8⟩=> ?_
   refine thn (ht _ _ _ _ s8 σ8 H8 _ I8 q8) λok s9 ⟨H9,I9,q9⟩=> ?_
   have again: ∀ {σ7:St} {Hz:Hp} {sz:Shared},Inv (cxB X scope N s₃ (upd H D (.lst [])) fp) ([]++zfs fp s7.heap) σ7 Hz sz->Nn σ7 Hz-> ∃ m,m<n/\ ∃ i σ' H',Inv (cxB X scope N s₃ (upd H D (.lst [])) fp) [] σ' H' sz/\tn i sz.heap/\(∀ b∈fp,H' b=none)/\W i m σ' H':=λ{σz Hz sz} Iz nz=>by
    obtain ⟨m',hm,wz⟩:=hN _ _ nz
    refine ⟨m',hm,i+1,_,_,Iz.unpinned,T.keep _ _ _ st7 λb hb o e=>(Iz.pin (b,o) (qak _ (qak _ (zbL hb e)))).1,λb hb=> ?_,wz⟩
    obtain ⟨o,e,d⟩:=T.obj _ _ st7 b hb
    exact (Iz.pin (b,o) (qak _ (qak _ (zbL hb e)))).2.1
   cases ok with
   | false=>
    rw [qa5 (by decide)] at q9
    rw [qa5 (by decide)]
    exact again I9 q9
   | true=>
    rw [qa4 rfl] at q9
    rw [qa4 rfl]
    refine thn (he _ _ _ _ s9 σ8 H9 _ I9 q9) λy s10 ⟨yv,H10,I10,ry,xs,e10,z10,q10⟩=> ?_
    refine thn (zeS (X:=cxB X scope N s₃ (upd H D (.lst [])) fp) _ s10 σ8 H10 (.ref D) [yv] (.ref D) [y] (λ_ Hf=>Nn σ8 Hf) I10 rfl (.cons ry .nil) ⟨D,xs,yv,rfl,rfl,e10,z10,q10⟩) λ_ s11 ⟨_,H11,I11,_,q11⟩=> ?_
    exact again I11 q11
 exact codeAny_compStart_list (stat4 _ (by rw [<- hs3])) (T.self _ 0 _ _ _ (T.keep _ _ _ st2 λb hb o e=>hk₁ b o (push3 b o e)) (stat4 _ (by rw [<- hs3])))
def zkL (wi:TI) (g:TG) (tc:TT) (te:TE) (src:List (Option Nat)):TE:=λσ H Q=>wi σ H λJ H1=> ∀ D,H1 D=none->zsh J g tc te (bStart src σ) H1 D λH'=>Q (.ref D) H'
theorem Inv.letGo {pins:List (Addr×Obj)} {σ:St} {H:Hp} {s:Shared} {C:Addr} {m:Str->Option Value} {h':Heap} (I:Inv X pins σ H s) (hn:s.heap.Ns C m) (hn':H C=none) (hC:X.s₀.heap.objs.size<=C) (hL:C≠X.env.locals) (hp: ∀ p∈X.pn++pins,p.1≠C) (hs:Heap.SameBut C s.heap h'):Inv X pins σ H {s with heap:=h'}:=by
 refine I.turned (t':=s.toks) (it:=C) (λb o hb e=>(hs.2 b hb).trans e) hn' hL (.inr hC) (λx c e z=> ?_) hp
 obtain ⟨v,o,ho,hd⟩:=I.cell x c e
 obtain ⟨o',es,ep,ho',hd',_⟩:=hn
 rw [z,ho'] at ho
 cases ho
 rw [hd'] at hd
 cases hd
theorem zps {wi:TI} {g:TG} {tc:TT} {te:TE} (B:BOk X scope N src) (hi:PI X tg iter wi)
  (hg: ∀ s H fp,PG (cxB X scope N s H fp) tg g) (ht: ∀ s H fp,PCs (cxB X scope N s H fp) ifs tc) (he: ∀ s H fp,PE (cxB X scope N s H fp) elt te)
  (hs: ∀ x,foldedSetIterable iter X.env x=pure x:=by intro _;rfl):PE X (.ListComp elt [⟨tg,iter,ifs,0⟩] scope pos) (zkL wi g tc te src):=by
 intro pins s σ H Q I h
 rw [eval_ListComp]
 refine wpAny_comprehension_free (use:=none) rfl hs (zbJ λx hx e=>I.ok.has x.1 (B.free x hx e)) B.kind B.locs ?_
 refine thn (hi pins s σ H _ I h) λv s1 h1=>thn h1 λitv s2 h2=> ?_
 obtain ⟨it,fp,tn,J,H2,e,I2,T,st2,f2,hw⟩:=h2
 subst e
 refine zhX (RR:=λacc C=>compPost (model X.prog X.w) X.A X.xe none (EP X pins σ Q) acc C) (Q:=λD H'=>Q (.ref D) H') B hg ht he I2 T st2 f2 hw ?_
 intro D C H' s' m I' hn hC hCs hf q
 refine ⟨m,hn,λh' hs'=>⟨.ref D,H',I'.letGo hn hf (qaS I2.sz hC) (λz=> ?_) (λp hp z=> ?_) hs',rfl,q⟩⟩
 ·exact qaN _ (qaw (z▸I2.lt) hC)
 ·have:=qaQ (I2.pin p hp).1
  rw [z] at this
  exact qaN _ (qaw this hC)
theorem ziQ {wi:TI} {g:TG} {tc:TT} {te:TE} {i:Nat} {y:Str} {py spos:Pos} (B:BOk X scope N src) (hi:PI X tg iter wi)
  (hg: ∀ s H fp,PG (cxB X scope N s H fp) tg g) (ht: ∀ s H fp,PCs (cxB X scope N s H fp) ifs tc) (he: ∀ s H fp,PE (cxB X scope N s H fp) elt te)
  (hN:X.N.Nodup) (hy:X.N[i]? = some y) (hx:Loc X.env.scope y) (hsw:swapsWith (.ListComp elt [⟨tg,iter,ifs,0⟩] scope pos) (some (.Name y py)) spos.line X.env=pure true)
  (hf:X.fn y=true\/X.env.scope.names.lookup y=some .local:=by first | exact .inl rfl | exact .inr rfl | assumption)
  (hs: ∀ x,foldedSetIterable iter X.env x=pure x:=by intro _;rfl):PS X (.Assign [.Name y py] (.ListComp elt [⟨tg,iter,ifs,0⟩] scope pos) spos) (zsk (zkL wi g tc te src) (zlK i)):=by
 intro pins s σ H D0 I h
 rw [exec_Assign_Name_used _ _ _ _ hsw]
 refine qaW (wpAny_standAt (qaW ?_))
 show wpAny _ X.A (do let _<-comprehension (.ListComp elt [⟨tg,iter,ifs,0⟩] scope pos) scope X.env _ (newList []) false (eval iter X.env) (some (assign (.Name y py) X.env))) _ _ s
 refine qaW (qaZ (wpAny_comprehension_free (use:=some (assign (.Name y py) X.env)) (Q:=λ_ s'=>SP X pins D0 .next s') rfl hs (zbJ λx hx e=>I.ok.has x.1 (B.free x hx e)) B.kind B.locs ?_)
   (λ_ s' hq=>qaX (qaX hq)) λ_ _ e=>e)
 refine thn (hi pins s σ H _ I h) λv s1 h1=>thn h1 λitv s2 h2=> ?_
 obtain ⟨it,fp,tn,J,H2,e,I2,T,st2,f2,hw⟩:=h2
 subst e
 refine zhX (RR:=λacc C=>compPost (model X.prog X.w) X.A X.xe (some (assign (.Name y py) X.env)) (λ_ s'=>SP X pins D0 .next s') acc C) (Q:=λD H'=>D0.nx (σ.set i (some (.ref D))) H') B hg ht he I2 T st2 f2 hw ?_
 intro D C H' s' m I' hn hC hCs hf' q
 show wpAny _ X.A (assign (.Name y py) X.env (.ref D)) _ _ _
 have hCL:C≠X.env.locals:=λz=>qaN _ (qaw (z▸I2.lt) hC)
 have hCp: ∀ p∈X.pn++pins,p.1≠C:=λp hp z=>by
  have:=qaQ (I2.pin p hp).1
  rw [z] at this
  exact qaN _ (qaw this hC)
 have hCc: ∀ x c,X.env.cells.lookup x=some c->c≠C:=λx c e z=>by
  obtain ⟨v,hv⟩:=I2.cell x c e
  exact qaN _ (qaw (z▸hv.lt) hC)
 obtain ⟨oC,es,ep,hoC,hdC,hrest⟩:=hn
 have hCfs:C∉X.fs:=I2.nofs hC
 have Ip:Inv X (pins++[(C,oC)]) σ H' s':=I'.pins_of λp hp=>by
  rcases qaK.mp hp with z | z
  ·exact I'.pin p (qak _ z)
  ·obtain rfl:p=(C,oC):=by simpa using z
   exact ⟨hoC,hf',hCL,hCfs,λv z=>by have z':=hdC.symm.trans z;cases z'⟩
 refine wpAny_assign_Name (zc7 Ip hN hy hx (v:= .ref D) rfl (λs3 I3=> ?_) hf)
 have hC3:=(I3.pin (C,oC) (by simp)).1
 refine ⟨m,⟨oC,es,ep,hC3,hdC,hrest⟩,λh' hs'=> ?_⟩
 exact ⟨_,H',(I3.unpinned).letGo ⟨oC,es,ep,hC3,hdC,hrest⟩ hf' (qaS I2.sz hC) hCL hCp hs',q⟩
end
end L2
namespace L3
open L2
inductive D where
 | non | bl (b:Bool) | int (i:Int) | str (x:Str) | tup (xs:List D) | lst (xs:List D) | cel (n:Nat) | set (xs:List Int) | dct | fn (a:Addr) | scr (xs:List D) | exn (c:String)
inductive C where
 | lst (xs:List D) | dic (kvs:List (Int×D)) | dit (ks:List (List Int)) | ins (c:String) (fs:List (Str×D)) | dead
abbrev Hh:=List C
structure Io where
 c:List (Option Addr)
 x:List Addr
def Io.Has (ι:Io) (a:Addr):Prop:=some a∈ι.c\/a∈ι.x
inductive R (α:Type) where
 | ok (a:α) (h:Hh) | exc (c:String) (h:Hh) | bad
def M (α:Type):=Hh->R α
@[inline] def M.bind {α β:Type} (m:M α) (f:α->M β):M β:=λh=>match m h with
 | .ok a h'=>f a h'
 | .exc c h'=> .exc c h'
 | .bad=> .bad
@[inline] def M.pure {α:Type} (a:α):M α:=λh=> .ok a h
noncomputable instance:Monad M where
 pure:=M.pure
 bind:=M.bind
noncomputable def M.bad {α:Type}:M α:=λ_=> .bad
def KL (K:W.Frag) (a:Addr) (xs:List V):Prop:=SqL K (λ_=>none) a xs
mutual
noncomputable def Rel (K:W.Frag) (ι:Io) (H:Hp):D->V->Prop
 | .non,v=>v= .non
 | .bl b,v=>v= .bl b
 | .int i,v=>v= .int i
 | .str x,v=>v= .str x
 | .tup ds,v=> ∃ a vs,v= .ref a/\(H a=some (.tup vs)/\ ¬ι.Has a)/\zaw K ι H ds vs
 | .lst ds,v=> ∃ a vs,v= .ref a/\(H a=some (.lst vs)/\ ¬ι.Has a)/\zaw K ι H ds vs
 | .scr ds,v=> ∃ a vs,v= .ref a/\((Rd H a (.lst vs)/\ ¬ι.Has a)\/KL K a vs)/\zaw K ι H ds vs
 | .cel n,v=> ∃ a,v= .ref a/\(ι.c[n]? = some (some a)\/ι.c[n]? = some none)
 | .set xs,v=> ∃ a,v= .ref a/\H a=some (.set (λk=>xs.any (· == k)) xs.length)/\ ¬ι.Has a
 | .dct,v=> ∃ a,v= .ref a/\H a=some (.dK [])/\ ¬ι.Has a
 | .fn a,v=>v= .ref a
 | .exn c,v=> ∃ a o C head vs,v= .ref a/\(H a=some (.frz o (.own 0))/\ ¬ι.Has a)/\W.nsIn K mainGlobals (c:Str)=some (some (.ref C))/\o.cls= .ref C/\o.dict=none/\o.data= .fields vs/\vs[2]? = some .none/\vs[1]? = some head
noncomputable def zaw (K:W.Frag) (ι:Io) (H:Hp):List D->List V->Prop
 | [],vs=>vs=[]
 | d::ds,vs=> ∃ v r,vs=v::r/\Rel K ι H d v/\zaw K ι H ds r
end
structure zbU (ι:Io) (H:Hp) (ι':Io) (H':Hp):Prop where
 old: ∀ (n:Nat) (o:Option Addr),ι.c[n]? = some o->ι'.c[n]? = some o\/ι'.c[n]? = some none
 new: ∀ a,some a∈ι'.c->some a∈ι.c\/H a=none
 hid:ι'.x=ι.x
 hidk: ∀ a∈ι.x,H' a=H a
 keep: ∀ b o,H b=some o-> ¬ι.Has b->H' b=some o
theorem zbU.refl (ι:Io) (H:Hp):zbU ι H ι H:=⟨λ_ _ h=> .inl h,λ_ h=> .inl h,rfl,λ_ _=>rfl,λ_ _ h _=>h⟩
theorem zbU.nin {ι ι':Io} {H H':Hp} (s:zbU ι H ι' H') {a:Addr} {o:HO} (h:H a=some o) (n: ¬ι.Has a): ¬ι'.Has a:=λz=>by
 rcases z with z | z
 ·rcases s.new a z with z | z
  ·exact n (.inl z)
  ·rw [h] at z;cases z
 ·rw [s.hid] at z;exact n (.inr z)
theorem zbU.trans {ι ι1 ι2:Io} {H H1 H2:Hp} (s:zbU ι H ι1 H1) (t:zbU ι1 H1 ι2 H2):zbU ι H ι2 H2 where
 old:=λn o h=>by
  rcases s.old n o h with h | h
  ·exact t.old n o h
  ·rcases t.old n _ h with h | h<;>exact .inr h
 new:=λa h=>by
  rcases t.new a h with h | h
  ·exact s.new a h
  ·by_cases z:some a∈ι.c
   ·exact .inl z
   ·refine .inr ?_
    cases q:H a with
    | none=>rfl
    | some o=>
     by_cases z':a∈ι.x
     ·rw [s.hidk a z',q] at h;cases h
     ·rw [s.keep a o q (λw=>w.elim z z')] at h;cases h
 hid:=t.hid.trans s.hid
 hidk:=λa h=>(t.hidk a (by rw [s.hid];exact h)).trans (s.hidk a h)
 keep:=λb o h n=>t.keep b o (s.keep b o h n) (s.nin h n)
structure Pass (ι:Io) (H:Hp) (ι':Io) (H':Hp):Prop where
 old: ∀ (n:Nat) (o:Option Addr),ι.c[n]? = some o->ι'.c[n]? = some o\/ι'.c[n]? = some none
 keep: ∀ b o,H b=some o-> ¬ι.Has b->H' b=some o/\ ¬ι'.Has b
theorem zbU.pass {ι ι':Io} {H H':Hp} (s:zbU ι H ι' H'):Pass ι H ι' H':=⟨s.old,λb o h n=>⟨s.keep b o h n,s.nin h n⟩⟩
theorem Pass.rd {ι ι':Io} {H H':Hp} (s:Pass ι H ι' H') {a:Addr} {u:HO} (h:Rd H a u) (n: ¬ι.Has a):Rd H' a u/\ ¬ι'.Has a:=by
 rcases h with h | ⟨o,h⟩
 ·exact ⟨.inl (s.keep _ _ h n).1,(s.keep _ _ h n).2⟩
 ·exact ⟨.inr ⟨o,(s.keep _ _ h n).1⟩,(s.keep _ _ h n).2⟩
section
variable {K:W.Frag} {ι ι':Io} {H H':Hp}
mutual
theorem Rel.pass (s:Pass ι H ι' H'): ∀ {d:D} {v:V},Rel K ι H d v->Rel K ι' H' d v
 | .non,_,h=>by simpa [Rel] using h
 | .bl _,_,h=>by simpa [Rel] using h
 | .int _,_,h=>by simpa [Rel] using h
 | .str _,_,h=>by simpa [Rel] using h
 | .tup ds,v,h=>by
  simp only [Rel] at h ⊢
  obtain ⟨a,vs,e,h1,h2⟩:=h
  exact ⟨a,vs,e,s.keep _ _ h1.1 h1.2,zaw.pass s h2⟩
 | .lst ds,v,h=>by
  simp only [Rel] at h ⊢
  obtain ⟨a,vs,e,h1,h2⟩:=h
  exact ⟨a,vs,e,s.keep _ _ h1.1 h1.2,zaw.pass s h2⟩
 | .scr ds,v,h=>by
  simp only [Rel] at h ⊢
  obtain ⟨a,vs,e,h1,h2⟩:=h
  exact ⟨a,vs,e,h1.imp (λz=>s.rd z.1 z.2) id,zaw.pass s h2⟩
 | .cel n,v,h=>by
  simp only [Rel] at h ⊢
  obtain ⟨a,e,h⟩:=h
  refine ⟨a,e,?_⟩
  rcases h with h | h
  ·exact s.old n _ h
  ·rcases s.old n _ h with h | h<;>exact .inr h
 | .set xs,v,h=>by
  simp only [Rel] at h ⊢
  obtain ⟨a,e,h,n⟩:=h
  exact ⟨a,e,(s.keep _ _ h n).1,(s.keep _ _ h n).2⟩
 | .dct,v,h=>by
  simp only [Rel] at h ⊢
  obtain ⟨a,e,h,n⟩:=h
  exact ⟨a,e,(s.keep _ _ h n).1,(s.keep _ _ h n).2⟩
 | .fn _,_,h=>by simpa [Rel] using h
 | .exn _,_,h=>by
  simp only [Rel] at h ⊢
  obtain ⟨a,o,C,head,vs,e,h1,h2⟩:=h
  exact ⟨a,o,C,head,vs,e,s.keep _ _ h1.1 h1.2,h2⟩
theorem zaw.pass (s:Pass ι H ι' H'): ∀ {ds:List D} {vs:List V},zaw K ι H ds vs->zaw K ι' H' ds vs
 | [],_,h=>by simpa [zaw] using h
 | d::ds,_,h=>by
  simp only [zaw] at h ⊢
  obtain ⟨v,r,e,h1,h2⟩:=h
  exact ⟨v,r,e,Rel.pass s h1,zaw.pass s h2⟩
end
theorem Rel.step (s:zbU ι H ι' H') {d:D} {v:V} (h:Rel K ι H d v):Rel K ι' H' d v:=h.pass s.pass
theorem zaw.step (s:zbU ι H ι' H') {ds:List D} {vs:List V} (h:zaw K ι H ds vs):zaw K ι' H' ds vs:=h.pass s.pass
theorem zaw.nil:zaw K ι H [] []:=by simp [zaw]
theorem zaw.cons {d:D} {ds:List D} {v:V} {vs:List V} (h:Rel K ι H d v) (t:zaw K ι H ds vs):zaw K ι H (d::ds) (v::vs):=by simp only [zaw];exact ⟨v,vs,rfl,h,t⟩
theorem zaw.length: ∀ {ds:List D} {vs:List V},zaw K ι H ds vs->ds.length=vs.length
 | [],_,h=>by simp only [zaw] at h;subst h;rfl
 | d::ds,_,h=>by
  simp only [zaw] at h
  obtain ⟨v,r,rfl,_,h⟩:=h
  simp [zaw.length h]
theorem zaw.get: ∀ {ds:List D} {vs:List V} {i:Nat} {d:D},zaw K ι H ds vs->ds[i]? = some d-> ∃ v,vs[i]? = some v/\Rel K ι H d v
 | [],_,_,_,_,e=>by simp at e
 | d::ds,_,i,x,h,e=>by
  simp only [zaw] at h
  obtain ⟨v,r,rfl,h1,h2⟩:=h
  cases i with
  | zero=>simp at e;subst e;exact ⟨v,rfl,h1⟩
  | succ i=>simp at e;simpa using zaw.get h2 e
theorem zaw.getV: ∀ {ds:List D} {vs:List V} {i:Nat} {v:V},zaw K ι H ds vs->vs[i]? = some v-> ∃ d,ds[i]? = some d/\Rel K ι H d v
 | [],_,_,_,h,e=>by simp only [zaw] at h;subst h;simp at e
 | d::ds,_,i,x,h,e=>by
  simp only [zaw] at h
  obtain ⟨v,r,rfl,h1,h2⟩:=h
  cases i with
  | zero=>simp at e;subst e;exact ⟨d,rfl,h1⟩
  | succ i=>simp at e;simpa using zaw.getV h2 e
theorem zaw.append: ∀ {ds es:List D} {vs ws:List V},zaw K ι H ds vs->zaw K ι H es ws->zaw K ι H (ds++es) (vs++ws)
 | [],_,_,_,h,t=>by simp only [zaw] at h;subst h;exact t
 | d::ds,es,_,ws,h,t=>by
  simp only [zaw] at h
  obtain ⟨v,r,rfl,h1,h2⟩:=h
  exact zaw.cons h1 (zaw.append h2 t)
theorem zaw.take: ∀ {ds:List D} {vs:List V} (n:Nat),zaw K ι H ds vs->zaw K ι H (ds.take n) (vs.take n)
 | _,_,0,_=>by simpa using zaw.nil
 | [],_,n+1,h=>by simp only [zaw] at h;subst h;exact zaw.nil
 | d::ds,_,n+1,h=>by
  simp only [zaw] at h
  obtain ⟨v,r,rfl,h1,h2⟩:=h
  exact zaw.cons h1 (zaw.take n h2)
theorem zaw.drop: ∀ {ds:List D} {vs:List V} (n:Nat),zaw K ι H ds vs->zaw K ι H (ds.drop n) (vs.drop n)
 | _,_,0,h=>h
 | [],_,n+1,h=>by simp only [zaw] at h;subst h;exact zaw.nil
 | d::ds,_,n+1,h=>by
  simp only [zaw] at h
  obtain ⟨v,r,rfl,h1,h2⟩:=h
  exact zaw.drop n h2
theorem zaw.set {d:D} {v:V} (hd:Rel K ι H d v): ∀ {ds:List D} {vs:List V} (i:Nat),zaw K ι H ds vs->zaw K ι H (ds.set i d) (vs.set i v)
 | [],_,_,h=>by simp only [zaw] at h;subst h;exact zaw.nil
 | x::ds,_,i,h=>by
  simp only [zaw] at h
  obtain ⟨w,r,rfl,h1,h2⟩:=h
  cases i with
  | zero=>exact zaw.cons hd h2
  | succ i=>exact zaw.cons h1 (zaw.set hd i h2)
theorem zcQ: ∀ {is:List Int} {vs:List V},zaw K ι H (is.map D.int) vs↔vs=is.map V.int
 | [],vs=>by simp [zaw]
 | i::is,vs=>by
  simp only [qaM,zaw]
  constructor
  ·rintro ⟨v,r,rfl,h1,h2⟩
   simp only [Rel] at h1
   rw [h1,zcQ.mp h2]
  ·rintro rfl
   exact ⟨_,_,rfl,by simp [Rel],zcQ.mpr rfl⟩
def CO (K:W.Frag) (ι:Io) (H:Hp):C->HO->Prop
 | .lst ds,o=> ∃ vs,o= .lst vs/\zaw K ι H ds vs
 | .dic kvs,o=> ∃ vs,o= .dK vs/\Paired (λ(p:Int×D) (q:Key×V)=>q.1= .inl p.1/\Rel K ι H p.2 q.2) kvs vs
 | .dit ks,o=>o= .dT (ks.map λk=>(k.map Sum.inl,V.bl true))
 | .ins c fs,o=> ∃ C dx vs,o= .ins C dx vs/\W.nsIn K mainGlobals (c:Str)=some (some (.ref C))/\Paired (λ(p:Str×D) (q:Str×V)=>q.1=p.1/\Rel K ι H p.2 q.2) fs vs
 | .dead,_=>False
theorem CO.pass {c:C} {o:HO} (s:Pass ι H ι' H') (h:CO K ι H c o):CO K ι' H' c o:=by
 cases c with
 | lst ds=>obtain ⟨vs,e,r⟩:=h;exact ⟨vs,e,r.pass s⟩
 | dic kvs=>
  obtain ⟨vs,e,r⟩:=h
  refine ⟨vs,e,?_⟩
  clear e
  induction r with
  | nil=>exact .nil
  | cons a t ih=>exact .cons ⟨a.1,a.2.pass s⟩ ih
 | dit ks=>exact h
 | ins c fs=>
  obtain ⟨C,dx,vs,e,hc,r⟩:=h
  refine ⟨C,dx,vs,e,hc,?_⟩
  clear e
  induction r with
  | nil=>exact .nil
  | cons a t ih=>exact .cons ⟨a.1,a.2.pass s⟩ ih
 | dead=>exact h
structure za6 (K:W.Frag) (ι:Io) (H:Hp) (h:Hh):Prop where
 len:h.length=ι.c.length
 inj: ∀ (m n:Nat) (a:Addr),ι.c[m]? = some (some a)->ι.c[n]? = some (some a)->m=n
 at_: ∀ (n:Nat) (a:Addr) (c:C),ι.c[n]? = some (some a)->h[n]? = some c-> ∃ o,H a=some o/\CO K ι H c o
 dead: ∀ (n:Nat),ι.c[n]? = some none->h[n]? = some .dead
 hidt: ∀ a∈ι.x,(∃ vs,H a=some (.lst vs))/\some a∉ι.c
abbrev Sd:=List (Option D)
def zcH (K:W.Frag) (ι:Io) (H:Hp) (sd:Sd) (σ:L2.St):Prop:=sd.length=σ.length/\ ∀ (i:Nat) (d:D),sd[i]? = some (some d)-> ∃ v,σ[i]? = some (some v)/\Rel K ι H d v
theorem zcH.pass {sd:Sd} {σ:L2.St} (s:Pass ι H ι' H') (h:zcH K ι H sd σ):zcH K ι' H' sd σ:=⟨h.1,λi d e=>let ⟨v,h1,h2⟩:=h.2 i d e;⟨v,h1,h2.pass s⟩⟩
theorem zcH.step {sd:Sd} {σ:L2.St} (s:zbU ι H ι' H') (h:zcH K ι H sd σ):zcH K ι' H' sd σ:=⟨h.1,λi d e=>let ⟨v,h1,h2⟩:=h.2 i d e;⟨v,h1,h2.step s⟩⟩
theorem zcH.set {sd:Sd} {σ:L2.St} {d:D} {v:V} (h:zcH K ι H sd σ) (r:Rel K ι H d v) (i:Nat):zcH K ι H (sd.set i (some d)) (σ.set i (some v)):=by
 refine ⟨by rw [qaI,qaI];exact h.1,λj d' e=> ?_⟩
 by_cases hij:i=j
 ·subst hij
  by_cases hl:i<sd.length
  ·rw [qai hl] at e
   cases e
   exact ⟨v,by rw [qai (by rw [<- h.1];exact hl)],r⟩
  ·rw [List.getElem?_eq_none (by rw [qaI];omega)] at e
   cases e
 ·rw [qao hij] at e ⊢
  exact h.2 j d' e
end
abbrev St:=L2.St
abbrev XE:=String->Hp->Prop
def Fin {α:Type} (K:W.Frag) (E:XE) (ι:Io) (H:Hp) (r:R α) (P:α->Io->Hp->Prop):Prop:=match r with
 | .ok a h'=> ∀ ι' H',zbU ι H ι' H'->za6 K ι' H' h'->P a ι' H'
 | .exc c h'=> ∀ ι' H',zbU ι H ι' H'->za6 K ι' H' h'->E c H'
 | .bad=>False
section
variable {α β:Type} {K:W.Frag} {E:XE} {ι ι':Io} {H H':Hp}
theorem Fin.step {r:R α} {P:α->Io->Hp->Prop} (s:zbU ι H ι' H') (h:Fin K E ι H r P):Fin K E ι' H' r P:=by
 cases r with
 | ok a h'=>exact λι2 H2 t hr=>h ι2 H2 (s.trans t) hr
 | exc c h'=>exact λι2 H2 t hr=>h ι2 H2 (s.trans t) hr
 | bad=>exact h
theorem Fin.bind {m:M α} {f:α->M β} {h:Hh} {P:β->Io->Hp->Prop} {P':α->Io->Hp->Prop} (q:Fin K E ι H ((m>>=f) h) P)
  (k: ∀ a h' ι' H',m h= .ok a h'->zbU ι H ι' H'->za6 K ι' H' h'->Fin K E ι' H' (f a h') P->P' a ι' H'):Fin K E ι H (m h) P':=by
 have q':Fin K E ι H (M.bind m f h) P:=q
 unfold M.bind at q'
 cases e:m h with
 | ok a h'=>
  rw [e] at q'
  intro ι' H' s hr
  exact k a h' ι' H' e s hr (Fin.step s q')
 | exc c h'=>rw [e] at q';exact q'
 | bad=>rw [e] at q';exact q'
theorem Fin.out {a:α} {h:Hh} {P:α->Io->Hp->Prop} (hr:za6 K ι H h) (q:Fin K E ι H ((pure a:M α) h) P):P a ι H:=q ι H (zbU.refl _ _) hr
end
def zi4 (K:W.Frag) (E:XE) (f:Sd->M D):TE:=λσ H Q=> ∃ ι h sd,zcH K ι H sd σ/\za6 K ι H h/\Fin K E ι H (f sd h) λd ι' H'=> ∀ v,Rel K ι' H' d v->Q v H'
def zf2 (K:W.Frag) (E:XE) (f:Sd->M Bool):TT:=λσ H Q=> ∃ ι h sd,zcH K ι H sd σ/\za6 K ι H h/\Fin K E ι H (f sd h) λb ι' H'=>Q b H'
def ztU (K:W.Frag) (E:XE) (f:Sd->M (List D)):TA:=λσ H Q=> ∃ ι h sd,zcH K ι H sd σ/\za6 K ι H h/\Fin K E ι H (f sd h) λds ι' H'=> ∀ vs,zaw K ι' H' ds vs->Q vs H'
abbrev SE (X:Cx) (E:XE) (e:Expr) (f:Sd->M D):Prop:=PE X e (zi4 X.K E f)
abbrev ST (X:Cx) (E:XE) (e:Expr) (f:Sd->M Bool):Prop:=PT X e (zf2 X.K E f)
abbrev SA (X:Cx) (E:XE) (es:List Expr) (f:Sd->M (List D)):Prop:=PA X es (ztU X.K E f)
def zdt (K:W.Frag) (E:XE) (F:D->D->M D):R2:=λx y H Q=> ∃ ι h d1 d2,Rel K ι H d1 x/\Rel K ι H d2 y/\za6 K ι H h/\Fin K E ι H (F d1 d2 h) λd ι' H'=> ∀ v,Rel K ι' H' d v->Q v H'
def zhf (K:W.Frag) (E:XE) (F:List D->M D):List V->Hp->VK->Prop:=λxs H Q=> ∃ ι h ds,zaw K ι H ds xs/\za6 K ι H h/\Fin K E ι H (F ds h) λd ι' H'=> ∀ v,Rel K ι' H' d v->Q v H'
theorem PE.imp {X:Cx} {e:Expr} {t t':TE} (h:PE X e t) (m: ∀ σ H Q,t' σ H Q->t σ H Q):PE X e t':=λpins s σ H Q I q=>h pins s σ H Q I (m _ _ _ q)
theorem PT.imp {X:Cx} {e:Expr} {t t':TT} (h:PT X e t) (m: ∀ σ H Q,t' σ H Q->t σ H Q):PT X e t':=λpins s σ H Q I q=>h pins s σ H Q I (m _ _ _ q)
theorem PA.imp {X:Cx} {e:List Expr} {t t':TA} (h:PA X e t) (m: ∀ σ H Q,t' σ H Q->t σ H Q):PA X e t':=λpos pins s σ H Q I q=>h pos pins s σ H Q I (m _ _ _ q)
theorem OpR.imp {X:Cx} {f:Value->Value->Sem Value} {r r':R2} (h:OpR X f r) (m: ∀ x y H Q,r' x y H Q->r x y H Q):OpR X f r':=λpins s σ H x y v u Q I rx ry q=>h pins s σ H x y v u Q I rx ry (m _ _ _ _ q)
theorem zaO.imp {X:Cx} {f:Value} {r r':List V->Hp->VK->Prop} (h:zaO X f r) (m: ∀ xs H Q,r' xs H Q->r xs H Q):zaO X f r':=by
 intro pins s σ H xs us Q I rx q
 exact h pins s σ H xs us Q I rx (m _ _ _ q)
theorem IxR.imp {X:Cx} {r r':R2} (h:IxR X r) (m: ∀ x y H Q,r' x y H Q->r x y H Q):IxR X r':=by
 intro value slice pins s σ H x y v u Q I rx ry q hs
 exact h value slice pins s σ H x y v u Q I rx ry (m _ _ _ _ q) hs
theorem PI.imp {X:Cx} {tg iter:Expr} {t t':TI} (h:PI X tg iter t) (m: ∀ σ H Q,t' σ H Q->t σ H Q):PI X tg iter t':=λpins s σ H Q I q=>h pins s σ H Q I (m _ _ _ q)
theorem PG.imp {X:Cx} {tg:Expr} {t t':TG} (h:PG X tg t) (m: ∀ v σ H Q,t' v σ H Q->t v σ H Q):PG X tg t':=λpins s σ H v u Q I r q=>h pins s σ H v u Q I r (m _ _ _ _ q)
theorem PS.imp {X:Cx} {st:Stmt} {t t':TS} (h:PS X st t) (m: ∀ D σ H,t' D σ H->t D σ H):PS X st t':=λpins s σ H D I q=>h pins s σ H D I (m _ _ _ q)
theorem PSs.imp {X:Cx} {st:List Stmt} {t t':TS} (h:PSs X st t) (m: ∀ D σ H,t' D σ H->t D σ H):PSs X st t':=λpins s σ H D I q=>h pins s σ H D I (m _ _ _ q)
section
variable {X:Cx} {E:XE} {a b e:Expr} {es:List Expr} {pos:Pos} {fa fb:Sd->M D}
theorem te2 {K:W.Frag} {F:D->D->M D} {r:R2} (hr: ∀ x y H Q,zdt K E F x y H Q->r x y H Q) (σ:St) (H:Hp) (Q:VK) (q:zi4 K E (λsd=>do let x<-fa sd;let y<-fb sd;F x y) σ H Q):tOp r (zi4 K E fa) (zi4 K E fb) σ H Q:=by
 obtain ⟨ι,h,sd,L,hh,q⟩:=q
 refine ⟨ι,h,sd,L,hh,Fin.bind q λd1 h1 ι1 H1 e1 s1 hr1 q1 v r1=> ?_⟩
 refine ⟨ι1,h1,sd,L.step s1,hr1,Fin.bind q1 λd2 h2 ι2 H2 e2 s2 hr2 q2 w r2=> ?_⟩
 exact hr _ _ _ _ ⟨ι2,h2,d1,d2,r1.step s2,r2,hr2,q2⟩
theorem zsr {op:Operator} {F:D->D->M D} (ho:OpR X (binaryOp op) (zdt X.K E F)) (ha:SE X E a fa) (hb:SE X E b fb):SE X E (.BinOp a op b pos) (λsd=>do let x<-fa sd;let y<-fb sd;F x y):=
 PE.imp (ztr ho ha hb) (te2 λ_ _ _ _ q=>q)
theorem zrL {op:CmpOp} {F:D->D->M D} (ho:OpR X (compareOp op) (zdt X.K E F)) (ha:SE X E a fa) (hb:SE X E b fb) (hm:behindInMarks op b=false):SE X E (.Compare a [op] [b] pos) (λsd=>do let x<-fa sd;let y<-fb sd;F x y):=
 PE.imp (zoB ho ha hb hm) (te2 λ_ _ _ _ q=>q)
theorem zqn {F:D->D->M D} (ho:IxR X (zdt X.K E F)) (ha:SE X E a fa) (hb:SE X E b fb) (hs:ze0 b):SE X E (.Subscript a b pos) (λsd=>do let x<-fa sd;let y<-fb sd;F x y):=
 PE.imp (zsd ho ha hb hs) (te2 λ_ _ _ _ q=>q)
def zcr:D->M Bool
 | .bl b=>pure b
 | _=>M.bad
theorem zeE {K:W.Frag} {f:Sd->M D} (σ:St) (H:Hp) (Q:Bool->Hp->Prop) (q:zf2 K E (λsd=>do let x<-f sd;zcr x) σ H Q):(zi4 K E f) σ H λx H1=> ∃ c,x= .bl c/\Q c H1:=by
 obtain ⟨ι,h,sd,L,hh,q⟩:=q
 refine ⟨ι,h,sd,L,hh,Fin.bind q λd1 h1 ι1 H1 e1 s1 hr1 q2 v r1=> ?_⟩
 cases d1 with
 | bl b=>simp only [Rel] at r1;exact ⟨b,r1,Fin.out hr1 q2⟩
 | _=>exact qa0 q2
theorem zqY {op:CmpOp} {F:D->D->M D} (ho:OpR X (compareOp op) (zdt X.K E F)) (ha:SE X E a fa) (hb:SE X E b fb) (hm:behindInMarks op b=false):
  ST X E (.Compare a [op] [b] pos) (λsd=>do let z<-(do let x<-fa sd;let y<-fb sd;F x y);zcr z):=by
 refine PT.imp (zn9 ho ha hb hm) λσ H Q q=> ?_
 have q1:=zeE (f:=λsd=>do let x<-fa sd;let y<-fb sd;F x y) σ H Q q
 exact te2 (λ_ _ _ _ q=>q) σ H _ q1
theorem zqN {f:Sd->M D} (h:SE X E e f) (he: ∀ whole,isTrue e X.env whole=(do let v<-whole;standAt e.pos;holding [v] (truthy v)):=by intro _;rfl):ST X E e (λsd=>do let x<-f sd;zcr x):=
 PT.imp (zsc h he) λσ H Q q=>zeE σ H Q q
theorem zqa {t:Sd->M Bool} (ha:ST X E a t):ST X E (.UnaryOp .Not a pos) (λsd=>do let c<-t sd;pure (!c)):=by
 refine PT.imp (zrs ha) λσ H Q ⟨ι,h,sd,L,hh,q⟩=>⟨ι,h,sd,L,hh,Fin.bind q λc h1 ι1 H1 e1 s1 hr1 q1=> ?_⟩
 exact Fin.out hr1 q1
theorem zpF {t:Sd->M Bool} (ha:ST X E a t):PW X (.BoolOp .And [a] pos) (zf2 X.K E t):=pw_and1 ha
theorem zrp {t:Sd->M Bool} (ha:ST X E a t):PW X (.BoolOp .Or [a] pos) (zf2 X.K E t):=pw_or1 ha
theorem PW.imp {t t':TT} (h:PW X e t) (m: ∀ σ H Q,t' σ H Q->t σ H Q):PW X e t':=λwhole pins s σ H Q I q=>h whole pins s σ H Q I (m _ _ _ q)
theorem zrE {rest:List Expr} {t u:Sd->M Bool} (ha:ST X E a t) (hb:PW X (.BoolOp .And (b::rest) pos) (zf2 X.K E u)):PW X (.BoolOp .And (a::b::rest) pos) (zf2 X.K E λsd=>do let c<-t sd;if c=true then u sd else pure false):=by
 refine PW.imp (pw_and ha hb) λσ H Q ⟨ι,h,sd,L,hh,q⟩=>⟨ι,h,sd,L,hh,Fin.bind q λc h1 ι1 H1 e1 s1 hr1 q1=> ?_⟩
 cases c with
 | true=>exact zn2 ⟨ι1,h1,sd,L.step s1,hr1,q1⟩
 | false=>exact zoG (Fin.out hr1 q1)
theorem ztn {rest:List Expr} {t u:Sd->M Bool} (ha:ST X E a t) (hb:PW X (.BoolOp .Or (b::rest) pos) (zf2 X.K E u)):PW X (.BoolOp .Or (a::b::rest) pos) (zf2 X.K E λsd=>do let c<-t sd;if c=true then pure true else u sd):=by
 refine PW.imp (pw_or ha hb) λσ H Q ⟨ι,h,sd,L,hh,q⟩=>⟨ι,h,sd,L,hh,Fin.bind q λc h1 ι1 H1 e1 s1 hr1 q1=> ?_⟩
 cases c with
 | false=>exact zoG ⟨ι1,h1,sd,L.step s1,hr1,q1⟩
 | true=>exact zn2 (Fin.out hr1 q1)
theorem zpr {op:BoolOp} {vs:List Expr} {t:Sd->M Bool} (h:PW X (.BoolOp op vs pos) (zf2 X.K E t)):ST X E (.BoolOp op vs pos) t:=h.pt
theorem zrH {op:BoolOp} (h:SE X E a fa):SE X E (.BoolOp op [a] pos) fa:=zrI h
theorem zsb {rest:List Expr} (ha:SE X E a fa) (hb:SE X E (.BoolOp .And (b::rest) pos) fb):SE X E (.BoolOp .And (a::b::rest) pos) (λsd=>do let c<-(do let x<-fa sd;zcr x);if c=true then fb sd else pure (.bl false)):=by
 refine PE.imp (zqM ha hb) λσ H Q ⟨ι,h,sd,L,hh,q⟩=> ?_
 have q1:=zeE (K:=X.K) (E:=E) (f:=fa) σ H (λc H1=>if c=true then zi4 X.K E fb σ H1 Q else Q (.bl false) H1) ⟨ι,h,sd,L,hh,Fin.bind q λc h1 ι1 H1 e1 s1 hr1 q1=> ?_⟩
 ·exact q1
 ·cases c with
  | true=>exact zn2 ⟨ι1,h1,sd,L.step s1,hr1,q1⟩
  | false=>exact zoG (Fin.out hr1 q1 _ (by simp [Rel]))
theorem zs2 {rest:List Expr} (ha:SE X E a fa) (hb:SE X E (.BoolOp .Or (b::rest) pos) fb):SE X E (.BoolOp .Or (a::b::rest) pos) (λsd=>do let c<-(do let x<-fa sd;zcr x);if c=true then pure (.bl true) else fb sd):=by
 refine PE.imp (zst ha hb) λσ H Q ⟨ι,h,sd,L,hh,q⟩=> ?_
 have q1:=zeE (K:=X.K) (E:=E) (f:=fa) σ H (λc H1=>if c=true then Q (.bl true) H1 else zi4 X.K E fb σ H1 Q) ⟨ι,h,sd,L,hh,Fin.bind q λc h1 ι1 H1 e1 s1 hr1 q1=> ?_⟩
 ·exact q1
 ·cases c with
  | false=>exact zoG ⟨ι1,h1,sd,L.step s1,hr1,q1⟩
  | true=>exact zn2 (Fin.out hr1 q1 _ (by simp [Rel]))
theorem zqm (ha:SE X E a fa):SE X E (.UnaryOp .Not a pos) (λsd=>do let c<-(do let x<-fa sd;zcr x);pure (.bl (!c))):=by
 refine PE.imp (zrO ha) λσ H Q ⟨ι,h,sd,L,hh,q⟩=> ?_
 have q1:=zeE (K:=X.K) (E:=E) (f:=fa) σ H (λc H1=>Q (.bl (!c)) H1) ⟨ι,h,sd,L,hh,Fin.bind q λc h1 ι1 H1 e1 s1 hr1 q1=> ?_⟩
 ·exact q1
 ·exact Fin.out hr1 q1 _ (by simp [Rel])
theorem zmv {c:Expr} {t:Sd->M Bool} (hc:ST X E c t) (ha:SE X E a fa) (hb:SE X E b fb):SE X E (.IfExp c a b pos) (λsd=>do let c<-t sd;if c=true then fa sd else fb sd):=by
 refine PE.imp (zme hc ha hb) λσ H Q ⟨ι,h,sd,L,hh,q⟩=>⟨ι,h,sd,L,hh,Fin.bind q λc h1 ι1 H1 e1 s1 hr1 q1=> ?_⟩
 cases c with
 | true=>exact zn2 ⟨ι1,h1,sd,L.step s1,hr1,q1⟩
 | false=>exact zoG ⟨ι1,h1,sd,L.step s1,hr1,q1⟩
def zaf (i:Nat):Sd->M D:=λsd=>match sd[i]? with
 | some (some d)=>pure d
 | _=>M.bad
theorem zrw (i:Nat) {x:Str} (hN:X.N[i]? = some x) (hv:Vis X.env.scope x) (hd:(x==("__debug__":Str))=false:=by decide) (hcd:(x==("__classdict__":Str))=false:=by decide):SE X E (.Name x pos) (zaf i):=by
 refine PE.imp (znk hN hv hd hcd) λσ H Q ⟨ι,h,sd,L,hh,q⟩=> ?_
 unfold zaf at q
 cases e:sd[i]? with
 | none=>rw [e] at q;exact qa0 q
 | some o=>
  rw [e] at q
  cases o with
  | none=>exact qa0 q
  | some d=>
   obtain ⟨v,e1,r⟩:=L.2 i d e
   exact ⟨v,e1,Fin.out hh q v r⟩
theorem zc9 {K:W.Frag} {d:D} {v:V} (r: ∀ ι H,Rel K ι H d v) (σ:St) (H:Hp) (Q:VK) (q:zi4 K E (λ_=>pure d) σ H Q):tC v σ H Q:=by
 obtain ⟨ι,h,sd,L,hh,q⟩:=q
 exact Fin.out hh q v (r _ _)
theorem zrB {i:Int} {j:Nat}:SE X E (.Constant (.int i) j pos) (λ_=>pure (.int i)):=PE.imp znt (zc9 λ_ _=>by simp [Rel])
theorem zs0 {i:Bool} {j:Nat}:SE X E (.Constant (.bool i) j pos) (λ_=>pure (.bl i)):=PE.imp zqo (zc9 λ_ _=>by simp [Rel])
theorem zqj {j:Nat}:SE X E (.Constant .none j pos) (λ_=>pure .non):=PE.imp zrN (zc9 λ_ _=>by simp [Rel])
theorem zqT {i:Str} {j:Nat}:SE X E (.Constant (.str i) j pos) (λ_=>pure (.str i)):=PE.imp znH (zc9 λ_ _=>by simp [Rel])
theorem zmN {x:Str} {i:Int} {t:Tok} (hg:Gl X x) (hm:X.mg x=some (.int i t)) (hd:(x==("__debug__":Str))=false:=by decide):SE X E (.Name x pos) (λ_=>pure (.int i)):=PE.imp (zfD (v:= .int i) hg hm ⟨t,rfl⟩ hd) (zc9 λ_ _=>by simp [Rel])
theorem zrv:SA X E [] (λ_=>pure []):=PA.imp zcn λσ H Q ⟨ι,h,sd,L,hh,q⟩=>Fin.out hh q [] zaw.nil
theorem zoC {fs:Sd->M (List D)} (ha:SE X E e fa) (hr:SA X E es fs) (hs:starEach (e::es) X.env=(false,eval e X.env)::starEach es X.env:=by rfl):SA X E (e::es) (λsd=>do let x<-fa sd;let r<-fs sd;pure (x::r)):=by
 refine PA.imp (zbc ha hr hs) λσ H Q ⟨ι,h,sd,L,hh,q⟩=>⟨ι,h,sd,L,hh,Fin.bind q λd h1 ι1 H1 e1 s1 hr1 q1 v rv=> ?_⟩
 refine ⟨ι1,h1,sd,L.step s1,hr1,Fin.bind q1 λds h2 ι2 H2 e2 s2 hr2 q2 vs rvs=> ?_⟩
 exact Fin.out hr2 q2 _ (zaw.cons (rv.step s2) rvs)
end
theorem za6.nin {K:W.Frag} {ι:Io} {H:Hp} {h:Hh} (hr:za6 K ι H h) {p:Addr} (hp:H p=none): ¬ι.Has p:=λz=>by
 rcases z with z | z
 ·obtain ⟨n,hn⟩:=List.mem_iff_getElem?.mp z
  have hl:n<h.length:=by rw [hr.len];exact (qac.mp hn).1
  obtain ⟨o,e,_⟩:=hr.at_ n p h[n] hn (by simp [hl])
  rw [hp] at e
  cases e
 ·obtain ⟨⟨o,e⟩,_⟩:=hr.hidt p z
  rw [hp] at e
  cases e
theorem za6.laidS {K:W.Frag} {ι:Io} {H:Hp} {h:Hh} (hr:za6 K ι H h) {p:Addr} {o:HO} (hp:H p=none):zbU ι H ι (upd H p o):=
 ⟨λ_ _ h=> .inl h,λ_ h=> .inl h,rfl,λa ha=>zaz λz=>hr.nin hp (.inr (z▸ha)),λb o' h _=>by rw [zaz (zaN h hp)];exact h⟩
theorem za6.laid {K:W.Frag} {ι:Io} {H:Hp} {h:Hh} {p:Addr} {o:HO} (hr:za6 K ι H h) (hp:H p=none):za6 K ι (upd H p o) h:=
 ⟨hr.len,hr.inj,λn a c hn hc=>by
   obtain ⟨o',e2,e3⟩:=hr.at_ n a c hn hc
   exact ⟨o',by rw [zaz (zaN e2 hp)];exact e2,e3.pass (hr.laidS hp).pass⟩,hr.dead,λa ha=>⟨by rw [zaz (show a≠p from λz=>hr.nin hp (.inr (z▸ha)))];exact (hr.hidt a ha).1,(hr.hidt a ha).2⟩⟩
noncomputable def fits (n:Nat):M Unit:=if n<=sizeLine then pure () else M.bad
theorem Fin.fits {α:Type} {K:W.Frag} {E:XE} {ι:Io} {H:Hp} {n:Nat} {f:M α} {h:Hh} {P:α->Io->Hp->Prop} (q:Fin K E ι H ((do L3.fits n;f) h) P):n<=sizeLine/\Fin K E ι H (f h) P:=by
 have q':Fin K E ι H (M.bind (L3.fits n) (λ_=>f) h) P:=q
 unfold M.bind L3.fits at q'
 by_cases hn:n<=sizeLine
 ·rw [qa4 hn] at q'
  exact ⟨hn,q'⟩
 ·rw [qa5 hn] at q'
  exact qa0 q'
section
variable {X:Cx} {E:XE} {es:List Expr} {pos:Pos} {fs:Sd->M (List D)}
theorem zpP {K:W.Frag} {ι:Io} {H:Hp} {h:Hh} {ds:List D} {vs:List V} {Q:VK} (hr:za6 K ι H h) (rl:zaw K ι H ds vs) (q:Fin K E ι H ((pure (.tup ds):M D) h) λd ι' H'=> ∀ v,Rel K ι' H' d v->Q v H') {p:Addr} (hp:H p=none):Q (.ref p) (upd H p (.tup vs)):=
 q ι _ (hr.laidS hp) (hr.laid hp) _ (by
   simp only [Rel]
   exact ⟨p,vs,rfl,⟨zaV,hr.nin hp⟩,rl.step (hr.laidS hp)⟩)
theorem zpR {K:W.Frag} {ι:Io} {H:Hp} {h:Hh} {ds:List D} {vs:List V} {Q:VK} (hr:za6 K ι H h) (rl:zaw K ι H ds vs) (q:Fin K E ι H ((pure (.lst ds):M D) h) λd ι' H'=> ∀ v,Rel K ι' H' d v->Q v H') {p:Addr} (hp:H p=none):Q (.ref p) (upd H p (.lst vs)):=
 q ι _ (hr.laidS hp) (hr.laid hp) _ (by
   simp only [Rel]
   exact ⟨p,vs,rfl,⟨zaV,hr.nin hp⟩,rl.step (hr.laidS hp)⟩)
noncomputable def zeW (ds:List D):M D:=λh=> .ok (.cel h.length) (h++[.lst ds])
theorem ztp {K:W.Frag} {ι:Io} {H:Hp} {h:Hh} {c0:C} {o0:HO} {Q:VK} (hr:za6 K ι H h) (co:CO K ι H c0 o0) (q:Fin K E ι H (.ok (.cel h.length) (h++[c0])) λd ι' H'=> ∀ v,Rel K ι' H' d v->Q v H') {p:Addr} (hp:H p=none):Q (.ref p) (upd H p o0):=by
 have hlen:=hr.len
 have nh:=hr.nin hp
 have st:zbU ι H ⟨ι.c++[some p],ι.x⟩ (upd H p o0):=by
  refine ⟨λn o h=> .inl ?_,λa h=> ?_,rfl,λa ha=>zaz λz=>nh (.inr (z▸ha)),λb o' h _=>by rw [zaz (zaN h hp)];exact h⟩
  ·show (ι.c++[some p])[n]? = _
   rw [qad (qac.mp h).1];exact h
  ·rcases qaK.mp h with h | h
   ·exact .inl h
   ·simp at h;subst h;exact .inr hp
 have at_: ∀ (n:Nat) (a:Addr),(ι.c++[some p])[n]? = some (some a)->(ι.c[n]? = some (some a))\/(n=ι.c.length/\a=p):=λn a h=>by
  by_cases hl:n<ι.c.length
  ·rw [qad hl] at h;exact .inl h
  ·rw [qaa ⋯] at h
   have:n - ι.c.length=0:=by
    cases z:n - ι.c.length with
    | zero=>rfl
    | succ k=>rw [z] at h;simp at h
   rw [this] at h
   simp at h
   exact .inr ⟨⋯,h.symm⟩
 refine q _ _ st ⟨?_,λm n a h1 h2=> ?_,λn a c h1 h2=> ?_,λn h1=> ?_,λa ha=>⟨?_,λz=> ?_⟩⟩ _ ?_
 ·show (h++[c0]).length=(ι.c++[some p]).length
  rw [qav,qav,hlen];rfl
 ·rcases at_ m a h1 with z1 | ⟨z1,z1'⟩<;>rcases at_ n a h2 with z2 | ⟨z2,z2'⟩
  ·exact hr.inj m n a z1 z2
  ·subst z2';exact absurd (.inl (List.mem_of_getElem? z1)) nh
  ·subst z1';exact absurd (.inl (List.mem_of_getElem? z2)) nh
  ·rw [z1,z2]
 ·rcases at_ n a h1 with z1 | ⟨z1,z1'⟩
  ·rw [qad (by rw [hlen];exact (qac.mp z1).1)] at h2
   obtain ⟨o',e2,e3⟩:=hr.at_ n a c z1 h2
   exact ⟨o',by rw [zaz (zaN e2 hp)];exact e2,e3.pass st.pass⟩
  ·subst z1 z1'
   rw [<- hlen,qaa (qaV _)] at h2
   simp at h2
   subst h2
   exact ⟨o0,zaV,co.pass st.pass⟩
 ·have h1:(ι.c++[some p])[n]? = some none:=h1
  by_cases hl:n<ι.c.length
  ·rw [qad hl] at h1
   rw [qad (by rw [hlen];exact hl)]
   exact hr.dead n h1
  ·rw [qaa ⋯] at h1
   cases z:n - ι.c.length with
   | zero=>rw [z] at h1;simp at h1
   | succ k=>rw [z] at h1;simp at h1
 ·rw [zaz (show a≠p from λz=>nh (.inr (z▸ha)))]
  exact (hr.hidt a ha).1
 ·rcases qaK.mp z with z | z
  ·exact (hr.hidt a ha).2 z
  ·simp at z;subst z;exact nh (.inr ha)
 ·simp only [Rel]
  refine ⟨p,rfl,.inl ?_⟩
  show (ι.c++[some p])[h.length]? = _
  rw [hlen,qaa (qaV _)]
  simp
theorem zua {K:W.Frag} {ι:Io} {H:Hp} {h:Hh} {ds:List D} {vs:List V} {Q:VK} (hr:za6 K ι H h) (rl:zaw K ι H ds vs) (q:Fin K E ι H (zeW ds h) λd ι' H'=> ∀ v,Rel K ι' H' d v->Q v H') {p:Addr} (hp:H p=none):Q (.ref p) (upd H p (.lst vs)):=
 ztp hr (c0:= .lst ds) ⟨vs,rfl,rl⟩ q hp
theorem zrU {x1} (h:SA X E es fs):SE X E (.Tuple es x1 pos) (λsd=>do let ds<-fs sd;fits ds.length;pure (.tup ds)):=by
 refine PE.imp (zqX h) λσ H Q ⟨ι,h,sd,L,hh,q⟩=>⟨ι,h,sd,L,hh,Fin.bind q λds h1 ι1 H1 e1 s1 hr1 q1 vs rvs=> ?_⟩
 obtain ⟨z,q2⟩:=Fin.fits q1
 exact ⟨by rw [<- rvs.length];exact z,λp hp=>zpP hr1 rvs q2 hp⟩
theorem zqe (h:SA X E es fs):SE X E (.List es pos) (λsd=>do let ds<-fs sd;fits ds.length;pure (.lst ds)):=by
 refine PE.imp (zjK h) λσ H Q ⟨ι,h,sd,L,hh,q⟩=>⟨ι,h,sd,L,hh,Fin.bind q λds h1 ι1 H1 e1 s1 hr1 q1 vs rvs=> ?_⟩
 obtain ⟨z,q2⟩:=Fin.fits q1
 exact ⟨by rw [<- rvs.length];exact z,λp hp=>zpR hr1 rvs q2 hp⟩
theorem zoX (h:SA X E es fs):SE X E (.List es pos) (λsd=>do let ds<-fs sd;fits ds.length;zeW ds):=by
 refine PE.imp (zjK h) λσ H Q ⟨ι,h,sd,L,hh,q⟩=>⟨ι,h,sd,L,hh,Fin.bind q λds h1 ι1 H1 e1 s1 hr1 q1 vs rvs=> ?_⟩
 obtain ⟨z,q2⟩:=Fin.fits q1
 exact ⟨by rw [<- rvs.length];exact z,λp hp=>zua hr1 rvs q2 hp⟩
end
inductive Out where
 | nx (sd:Sd) | rt (d:D) | bk (sd:Sd) | ct (sd:Sd)
def zf9 (K:W.Frag) (D0:znx):Out->Io->Hp->Prop
 | .nx sd',ι',H'=> ∀ σ',zcH K ι' H' sd' σ'->D0.nx σ' H'
 | .rt d,ι',H'=> ∀ v,Rel K ι' H' d v->D0.rt v H'
 | .bk sd',ι',H'=> ∀ σ',zcH K ι' H' sd' σ'->D0.bk σ' H'
 | .ct sd',ι',H'=> ∀ σ',zcH K ι' H' sd' σ'->D0.ct σ' H'
def ztV (K:W.Frag) (E:XE) (G:Sd->M Out):TS:=λD0 σ H=> ∃ ι h sd,zcH K ι H sd σ/\za6 K ι H h/\Fin K E ι H (G sd h) (zf9 K D0)
abbrev SS (X:Cx) (E:XE) (st:Stmt) (G:Sd->M Out):Prop:=PS X st (ztV X.K E G)
abbrev SSs (X:Cx) (E:XE) (st:List Stmt) (G:Sd->M Out):Prop:=PSs X st (ztV X.K E G)
def andThen (o:Out) (g:Sd->M Out):M Out:=match o with
 | .nx sd=>g sd
 | o=>pure o
section
variable {X:Cx} {E:XE} {pos:Pos}
theorem zq0:SSs X E [] (λsd=>pure (.nx sd)):=PSs.imp zpg λD0 σ H ⟨ι,h,sd,L,hh,q⟩=>Fin.out hh q σ L
theorem zoD {st:Stmt} {rest:List Stmt} {g g':Sd->M Out} (h1:SS X E st g) (h2:SSs X E rest g'):SSs X E (st::rest) (λsd=>do let o<-g sd;andThen o g'):=by
 refine PSs.imp (zmE h1 h2) λD0 σ H ⟨ι,h,sd,L,hh,q⟩=>⟨ι,h,sd,L,hh,Fin.bind q λo h1 ι1 H1 e1 s1 hr1 q1=> ?_⟩
 cases o with
 | nx sd'=>exact λσ' L'=>⟨ι1,h1,sd',L',hr1,q1⟩
 | rt d=>exact Fin.out (E:=E) (P:=zf9 X.K D0) hr1 q1
 | bk sd'=>exact Fin.out (E:=E) (P:=zf9 X.K D0) hr1 q1
 | ct sd'=>exact Fin.out (E:=E) (P:=zf9 X.K D0) hr1 q1
theorem zrR {st:Stmt} {g:Sd->M Out} (h1:SS X E st g):SSs X E [st] g:=zoI h1
theorem zrj {e:Expr} {f:Sd->M D} (he:SE X E e f) (hs:swapsWith e none pos.line X.env=pure false:=by rfl):SS X E (.Expr e pos) (λsd=>do let _<-f sd;pure (.nx sd)):=by
 refine PS.imp (zpk he hs) λD0 σ H ⟨ι,h,sd,L,hh,q⟩=>⟨ι,h,sd,L,hh,Fin.bind q λd h1 ι1 H1 e1 s1 hr1 q1 v rv=> ?_⟩
 exact Fin.out hr1 q1 σ (L.step s1)
theorem ztm {e:Expr} {f:Sd->M D} (he:SE X E e f):SS X E (.Return (some e) pos) (λsd=>do let d<-f sd;pure (.rt d)):=by
 refine PS.imp (zqy he) λD0 σ H ⟨ι,h,sd,L,hh,q⟩=>⟨ι,h,sd,L,hh,Fin.bind q λd h1 ι1 H1 e1 s1 hr1 q1 v rv=> ?_⟩
 exact Fin.out hr1 q1 v rv
theorem zuh {c:Expr} {a b:List Stmt} {t:Sd->M Bool} {g g':Sd->M Out} (hc:ST X E c t) (ha:SSs X E a g) (hb:SSs X E b g'):SS X E (.If c a b pos) (λsd=>do let c<-t sd;if c=true then g sd else g' sd):=by
 refine PS.imp (zsJ hc ha hb) λD0 σ H ⟨ι,h,sd,L,hh,q⟩=>⟨ι,h,sd,L,hh,Fin.bind q λc h1 ι1 H1 e1 s1 hr1 q1=> ?_⟩
 cases c with
 | true=>exact zn2 ⟨ι1,h1,sd,L.step s1,hr1,q1⟩
 | false=>exact zoG ⟨ι1,h1,sd,L.step s1,hr1,q1⟩
def zso (K:W.Frag) (E:XE) (g:D->Sd->M Sd):TG:=λv σ H Q=> ∃ ι h sd d,zcH K ι H sd σ/\za6 K ι H h/\Rel K ι H d v/\Fin K E ι H (g d sd h) λsd' ι' H'=> ∀ σ',zcH K ι' H' sd' σ'->Q σ' H'
def ztI (K:W.Frag) (E:XE) (g:List D->Sd->M Sd):TGs:=λvs σ H Q=> ∃ ι h sd ds,zcH K ι H sd σ/\za6 K ι H h/\zaw K ι H ds vs/\Fin K E ι H (g ds sd h) λsd' ι' H'=> ∀ σ',zcH K ι' H' sd' σ'->Q σ' H'
abbrev SG (X:Cx) (E:XE) (tg:Expr) (g:D->Sd->M Sd):Prop:=PG X tg (zso X.K E g)
abbrev SGs (X:Cx) (E:XE) (tgs:List Expr) (g:List D->Sd->M Sd):Prop:=PGs X tgs (ztI X.K E g)
def zaR (i:Nat):D->Sd->M Sd:=λd sd=>pure (sd.set i (some d))
theorem zpE (i:Nat) {x:Str} (hN:X.N.Nodup) (hi:X.N[i]? = some x) (hx:Loc X.env.scope x) (hf:X.fn x=true\/X.env.scope.names.lookup x=some .local):SG X E (.Name x pos) (zaR i):=by
 refine PG.imp (zpy hN hi hx hf) λv σ H Q ⟨ι,h,sd,d,L,hh,r,q⟩=> ?_
 exact Fin.out hh q _ (L.set r i)
theorem PGs.imp {tgs:List Expr} {t t':TGs} (h:PGs X tgs t) (m: ∀ v σ H Q,t' v σ H Q->t v σ H Q):PGs X tgs t':=λpins s σ H v u Q I r q=>h pins s σ H v u Q I r (m _ _ _ _ q)
def zdG:List D->Sd->M Sd:=λds sd=>match ds with | []=>pure sd | _=>M.bad
def za2 (g:D->Sd->M Sd) (gs:List D->Sd->M Sd):List D->Sd->M Sd:=λds sd=>match ds with
 | []=>M.bad
 | d::r=>do let sd1<-g d sd;gs r sd1
theorem zoM:SGs X E [] zdG:=by
 refine PGs.imp zoP λv σ H Q ⟨ι,h,sd,ds,L,hh,r,q⟩=> ?_
 cases ds with
 | nil=>simp only [zaw] at r;exact ⟨r,Fin.out hh q _ L⟩
 | cons d r=>exact qa0 q
theorem zl7 {e:Expr} {es:List Expr} {g:D->Sd->M Sd} {gs:List D->Sd->M Sd} (h1:SG X E e g) (h2:SGs X E es gs)
  (hs:(assignEach (e::es) X.env).map (·.2)=assign e X.env::(assignEach es X.env).map (·.2):=by rfl):SGs X E (e::es) (za2 g gs):=by
 refine PGs.imp (zlN h1 h2 hs) λv σ H Q ⟨ι,h,sd,ds,L,hh,r,q⟩=> ?_
 cases ds with
 | nil=>exact qa0 q
 | cons d ds=>
  simp only [zaw] at r
  obtain ⟨v1,vr,rfl,r1,r2⟩:=r
  refine ⟨v1,vr,rfl,ι,h,sd,d,L,hh,r1,Fin.bind q λsd1 h1 ι1 H1 e1 s1 hr1 q1 σ1 L1=> ?_⟩
  exact ⟨ι1,h1,sd1,ds,L1,hr1,r2.step s1,q1⟩
def zdm (n:Nat) (gs:List D->Sd->M Sd):D->Sd->M Sd:=λd sd=>match d with
 | .tup ds=>if ds.length=n then gs ds sd else M.bad
 | _=>M.bad
theorem zdf {K:W.Frag} {ι:Io} {H:Hp} {ds:List D} {v:V} (h:Rel K ι H (.tup ds) v): ∃ a vs,v= .ref a/\SqT K H a vs/\zaw K ι H ds vs:=by
 simp only [Rel] at h
 obtain ⟨a,vs,e,h1,h2⟩:=h
 exact ⟨a,vs,e,.inl (.inl h1.1),h2⟩
theorem zlf {K:W.Frag} {ι:Io} {H:Hp} {ds:List D} {v:V} (h:Rel K ι H (.scr ds) v): ∃ a vs,v= .ref a/\SqL K H a vs/\zaw K ι H ds vs:=by
 simp only [Rel] at h
 obtain ⟨a,vs,e,h1,h2⟩:=h
 refine ⟨a,vs,e,?_,h2⟩
 rcases h1 with h1 | h1
 ·exact .inl h1.1
 ·rcases h1 with h1 | h1
  ·rcases h1 with h1 | ⟨o,h1⟩<;>cases h1
  ·exact .inr h1
theorem zdO {K:W.Frag} {ι:Io} {H:Hp} {ds:List D} {v:V} (h:Rel K ι H (.lst ds) v): ∃ a vs,v= .ref a/\SqL K H a vs/\zaw K ι H ds vs:=by
 simp only [Rel] at h
 obtain ⟨a,vs,e,h1,h2⟩:=h
 exact ⟨a,vs,e,.inl (.inl h1.1),h2⟩
theorem zq1 {es:List Expr} {k:Nat} {gs:List D->Sd->M Sd} {n:Nat} (hc:X.calm=true) (h:SGs X E es gs)
  (hn:(assignEach es X.env).length=n:=by rfl) (hst:(assignEach es X.env).findIdx? (·.1)=none:=by rfl):SG X E (.Tuple es k pos) (zdm n gs):=by
 refine PG.imp (zqb hc h hn hst) λv σ H Q ⟨ι,h,sd,d,L,hh,r,q⟩=> ?_
 cases d with
 | tup ds=>
  obtain ⟨a,vs,e,h1,h2⟩:=zdf r
  have q:Fin X.K E ι H ((if ds.length=n then gs ds sd else M.bad) h) _:=q
  by_cases hl:ds.length=n
  ·rw [qa4 hl] at q
   exact ⟨a,vs,e,h1,by rw [<- h2.length];exact hl,ι,h,sd,ds,L,hh,h2,q⟩
  ·rw [qa5 hl] at q
   exact qa0 q
 | _=>exact qa0 q
theorem ztB {tg e:Expr} {f:Sd->M D} {g:D->Sd->M Sd} (he:SE X E e f) (hg:SG X E tg g) (hs:swapsWithSole [tg] e pos.line X.env=pure false:=by rfl) (hw:swappedStores [tg] e X.env=pure none:=by rfl)
  (h1:(assignEach [tg] X.env).map (·.2)=[assign tg X.env]:=by rfl):SS X E (.Assign [tg] e pos) (λsd=>do let d<-f sd;let sd'<-g d sd;pure (.nx sd')):=by
 refine PS.imp (zq3 he hg hs hw h1) λD0 σ H ⟨ι,h,sd,L,hh,q⟩=>⟨ι,h,sd,L,hh,Fin.bind q λd h1 ι1 H1 e1 s1 hr1 q1 v rv=> ?_⟩
 exact ⟨ι1,h1,sd,d,L.step s1,hr1,rv,Fin.bind q1 λsd' h2 ι2 H2 e2 s2 hr2 q2=>Fin.out hr2 q2⟩
theorem zsA (i:Nat) {x:Str} {e:Expr} {f:Sd->M D} {pos':Pos} (hN:X.N.Nodup) (hi:X.N[i]? = some x) (hx:Loc X.env.scope x) (hf:X.fn x=true\/X.env.scope.names.lookup x=some .local) (he:SE X E e f) (hs:swapsWith e (some (.Name x pos')) pos.line X.env=pure false:=by rfl):
  SS X E (.Assign [.Name x pos'] e pos) (λsd=>do let d<-f sd;pure (.nx (sd.set i (some d)))):=by
 refine PS.imp (zri hN hi hx he hs hf) λD0 σ H ⟨ι,h,sd,L,hh,q⟩=>⟨ι,h,sd,L,hh,Fin.bind q λd h1 ι1 H1 e1 s1 hr1 q1 v rv=> ?_⟩
 exact Fin.out hr1 q1 _ ((L.step s1).set rv i)
theorem zsU {i j:Nat} {x y:Str} {a b:Expr} {fs:Sd->M (List D)} {px py pt:Pos} {kt k2 pt2} (hp:PS X (.Assign [.Tuple [.Name x px,.Name y py] kt pt] (.Tuple [a,b] k2 pt2) pos) (ztT i j (ztU X.K E fs))):
  SS X E (.Assign [.Tuple [.Name x px,.Name y py] kt pt] (.Tuple [a,b] k2 pt2) pos) (λsd=>do let ds<-fs sd;match ds with | [d,d']=>pure (.nx ((sd.set i (some d)).set j (some d'))) | _=>M.bad):=by
 refine PS.imp hp λD0 σ H ⟨ι,h,sd,L,hh,q⟩=>⟨ι,h,sd,L,hh,Fin.bind q λds h1 ι1 H1 e1 s1 hr1 q1 vs rv=> ?_⟩
 match ds,rv,q1 with
 | [d,d'],rv,q1=>
  simp only [zaw] at rv
  obtain ⟨v,r,rfl,r1,v',r',rfl,r2,rfl⟩:=rv
  exact ⟨v,v',rfl,Fin.out hr1 q1 _ (((L.step s1).set r1 i).set r2 j)⟩
 | [],_,q1=>exact qa0 q1
 | [_],_,q1=>exact qa0 q1
 | _::_::_::_,_,q1=>exact qa0 q1
def zsG (H H2:Hp):Prop:=H2=H\/ ∃ q vs,H q=none/\H2=upd H q (.tup vs)
theorem zsG.step {K:W.Frag} {ι:Io} {H H2:Hp} {h:Hh} (g:zsG H H2) (hr:za6 K ι H h):zbU ι H ι H2/\za6 K ι H2 h:=by
 rcases g with e | ⟨q,vs,hq,e⟩
 ·subst e;exact ⟨zbU.refl _ _,hr⟩
 ·subst e;exact ⟨hr.laidS hq,hr.laid hq⟩
structure zpQ (K:W.Frag) (ι:Io) (H:Hp) (J:It) (ds:List D):Prop where
 go: ∀ ι' H' (i:Nat),Pass ι H ι' H'->i<ds.length->J.go i H'
 yld: ∀ ι' H' h (i:Nat) x H2,Pass ι H ι' H'->za6 K ι' H' h->i<ds.length->J.yld i H' x H2->zsG H' H2/\ ∃ d,ds[i]? = some d/\Rel K ι' H2 d x
 stop: ∀ ι' H',Pass ι H ι' H'->J.stop ds.length H'
def ztK (K:W.Frag) (E:XE) (f:Sd->M (List D)):TI:=λσ H Q=> ∃ ι h sd,zcH K ι H sd σ/\za6 K ι H h/\Fin K E ι H (f sd h) λds ι' H'=> ∀ J,zpQ K ι' H' J ds->Q J H'
abbrev SI (X:Cx) (E:XE) (tg iter:Expr) (f:Sd->M (List D)):Prop:=PI X tg iter (ztK X.K E f)
def zfw:D->M (List D)
 | .tup ds=>pure ds
 | .lst ds=>pure ds
 | _=>M.bad
theorem zmB {K:W.Frag} {ι:Io} {H:Hp} {a:Addr} {vs:List V} {ds:List D} (h: ∀ ι' H',Pass ι H ι' H'->SqT K H' a vs) (rl:zaw K ι H ds vs):zpQ K ι H (Itt K a) ds where
 go:=λι' H' i s hi=>⟨vs,vs[i]'(by rw [<- rl.length];exact hi),h ι' H' s,by simp⟩
 yld:=λι' H' _ i x H2 s _ hi ⟨e,y⟩=>by
  subst e
  have hx:=y vs (h ι' _ s)
  obtain ⟨d,e1,e2⟩:=rl.getV hx
  exact ⟨.inl rfl,d,e1,e2.pass s⟩
 stop:=λι' H' s=>⟨vs,h ι' H' s,by rw [rl.length];exact qaV _⟩
theorem zm3 {K:W.Frag} {ι:Io} {H:Hp} {a:Addr} {vs:List V} {ds:List D} (h: ∀ ι' H',Pass ι H ι' H'->SqL K H' a vs) (rl:zaw K ι H ds vs):zpQ K ι H (Itl K a) ds where
 go:=λι' H' i s hi=>⟨vs,vs[i]'(by rw [<- rl.length];exact hi),h ι' H' s,by simp⟩
 yld:=λι' H' _ i x H2 s _ hi ⟨e,y⟩=>by
  subst e
  have hx:=y vs (h ι' _ s)
  obtain ⟨d,e1,e2⟩:=rl.getV hx
  exact ⟨.inl rfl,d,e1,e2.pass s⟩
 stop:=λι' H' s=>⟨vs,h ι' H' s,by rw [rl.length];exact qaV _⟩
theorem Pass.refl (ι:Io) (H:Hp):Pass ι H ι H:=(zbU.refl ι H).pass
theorem zof {K:W.Frag} {ι:Io} {H:Hp} {ds:List D} {v:V} (h:Rel K ι H (.tup ds) v): ∃ a vs,v= .ref a/\(∀ ι' H',Pass ι H ι' H'->SqT K H' a vs)/\zaw K ι H ds vs:=by
 simp only [Rel] at h
 obtain ⟨a,vs,e,h1,h2⟩:=h
 exact ⟨a,vs,e,λι' H' s=> .inl (.inl (s.keep _ _ h1.1 h1.2).1),h2⟩
theorem zog {K:W.Frag} {ι:Io} {H:Hp} {ds:List D} {v:V} (h:Rel K ι H (.lst ds) v): ∃ a vs,v= .ref a/\(∀ ι' H',Pass ι H ι' H'->SqL K H' a vs)/\zaw K ι H ds vs:=by
 simp only [Rel] at h
 obtain ⟨a,vs,e,h1,h2⟩:=h
 exact ⟨a,vs,e,λι' H' s=> .inl (.inl (s.keep _ _ h1.1 h1.2).1),h2⟩
end
end L3
namespace L2
def zuz (K:W.Frag) (tl:TE):TI:=λσ H R=>tl σ H λx H1=> ∃ a,x= .ref a/\(((∃ xs,SqL K H1 a xs)/\R (Itl K a) H1)\/((∃ xs,SqT K H1 a xs)/\R (Itt K a) H1))
theorem zp6 {X:Cx} {tg:Expr} {l:Expr} {tl:TE} (hl:PE X l tl):PI X tg l (zuz X.K tl):=by
 intro pins s σ H R I h
 refine thn (hl pins s σ H _ I h) λv s1 ⟨x,H1,I1,r1,q1⟩=> ?_
 obtain ⟨a,e,⟨⟨xs,hq⟩,q⟩ | ⟨⟨xs,hq⟩,q⟩⟩:=q1
 ·subst e
  cases r1
  obtain ⟨its,rv,p,hz⟩:=I1.list hq
  refine wpAny_pyIter_list p.isList ?_
  refine ⟨s1.heap.objs.size,[s1.heap.objs.size],_,_,H1,rfl,I1.kept (t':=s1.toks) λb o e=>qag _ e,zkJ a _,⟨_,qar _ rfl,rfl,rfl⟩,λb hb=> ?_,q⟩
  have e:b=s1.heap.objs.size:=by simpa using hb
  subst e
  exact I1.fpOk (qaV _) (I1.hok.fresh (qaV _))
 ·subst e
  cases r1
  obtain ⟨its,rv,p,hz⟩:=I1.tuple hq
  refine wpAny_pyIter_tuple (show s1.heap.IsTuple a its.toArray from p) ?_
  refine ⟨s1.heap.objs.size,[s1.heap.objs.size],_,_,H1,rfl,I1.kept (t':=s1.toks) λb o e=>qag _ e,ziS a _,⟨_,qar _ rfl,rfl,rfl⟩,λb hb=> ?_,q⟩
  have e:b=s1.heap.objs.size:=by simpa using hb
  subst e
  exact I1.fpOk (qaV _) (I1.hok.fresh (qaV _))
end L2
namespace L3
open L2
section
variable {X:Cx} {E:XE} {pos:Pos}
theorem zre {tg e:Expr} {f:Sd->M D} (he:SE X E e f):SI X E tg e (λsd=>do let d<-f sd;zfw d):=by
 refine PI.imp (zp6 he) λσ H Q ⟨ι,h,sd,L,hh,q⟩=>⟨ι,h,sd,L,hh,Fin.bind q λd h1 ι1 H1 e1 s1 hr1 q1 v rv=> ?_⟩
 cases d with
 | lst ds=>
  obtain ⟨a,vs,e,h1',h2⟩:=zog rv
  exact ⟨a,e,.inl ⟨⟨vs,h1' _ _ (Pass.refl _ _)⟩,Fin.out hr1 q1 _ (zm3 h1' h2)⟩⟩
 | tup ds=>
  obtain ⟨a,vs,e,h1',h2⟩:=zof rv
  exact ⟨a,e,.inr ⟨⟨vs,h1' _ _ (Pass.refl _ _)⟩,Fin.out hr1 q1 _ (zmB h1' h2)⟩⟩
 | _=>exact qa0 q1
noncomputable def ze5 (lo:Int) (n:Nat):List D:=(List.range n).map λ(k:Nat)=>D.int (lo+(k:Int))
theorem zmp {K:W.Frag} {ι:Io} {H:Hp} {lo:Int} {n:Nat}:zpQ K ι H (Itr lo n) (ze5 lo n) where
 go:=λι' H' i s hi=>by show i<n;simpa [ze5] using hi
 yld:=λι' H' _ i x H2 s _ hi ⟨e,y⟩=>by
  subst e y
  have hi:i<n:=by simpa [ze5] using hi
  refine ⟨.inl rfl,.int (lo+i),?_,by simp [Rel]⟩
  simp [ze5,hi]
 stop:=λι' H' s=>by
  show n<=(ze5 lo n).length
  simp [ze5]
def zdi (j:Int):Bool:=decide (-(2^62)<=j) && decide (j<2^62)
def zj0:List D->M (List D)
 | [.int j]=>if zdi j=true then pure (ze5 0 j.toNat) else M.bad
 | _=>M.bad
theorem zeY {j:Int} (h:zdi j=true): -(2^62)<=j/\j<2^62:=by
 unfold zdi at h
 simpa using h
theorem znX {tg a:Expr} {p:Pos} {fs:Sd->M (List D)} (hg:Gl X "range") (hm:X.mg "range"=none) (ha:SA X E [a] fs) (hs:starEach [a] X.env=[(false,eval a X.env)]:=by rfl):
  SI X E tg (.Call (.Name "range" p) [a] [] pos) (λsd=>do let ds<-fs sd;zj0 ds):=by
 refine PI.imp (zk2 hg hm ha hs) λσ H Q ⟨ι,h,sd,L,hh,q⟩=>⟨ι,h,sd,L,hh,Fin.bind q λds h1 ι1 H1 e1 s1 hr1 q1 vs rv=> ?_⟩
 match ds,rv,q1 with
 | [.int j],rv,q1=>
  simp only [zaw,Rel] at rv
  obtain ⟨v,r,rfl,rfl,rfl⟩:=rv
  have q1:Fin X.K E ι1 H1 ((if zdi j=true then (pure (ze5 0 j.toNat):M (List D)) else M.bad) h1) _:=q1
  by_cases hj:zdi j=true
  ·rw [qa4 hj] at q1
   exact ⟨j,rfl,(zeY hj).1,(zeY hj).2,Fin.out hr1 q1 _ zmp⟩
  ·rw [qa5 hj] at q1
   exact qa0 q1
 | [],_,q1=>exact qa0 q1
 | .non::_,_,q1=>exact qa0 q1
 | .bl _::_,_,q1=>exact qa0 q1
 | .str _::_,_,q1=>exact qa0 q1
 | .tup _::_,_,q1=>exact qa0 q1
 | .lst _::_,_,q1=>exact qa0 q1
 | .cel _::_,_,q1=>exact qa0 q1
 | .set _::_,_,q1=>exact qa0 q1
 | .dct::_,_,q1=>exact qa0 q1
 | .fn _::_,_,q1=>exact qa0 q1
 | .scr _::_,_,q1=>exact qa0 q1
 | .exn _::_,_,q1=>exact qa0 q1
 | .int _::_::_,_,q1=>exact qa0 q1
noncomputable def zbe (body:D->Sd->M Out):List D->Sd->M Out
 | [],sd=>pure (.nx sd)
 | x::r,sd=>do
  let o<-body x sd
  match o with
  | .nx sd'=>zbe body r sd'
  | .ct sd'=>zbe body r sd'
  | .bk sd'=>pure (.nx sd')
  | .rt d=>pure (.rt d)
theorem ztC {tg iter:Expr} {body:List Stmt} {fi:Sd->M (List D)} {g:D->Sd->M Sd} {gb:Sd->M Out} (hc:X.calm=true) (hp:PassesOwn (model X.prog X.w) X.A X.env X.xe) (hi:SI X E tg iter fi) (hg:SG X E tg g) (hb:SSs X E body gb)
  (hs: ∀ x,foldedSetIterable iter X.env x=pure x:=by intro _;rfl):SS X E (.For tg iter body [] pos) (λsd=>do let ds<-fi sd;zbe (λx sd=>do let sd1<-g x sd;gb sd1) ds sd):=by
 refine PS.imp (zqC hp hc hi hg hb hs) λD0 σ H ⟨ι,h,sd,L,hh,q⟩=>⟨ι,h,sd,L,hh,Fin.bind q λds h1 ι1 H1 e1 s1 hr1 q1 J ok=> ?_⟩
 refine ⟨λi m σ' H'=>m=ds.length - i/\i<=ds.length/\ ∃ ι' h' sd',zbU ι1 H1 ι' H'/\zcH X.K ι' H' sd' σ'/\za6 X.K ι' H' h'/\Fin X.K E ι' H' (zbe (λx sd=>do let sd1<-g x sd;gb sd1) (ds.drop i) sd' h') (zf9 X.K D0),
   ⟨_,rfl,zero_le _,ι1,h1,sd,zbU.refl _ _,L.step s1,hr1,by simpa using q1⟩,?_⟩
 rintro i m σ2 H2 ⟨rfl,hi2,ι2,h2,sd2,s2,L2,hr2,q2⟩
 by_cases hlt:i<ds.length
 ·right
  refine ⟨ok.go ι2 H2 i s2.pass hlt,λσ' H'=>i+1<=ds.length/\ ∃ ι' h' sd',zbU ι1 H1 ι' H'/\zcH X.K ι' H' sd' σ'/\za6 X.K ι' H' h'/\Fin X.K E ι' H' (zbe (λx sd=>do let sd1<-g x sd;gb sd1) (ds.drop (i+1)) sd' h') (zf9 X.K D0),
    λσ' H' p=>⟨ds.length - (i+1),⋯,rfl,p.1,p.2⟩,λx H3 y=> ?_⟩
  obtain ⟨gr,d,ed,rd⟩:=ok.yld ι2 H2 h2 i x H3 s2.pass hr2 hlt y
  obtain ⟨s3,hr3⟩:=gr.step hr2
  have edr:ds.drop i=d::ds.drop (i+1):=by
   rw [List.drop_eq_getElem_cons hlt]
   rw [qaf hlt] at ed
   rw [Option.some.inj ed]
  rw [edr] at q2
  have q3:Fin X.K E ι2 H3 (zbe (λx sd=>do let sd1<-g x sd;gb sd1) (d::ds.drop (i+1)) sd2 h2) (zf9 X.K D0):=Fin.step s3 q2
  refine ⟨ι2,h2,sd2,d,L2.step s3,hr3,rd,?_⟩
  have q5:Fin X.K E ι2 H3 ((g d sd2>>=λsd1=>(gb sd1>>=λo=>(match o with
    | .nx sd'=>zbe (λx sd=>do let sd1<-g x sd;gb sd1) (ds.drop (i+1)) sd'
    | .ct sd'=>zbe (λx sd=>do let sd1<-g x sd;gb sd1) (ds.drop (i+1)) sd'
    | .bk sd'=>pure (.nx sd')
    | .rt d=>pure (.rt d):M Out))) h2) (zf9 X.K D0):=by
   have e:(zbe (λx sd=>do let sd1<-g x sd;gb sd1) (d::ds.drop (i+1)) sd2 h2)=((g d sd2>>=λsd1=>(gb sd1>>=λo=>(match o with
     | .nx sd'=>zbe (λx sd=>do let sd1<-g x sd;gb sd1) (ds.drop (i+1)) sd'
     | .ct sd'=>zbe (λx sd=>do let sd1<-g x sd;gb sd1) (ds.drop (i+1)) sd'
     | .bk sd'=>pure (.nx sd')
     | .rt d=>pure (.rt d):M Out))) h2):=by
    show M.bind (M.bind (g d sd2) gb) _ h2=M.bind (g d sd2) _ h2
    unfold M.bind
    cases g d sd2 h2<;>rfl
   rw [<- e]
   exact q3
  refine Fin.bind q5 λsd6 h6 ι6 H6 e6 s6 hr6 q6 σ6 L6=> ?_
  refine ⟨ι6,h6,sd6,L6,hr6,Fin.bind q6 λo h7 ι7 H7 e7 s7 hr7 q7=> ?_⟩
  have st7:zbU ι1 H1 ι7 H7:=((s2.trans s3).trans s6).trans s7
  cases o with
  | nx sd'=>exact λσ' L'=>⟨hlt,ι7,h7,sd',st7,L',hr7,q7⟩
  | ct sd'=>exact λσ' L'=>⟨hlt,ι7,h7,sd',st7,L',hr7,q7⟩
  | bk sd'=>exact λσ' L'=>Fin.out (E:=E) (P:=zf9 X.K D0) hr7 q7 σ' L'
  | rt d=>exact λv rv=>Fin.out (E:=E) (P:=zf9 X.K D0) hr7 q7 v rv
 ·left
  have e:i=ds.length:=by omega
  subst e
  refine ⟨ok.stop ι2 H2 s2.pass,?_⟩
  rw [List.drop_length] at q2
  exact Fin.out (E:=E) (P:=zf9 X.K D0) hr2 q2 σ2 L2
noncomputable def zbg (f:D->M (Option D)):List D->M (List D)
 | []=>pure []
 | x::r=>do
  let o<-f x
  let ys<-zbg f r
  pure (match o with | some y=>y::ys | none=>ys)
def zbd (g:D->Sd->M Sd) (tc:Sd->M Bool) (te:Sd->M D) (sd:Sd) (x:D):M (Option D):=do
 let sd1<-g x sd
 let c<-tc sd1
 if c=true then do
  let y<-te sd1
  pure (some y)
 else pure none
end
def Io.hide (ι:Io) (p:Addr):Io:=⟨ι.c,p::ι.x⟩
def Io.show (ι:Io):Io:=⟨ι.c,ι.x.tail⟩
theorem zni {ι:Io} {a:Addr} (h:ι.show.Has a):ι.Has a:=h.imp id List.mem_of_mem_tail
section
variable {K:W.Frag} {ι ι':Io} {H H':Hp} {p:Addr} {o:HO} {h:Hh}
theorem zgq (hp:H p=none):Pass ι H (ι.hide p) (upd H p o):=⟨λ_ _ z=> .inl z,λb o' hb n=>⟨by rw [zaz (zaN hb hp)];exact hb,λz=>by
  rcases z with z | z
  · exact n (.inl z)
  · rcases qaP.mp z with z | z
    · rw [z,hp] at hb;cases hb
    · exact n (.inr z)⟩⟩
theorem zgz:Pass ι H ι.show H:=⟨λ_ _ z=> .inl z,λb o' hb n=>⟨hb,λz=>n (zni z)⟩⟩
theorem zfS (hp:p∈ι.x):Pass ι H ι (upd H p o):=⟨λ_ _ z=> .inl z,λb o' hb n=>⟨by rw [zaz (show b≠p from λz=>n (.inr (z▸hp)))];exact hb,n⟩⟩
theorem za6.hide {ws:List V} (hr:za6 K ι H h) (hp:H p=none):za6 K (ι.hide p) (upd H p (.lst ws)) h:=
 ⟨hr.len,hr.inj,λn a c h1 h2=>by
   obtain ⟨o',e2,e3⟩:=hr.at_ n a c h1 h2
   exact ⟨o',by rw [zaz (zaN e2 hp)];exact e2,e3.pass (zgq hp)⟩,hr.dead,λa ha=>by
   rcases qaP.mp ha with z | z
   · subst z;exact ⟨⟨ws,zaV⟩,λz=>hr.nin hp (.inl z)⟩
   · refine ⟨?_,(hr.hidt a z).2⟩
     rw [zaz (show a≠p from λw=>hr.nin hp (.inr (w▸z)))]
     exact (hr.hidt a z).1⟩
theorem za6.hid {ws:List V} (hr:za6 K ι H h) (hp:p∈ι.x):za6 K ι (upd H p (.lst ws)) h:=
 ⟨hr.len,hr.inj,λn a c h1 h2=>by
   obtain ⟨o',e2,e3⟩:=hr.at_ n a c h1 h2
   have ne:a≠p:=λz=>(hr.hidt p hp).2 (z▸List.mem_of_getElem? h1)
   exact ⟨o',by rw [zaz ne];exact e2,e3.pass (zfS hp)⟩,hr.dead,λa ha=>by
   refine ⟨?_,(hr.hidt a ha).2⟩
   by_cases z:a=p
   · subst z;exact ⟨ws,zaV⟩
   · rw [zaz z];exact (hr.hidt a ha).1⟩
theorem za6.show (hr:za6 K ι H h):za6 K ι.show H h:=
 ⟨hr.len,hr.inj,λn a c h1 h2=>by
   obtain ⟨o',e2,e3⟩:=hr.at_ n a c h1 h2
   exact ⟨o',e2,e3.pass zgz⟩,hr.dead,λa ha=>hr.hidt a (List.mem_of_mem_tail ha)⟩
theorem zkp {ι1 ι2:Io} {H1 H2:Hp} (hp:H p=none) (hpx:p∉ι.x) (hx:ι1.x=p::ι.x) (s:zbU ι H ι1.show H1) (t:zbU ι1 H1 ι2 H2):zbU ι H ι2.show (upd H2 p o) where
 old:=λn q h=>by
  rcases s.old n q h with h | h
  ·exact t.old n q h
  ·rcases t.old n _ h with h | h<;>exact .inr h
 new:=λa h=>by
  rcases t.new a h with h | h
  ·exact s.new a h
  ·by_cases z:some a∈ι.c
   ·exact .inl z
   ·refine .inr ?_
    cases q:H a with
    | none=>rfl
    | some o=>
     by_cases z':a∈ι.x
     ·rw [s.hidk a z',q] at h;cases h
     ·rw [s.keep a o q (λw=>w.elim z z')] at h;cases h
 hid:=by
  show ι2.x.tail=ι.x
  rw [t.hid,hx]
  rfl
 hidk:=λa ha=>by
  have z:a≠p:=λz=>hpx (z▸ha)
  rw [zaz z,t.hidk a (by rw [hx];exact qan _ ha)]
  exact s.hidk a ha
 keep:=λb q hb n=>by
  have ne:b≠p:=zaN hb hp
  rw [zaz ne]
  refine t.keep b q (s.keep b q hb n) λz=> ?_
  rcases z with z | z
  ·rcases s.new b z with z | z
   ·exact n (.inl z)
   ·rw [hb] at z;cases z
  ·rw [hx] at z
   rcases qaP.mp z with z | z
   ·exact ne z
   ·exact n (.inr z)
theorem zbU.shown {ι2:Io} {H2:Hp} {r:List Addr} (hx:ι.x=p::r) (t:zbU ι H ι2 H2):zbU ι.show H ι2.show H2 where
 old:=t.old
 new:=t.new
 hid:=by show ι2.x.tail=ι.x.tail;rw [t.hid]
 hidk:=λa ha=>t.hidk a (List.mem_of_mem_tail ha)
 keep:=λb q hb n=>by
  by_cases z:b=p
  ·subst z
   rw [t.hidk b (by rw [hx];exact qau)]
   exact hb
  ·refine t.keep b q hb λw=> ?_
   rcases w with w | w
   ·exact n (.inl w)
   ·rw [hx] at w
    rcases qaP.mp w with w | w
    ·exact z w
    ·exact n (.inr (by show b∈ι.x.tail;rw [hx];exact w))
theorem Fin.bindB {α β:Type} {E:XE} {m:M α} {f:α->M β} {P:β->Io->Hp->Prop} {P':α->Io->Hp->Prop} {ιb:Io} {Hb:Hp} (q:Fin K E ιb Hb ((m>>=f) h) P)
  (conv: ∀ ι' H' h',zbU ι H ι' H'->za6 K ι' H' h'-> ∃ ι'',zbU ιb Hb ι'' H'/\za6 K ι'' H' h')
  (k: ∀ a h' ι' H',m h= .ok a h'->zbU ι H ι' H'->za6 K ι' H' h'->Fin K E ιb Hb (f a h') P->P' a ι' H'):Fin K E ι H (m h) P':=by
 have q':Fin K E ιb Hb (M.bind m f h) P:=q
 unfold M.bind at q'
 cases e:m h with
 | ok a h'=>
  rw [e] at q'
  intro ι' H' s hr
  exact k a h' ι' H' e s hr q'
 | exc c h'=>
  rw [e] at q'
  intro ι' H' s hr
  obtain ⟨ι'',s2,hr2⟩:=conv ι' H' h' s hr
  exact q' _ _ s2 hr2
 | bad=>rw [e] at q';exact q'
end
instance:LawfulMonad M:=LawfulMonad.mk' M
 (id_map:=λx=>by
   funext h
   show M.bind x (λa=>M.pure (id a)) h=x h
   unfold M.bind M.pure
   cases x h<;>rfl)
 (pure_bind:=λx f=>rfl)
 (bind_assoc:=λx f g=>by
   funext h
   show M.bind (M.bind x f) g h=M.bind x (λa=>M.bind (f a) g) h
   unfold M.bind
   cases x h<;>rfl)
def zat (src:List (Option Nat)) (sd:Sd):Sd:=src.map λo=>o.bind λi=>(sd[i]?).join
theorem zcH.bStart {K:W.Frag} {ι:Io} {H:Hp} {sd:Sd} {σ:L2.St} {src:List (Option Nat)} (h:zcH K ι H sd σ):zcH K ι H (zat src sd) (bStart src σ):=by
 refine ⟨by unfold zat L2.bStart;rw [qaH,qaH],λi d e=> ?_⟩
 unfold zat at e
 unfold L2.bStart
 rw [List.getElem?_map] at e ⊢
 cases z:src[i]? with
 | none=>rw [z] at e;cases e
 | some o=>
  rw [z] at e
  cases o with
  | none=>cases e
  | some j=>
   have e:(sd[j]?).join=some d:=by simpa using e
   cases w:sd[j]? with
   | none=>rw [w] at e;cases e
   | some q=>
    rw [w] at e
    have e:q=some d:=by simpa using e
    subst e
    obtain ⟨v,h1,h2⟩:=h.2 j d w
    exact ⟨v,by simp [h1],h2⟩
def zaI (g:D->Sd->M Sd) (src:List (Option Nat)):Prop:= ∀ x sd h sd1 h1,sd.length=src.length->(∀ (i:Nat),src[i]? = some none->sd[i]? = some none)->g x sd h= .ok sd1 h1->sd1.length=sd.length/\ ∀ (i:Nat) d,src[i]? ≠ some none->sd[i]? = some (some d)->sd1[i]? = some (some d)
def zcs (g:List D->Sd->M Sd) (src:List (Option Nat)):Prop:= ∀ x sd h sd1 h1,g x sd h= .ok sd1 h1->sd1.length=sd.length/\ ∀ (i:Nat) d,src[i]? ≠ some none->sd[i]? = some (some d)->sd1[i]? = some (some d)
theorem zj2 {i:Nat} {src:List (Option Nat)} (h:src[i]? = some none): ∀ x sd h sd1 h1,zaR i x sd h= .ok sd1 h1->sd1.length=sd.length/\ ∀ (j:Nat) d,src[j]? ≠ some none->sd[j]? = some (some d)->sd1[j]? = some (some d):=λx sd h0 sd1 h1 e=>by
 have e:R.ok (sd.set i (some x)) h0= .ok sd1 h1:=e
 cases e
 refine ⟨qaI,λj d hj e=> ?_⟩
 rw [qao (show i≠j from λz=>hj (z▸h))]
 exact e
theorem zaI.name {i:Nat} {src:List (Option Nat)} (h:src[i]? = some none):zaI (zaR i) src:=λx sd h0 sd1 h1 _ _ e=>zj2 h x sd h0 sd1 h1 e
theorem zcs.nil {src:List (Option Nat)}:zcs zdG src:=λx sd h sd1 h1 e=>by
 cases x with
 | nil=>
  have e:R.ok sd h= .ok sd1 h1:=e
  cases e
  exact ⟨rfl,λ_ _ _ z=>z⟩
 | cons _ _=>cases (show R.bad=R.ok sd1 h1 from e)
theorem zcs.cons {i:Nat} {gs:List D->Sd->M Sd} {src:List (Option Nat)} (h:src[i]? = some none) (t:zcs gs src):zcs (za2 (zaR i) gs) src:=λx sd h0 sd1 h1 e=>by
 cases x with
 | nil=>cases (show R.bad=R.ok sd1 h1 from e)
 | cons d r=>
  have e:gs r (sd.set i (some d)) h0= .ok sd1 h1:=e
  obtain ⟨e1,e2⟩:=t r _ h0 sd1 h1 e
  refine ⟨by rw [e1,qaI],λj d' hj z=>e2 j d' hj ?_⟩
  rw [qao (show i≠j from λz=>hj (z▸h))]
  exact z
theorem zaI.tup {n:Nat} {gs:List D->Sd->M Sd} {src:List (Option Nat)} (t:zcs gs src):zaI (zdm n gs) src:=λx sd h0 sd1 h1 _ _ e=>by
 cases x with
 | tup ds=>
  have e:(if ds.length=n then gs ds sd else M.bad) h0= .ok sd1 h1:=e
  by_cases hl:ds.length=n
  ·rw [qa4 hl] at e;exact t _ _ _ _ _ e
  ·rw [qa5 hl] at e;cases (show R.bad=R.ok sd1 h1 from e)
 | _=>cases (show R.bad=R.ok sd1 h1 from e)
section
variable {X:Cx} {E:XE} {scope:Scope} {N:List Str} {src:List (Option Nat)} {tg iter elt:Expr} {ifs:List Expr} {pos:Pos}
abbrev SCs (X:Cx) (E:XE) (ifs:List Expr) (t:Sd->M Bool):Prop:=PCs X ifs (zf2 X.K E t)
theorem zrx:SCs X E [] (λ_=>pure true):=λpins s σ H Q I ⟨ι,h,sd,L,hh,q⟩=>zpu pins s σ H Q I (Fin.out hh q)
theorem zr3 {c:Expr} {t:Sd->M Bool} (h:ST X E c t):SCs X E [c] t:=zpx h
theorem blk {K:W.Frag} {g:D->Sd->M Sd} {tc:Sd->M Bool} {te:Sd->M D} {J:It} {ds:List D} {ι:Io} {H:Hp} {h:Hh} {sd:Sd} {σ:L2.St} {Q:VK} {p:Addr} (hk:zaI g src) (L:zcH K ι H sd σ) (hr:za6 K ι H h) (ok:zpQ K ι H J ds) (hz:ds.length<=sizeLine)
  (q:Fin K E ι H ((do let ys<-zbg (zbd g tc te (zat src sd)) ds;pure (D.lst ys)) h) λd ι' H'=> ∀ v,Rel K ι' H' d v->Q v H') (hp:H p=none):
  zsh J (zso K E g) (zf2 K E tc) (zi4 K E te) (bStart src σ) H p λH'=>Q (.ref p) H':=by
 generalize hP:(λ(d:D) (ι':Io) (H':Hp)=> ∀ v,Rel K ι' H' d v->Q v H')=P at q
 generalize hf:zbd g tc te (zat src sd)=f at q
 have hpx:p∉ι.x:=λz=>hr.nin hp (.inr z)
 have h0len:(zat src sd).length=src.length:=by unfold zat;rw [qaH]
 have h0non: ∀ (i:Nat),src[i]? = some none->(zat src sd)[i]? = some none:=λi e=>by unfold zat;rw [List.getElem?_map,e];rfl
 refine ⟨λi m σ' H'=>m=ds.length - i/\i<=ds.length/\ ∃ ι' h' done vs,ι'.x=p::ι.x/\zbU ι H ι'.show H'/\zcH K ι' H' (zat src sd) σ'/\za6 K ι' H' h'/\H' p=some (.lst vs)/\zaw K ι' H' done vs/\done.length<=i/\
     Fin K E ι H ((do let ys<-zbg f (ds.drop i);pure (D.lst (done++ys))) h') P,
   ⟨_,rfl,zero_le _,ι.hide p,h,[],[],rfl,?_,L.bStart.pass (zgq hp),hr.hide hp,zaV,zaw.nil,qaV _,?_⟩,?_⟩
 ·have:=hr.laidS (o:= .lst []) hp
  exact ⟨this.old,this.new,this.hid,this.hidk,this.keep⟩
 ·simpa using q
 rintro i m σ2 H2 ⟨rfl,hi2,ι2,h2,done,vs,hx2,s2,L2,hr2,e2,rl2,dl2,q2⟩
 have ps2:Pass ι H ι2 H2:=⟨s2.old,λb o hb n=>⟨s2.keep b o hb n,λz=>by
   rcases z with z | z
   · exact s2.nin hb n (.inl z)
   · rw [hx2] at z
     rcases qaP.mp z with z | z
     · rw [z,hp] at hb;cases hb
     · exact n (.inr z)⟩⟩
 have hp2:p∈ι2.x:=by rw [hx2];exact qau
 have base: ∀ {ι':Io} {H':Hp},zbU ι2 H2 ι' H'->zbU ι H ι'.show H':=λt=>s2.trans (t.shown hx2)
 by_cases hlt:i<ds.length
 ·right
  refine ⟨ok.go ι2 H2 i ps2 hlt,λσ' H'=>i+1<=ds.length/\ ∃ ι' h' done vs,ι'.x=p::ι.x/\zbU ι H ι'.show H'/\zcH K ι' H' (zat src sd) σ'/\za6 K ι' H' h'/\H' p=some (.lst vs)/\zaw K ι' H' done vs/\done.length<=i+1/\
    Fin K E ι H ((do let ys<-zbg f (ds.drop (i+1));pure (D.lst (done++ys))) h') P,λσ' H' z=>⟨ds.length - (i+1),⋯,rfl,z.1,z.2⟩,λx H3 y=> ?_⟩
  obtain ⟨gr,d,ed,rd⟩:=ok.yld ι2 H2 h2 i x H3 ps2 hr2 hlt y
  obtain ⟨s3,hr3⟩:=gr.step hr2
  have edr:ds.drop i=d::ds.drop (i+1):=by
   rw [List.drop_eq_getElem_cons hlt]
   rw [qaf hlt] at ed
   rw [Option.some.inj ed]
  rw [edr] at q2
  have q3:=q2
  have st3:zbU ι2 H2 ι2 H3:=s3
  have e3:H3 p=some (.lst vs):=by rw [s3.hidk p hp2];exact e2
  have eq1:(do let ys<-zbg f (d::ds.drop (i+1));pure (D.lst (done++ys)):M D)=(g d (zat src sd)>>=λsd1=>tc sd1>>=λc=>if c=true then (te sd1>>=λy=>zbg f (ds.drop (i+1))>>=λys=>pure (D.lst (done++[y]++ys))) else (zbg f (ds.drop (i+1))>>=λys=>pure (D.lst (done++ys)))):=by
   rw [zbg]
   rw [<- hf]
   simp only [zbd,bind_assoc]
   refine congrArg _ (funext λsd1=> ?_)
   refine congrArg _ (funext λc=> ?_)
   cases c with
   | true=>simp only [if_true,bind_assoc,pure_bind,List.append_assoc,List.cons_append,List.nil_append]
   | false=>simp only [qax,if_false,pure_bind]
  rw [eq1] at q3
  refine ⟨ι2,h2,zat src sd,d,L2.step s3,hr3,rd,?_⟩
  refine Fin.bindB q3 (λι' H' h' s hr'=>⟨ι'.show,base (s3.trans s),hr'.show⟩) λsd4 h4 ι4 H4 e4 s4 hr4 q4 σ4 L4=> ?_
  have hx4:ι4.x=p::ι.x:=by rw [s4.hid];exact hx2
  obtain ⟨k1,k2⟩:=hk d _ h2 sd4 h4 h0len h0non e4
  refine ⟨ι4,h4,sd4,L4,hr4,Fin.bindB q4 (λι' H' h' s hr'=>⟨ι'.show,base ((s3.trans s4).trans s),hr'.show⟩) λc h5 ι5 H5 e5 s5 hr5 q5=> ?_⟩
  have hx5:ι5.x=p::ι.x:=by rw [s5.hid];exact hx4
  have sub: ∀ {ι':Io} {H':Hp},zcH K ι' H' sd4 σ4->zcH K ι' H' (zat src sd) σ4:=λ{ι' H'} z=>⟨by rw [<- k1];exact z.1,λj d' e=>z.2 j d' (k2 j d' (λw=>by rw [h0non j w] at e;cases e) e)⟩
  have st5:zbU ι2 H2 ι5 H5:=(s3.trans s4).trans s5
  cases c with
  | false=>
   exact zoG ⟨hlt,ι5,h5,done,vs,hx5,base st5,sub (L4.step s5),hr5,by rw [st5.hidk p hp2];exact e2,rl2.step st5,Nat.le_succ_of_le dl2,q5⟩
  | true=>
   refine zn2 ⟨ι5,h5,sd4,L4.step s5,hr5,Fin.bindB q5 (λι' H' h' s hr'=>⟨ι'.show,base (st5.trans s),hr'.show⟩) λyd h6 ι6 H6 e6 s6 hr6 q6 y ry=> ?_⟩
   have st6:zbU ι2 H2 ι6 H6:=st5.trans s6
   have hx6:ι6.x=p::ι.x:=by rw [s6.hid];exact hx5
   have hp6:p∈ι6.x:=by rw [hx6];exact qau
   have e6':H6 p=some (.lst vs):=by rw [st6.hidk p hp2];exact e2
   refine ⟨vs,e6',by rw [<- rl2.length];omega,hlt,ι6,h6,done++[yd],vs++[y],hx6,zkp hp hpx hx2 s2 st6,?_,hr6.hid hp6,zaV,?_,?_,?_⟩
   ·exact ((sub (L4.step s5)).step s6).pass (zfS hp6)
   ·exact ((rl2.step st6).append (zaw.cons ry zaw.nil)).pass (zfS hp6)
   ·rw [qav,List.length_singleton];omega
   ·exact q6
 ·left
  have e:i=ds.length:=by omega
  subst e
  refine ⟨ok.stop ι2 H2 ps2,?_⟩
  rw [List.drop_length] at q2
  have q3:P (.lst done) ι2.show H2:=by
   have:Fin K E ι H ((pure (D.lst (done++[])):M D) h2) P:=q2
   rw [append_nil] at this
   exact this _ _ s2 hr2.show
  rw [<- hP] at q3
  refine q3 (.ref p) ?_
  simp only [Rel]
  refine ⟨p,vs,rfl,⟨e2,λz=> ?_⟩,rl2.pass zgz⟩
  rcases z with z | z
  ·exact (hr2.hidt p (by rw [hx2];exact qau)).2 z
  ·exact hpx (by have z:p∈ι2.x.tail:=z;rw [hx2] at z;exact z)
noncomputable def zaB (fi:Sd->M (List D)) (g:D->Sd->M Sd) (tc:Sd->M Bool) (te:Sd->M D) (src:List (Option Nat)):Sd->M D:=λsd=>do
 let ds<-fi sd
 fits ds.length
 let ys<-zbg (zbd g tc te (zat src sd)) ds
 pure (D.lst ys)
theorem zfT {K:W.Frag} {fi:Sd->M (List D)} {g:D->Sd->M Sd} {tc:Sd->M Bool} {te:Sd->M D} (hk:zaI g src) (σ:L2.St) (H:Hp) (Q:VK) (q:zi4 K E (zaB fi g tc te src) σ H Q):
  zkL (ztK K E fi) (zso K E g) (zf2 K E tc) (zi4 K E te) src σ H Q:=by
 obtain ⟨ι,h,sd,L,hh,q⟩:=q
 refine ⟨ι,h,sd,L,hh,Fin.bind q λds h1 ι1 H1 e1 s1 hr1 q1 J ok p hp=> ?_⟩
 obtain ⟨z,q2⟩:=Fin.fits q1
 exact blk hk (L.step s1) hr1 ok z q2 hp
theorem zkz {fi:Sd->M (List D)} {g:D->Sd->M Sd} {tc:Sd->M Bool} {te:Sd->M D} (B:BOk X scope N src) (hk:zaI g src) (hi:SI X E tg iter fi)
  (hg: ∀ s H fp,SG (cxB X scope N s H fp) E tg g) (ht: ∀ s H fp,SCs (cxB X scope N s H fp) E ifs tc) (he: ∀ s H fp,SE (cxB X scope N s H fp) E elt te)
  (hs: ∀ x,foldedSetIterable iter X.env x=pure x:=by intro _;rfl):SE X E (.ListComp elt [⟨tg,iter,ifs,0⟩] scope pos) (zaB fi g tc te src):=
 PE.imp (zps B hi hg ht he hs) (zfT hk)
theorem zkY {fi:Sd->M (List D)} {g:D->Sd->M Sd} {tc:Sd->M Bool} {te:Sd->M D} (i:Nat) {y:Str} {py spos:Pos} (B:BOk X scope N src) (hk:zaI g src) (hi:SI X E tg iter fi)
  (hg: ∀ s H fp,SG (cxB X scope N s H fp) E tg g) (ht: ∀ s H fp,SCs (cxB X scope N s H fp) E ifs tc) (he: ∀ s H fp,SE (cxB X scope N s H fp) E elt te)
  (hN:X.N.Nodup) (hy:X.N[i]? = some y) (hx:Loc X.env.scope y) (hf:X.fn y=true\/X.env.scope.names.lookup y=some .local) (hsw:swapsWith (.ListComp elt [⟨tg,iter,ifs,0⟩] scope pos) (some (.Name y py)) spos.line X.env=pure true)
  (hs: ∀ x,foldedSetIterable iter X.env x=pure x:=by intro _;rfl):SS X E (.Assign [.Name y py] (.ListComp elt [⟨tg,iter,ifs,0⟩] scope pos) spos) (λsd=>do let d<-zaB fi g tc te src sd;pure (.nx (sd.set i (some d)))):=by
 refine PS.imp (ziQ B hi hg ht he hN hy hx hsw hf hs) λD0 σ H ⟨ι,h,sd,L,hh,q⟩=>zfT hk σ H _ ⟨ι,h,sd,L,hh,Fin.bind q λd h1 ι1 H1 e1 s1 hr1 q1 v rv=> ?_⟩
 exact Fin.out (E:=E) (P:=zf9 X.K D0) hr1 q1 _ ((L.step s1).set rv i)
end
section
variable {K:W.Frag} {ι:Io} {H:Hp} {h:Hh} {n:Nat} {a:Addr}
theorem zey {o:HO} (hn:ι.c[n]? = some (some a)):Pass ι H ι (upd H a o):=⟨λ_ _ z=> .inl z,λb o' hb nb=>⟨by rw [zaz (show b≠a from λz=>nb (.inl (z▸List.mem_of_getElem? hn)))];exact hb,nb⟩⟩
theorem za6.cellS {o:HO} (hr:za6 K ι H h) (hn:ι.c[n]? = some (some a)):zbU ι H ι (upd H a o):=
 ⟨λ_ _ z=> .inl z,λ_ z=> .inl z,rfl,λb hb=>zaz λz=>(hr.hidt b hb).2 (z▸List.mem_of_getElem? hn),λb o' hb nb=>((zey hn).keep b o' hb nb).1⟩
theorem za6.cellO {c':C} {o':HO} (hr:za6 K ι H h) (hn:ι.c[n]? = some (some a)) (co:CO K ι H c' o'):za6 K ι (upd H a o') (h.set n c'):=by
 refine ⟨by rw [qaI];exact hr.len,hr.inj,λm b c hm hc=> ?_,λm hm=> ?_,λb hb=>⟨?_,(hr.hidt b hb).2⟩⟩
 ·by_cases e:n=m
  ·subst e
   rw [hn] at hm
   cases hm
   rw [qai (by rw [hr.len];exact (qac.mp hn).1)] at hc
   cases hc
   exact ⟨o',zaV,co.pass (zey hn)⟩
  ·rw [qao e] at hc
   obtain ⟨o2,e2,e3⟩:=hr.at_ m b c hm hc
   have ne:b≠a:=λz=>by subst z;exact e (hr.inj n m b hn hm)
   exact ⟨o2,by rw [zaz ne];exact e2,e3.pass (zey hn)⟩
 ·have e:n≠m:=λz=>by subst z;rw [hn] at hm;cases hm
  rw [qao e]
  exact hr.dead m hm
 ·rw [zaz (show b≠a from λz=>(hr.hidt b hb).2 (z▸List.mem_of_getElem? hn))]
  exact (hr.hidt b hb).1
theorem za6.cell {ds':List D} {vs':List V} (hr:za6 K ι H h) (hn:ι.c[n]? = some (some a)) (rl:zaw K ι H ds' vs'):za6 K ι (upd H a (.lst vs')) (h.set n (.lst ds')):=hr.cellO hn ⟨vs',rfl,rl⟩
theorem za6.read {ds:List D} {v:V} (hr:za6 K ι H h) (r:Rel K ι H (.cel n) v) (e:h[n]? = some (.lst ds)): ∃ a vs,v= .ref a/\ι.c[n]? = some (some a)/\H a=some (.lst vs)/\zaw K ι H ds vs:=by
 simp only [Rel] at r
 obtain ⟨a,e1,r | r⟩:=r
 ·obtain ⟨o,e3,vs,rfl,e4⟩:=hr.at_ n a _ r e
  exact ⟨a,vs,e1,r,e3,e4⟩
 ·rw [hr.dead n r] at e
  cases e
end
noncomputable def zaq (n:Nat):M (List D):=λh=>match h[n]? with
 | some (.lst ds)=> .ok ds h
 | _=> .bad
noncomputable def zbF (n:Nat) (ds:List D):M Unit:=λh=> .ok () (h.set n (.lst ds))
theorem zcq {n:Nat} {h h':Hh} {ds:List D} (e:zaq n h= .ok ds h'):h'=h/\h[n]? = some (.lst ds):=by
 unfold zaq at e
 cases z:h[n]? with
 | none=>rw [z] at e;cases e
 | some c=>
  rw [z] at e
  cases c with
  | lst xs=>cases e;exact ⟨rfl,rfl⟩
  | dic _=>cases e
  | dit ks=>cases e
  | ins _ _=>cases e
  | dead=>cases e
noncomputable def ofO {α:Type}:Option α->M α
 | some a=>pure a
 | none=>M.bad
def dIx:D->D->M D:=λx y=>match x,y with
 | .tup ds,.int i=>ofO (atI ds i)
 | .lst ds,.int i=>ofO (atI ds i)
 | .scr ds,.int i=>ofO (atI ds i)
 | .cel n,.int i=>do let ds<-zaq n;ofO (atI ds i)
 | _,_=>M.bad
theorem zgb {K:W.Frag} {ι:Io} {H:Hp} {ds:List D} {vs:List V} {i:Int} {d:D} (rl:zaw K ι H ds vs) (e:atI ds i=some d): ∃ v,atI vs i=some v/\Rel K ι H d v:=by
 unfold atI at e ⊢
 rw [<- rl.length]
 cases z:ixN ds.length i with
 | none=>rw [z] at e;cases e
 | some j=>
  rw [z] at e
  have e:ds[j]? = some d:=e
  exact rl.get e
section
variable {X:Cx} {E:XE}
theorem Fin.ofO {α:Type} {K:W.Frag} {ι:Io} {H:Hp} {h:Hh} {o:Option α} {P:α->Io->Hp->Prop} (hr:za6 K ι H h) (q:Fin K E ι H (L3.ofO o h) P): ∃ a,o=some a/\P a ι H:=by
 cases o with
 | none=>exact qa0 q
 | some a=>exact ⟨a,rfl,Fin.out hr q⟩
theorem zus:IxR X (zdt X.K E dIx):=by
 refine IxR.imp (zkW.or zp9) λx y H Q ⟨ι,h,d1,d2,r1,r2,hr,q⟩=> ?_
 cases d2 with
 | int i=>
  simp only [Rel] at r2
  cases d1 with
  | tup ds=>
   obtain ⟨a,vs,e,h1,h2⟩:=zdf r1
   obtain ⟨d,e1,q⟩:=Fin.ofO hr q
   obtain ⟨v,e2,rv⟩:=zgb h2 e1
   exact .inr ⟨a,vs,i,v,e,r2,h1,e2,q v rv⟩
  | lst ds=>
   obtain ⟨a,vs,e,h1,h2⟩:=zdO r1
   obtain ⟨d,e1,q⟩:=Fin.ofO hr q
   obtain ⟨v,e2,rv⟩:=zgb h2 e1
   exact .inl ⟨a,vs,i,v,e,r2,h1,e2,q v rv⟩
  | scr ds=>
   obtain ⟨a,vs,e,h1,h2⟩:=zlf r1
   obtain ⟨d,e1,q⟩:=Fin.ofO hr q
   obtain ⟨v,e2,rv⟩:=zgb h2 e1
   exact .inl ⟨a,vs,i,v,e,r2,h1,e2,q v rv⟩
  | cel n=>
   have q:Fin X.K E ι H ((zaq n>>=λds=>L3.ofO (atI ds i)) h) _:=q
   have q':Fin X.K E ι H (M.bind (zaq n) (λds=>L3.ofO (atI ds i)) h) _:=q
   unfold M.bind at q'
   cases z:zaq n h with
   | bad=>rw [z] at q';exact qa0 q'
   | exc c h'=>unfold zaq at z;split at z<;>cases z
   | ok ds h'=>
    rw [z] at q'
    obtain ⟨rfl,z2⟩:=zcq z
    obtain ⟨a,vs,e,hn,hH,rl⟩:=hr.read r1 z2
    obtain ⟨d,e1,q⟩:=Fin.ofO hr q'
    obtain ⟨v,e2,rv⟩:=zgb rl e1
    exact .inl ⟨a,vs,i,v,e,r2,SqL.of hH,e2,q v rv⟩
  | _=>exact qa0 q
 | _=>cases d1<;>exact qa0 q
def zlk (o i d:D):M Unit:=match o,i with
 | .cel n,.int k=>do
  let ds<-zaq n
  let j<-ofO (ixN ds.length k)
  zbF n (ds.set j d)
 | _,_=>M.bad
theorem zqv {o i:Expr} {pos:Pos} {fo fi:Sd->M D} (hp: ∀ {t:zsl},zsY X t->PG X (.Subscript o i pos) (ztO (zi4 X.K E fo) (zi4 X.K E fi) t)):
  SG X E (.Subscript o i pos) (λd sd=>do let x<-fo sd;let y<-fi sd;zlk x y d;pure sd):=by
 refine PG.imp (hp zmC) λv σ H Q ⟨ι,h,sd,d,L,hr,rd,q⟩=>⟨ι,h,sd,L,hr,Fin.bind q λx h1 ι1 H1 e1 s1 hr1 q1 xv rx=> ?_⟩
 refine ⟨ι1,h1,sd,L.step s1,hr1,Fin.bind q1 λy h2 ι2 H2 e2 s2 hr2 q2 yv ry=> ?_⟩
 cases x with
 | cel n=>
  cases y with
  | int k=>
   have rx2:=rx.step s2
   have q3:Fin X.K E ι2 H2 ((zaq n>>=λds=>(ofO (ixN ds.length k)>>=λj=>zbF n (ds.set j d)>>=λ_=>pure sd)) h2) (λsd' ι' H'=> ∀ σ',zcH X.K ι' H' sd' σ'->Q σ' H'):=by
    have e:(do zlk (.cel n) (.int k) d;pure sd:M Sd)=(zaq n>>=λds=>(ofO (ixN ds.length k)>>=λj=>zbF n (ds.set j d)>>=λ_=>pure sd)):=by
     show ((zaq n>>=λds=>(ofO (ixN ds.length k)>>=λj=>zbF n (ds.set j d)))>>=λ_=>pure sd)=_
     simp only [bind_assoc]
    rw [<- e]
    exact q2
   have q':Fin X.K E ι2 H2 (M.bind (zaq n) (λds=>(ofO (ixN ds.length k)>>=λj=>zbF n (ds.set j d)>>=λ_=>pure sd)) h2) _:=q3
   unfold M.bind at q'
   cases z:zaq n h2 with
   | bad=>rw [z] at q';exact qa0 q'
   | exc c h'=>unfold zaq at z;split at z<;>cases z
   | ok ds h'=>
    rw [z] at q'
    obtain ⟨rfl,z2⟩:=zcq z
    obtain ⟨a,vs,e,hn,hH,rl⟩:=hr2.read rx2 z2
    simp only [Rel] at ry
    have q4:Fin X.K E ι2 H2 (M.bind (ofO (ixN ds.length k)) (λj=>zbF n (ds.set j d)>>=λ_=>pure sd) h') _:=q'
    unfold M.bind at q4
    cases z3:ixN ds.length k with
    | none=>rw [z3] at q4;exact qa0 q4
    | some j=>
     rw [z3] at q4
     have q5:Fin X.K E ι2 H2 (R.ok sd (h'.set n (.lst (ds.set j d)))) (λsd' ι' H'=> ∀ σ',zcH X.K ι' H' sd' σ'->Q σ' H'):=q4
     refine ⟨a,vs,k,j,e,ry,hH,by rw [<- rl.length];exact z3,?_⟩
     have rd2:=(rd.step s1).step s2
     exact q5 ι2 _ (hr2.cellS hn) (hr2.cell hn (rl.set rd2 j)) σ (((L.step s1).step s2).step (hr2.cellS hn))
  | _=>exact qa0 q2
 | _=>cases y<;>exact qa0 q2
end
abbrev E0x:XE:=λ_ _=>False
def zbY (K:W.Frag) (n:Nat) (F:List D->M D):Sp:=λvs H Q _=>vs.length=n/\ ∃ ι h ds,zaw K ι H ds vs/\za6 K ι H h/\Fin K E0x ι H (F ds h) λd ι' H'=> ∀ v,Rel K ι' H' d v->Q v H'
def zfh (n:Nat) (ds:List D):Sd:=ds.map some++replicate (n - ds.length) none
def zcC:Out->M D
 | .nx _=>pure .non
 | .rt d=>pure d
 | _=>M.bad
def zcK (n:Nat) (G:Sd->M Out) (ds:List D):M D:=do let o<-G (zfh n ds);zcC o
theorem zd0 {K:W.Frag} {ι:Io} {H:Hp} {ds:List D} {vs:List V} {N:List Str} (h:zaw K ι H ds vs):zcH K ι H (zfh N.length ds) (L2.zd4 N vs):=by
 have hl:=h.length
 unfold zfh L2.zd4
 refine ⟨by simp [hl],λi d e=> ?_⟩
 by_cases hi:i<ds.length
 ·rw [qad (by simpa using hi),List.getElem?_map] at e
  cases z:ds[i]? with
  | none=>rw [z] at e;cases e
  | some d'=>
   rw [z] at e
   cases e
   obtain ⟨v,h1,h2⟩:=h.get z
   exact ⟨v,by rw [qad (by rw [qaH, <-hl];exact hi),List.getElem?_map,h1];rfl,h2⟩
 ·rw [qaa (by simpa using hi),List.getElem?_replicate] at e
  split at e<;>cases e
section
variable {P:Program} {w:World} {K:W.Frag} {mg:Str->Option Value} {base:Heap}
theorem zbs {x qual:Str} {st:Stmt} {f:Addr} {fd:FuncData} {N ps:List Str} {k:Nat} {G:Sd->M Out} (F:Fun K x qual st f fd) (S:zao N ps (zae st))
  (hb: ∀ (cdv:Value) (A:Around) (outer:List Env) (s:Shared) (H:Hp) (E:XK),zdL k (A.deeper (envOfC qual (zae st) s.heap.objs.size f cdv))->SSs (zgU CX0 P w K mg base N qual (zae st) f cdv A outer s H E).nox E0x (zce st) G):
  zbE P w K mg base CX0 (k+1) f fd ps (zbY K ps.length (zcK N.length G)):=by
 refine F.ok S (λvs H Q E h=>h.1) λcdv A outer s H vs Q E hr ⟨hl,ι,h,ds,rl,hh,q⟩=>⟨_,hb cdv A outer s H E hr,ι,h,zfh N.length ds,zd0 rl,hh,?_⟩
 refine Fin.bind q λo h1 ι1 H1 e1 s1 hr1 q1=> ?_
 cases o with
 | nx sd=>exact λσ' _=>Fin.out hr1 q1 _ (by simp [Rel])
 | rt d=>exact λv rv=>Fin.out hr1 q1 v rv
 | bk sd=>exact qa0 q1
 | ct sd=>exact qa0 q1
end
section
variable {X:Cx} {e:Expr} {es:List Expr} {pos p:Pos}
def zal (n:Nat) (F:List D->M D) (ds:List D):M D:=if ds.length=n then F ds else M.bad
theorem zoT {k:Nat} {f:Addr} {fd:FuncData} {ps:List Str} {n:Nat} {F:List D->M D} {fs:Sd->M (List D)} {x:Str} (G:zbE X.prog X.w X.K X.mg X.base CX0 k f fd ps (zbY X.K n F)) (hr:zdL k X.A) (hg:Gl X x) (hm:X.mg x=some (.ref f)) (hk:W.keepIn X.K (.ref f)=true) (hb:zaJ X.K fd ps [])
  (ha:SA X E0x (e::es) fs) (hdb:(x==("__debug__":Str))=false:=by decide) (he:starEach (e::es) X.env=(false,eval e X.env)::starEach es X.env:=by rfl) (hpl:(backTo pos (starEach es X.env)).any (·.1)=false:=by rfl):
  SE X E0x (.Call (.Name x p) (e::es) [] pos) (λsd=>do let ds<-fs sd;zal n F ds):=by
 refine PE.imp (zhm G hr hg hm hk hb (dvs:=[]) .nil (E:=λ_ _ _=>False) zqp ha hdb he hpl) λσ H Q ⟨ι,h,sd,L,hh,q⟩=>⟨ι,h,sd,L,hh,Fin.bind q λds h1 ι1 H1 e1 s1 hr1 q1 vs rv=> ?_⟩
 show zbY X.K n F (vs++[]) H1 Q _
 rw [append_nil]
 unfold zal at q1
 by_cases hl:ds.length=n
 ·rw [qa4 hl] at q1
  exact ⟨by rw [<- rv.length];exact hl,ι1,h1,ds,rv,hr1,q1⟩
 ·rw [qa5 hl] at q1
  exact qa0 q1
end
section
variable {X:Cx} {E:XE}
theorem Fin.guard {α:Type} {K:W.Frag} {ι:Io} {H:Hp} {h:Hh} {c:Prop} [Decidable c] {f:M α} {P:α->Io->Hp->Prop} (q:Fin K E ι H ((if c then f else M.bad) h) P):c/\Fin K E ι H (f h) P:=by
 by_cases hc:c
 ·rw [qa4 hc] at q;exact ⟨hc,q⟩
 ·rw [qa5 hc] at q;exact qa0 q
theorem zmH:OpR X (binaryOp .Add) (λx y H Q=> ∃ a b ys,x= .ref a/\y= .ref b/\SqT X.K H a []/\SqT X.K H b ys/\Q (.ref b) H):=by
 intro pins s σ H x y v u Q I rx ry h
 obtain ⟨a,b,ys,rfl,rfl,ha,hb,q⟩:=h
 cases rx
 cases ry
 obtain ⟨its,r1,p1,_⟩:=I.tuple ha
 obtain ⟨its2,r2,p2,_⟩:=I.tuple hb
 cases r1
 obtain ⟨⟨cls,dd,data,sl⟩,ho,hc,n,hd⟩:=id p1
 obtain ⟨⟨cls2,dd2,data2,sl2⟩,ho2,hc2,n2,hd2⟩:=id p2
 simp only at hc hd hc2 hd2
 subst hc hd hc2 hd2
 exact concat_meets ⟨_,ho,rfl⟩ ⟨_,ho2,rfl⟩ noFill_tuple_add seq_tuple_add PySem.F.slot_tuple_add PySem.F.entry_tuple_add (PySem.F.args_tuple_add_2 _ _)
   (tuple_addW0 a b _ _ n n2 dd dd2 sl sl2 (by simp)) ⟨ho,ho2,⟨.ref b,H,I,rfl,q⟩⟩
def zbC (x y:D):M D:=match x,y with
 | .int i,.int j=>pure (.int (i+j))
 | .tup xs,.tup ys=>do fits (xs.length+ys.length);pure (.tup (xs++ys))
 | .lst xs,.lst ys=>do fits (xs.length+ys.length);pure (.lst (xs++ys))
 | .str x,.str y=>do fits (x.length+y.length);pure (.str (x++y))
 | _,_=>M.bad
theorem zap:OpR X (binaryOp .Add) (zdt X.K E zbC):=by
 refine OpR.imp (zp1.or (zmH.or (zo6.or (zrC.or zjq)))) λx y H Q ⟨ι,h,d1,d2,r1,r2,hr,q⟩=> ?_
 unfold zbC at q
 split at q
 ·simp only [Rel] at r1 r2
  exact .inl ⟨_,_,r1,r2,Fin.out hr q _ (by simp [Rel])⟩
 ·rename_i xs ys
  right
  obtain ⟨a,vs,e,h1,h2⟩:=zdf r1
  obtain ⟨b,ws,e',h1',h2'⟩:=zdf r2
  obtain ⟨z,q⟩:=Fin.fits q
  cases xs with
  | nil=>
   simp only [zaw] at h2
   subst h2
   exact .inl ⟨a,b,ws,e,e',h1,h1',Fin.out hr q _ (by rw [<- e'];exact r2)⟩
  | cons x0 xr=>
   refine .inr (.inl ⟨a,b,vs,ws,e,e',h1,h1',λz=> ?_,by rw [<- h2.length, <-h2'.length];exact z,λz=> ?_,λz p hp=>zpP hr (h2.append h2') q hp⟩)
   ·subst z
    have:=h2.length
    cases this
   ·subst z
    have:=h2'.length
    cases ys with
    | nil=>rw [append_nil] at q;exact Fin.out hr q _ (by rw [<- e];exact r1)
    | cons _ _=>cases this
 ·rename_i xs ys
  right;right;right;left
  simp only [Rel] at r1 r2
  obtain ⟨a,vs,e,h1,h2⟩:=r1
  obtain ⟨b,ws,e',h1',h2'⟩:=r2
  obtain ⟨z,q⟩:=Fin.fits q
  exact ⟨a,b,vs,ws,e,e',h1.1,h1'.1,by rw [<- h2.length, <-h2'.length];exact z,λp hp=>zpR hr (h2.append h2') q hp⟩
 ·simp only [Rel] at r1 r2
  obtain ⟨z,q⟩:=Fin.fits q
  exact .inr (.inr (.inr (.inr ⟨_,_,r1,r2,z,Fin.out hr q _ (by simp [Rel])⟩)))
 ·exact qa0 q
def dII (C:Int->Int->Bool) (g:Int->Int->D) (x y:D):M D:=match x,y with
 | .int i,.int j=>if C i j=true then pure (g i j) else M.bad
 | _,_=>M.bad
theorem zji {f:Value->Value->Sem Value} {C:Int->Int->Bool} {C':Int->Int->Prop} {g:Int->Int->V} {g':Int->Int->D} (ho:OpR X f (rI C' g)) (hc: ∀ i j,C i j=true->C' i j) (hg: ∀ i j ι H,Rel X.K ι H (g' i j) (g i j)):OpR X f (zdt X.K E (dII C g')):=by
 refine OpR.imp ho λx y H Q ⟨ι,h,d1,d2,r1,r2,hr,q⟩=> ?_
 unfold dII at q
 split at q
 ·simp only [Rel] at r1 r2
  obtain ⟨c,q⟩:=Fin.guard q
  exact ⟨_,_,r1,r2,hc _ _ c,Fin.out hr q _ (hg _ _ _ _)⟩
 ·exact qa0 q
theorem zge {f:Value->Value->Sem Value} {g:Int->Int->V} {g':Int->Int->D} (ho:OpR X f (rI0 g)) (hg: ∀ i j ι H,Rel X.K ι H (g' i j) (g i j)):OpR X f (zdt X.K E (dII (λ_ _=>true) g')):=by
 refine OpR.imp ho λx y H Q ⟨ι,h,d1,d2,r1,r2,hr,q⟩=> ?_
 unfold dII at q
 split at q
 ·simp only [Rel] at r1 r2
  obtain ⟨c,q⟩:=Fin.guard q
  exact ⟨_,_,r1,r2,Fin.out hr q _ (hg _ _ _ _)⟩
 ·exact qa0 q
def zsa:=dII (λ_ _=>true) λi j=> .int (i - j)
theorem zhD:OpR X (binaryOp .Sub) (zdt X.K E zsa):=zge zpX λ_ _ _ _=>by simp [Rel]
def zb7 (i:Int):Bool:=decide (-(2^64)<i) && decide (i<2^64)
theorem zeG {i:Int} (h:zb7 i=true): -(2^64)<i/\i<2^64:=by unfold zb7 at h;simpa using h
theorem zlL:OpR X (binaryOp .FloorDiv) (rI (λ_ j=>0<j/\j<2^64) λi j=> .int (i / j)):=opI λi j _ _ _ _ _ hc q=>by
 refine floordiv_int ⋯ (by rw [Int.fdiv_eq_ediv_of_nonneg _ ⋯];exact q) (.inl (PyProof.noPylong_of_log2 ?_))
 have h1:j.natAbs<2^64:=by omega
 have h0:j.natAbs≠0:=by omega
 exact lt_trans ((Nat.log2_lt h0).mpr h1) (by decide)
def zmz:=dII (λ_ j=>decide (0<j) && decide (j<2^64)) λi j=> .int (i / j)
theorem zie:OpR X (binaryOp .FloorDiv) (zdt X.K E zmz):=zji zlL (λi j h=>by simpa using h) λ_ _ _ _=>by simp [Rel]
def znR:=dII (λ_ j=>decide (0<j)) λi j=> .int (i % j)
theorem zd5:OpR X (binaryOp .Mod) (zdt X.K E znR):=zji zqJ (λi j h=>by simpa using h) λ_ _ _ _=>by simp [Rel]
def zpM (i j:Int):Bool:=decide (0<=j) && decide (j<=1000000) && decide (i.natAbs<2^64)
def zsj:=dII zpM λi j=> .int (i^j.toNat)
theorem zhU {i j:Int} (h:zpM i j=true):zsg i j:=by unfold zpM at h;simpa [zsg,and_assoc] using h
theorem zoU:OpR X (binaryOp .Pow) (zdt X.K E zsj):=zji zqH (λ_ _=>zhU) λ_ _ _ _=>by simp [Rel]
def zsK:=dII zpM λi j=> .int (i*2^j.toNat)
theorem zoy:OpR X (binaryOp .LShift) (zdt X.K E zsK):=zji zpY (λ_ _=>zhU) λ_ _ _ _=>by simp [Rel]
def ztG:=dII (λ_ j=>decide (0<=j)) λi j=> .int (i / 2^j.toNat)
theorem zo2:OpR X (binaryOp .RShift) (zdt X.K E ztG):=zji zrJ (λi j h=>by simpa using h) λ_ _ _ _=>by simp [Rel]
def ztt:=dII (λ_ _=>true) λi j=> .int (Builtin.bitAnd i j)
theorem zoc:OpR X (binaryOp .BitAnd) (zdt X.K E ztt):=zge zqk λ_ _ _ _=>by simp [Rel]
def dLt:=dII (λ_ _=>true) λi j=> .bl (decide (i<j))
theorem zfn:OpR X (compareOp .Lt) (zdt X.K E dLt):=zge zsD λ_ _ _ _=>by simp [Rel]
def dGt:=dII (λ_ _=>true) λi j=> .bl (decide (j<i))
theorem zdM:OpR X (compareOp .Gt) (zdt X.K E dGt):=zge zsS λ_ _ _ _=>by simp [Rel]
def dGe:=dII (λ_ _=>true) λi j=> .bl (decide (j<=i))
theorem znG:OpR X (compareOp .GtE) (zdt X.K E dGe):=zge zsO λ_ _ _ _=>by simp [Rel]
def zqS:D->M D
 | .int i=>pure (.int (-i))
 | _=>M.bad
theorem zp2 {a:Expr} {pos:Pos} {fa:Sd->M D} (ha:SE X E a fa):SE X E (.UnaryOp .USub a pos) (λsd=>do let x<-fa sd;zqS x):=by
 refine PE.imp (zrZ znJ ha) λσ H Q ⟨ι,h,sd,L,hh,q⟩=>⟨ι,h,sd,L,hh,Fin.bind q λd h1 ι1 H1 e1 s1 hr1 q1 v rv=> ?_⟩
 cases d with
 | int i=>simp only [Rel] at rv;exact ⟨i,rv,Fin.out hr1 q1 _ (by simp [Rel])⟩
 | _=>exact qa0 q1
mutual
noncomputable def pd:D->Option PyData
 | .non=>some .none
 | .bl b=>some (.bool b)
 | .int i=>some (.int i)
 | .str x=>some (.str x)
 | .tup xs=>(pdL xs).map .tuple
 | .lst xs=>(pdL xs).map .list
 | .scr xs=>(pdL xs).map .list
 | _=>none
noncomputable def pdL:List D->Option (List PyData)
 | []=>some []
 | x::xs=>match pd x,pdL xs with
  | some a,some r=>some (a::r)
  | _,_=>none
end
mutual
theorem zgr {pins:List (Addr×Obj)} {σ:L2.St} {H:Hp} {s:Shared} {ι:Io} (I:Inv X pins σ H s): ∀ {d:D} {v:V} {u:Value} {p:PyData},Rel X.K ι H d v->zbB v u->pd d=some p-> ∃ as,Reads s.heap u p as
 | .non,v,u,p,r,ru,e=>by simp only [Rel] at r;subst r;cases ru;cases e;exact ⟨_,.none⟩
 | .bl b,v,u,p,r,ru,e=>by simp only [Rel] at r;subst r;cases ru;cases e;exact ⟨_,.bool _⟩
 | .int i,v,u,p,r,ru,e=>by simp only [Rel] at r;subst r;obtain ⟨t,rfl⟩:=ru;cases e;exact ⟨_,.int _ _⟩
 | .str i,v,u,p,r,ru,e=>by simp only [Rel] at r;subst r;obtain ⟨t,rfl⟩:=ru;cases e;exact ⟨_,.str _ _⟩
 | .tup ds,v,u,p,r,ru,e=>by
  obtain ⟨a,vs,rfl,h1,h2⟩:=zdf r
  cases ru
  obtain ⟨its,rv,pl,_⟩:=I.tuple h1
  obtain ⟨o,ho,hc,n,hd⟩:=pl
  unfold pd at e
  cases z:pdL ds with
  | none=>rw [z] at e;cases e
  | some ps=>
   rw [z] at e;cases e
   obtain ⟨as,q⟩:=zgC I h2 rv z
   exact ⟨_,.tuple ho hc hd (by simpa using q)⟩
 | .lst ds,v,u,p,r,ru,e=>by
  obtain ⟨a,vs,rfl,h1,h2⟩:=zdO r
  cases ru
  obtain ⟨its,rv,pl,_⟩:=I.list h1
  obtain ⟨o,ho,hc,n,hd⟩:=pl.isList
  unfold pd at e
  cases z:pdL ds with
  | none=>rw [z] at e;cases e
  | some ps=>
   rw [z] at e;cases e
   obtain ⟨as,q⟩:=zgC I h2 rv z
   exact ⟨_,.list ho hc hd (by simpa using q)⟩
 | .scr ds,v,u,p,r,ru,e=>by
  obtain ⟨a,vs,rfl,h1,h2⟩:=zlf r
  cases ru
  obtain ⟨its,rv,pl,_⟩:=I.list h1
  obtain ⟨o,ho,hc,n,hd⟩:=pl.isList
  unfold pd at e
  cases z:pdL ds with
  | none=>rw [z] at e;cases e
  | some ps=>
   rw [z] at e;cases e
   obtain ⟨as,q⟩:=zgC I h2 rv z
   exact ⟨_,.list ho hc hd (by simpa using q)⟩
 | .cel n,_,_,_,_,_,e=>by cases e
 | .set xs,_,_,_,_,_,e=>by cases e
 | .dct,_,_,_,_,_,e=>by cases e
 | .fn _,_,_,_,_,_,e=>by cases e
 | .exn _,_,_,_,_,_,e=>by cases e
theorem zgC {pins:List (Addr×Obj)} {σ:L2.St} {H:Hp} {s:Shared} {ι:Io} (I:Inv X pins σ H s): ∀ {ds:List D} {vs:List V} {us:List Value} {ps:List PyData},zaw X.K ι H ds vs->za7 vs us->pdL ds=some ps-> ∃ as,ReadsAll s.heap us ps as
 | [],vs,us,ps,r,ru,e=>by simp only [zaw] at r;subst r;cases ru;cases e;exact ⟨_,.nil⟩
 | d::ds,vs,us,ps,r,ru,e=>by
  simp only [zaw] at r
  obtain ⟨v,vr,rfl,r1,r2⟩:=r
  cases ru with
  | cons ru1 ru2=>
   unfold pdL at e
   cases z:pd d with
   | none=>rw [z] at e;cases e
   | some a=>
    cases z2:pdL ds with
    | none=>rw [z,z2] at e;cases e
    | some b=>
     rw [z,z2] at e
     cases e
     obtain ⟨as,q1⟩:=zgr I r1 ru1 z
     obtain ⟨bs,q2⟩:=zgC I r2 ru2 z2
     exact ⟨_,.cons q1 q2⟩
end
def zel (a b:PyData):Bool:=a.canLay0 && b.canLay0 && decide (min a.depth b.depth<=60)
noncomputable def ziK (neg:Bool) (x y:D):M D:=match pd x,pd y with
 | some a,some b=>if zel a b=true then pure (.bl (if neg then !PyData.eqv a b else PyData.eqv a b)) else M.bad
 | _,_=>M.bad
def dEq:=ziK false
def dNe:=ziK true
theorem zfE {a b:PyData} (h:zel a b=true):a.canLay0=true/\b.canLay0=true/\min a.depth b.depth<=60:=by unfold zel at h;simpa [and_assoc] using h
theorem zh9 {K:W.Frag} {ι:Io} {H:Hp} {h:Hh} {neg:Bool} {x y:D} {P:D->Io->Hp->Prop} (q:Fin K E ι H (ziK neg x y h) P): ∃ a b,pd x=some a/\pd y=some b/\zel a b=true/\Fin K E ι H ((pure (.bl (if neg then !PyData.eqv a b else PyData.eqv a b)):M D) h) P:=by
 unfold ziK at q
 cases e1:pd x with
 | none=>rw [e1] at q;exact qa0 q
 | some a=>
  cases e2:pd y with
  | none=>rw [e1,e2] at q;exact qa0 q
  | some b=>
   rw [e1,e2] at q
   obtain ⟨c,q⟩:=Fin.guard q
   exact ⟨a,b,rfl,rfl,c,q⟩
theorem zbv (hu:X.A.units+60<cLine):OpR X (compareOp .Eq) (zdt X.K E dEq):=by
 intro pins s σ H x y v u Q I rx ry ⟨ι,h,d1,d2,r1,r2,hr,q⟩
 obtain ⟨a,b,e1,e2,c,q2⟩:=zh9 q
 obtain ⟨c1,c2,c3⟩:=zfE c
 obtain ⟨as,ra⟩:=zgr I r1 rx e1
 obtain ⟨bs,rb⟩:=zgr I r2 ry e2
 exact SeqAt.compareEq_reads ra rb c1 c2 ⋯ ⟨.bl _,H,I,rfl,Fin.out hr q2 (.bl _) (by simp [Rel])⟩
theorem zbI (hu:X.A.units+60<cLine):OpR X (compareOp .NotEq) (zdt X.K E dNe):=by
 intro pins s σ H x y v u Q I rx ry ⟨ι,h,d1,d2,r1,r2,hr,q⟩
 obtain ⟨a,b,e1,e2,c,q2⟩:=zh9 q
 obtain ⟨c1,c2,c3⟩:=zfE c
 obtain ⟨as,ra⟩:=zgr I r1 rx e1
 obtain ⟨bs,rb⟩:=zgr I r2 ry e2
 exact SeqAt.compareNe_reads ra rb c1 c2 ⋯ ⟨.bl _,H,I,rfl,Fin.out hr q2 (.bl _) (by simp [Rel])⟩
def zjx (a:PyData) (xs:List PyData):Bool:=a.canLay0 && PyData.canLayAll0 xs && decide (min (PyData.depthAll xs) a.depth<=50)
theorem zmm {a:PyData} {xs:List PyData} (h:zjx a xs=true):a.canLay0=true/\PyData.canLayAll0 xs=true/\min (PyData.depthAll xs) a.depth<=50:=by unfold zjx at h;simpa [and_assoc] using h
def zmM (neg:Bool) (x c:D):M D:=match pd x,c with
 | some a,.tup ds=>match pdL ds with
  | some xs=>if zjx a xs=true then pure (.bl (if neg then !xs.any (λy=>PyData.eqv y a) else xs.any λy=>PyData.eqv y a)) else M.bad
  | none=>M.bad
 | some a,.lst ds=>match pdL ds with
  | some xs=>if zjx a xs=true then pure (.bl (if neg then !xs.any (λy=>PyData.eqv y a) else xs.any λy=>PyData.eqv y a)) else M.bad
  | none=>M.bad
 | _,_=>M.bad
def dIn:=zmM false
theorem zmx {K:W.Frag} {ι:Io} {H:Hp} {h:Hh} {neg:Bool} {x c:D} {P:D->Io->Hp->Prop} (q:Fin K E ι H (zmM neg x c h) P): ∃ a ds xs,pd x=some a/\pdL ds=some xs/\(c= .tup ds\/c= .lst ds)/\zjx a xs=true/\
  Fin K E ι H ((pure (.bl (if neg then !xs.any (λy=>PyData.eqv y a) else xs.any λy=>PyData.eqv y a)):M D) h) P:=by
 unfold zmM at q
 cases e1:pd x with
 | none=>rw [e1] at q;exact qa0 q
 | some a=>
  rw [e1] at q
  cases c with
  | tup ds=>
   dsimp only at q
   cases e2:pdL ds with
   | none=>rw [e2] at q;exact qa0 q
   | some xs=>
    rw [e2] at q
    obtain ⟨c,q⟩:=Fin.guard q
    exact ⟨a,ds,xs,rfl,e2,.inl rfl,c,q⟩
  | lst ds=>
   dsimp only at q
   cases e2:pdL ds with
   | none=>rw [e2] at q;exact qa0 q
   | some xs=>
    rw [e2] at q
    obtain ⟨c,q⟩:=Fin.guard q
    exact ⟨a,ds,xs,rfl,e2,.inr rfl,c,q⟩
  | _=>exact qa0 q
theorem zia (hu:X.A.units+60<cLine):OpR X (compareOp .In) (zdt X.K E dIn):=by
 intro pins s σ H x y v u Q I rx ry ⟨ι,h,d1,d2,r1,r2,hr,q⟩
 obtain ⟨a,ds,xs,e1,e2,ec,c,q2⟩:=zmx q
 obtain ⟨c1,c2,c3⟩:=zmm c
 obtain ⟨as,ra⟩:=zgr I r1 rx e1
 rcases ec with rfl | rfl
 ·obtain ⟨bs,rb⟩:=zgr I r2 ry (p:= .tuple xs) (by unfold pd;rw [e2];rfl)
  exact SeqAt.in_tuple_reads rb ra c2 c1 ⋯ ⟨.bl _,H,I,rfl,Fin.out hr q2 (.bl _) (by simp [Rel])⟩
 ·obtain ⟨bs,rb⟩:=zgr I r2 ry (p:= .list xs) (by unfold pd;rw [e2];rfl)
  exact SeqAt.in_list_reads rb ra c2 c1 ⋯ ⟨.bl _,H,I,rfl,Fin.out hr q2 (.bl _) (by simp [Rel])⟩
end
end L3
namespace HT
open L2
section
variable {prog:Program} {w:World} {A:Around} {E:Value->Shared->Prop} {s:Shared}
theorem zdu {t sl:Addr} {items:Array Value} {vl vu:Value} {lo hi:Option Int} {Q:Value->Shared->Prop} (ht:IsTup s.heap t items) (hs:s.heap.IsSliceOf sl vl vu .none) (pl:IsPart vl lo) (pu:IsPart vu hi)
  (hw:sIx items.size 0 lo=0/\sIx items.size items.size hi=items.size) (h:Q (.ref t) s):wpAny (model prog w) A (getItem (.ref t) (.ref sl)) Q E s:=by
 obtain ⟨os,hos,hcs,hds⟩:=id hs
 have hTs:s.TypeIs (.ref sl) "slice":=⟨os,hos,hcs⟩
 unfold getItem
 try with_reducible refine qaO ?_
 first | refine qaW (qaX ?_) | skip
 refine qaW (wpAny_sequenceKey ht.typeIs (by decide) ?_)
 refine qaW (wpAny_callSpecial?_slot (name:=Str.ofString "__getitem__") ht.typeIs PyProof.Rows.slot_tuple_getitem
   (wpAny_call_entry PyProof.Rows.slot_tuple_getitem ht.typeIs entry_tuple_getitem ?_ (args_tuple_getitem _ _)))
 show wpAny _ _ (Builtin.Tuple.tupleItemsOf (.ref t)>>=_) _ _ s
 refine qaW (tupleItemsOf_ ht ?_)
 refine qaW (wpAny_typeOf hTs ?_)
 rw [qa4 (by decide)]
 refine qaW (zcE hs pl pu ?_)
 show wpAny _ _ (if (((sIx items.size 0 lo:Nat):Int)==0 && (1:Int)==1 && (sIx items.size items.size hi - sIx items.size 0 lo)==items.size)=true then _ else _) _ _ s
 rw [hw.1,hw.2,qa4 (by simp)]
 refine qaW (m:=Builtin.Tuple.tupleIsExact _) (qaW (wpAny_typeOf ht.typeIs (qaX ?_)))
 rw [qa4 (by decide)]
 refine qaW (wpAny_rule ?_)
 exact qaX ⟨_,rfl,qaX h⟩
end
end HT
namespace L2
section
variable {X:Cx} {e:Expr} {te:TE} {pos p2:Pos}
theorem zom:SlR X (λx lo hi H Q=> ∃ a xs,x= .ref a/\SqT X.K H a xs/\(HT.sIx xs.length 0 lo=0/\HT.sIx xs.length xs.length hi=xs.length)/\Q (.ref a) H):=by
 intro pins s σ H x v vl vu lo hi sl Q I rx hs pl pu h
 obtain ⟨a,xs,rfl,hx,hw,q⟩:=h
 cases rx
 obtain ⟨its,r,ht,hz⟩:=I.tuple hx
 have hlen:its.toArray.size=xs.length:=by rw [qaA];exact r.length.symm
 refine ⟨"tuple",_,PyProof.Rows.slot_tuple_getitem.lookup,ht.typeIs,?_⟩
 exact HT.zdu ht hs pl pu (by rw [hlen];exact hw) ⟨.ref a,H,I,rfl,q⟩
theorem zej:fillsNumberSlot (.type "tuple") "mul"=pure false:=
 PySem.fillsNumberSlot_seq (id:="tuple.__mul__") (r:=some (.builtin "tuple.__rmul__")) F.slot_tuple_mul.lookup ⋯ F.slot_tuple_rmul.lookup ⋯
theorem zg0:seqRepeat? (.type "tuple")=pure (some (.builtin "tuple.__mul__")):=by
 unfold seqRepeat?
 rw [PySem.seqSlot_of (T:="tuple") (name:="__mul__") (id:="tuple.__mul__") F.slot_tuple_mul.lookup ⋯,PySem.seqSlot_of (T:="tuple") (name:="__rmul__") (id:="tuple.__rmul__") F.slot_tuple_rmul.lookup ⋯]
 rfl
theorem ze7 (k:Int) (t:Tok) (l:Addr) (items:Array Value) (n:Nat) (dd:Option Addr) (sl:Array (Option Value)):
  Meets (Builtin.«int.__rmul__» ⟨[.int k t,.ref l],[]⟩) (λ_ R s=>s.heap.get? l=some {cls:= .type "tuple",dict:=dd,data:= .seq items n,slots:=sl}/\R (.ok (.ret Value.notImplemented)) s):=
 .of_wp λprog w A R s h=>by obtain ⟨hp,g,d,tk,os⟩:=s;obtain ⟨hl,h⟩:=h;wp_walk;exact ⟨_,rfl,h⟩
theorem zlx (k:Int) (t:Tok) (l:Addr) (items:Array Value) (n:Nat) (dd:Option Addr) (sl:Array (Option Value)) (hne:items.isEmpty=false) (hk:2<=k) (hk2:k<1000) (hz:items.size*k.toNat<=sizeLine):
  Meets (Builtin.«tuple.__mul__» ⟨[.ref l,.int k t],[]⟩) (λ_ R s=>s.heap.get? l=some {cls:= .type "tuple",dict:=dd,data:= .seq items n,slots:=sl}/\
    R (.ok (.ret (.ref s.heap.objs.size))) {s with heap:=s.heap.push {cls:= .type "tuple",data:= .seq ((replicate k.toNat items).foldl (· ++ ·) #[])}}):=
 .of_wp λprog w A R s h=>by
  obtain ⟨hp,g,d,tk,os⟩:=s;obtain ⟨hl,h⟩:=h
  unfold Builtin.«tuple.__mul__» 
  wp_walk
  have hk63: ¬(decide (k< -2^63) || decide (k>=2^63))=true:=by
   rw [Bool.or_eq_true,qaD,qaD]
   omega
  rw [qa5 hk63]
  dsimp only
  have ht:IsTup hp l items:=⟨_,hl,rfl,_,rfl⟩
  refine qaW (tupleItemsOf_ ht ?_)
  have h1: ¬(items.isEmpty || k==1)=true:=by
   rw [hne,Bool.false_or,beq_iff_eq]
   omega
  rw [qa5 h1]
  have h2: ¬(decide (k<=0) || items.isEmpty)=true:=by
   rw [hne,Bool.or_false,qaD]
   omega
  rw [qa5 h2]
  have hk0:((k.toNat:Nat):Int)=k:=Int.toNat_of_nonneg ⋯
  have hm:((items.size:Nat):Int)*k=((items.size*k.toNat:Nat):Int):=by rw [Int.natCast_mul,hk0]
  have hsl:(sizeLine:Nat)=16777216:=by decide
  have h3: ¬((items.size:Int)*k>(2^63 - 1) / 8):=by
   rw [hm]
   omega
  rw [qa5 h3]
  have h4: ¬Builtin.Tuple.tupleTooMany ((items.size:Int)*k)=true:=by
   unfold Builtin.Tuple.tupleTooMany
   rw [hm,qaD]
   omega
  rw [qa5 h4]
  have hsz:sizeOk (.seq (List.foldl (λx1 x2=>x1++x2) #[] (replicate k.toNat items))):=by
   show (List.foldl (λx1 x2=>x1++x2) #[] (replicate k.toNat items)).size<=sizeLine
   have e: ∀ (m:Nat) (acc:Array Value),(List.foldl (λx1 x2=>x1++x2) acc (replicate m items)).size=acc.size+m*items.size:=by
    intro m
    induction m with
    | zero=>intro acc;simp
    | succ m ih=>intro acc;rw [replicate_succ,List.foldl_cons,ih,Array.size_append,Nat.succ_mul];omega
   rw [e,Nat.mul_comm]
   simpa using hz
  exact qaW (m:=Builtin.Tuple.tupleExact _) (qaC (qaX ⟨_,rfl,h⟩) hsz)
theorem zn4:OpR X (binaryOp .Mult) (λx y H Q=> ∃ a k xs,x= .ref a/\y= .int k/\SqT X.K H a xs/\xs≠[]/\2<=k/\k<1000/\xs.length*k.toNat<=sizeLine/\ ∀ p,H p=none->Q (.ref p) (upd H p (.tup (replicate k.toNat xs).flatten))):=by
 intro pins s σ H x y v u Q I rx ry h
 obtain ⟨a,k,xs,rfl,rfl,hx,hne,h1,h2,hz,q⟩:=h
 cases rx
 obtain ⟨t,rfl⟩:=ry
 obtain ⟨its,r,ht,_⟩:=I.tuple hx
 have hl:=r.length
 obtain ⟨⟨cls,dd,data,sl⟩,ho,hc,n,hd⟩:=id ht
 simp only at hc hd
 subst hc hd
 have hemp:its.toArray.isEmpty=false:=by
  cases its with
  | nil=>cases r;exact absurd rfl hne
  | cons _ _=>simp
 refine wpAny_binaryOp_repeat_ref (T:="tuple") (U:="int") (by decide) ⟨_,ho,rfl⟩ (λs'=>typeIs_int s' k t) zej F.fills_int_mul F.slot_int_rmul zg0 F.slot_int_index.lookup
  (call_meets F.slot_int_rmul (typeIs_int s k t) F.entry_int_rmul (F.args_int_rmul_2 _ _) (ze7 k t a its.toArray n dd sl)
    ⟨ho,rfl,⟨_,ho,rfl⟩,call_meets F.slot_tuple_mul ⟨_,ho,rfl⟩ F.entry_tuple_mul (F.args_tuple_mul_2 _ _) (zlx k t a its.toArray n dd sl hemp h1 h2 (by rw [qaA, <-hl];exact hz)) ⟨ho,?_⟩⟩)
 have hnew:List.foldl (λx1 x2=>x1++x2) #[] (replicate k.toNat its.toArray)=(replicate k.toNat its).flatten.toArray:=by
  have:=zgg its k.toNat []
  rw [List.nil_append] at this
  exact this
 rw [hnew]
 refine ⟨.ref _,_,I.laid (t':=s.toks) (o:= .tup (replicate k.toNat xs).flatten) (λb ob q=>qag _ q) (qaV _) ?_,rfl,q _ (I.hok.fresh (qaV _))⟩
 exact ⟨by rw [zol,Nat.mul_comm];exact hz,_,r.rep k.toNat,zlG.new _ _⟩
end
end L2
namespace LT
abbrev Up (xs:Array Nat):Prop:=xs.toList.Pairwise (· < ·)
theorem Up.lt {xs:Array Nat} (h:Up xs) {i j:Nat} {a b:Nat} (hi:xs[i]? = some a) (hj:xs[j]? = some b) (hij:i<j):a<b:=by
 have hi':xs.toList[i]? = some a:=by simpa using hi
 have hj':xs.toList[j]? = some b:=by simpa using hj
 obtain ⟨h1,e1⟩:=qac.mp hi'
 obtain ⟨h2,e2⟩:=qac.mp hj'
 have:=List.pairwise_iff_getElem.mp h i j h1 h2 hij
 rw [e1,e2] at this
 exact this
theorem zf4 {xs:Array Nat} (h:Up xs) (j:Nat): ∀ (fuel lo hi:Nat),hi - lo<=fuel->lo<=hi->hi<=xs.size->(∀ i a,i<lo->xs[i]? = some a->a<j)->(∀ i a,hi<=i->xs[i]? = some a->j<=a)->
  let r:=SetTable.below.go xs j fuel lo hi
  r<=xs.size/\(∀ i a,i<r->xs[i]? = some a->a<j)/\(∀ i a,r<=i->xs[i]? = some a->j<=a)
 | 0,lo,hi,hf,hl,hs,h1,h2=>by
  have e:lo=hi:=by omega
  subst e
  exact ⟨hs,h1,h2⟩
 | fuel+1,lo,hi,hf,hl,hs,h1,h2=>by
  unfold SetTable.below.go
  by_cases hlt:lo<hi
  ·rw [qa4 hlt]
   have hm:(lo+hi) / 2<xs.size:=by omega
   have em:xs[(lo+hi) / 2]? = some xs[(lo+hi) / 2]:=by simp [hm]
   have eg:xs.getD ((lo+hi) / 2) j=xs[(lo+hi) / 2]:=by simp [Array.getD,hm]
   dsimp only
   by_cases hc:xs.getD ((lo+hi) / 2) j<j
   ·rw [qa4 hc]
    refine zf4 h j fuel _ hi ⋯ ⋯ hs (λi a hi' e=> ?_) h2
    rw [eg] at hc
    by_cases z:i=(lo+hi) / 2
    ·subst z;rw [em] at e;cases e;exact hc
    ·exact lt_trans (h.lt e em ⋯) hc
   ·rw [qa5 hc]
    refine zf4 h j fuel lo _ ⋯ ⋯ ⋯ h1 λi a hi' e=> ?_
    rw [eg] at hc
    by_cases z:i=(lo+hi) / 2
    ·subst z;rw [em] at e;cases e;omega
    ·have:=h.lt em e ⋯
     omega
  ·rw [qa5 hlt]
   have e:lo=hi:=by omega
   subst e
   exact ⟨hs,h1,h2⟩
theorem zfz {xs:Array Nat} (h:Up xs) (j:Nat):SetTable.below xs j<=xs.size/\(∀ i a,i<SetTable.below xs j->xs[i]? = some a->a<j)/\(∀ i a,SetTable.below xs j<=i->xs[i]? = some a->j<=a):=
 zf4 h j xs.size 0 xs.size ⋯ (zero_le _) (qaV _) (λ_ _ z=>absurd z (Nat.not_lt_zero _)) λi a z e=>by
  have:=(qab.mp e).1
  omega
theorem zfk {xs:Array Nat} (h:Up xs) {k a:Nat} (e:xs[k]? = some a):SetTable.below xs (a+1)=k+1:=by
 obtain ⟨h1,h2,h3⟩:=zfz h (a+1)
 by_cases c:SetTable.below xs (a+1)<=k
 ·have:=h3 k a c e
  omega
 ·by_cases c2:k+1<SetTable.below xs (a+1)
  ·have hl:k+1<xs.size:=by omega
   have e2:xs[k+1]? = some xs[k+1]:=by simp [hl]
   have a1:=h2 (k+1) _ c2 e2
   have a2:=h.lt e e2 ⋯
   omega
  ·omega
theorem zfj {xs:Array Nat} (h:Up xs):SetTable.below xs 0=0:=by
 obtain ⟨h1,h2,h3⟩:=zfz h 0
 by_cases c:SetTable.below xs 0=0
 ·exact c
 ·have hl:0<xs.size:=by omega
  exact absurd (h2 0 _ ⋯ (show xs[0]? = some xs[0] by simp [hl])) (Nat.not_lt_zero _)
theorem zkZ {xs:Array Nat} (h:Up xs) {j:Nat} (hn:xs[SetTable.below xs j]? ≠ some j):Up (SetTable.insertAt xs (SetTable.below xs j) j):=by
 obtain ⟨h1,h2,h3⟩:=zfz h j
 show (SetTable.insertAt xs (SetTable.below xs j) j).toList.Pairwise (· < ·)
 rw [SetTable.toList_insertAt]
 rw [List.pairwise_append]
 have hsplit:xs.toList.take (SetTable.below xs j)++xs.toList.drop (SetTable.below xs j)=xs.toList:=List.take_append_drop ..
 have hp:(xs.toList.take (SetTable.below xs j)++xs.toList.drop (SetTable.below xs j)).Pairwise (· < ·):=by rw [hsplit];exact h
 obtain ⟨p1,p2,p3⟩:=List.pairwise_append.mp hp
 have tk: ∀ a∈xs.toList.take (SetTable.below xs j),a<j:=λa ha=>by
  obtain ⟨i,hi⟩:=List.mem_iff_getElem?.mp ha
  rw [List.getElem?_take] at hi
  split at hi
  ·rename_i hlt
   exact h2 i a hlt (by simpa using hi)
  ·cases hi
 have dr: ∀ a∈xs.toList.drop (SetTable.below xs j),j<a:=λa ha=>by
  obtain ⟨i,hi⟩:=List.mem_iff_getElem?.mp ha
  rw [List.getElem?_drop] at hi
  have hi':xs[SetTable.below xs j+i]? = some a:=by simpa using hi
  have a1:=h3 _ a ⋯ hi'
  rcases Nat.lt_or_eq_of_le a1 with z | z
  ·exact z
  ·subst z
   exfalso
   cases i with
   | zero=>exact hn hi'
   | succ i=>
    have hl:=(qab.mp hi').1
    have e0:xs[SetTable.below xs j]? = some xs[SetTable.below xs j]:=by
     have:SetTable.below xs j<xs.size:=by omega
     simp [this]
    have b1:=h3 _ _ (qaV _) e0
    have b2:=h.lt e0 hi' ⋯
    omega
 refine ⟨p1,qay.mpr ⟨dr,p2⟩,λa ha b hb=> ?_⟩
 rcases qaP.mp hb with z | z
 ·rw [z];exact tk a ha
 ·exact p3 a ha b z
structure zhH (t:SetTable) (led:Bool):Prop where
 up:Up t.place
 nod:t.dummies= #[]
 led:t.led=led
theorem ziq {j:Nat}:SetTable.has #[] j=false:=by
 unfold SetTable.has
 simp
theorem zjJ {t:SetTable} {led:Bool} (g:zhH t led) {j:Nat} (h:t.slot j= .empty):t.place[SetTable.below t.place j]? ≠ some j:=λe=>by
 unfold SetTable.slot at h
 dsimp only at h
 rw [e] at h
 simp at h
theorem zh0 {t:SetTable} {led:Bool} (g:zhH t led) (f:Nat->Int) (h:Int): ∀ (fuel:Nat) (p:SetTable.Probe) (j:Nat) (d:Option Nat),p.dummy=none->SetTable.probe.go t f h fuel p=some (.empty j d)->t.slot j= .empty/\d=none
 | 0,_,_,_,_,e=>by cases e
 | fuel+1,p,j,d,hp,e=>by
  unfold SetTable.probe.go at e
  have adv: ∀ q:SetTable.Probe,q.dummy=none->(t.advance q).dummy=none:=λq hq=>by
   unfold SetTable.advance
   split<;>exact hq
  split at e
  ·rename_i hs
   cases e
   exact ⟨hs,hp⟩
  ·rename_i hs
   exfalso
   unfold SetTable.slot at hs
   dsimp only at hs
   rw [g.nod,ziq] at hs
   split at hs<;>simp at hs
  ·split at e
   ·cases e
   ·exact zh0 g f h fuel _ j d (adv p hp) e
theorem zfJ {t:SetTable} {led:Bool} (g:zhH t led) {h:Int} {j:Nat} {b:Bool} (e:t.freeSlot h=some (j,b)):t.place[SetTable.below t.place j]? ≠ some j:=by
 unfold SetTable.freeSlot at e
 split at e
 ·rename_i j' d' hpr
  obtain ⟨h1,h2⟩:=zh0 g _ _ _ _ _ _ rfl hpr
  subst h2
  cases e
  exact zjJ g h1
 ·cases e
theorem zmc (n:Nat):Up (Array.range n):=by
 show (Array.range n).toList.Pairwise (· < ·)
 rw [Array.toList_range]
 exact List.pairwise_lt_range
theorem zb4 {t:SetTable} {led:Bool} (g:zhH t led) (n:Nat):zhH (t.standIn n) led:=⟨zmc n,rfl,g.led⟩
theorem zhI {t:SetTable} {led:Bool} (g:zhH t led) (es:Array (Int×Value)) (h:Int) (x:Value):zhH (layNew t es h x).2.1 led:=by
 unfold layNew
 split
 ·rename_i slot wasDummy e
  have g2:zhH (t.put slot).1 led:=by
   refine ⟨zkZ g.up (zfJ g e),?_,g.led⟩
   show (if SetTable.has t.dummies slot then _ else t.dummies)= #[]
   rw [g.nod,ziq]
   rfl
  show zhH ((t.put slot).1.orStandIn _) led
  unfold SetTable.orStandIn
  split
  ·exact g2
  ·exact zb4 g2 _
 ·exact zb4 g _
theorem zkD {mask finger moves:Nat} {led plain:Bool} {hs:Array Int} {t:SetTable} {o:Array Nat} (e:SetTable.laid mask finger moves led plain hs=some (t,o)):zhH t led:=by
 unfold SetTable.laid at e
 cases z:SetTable.layClean mask hs with
 | none=>rw [z] at e;cases e
 | some owner=>
  rw [z] at e
  have e:some (({mask,place:=(((List.range (mask+1)).filterMap λj=>(owner.getD j none).map (j, ·)).map (·.1)).toArray,dummies:= #[],finger,led,moves,plain}:SetTable),_)=some (t,o):=e
  cases e
  refine ⟨?_,rfl,rfl⟩
  show (((List.range (mask+1)).filterMap λj=>(owner.getD j none).map (j, ·)).map (·.1)).toArray.toList.Pairwise (· < ·)
  rw [List.toList_toArray,List.map_filterMap]
  have sub:List.Sublist ((List.range (mask+1)).filterMap λj=>((owner.getD j none).map (j, ·)).map (·.1)) (List.range (mask+1)):=by
   generalize List.range (mask+1)=l
   induction l with
   | nil=>exact .slnil
   | cons a r ih=>
    rw [qat]
    cases q:owner.getD a none with
    | none=>exact ih.cons a
    | some v=>exact ih.cons₂ a
  exact List.pairwise_lt_range.sublist sub
theorem zga {t:SetTable} {led:Bool} (g:zhH t led) (es:Array (Int×Value)) (wanted:Nat):zhH (relayAll t es wanted).2.1 led:=by
 unfold relayAll
 split
 ·rename_i t' order e
  have g2:zhH t' t.led:=zkD e
  rw [g.led] at g2
  dsimp only
  split
  ·exact g2
  ·exact zb4 g _
 ·exact zb4 g _
def zcA (w:World):Bool:= !w.params.followText "set-order"
def zgc (prog:Program) (w:World) (h:Heap) (a:Addr) (S:Int->Bool) (n:Nat):Prop:=
 ∃ ob es ep tb,(h.get? a=some ob/\ob.ExactSet/\ob.data= .set es ep tb)/\ElemsOf (intKind prog w) es.toList/\(∀ k,S k=true↔ ∃ e∈es.toList,(intKind prog w).is k e.2=true)/\
  (es.size<scanBound/\tb.fits es.size=true/\es.size=n)/\zhH tb (zcA w)
theorem zgc.move {prog:Program} {w:World} {h h':Heap} {a:Addr} {S S':Int->Bool} {n n':Nat} (g:zgc prog w h a S n) (k: ∀ ob,h.get? a=some ob->h'.get? a=some ob) (e: ∀ k,S k=S' k) (en:n=n'):zgc prog w h' a S' n':=by
 obtain ⟨ob,es,ep,tb,⟨h1,h2,h3⟩,h4,h5,⟨h6,h7,h8⟩,h9⟩:=g
 exact ⟨ob,es,ep,tb,⟨k ob h1,h2,h3⟩,h4,λz=>by rw [<- e z];exact h5 z,⟨h6,h7,h8.trans en⟩,h9⟩
section
variable {prog:Program} {w:World} {A:Around} {E:Value->Shared->Prop} {s:Shared}
theorem stored {a:Addr} {ob:Obj} {es es':Array (Int×Value)} {ep:Nat} {tb tb':SetTable} {S:Int->Bool} {R:Unit->Shared->Prop} (ho:s.heap.get? a=some ob) (hx:ob.ExactSet) (hd:ob.data= .set es ep tb)
  (hE:ElemsOf (intKind prog w) es'.toList) (hS: ∀ k,S k=true↔ ∃ e∈es'.toList,(intKind prog w).is k e.2=true) (hb:es'.size<scanBound) (hf:tb'.fits es'.size=true) (hg:zhH tb' (zcA w))
  (q: ∀ h',Heap.SameBut a s.heap h'->h'.get? a=some {ob with data:= .set es' (ep+1) tb'}->zgc prog w h' a S es'.size->R () {s with heap:=h'}):wpAny (model prog w) A (storeSet a es' tb') R E s:=by
 have put:=putSet_of es' tb' hd
 have at1:(s.heap.update a (Obj.putSet es' tb')).get? a=some {ob with data:= .set es' (ep+1) tb'}:=by
  have z:=qal (Obj.putSet es' tb') ho (by rw [put];rfl)
  rwa [put] at z
 exact wpAny_storeSet_of ho hd (q _ (Heap.SameBut.update ..) at1 ⟨_,es',ep+1,tb',⟨at1,hx,rfl⟩,hE,hS,⟨hb,hf,rfl⟩,hg⟩) (fits_of_scanBound hb)
theorem zuA {a:Addr} {S:Int->Bool} {n:Nat} {k:Int} {t:Tok} {Q:Bool->Shared->Prop} (g:zgc prog w s.heap a S n) (room:n+1<scanBound)
  (q: ∀ h' b,Heap.SameBut a s.heap h'->zgc prog w h' a (λz=>S z || decide (z=k)) (if S k then n else n+1)->Q b {s with heap:=h'}):
  wpAny (model prog w) A (setAddHashed a (.int k t) ((intKind prog w).hash k)) Q E s:=by
 have kis:(intKind prog w).is k (.int k t)=true:=intKind_is _ _ _ _
 obtain ⟨ob,es,ep,tb,⟨h1,h2,h3⟩,h4,h5,⟨h6,h7,h8⟩,h9⟩:=g
 have scn:(Value.int k t).scannable=true:=rfl
 unfold setAddHashed setAddHashedIn
 refine qaO (qaW (wpAny_setState_of h1 h3 h7 ?_))
 dsimp only
 rw [qa4 (byScan_of scn h6 h4)]
 refine qaW ?_
 unfold setAddByScan
 refine qaW (wpAny_rule (qaW (wpAny_setScan_of kis h1 h3 h7 h4 ?_)))
 cases fi:List.findIdx? (λe=>(intKind prog w).is k e.2) es.toList with
 | some j=>
  obtain ⟨lj,pj,_⟩:=List.findIdx?_eq_some_iff_getElem.mp fi
  have inS:S k=true:=(h5 k).mpr ⟨_,getElem_mem lj,pj⟩
  refine qaX (qaX ?_)
  have z:=q s.heap false (Heap.SameBut.refl ..) ⟨ob,es,ep,tb,⟨h1,h2,h3⟩,h4,λy=> ?_,⟨h6,h7,by rw [inS];exact h8⟩,h9⟩
  ·exact z
  ·rw [<- h5 y,Bool.or_eq_true,qaD]
   exact ⟨λc=>c.elim id λc=>by rw [c];exact inS,.inl⟩
 | none=>
  have noS:S k=false:=by
   rw [<- Bool.not_eq_true,h5 k]
   rintro ⟨e,he,pe⟩
   have:=List.findIdx?_eq_none_iff.mp fi e he
   rw [pe] at this
   cases this
  have L1:=layNew_perm tb es ((intKind prog w).hash k) (.int k t)
  have L2:=layNew_fits tb es ((intKind prog w).hash k) (.int k t)
  have L3:=zhI h9 es ((intKind prog w).hash k) (.int k t)
  generalize hl:layNew tb es ((intKind prog w).hash k) (.int k t)=ln at L1 L2 L3 ⊢
  obtain ⟨es1,tb1,wd,gv⟩:=ln
  dsimp only at L1 L2 L3 ⊢
  rw [Array.toList_push] at L1
  have E1:ElemsOf (intKind prog w) es1.toList:=(h4.push kis scn).perm L1
  have M1: ∀ y,(S y || decide (y=k))=true↔ ∃ e∈es1.toList,(intKind prog w).is y e.2=true:=mem_push_iff kis h5 L1
  have Z1:es1.size=n+1:=by
   have z:=L1.length_eq
   rw [qav,qas,qas] at z
   rw [z,h8];rfl
  have B1:es1.size<scanBound:=by rw [Z1];exact room
  have quiet: ∀ (b:Bool) (s1:Shared) (R:Unit->Shared->Prop),R () s1->wpAny (model prog w) A (match b with | true=>rule "set.scan.the-table-gave-way" | false=>pure ()) R E s1:=λb s1 R z=>by
   cases b
   ·exact qaX z
   ·exact wpAny_rule z
  have fin: ∀ (s1:Shared) (h':Heap),s1={s with heap:=h'}->Heap.SameBut a s.heap h'->zgc prog w h' a (λy=>S y || decide (y=k)) es1.size->Q true s1:=λs1 h' e1 sb gg=>by
   subst e1
   have z:=q h' true sb
   rw [noS] at z
   exact z (by rw [Z1] at gg;exact gg)
  refine qaW (quiet _ _ _ ?_)
  have tail: ∀ (gw:Bool->Sem Unit),(∀ (b:Bool) (s1:Shared) (R:Unit->Shared->Prop),R () s1->wpAny (model prog w) A (gw b) R E s1)->wpAny (model prog w) A (do
      storeSet a es1 tb1
      if (!wd && tb1.tooFull)=true then do
        gw (relayAll tb1 es1 (SetTable.grown es1.size)).2.2
        storeSet a (relayAll tb1 es1 (SetTable.grown es1.size)).1 (relayAll tb1 es1 (SetTable.grown es1.size)).2.1
        pure (some true)
      else pure (some true)) (λr s'=>wpAny (model prog w) A (match r with | some b=>pure b | none=>setAddHashedIn a (.int k t) ((intKind prog w).hash k) 99999) Q E s') E s:=by
   intro gw hgw
   refine qaW (stored h1 h2 h3 E1 M1 B1 L2 L3 λh' sb at1 gg=> ?_)
   by_cases full:(!wd && tb1.tooFull)=true
   ·rw [qa4 full]
    have P2:=relayAll_perm tb1 es1 (SetTable.grown es1.size)
    have F2:=relayAll_fits tb1 es1 (SetTable.grown es1.size)
    have G2:=zga L3 es1 (SetTable.grown es1.size)
    generalize relayAll tb1 es1 (SetTable.grown es1.size)=rl at P2 F2 G2 ⊢
    obtain ⟨es2,tb2,gv2⟩:=rl
    dsimp only at P2 F2 G2 ⊢
    have Z2:es2.size=es1.size:=by
     have z:=P2.length_eq
     rwa [qas,qas] at z
    refine qaW (hgw _ _ _ (qaW (stored (s:={s with heap:=h'}) (S:=λy=>S y || decide (y=k)) at1 h2 rfl (E1.perm P2) (λy=>(M1 y).trans ?_) (by rw [Z2];exact B1) F2 G2 λh'' sb2 _ gg2=> ?_)))
    ·exact ⟨λ⟨e,he,pe⟩=>⟨e,P2.mem_iff.mpr he,pe⟩,λ⟨e,he,pe⟩=>⟨e,P2.mem_iff.mp he,pe⟩⟩
    ·exact qaX (qaX (fin _ h'' rfl (sb.trans sb2) (by rw [Z2] at gg2;exact gg2)))
   ·rw [qa5 full]
    exact qaX (qaX (fin _ h' rfl sb gg))
  split
  ·rw [hashByValue_scannable 8 scn]
   refine qaW (qaX ?_)
   exact tail _ λb s1 R z=>by cases b<;>first | exact qaX z | exact wpAny_rule z
  ·refine qaW (qaX ?_)
   exact tail _ λb s1 R z=>by cases b<;>first | exact qaX z | exact wpAny_rule z
end
section
variable {prog:Program} {w:World} {A:Around} {R:Result->Shared->Prop} {it:Addr} {fp wr:List Addr} {G:Array GenState->Array GenState->Prop} {n:Nat} {P:Nat->Value->Prop} {St:Nat->Shared->Prop}
theorem ztL (W:WalksS prog w A.in1 it fp wr G n P St) (a:Addr) (ha:a∉fp) (val:Nat->Int) (hval: ∀ i v,P i v-> ∃ t,v= .int (val i) t) (room:n+1<scanBound):
  ∀ (left i:Nat) (s:Shared),n - i=left->i<=n->St i s->zgc prog w s.heap a (λz=>(firstMet val i).any (· == z)) (firstMet val i).length->
   (∀ s',Moved (a::wr) G s s'->zgc prog w s'.heap a (λz=>(firstMet val n).any (· == z)) (firstMet val n).length->R (.ok (.ret .none)) s')->
   codeAny (model prog w) A (.builtin "set.update.loop" ⟨[.ref a,.ref it],[]⟩) R s:=by
 have awr:a∉wr:=λz=>ha (W.sub _ z)
 have more: ∀ b∈wr,b∈a::wr:=λb z=> .tail _ z
 intro left
 induction left with
 | zero=>
  intro i s hleft hin st g q
  obtain rfl:i=n:=by omega
  refine codeAny_builtin F.entry_set_update_loop ?_
  rw [qap F.plain_set_update_loop _]
  show wpAny _ _ (pyNext (.ref it)>>=_) _ _ _
  refine qaW (W.done s _ _ st λs' mv=> ?_)
  exact qaX (q s' (mv.mono more) (g.move (λob e=>mv.heap a ob awr e) (λ_=>rfl) rfl))
 | succ left ih=>
  intro i s hleft hin st g q
  have hi:i<n:=by omega
  refine codeAny_builtin F.entry_set_update_loop ?_
  rw [qap F.plain_set_update_loop _]
  show wpAny _ _ (pyNext (.ref it)>>=_) _ _ _
  refine qaW (W.item i s _ _ hi st λv s1 pv st1 mv=> ?_)
  obtain ⟨t,rfl⟩:=hval i v pv
  have g1:zgc prog w s1.heap a (λz=>(firstMet val i).any (· == z)) (firstMet val i).length:=g.move (λob e=>mv.heap a ob awr e) (λ_=>rfl) rfl
  show wpAny _ _ (holding [Value.int (val i) t] (setAdd a (.int (val i) t))>>=_) _ _ _
  refine qaW (qaO ?_)
  unfold setAdd
  refine qaO (qaW ((intKind prog w).pyHash (k:=val i) (intKind_is _ _ _ _) ?_))
  have few:=firstMet_length_le val i
  refine zuA (s:={s1 with toks:=s1.toks+1}) g1 ⋯ λh2 b sb g2=> ?_
  have g3:zgc prog w h2 a (λz=>(firstMet val (i+1)).any (· == z)) (firstMet val (i+1)).length:=
   g2.move (λ_ e=>e) (λz=>by rw [firstMet_succ,step_any]) (by rw [firstMet_succ,step_length])
  have off: ∀ b,b≠a->h2.get? b=s1.heap.get? b:=λb hb=>sb.2 b hb
  refine qaX ⟨plainId_quiet F.plain_set_update_loop _,ih (i+1) _ ⋯ hi (W.frame _ s1 _ _ st1 (le_succ _) λb hb ob e=> ?_) g3 λs3 mv3 g4=> ?_⟩
  ·rw [off b λz=>ha (z▸hb)]
   exact e
  ·refine q s3 (.trans W.gtrans ((mv.mono more).then_heap (le_succ _) λb ob hb e=> ?_) mv3) g4
   rw [off b λz=>hb (z▸ .head _)]
   exact e
end
section
variable {prog:Program} {w:World} {A:Around} {E:Value->Shared->Prop} {s:Shared}
theorem zny (h:Heap):zgc prog w (h.push {cls:= .type "set",dict:=none,data:= .set #[] 0 (.fresh 0 0 (zcA w))}) h.objs.size (λ_=>false) 0:=
 ⟨_, #[],0,_,⟨qar _ rfl,⟨rfl,rfl,rfl⟩,rfl⟩,λe he=>by simp at he,λk=>by simp,⟨by decide,rfl,rfl⟩,⟨List.Pairwise.nil,rfl,rfl⟩⟩
theorem zt4 (x:Value) {Q:Value->Shared->Prop} (q:Q (.ref s.heap.objs.size) {s with heap:=s.heap.push {cls:= .type "set",dict:=none,data:= .set #[] 0 (.fresh 0 0 (zcA w))}}):
  codeAny (model prog w) A (.call (.builtin "set.__new__") ⟨[.type "set",x],[]⟩) (wants Q E) s:=by
 refine codeAny_of_tree ?_
 show wpAny _ _ (do checkBuiltinCall "set.__new__" ⟨[.type "set",x],[]⟩;again (.builtin "set.__new__" ⟨[.type "set",x],[]⟩)) _ _ _
 refine qaW (wpAny_of_eq (F.newCall_set_1 x) (qaX ⟨plainId_quiet F.plain_set_new _,codeAny_builtin F.entry_set_new ?_⟩))
 rw [qap F.plain_set_new _]
 unfold Builtin.«set.__new__» Builtin.Frozenset.newClass
 have self:=sub_set_self
 obtain ⟨hp,gs,dr,tk,os⟩:=s
 dsimp only
 wp_walk
 refine wpAny_askSetting (qaX ?_)
 dsimp only
 simp only [newObj]
 exact qaW (wpAny_alloc (qaX (qaX q)))
theorem ztP {l:Addr} {T:String} {items:Array Value} {ns:List Int} {Q:Value->Shared->Prop} (hh:A.handled=none) (hT:(T="list"/\s.heap.IsList l items)\/(T="tuple"/\s.heap.IsTuple l items)) (hi:IntsAre items.toList ns) (room:items.size+1<scanBound)
  (q: ∀ (h':Heap) (tk:Nat),zgc prog w h' s.heap.objs.size (λz=>(firstMet (λi=>ns.getD i 0) items.size).any (· == z)) (firstMet (λi=>ns.getD i 0) items.size).length->(∀ b ob,s.heap.get? b=some ob->h'.get? b=some ob)->
    Q (.ref s.heap.objs.size) {s with heap:=h',toks:=tk}):wpAny (model prog w) A (call (.type "set") [.ref l]) Q E s:=by
 obtain ⟨c,tl,hmro⟩:=F.called_set.mro
 have hmade:=F.called_set.made
 have hsub:=F.called_set.sub
 refine wpAny_call (codeAny_of_tree ?_)
 show wpAny _ _ (callAny (.type "set") _) _ _ _
 refine qaX ⟨Code.quiet_builtin _ ⋯,codeAny_builtin F.entry_type_call ?_⟩
 rw [Around.under_plain (weight_type_call_type "set" [.ref l] []) rfl]
 have hnt:=F.called_set.notType
 have hcc:=F.called_set.canCreate
 have htc:=F.typeCall_set_1 (.ref l)
 repeat' (first | assumption | wp_step)
 refine codeAny_mono (zt4 (.ref l) (E:=E) (Q:=λv s1=>v= .ref s.heap.objs.size/\s1={s with heap:=s.heap.push {cls:= .type "set",dict:=none,data:= .set #[] 0 (.fresh 0 0 (zcA w))}}) ⟨rfl,rfl⟩) λr s1 hr=> ?_
 cases r with
 | error e=>exact hr
 | ok fl=>
  cases fl with
  | ret v=>
   obtain ⟨rfl,rfl⟩:=hr
   have laid:(s.heap.push {cls:= .type "set",dict:=none,data:= .set #[] 0 (.fresh 0 0 (zcA w))}).get? s.heap.objs.size=some {cls:= .type "set",dict:=none,data:= .set #[] 0 (.fresh 0 0 (zcA w))}:=qar _ rfl
   have isSet:Shared.TypeIs {s with heap:=s.heap.push {cls:= .type "set",dict:=none,data:= .set #[] 0 (.fresh 0 0 (zcA w))}} (.ref s.heap.objs.size) "set":=⟨_,laid,rfl⟩
   have hli:=F.called_set.init.lookup
   have hbi:=F.called_set.init.bind (.ref s.heap.objs.size)
   repeat' (first | assumption | wp_step)
   refine codeAny_mono (codeAny_call_builtin (R:=wants (λz s2=>z= .none/\ ∃ h' tk,s2={s with heap:=h',toks:=tk}/\
       zgc prog w h' s.heap.objs.size (λz=>(firstMet (λi=>ns.getD i 0) items.size).any (· == z)) (firstMet (λi=>ns.getD i 0) items.size).length/\(∀ b ob,s.heap.get? b=some ob->h'.get? b=some ob)) E) F.called_set.init.plain F.entry_set_init (check_set_init_1 isSet ?_)) λr2 s2 hr2=> ?_
   ·have keepL: ∀ ob,s.heap.get? l=some ob->(s.heap.push {cls:= .type "set",dict:=none,data:= .set #[] 0 (.fresh 0 0 (zcA w))}).get? l=some ob:=λob e=>qag _ e
    have hval: ∀ (i:Nat) (v:Value),items[i]? = some v-> ∃ t,v= .int ((λi=>ns.getD i 0) i) t:=λi v hv=>IntsAre.int_at hi i v (by rw [Array.getElem?_toList];exact hv)
    have hh3:A.in1.in1.in1.handled=none:=by simp [hh]
    have done1: ∀ (l0:Addr) (h0:Heap) (s':Shared),l0=s.heap.objs.size->Moved [l0,(s.heap.push {cls:= .type "set",dict:=none,data:= .set #[] 0 (.fresh 0 0 (zcA w))}).objs.size] (λa b=>b=a) {s with heap:=h0} s'->(∀ b ob,s.heap.get? b=some ob->h0.get? b=some ob)->
      (∀ b ob,s.heap.get? b=some ob->s'.heap.get? b=some ob)/\s'={s with heap:=s'.heap,toks:=s'.toks}:=λl0 h0 s' e0 mv k0=>by
     refine ⟨λb ob e=>mv.heap b ob (λz=> ?_) (k0 b ob e),?_⟩
     ·have lt:=qaQ e
      rw [qaL,e0] at z
      simp only [qaP,qaF,or_false] at z
      rcases z with z | z
      ·exact qaN _ (z▸lt)
      ·exact qaN _ (Nat.lt_of_succ_lt (z▸lt))
     ·obtain ⟨h',g',d',tk',os'⟩:=s'
      have eg:g'=s.gens:=mv.gens
      have ed:d'=s.drawn:=mv.drawn
      have eo:os'=s.os:=mv.os
      subst eg ed eo
      rfl
    unfold Builtin.«set.__init__» noKeywords Builtin.Frozenset.updateFrom
    generalize hPI:pyIter=PI
    rcases hT with ⟨rfl,hl⟩ | ⟨rfl,hl⟩
    ·obtain ⟨⟨ocl,odi,oda,osl⟩,hol,hcl,nl,hdl⟩:=hl
     simp only at hcl hdl
     subst hcl hdl
     have hol':=keepL _ hol
     have f1:=F.sub_list_set
     have f2:=F.sub_list_frozenset
     have f3:(Value.type "list"==Value.type "dict")=false:=by decide
     wp_walk
     subst hPI
     have hl1:(s.heap.push {cls:= .type "set",dict:=none,data:= .set #[] 0 (.fresh 0 0 (zcA w))}).IsList l items:=⟨_,hol',rfl,nl,rfl⟩
     refine wpAny_pyIter_list hl1 ?_
     refine qaW (wpAny_runValue ?_)
     have ltl:l<s.heap.objs.size:=qaQ hol
     have szp:(s.heap.push {cls:= .type "set",dict:=none,data:= .set #[] 0 (.fresh 0 0 (zcA w))}).objs.size=s.heap.objs.size+1:=qaL ..
     have ne1:l≠(s.heap.push {cls:= .type "set",dict:=none,data:= .set #[] 0 (.fresh 0 0 (zcA w))}).objs.size:=by rw [szp];exact qaR (lt_succ_of_lt ltl)
     have ne2:s.heap.objs.size∉[(s.heap.push {cls:= .type "set",dict:=none,data:= .set #[] 0 (.fresh 0 0 (zcA w))}).objs.size,l]:=by
      rw [szp]
      simp only [qaP,qaF,or_false]
      rintro (z | z)
      ·exact Nat.succ_ne_self _ z.symm
      ·exact qaN _ (z▸ltl)
     refine ztL ((Walks.list hh3 _ l ne1 items).toS) s.heap.objs.size ne2 (λi=>ns.getD i 0) hval room _ 0 _ rfl (zero_le _) ⟨⟨_,qar _ rfl,rfl,rfl⟩,hl1.push _⟩ ?g0 λs' mv gg=> ?_
     case g0=>exact (zny s.heap).move (λob e=>qag _ e) (λ_=>rfl) rfl
     obtain ⟨k1,k2⟩:=done1 _ _ s' rfl mv λb ob e=>qag _ (qag _ e)
     exact qaX (qaX ⟨rfl,s'.heap,s'.toks,k2,gg,k1⟩)
    ·obtain ⟨⟨ocl,odi,oda,osl⟩,hol,hcl,nl,hdl⟩:=hl
     simp only at hcl hdl
     subst hcl hdl
     have hol':=keepL _ hol
     have f1:=F.sub_tuple_set
     have f2:=F.sub_tuple_frozenset
     have f3:(Value.type "tuple"==Value.type "dict")=false:=by decide
     wp_walk
     subst hPI
     have hl1:(s.heap.push {cls:= .type "set",dict:=none,data:= .set #[] 0 (.fresh 0 0 (zcA w))}).IsTuple l items:=⟨_,hol',rfl,nl,rfl⟩
     refine wpAny_pyIter_tuple hl1 ?_
     refine qaW (wpAny_runValue ?_)
     have ltl:l<s.heap.objs.size:=qaQ hol
     have szp:(s.heap.push {cls:= .type "set",dict:=none,data:= .set #[] 0 (.fresh 0 0 (zcA w))}).objs.size=s.heap.objs.size+1:=qaL ..
     have ne1:l≠(s.heap.push {cls:= .type "set",dict:=none,data:= .set #[] 0 (.fresh 0 0 (zcA w))}).objs.size:=by rw [szp];exact qaR (lt_succ_of_lt ltl)
     have ne2:s.heap.objs.size∉[(s.heap.push {cls:= .type "set",dict:=none,data:= .set #[] 0 (.fresh 0 0 (zcA w))}).objs.size,l]:=by
      rw [szp]
      simp only [qaP,qaF,or_false]
      rintro (z | z)
      ·exact Nat.succ_ne_self _ z.symm
      ·exact qaN _ (z▸ltl)
     refine ztL ((Walks.tuple hh3 _ l ne1 items).toS) s.heap.objs.size ne2 (λi=>ns.getD i 0) hval room _ 0 _ rfl (zero_le _) ⟨⟨_,qar _ rfl,rfl,rfl⟩,⟨_,qag _ hol',rfl,nl,rfl⟩⟩ ?g0 λs' mv gg=> ?_
     case g0=>exact (zny s.heap).move (λob e=>qag _ e) (λ_=>rfl) rfl
     obtain ⟨k1,k2⟩:=done1 _ _ s' rfl mv λb ob e=>qag _ (qag _ e)
     exact qaX (qaX ⟨rfl,s'.heap,s'.toks,k2,gg,k1⟩)
   ·cases r2 with
    | error e=>exact hr2
    | ok fl2=>
     cases fl2 with
     | ret z=>
      obtain ⟨rfl,h',tk,rfl,gg,k1⟩:=hr2
      repeat' (first | assumption | wp_step)
      exact q _ _ gg k1
     | _=>exact hr2.elim
  | _=>exact hr.elim
end
theorem zaL:Slot "set_iterator" "__next__" "set_iterator.__next__":= .of (owner:="set_iterator") (n:="__next__") (by rw [typeLookup_type,builtinLookup_eq_fast];kernel_rfl) ⋯ ⋯ ⋯ (by first | exact .inl ⋯ | exact .inr ⋯) (by rw [isSubtype_type];kernel_rfl)
theorem zdC:Slot "set_iterator" "__iter__" "set_iterator.__iter__":= .of (owner:="set_iterator") (n:="__iter__") (by rw [typeLookup_type,builtinLookup_eq_fast];kernel_rfl) ⋯ ⋯ ⋯ (by first | exact .inl ⋯ | exact .inr ⋯) (by rw [isSubtype_type];kernel_rfl)
theorem zca:entryFor table "set_iterator.__next__"=some Builtin.«set_iterator.__next__» := entryFor_of_tree (by kernel_rfl)
theorem zfb:entryFor table "set_iterator.__iter__"=some Builtin.«dict_keyiterator.__iter__» := entryFor_alias (id':="dict_keyiterator.__iter__") (by kernel_rfl) rfl ⋯ (by kernel_rfl)
theorem zcz (a:Value):argsOk "set_iterator.__next__" ⟨[a],[]⟩:=by unfold argsOk;kernel_rfl
theorem zfN (a:Value):argsOk "set_iterator.__iter__" ⟨[a],[]⟩:=by unfold argsOk;kernel_rfl
theorem ze9:entryFor table "set.__iter__"=some Builtin.«frozenset.__iter__» := entryFor_alias (id':="frozenset.__iter__") (by kernel_rfl) rfl ⋯ (by kernel_rfl)
def SIt (h:Heap) (it a:Addr) (first:Value) (i n ep:Nat):Prop:=h.get? it=some {cls:= .type "set_iterator",dict:=none,data:= .fields #[first,.int i 0,.ref a,.int n 0,.int ep 0],slots:= #[]}
structure zh4 (h:Heap) (a:Addr) (es:Array (Int×Value)) (ep:Nat) (tb:SetTable):Prop where
 at_: ∃ ob,h.get? a=some ob/\ob.ExactSet/\ob.data= .set es ep tb
 fits:tb.fits es.size=true
section
variable {prog:Program} {w:World} {A:Around} {E:Value->Shared->Prop} {s:Shared}
theorem zjW {it a:Addr} {first:Value} {i n ep:Nat} {es:Array (Int×Value)} {tb:SetTable} {Q:Option Value->Shared->Prop} (hI:SIt s.heap it a first i n ep) (hS:zh4 s.heap a es ep tb) (hn:es.size=n) (slot:Nat) (hf:first= .int slot 0)
  (q:wpAny (model prog w) A.in1 (do
    match<-setNext a slot i ep with
    | some (x,next)=>
      setField (.ref it) 0 (rawInt next)
      setField (.ref it) 1 (rawInt ((i:Int)+1))
      ret x
    | none=>setField (.ref it) 2 .none;raiseNew (<- newExc (.type "StopIteration") [])) (λf s'=> ∃ v,f= .done (.ret v)/\Q (some v) s') (λe s'=>wpAny (model prog w) A (do if<-isInstance e (.type "StopIteration") then pure none else throw e) Q E s') s):
  wpAny (model prog w) A (pyNext (.ref it)) Q E s:=by
 obtain ⟨ob,ho,hx,hd⟩:=hS.at_
 subst hf
 have tI:s.TypeIs (.ref it) "set_iterator":=⟨_,hI,rfl⟩
 unfold pyNext
 refine qaW (wpAny_attempt (wpAny_callSpecial?_slot (name:=Str.ofString "__next__") tI zaL (wpAny_call_entry zaL tI zca ?_ (zcz _))))
 unfold Builtin.«set_iterator.__next__»
 refine qaW (m:=slotArgs "__next__" 0 _) (qaX ?_)
 refine qaW (m:=fieldsOf (.ref it)) ?_
 unfold fieldsOf
 refine qaW (wpAny_load hI (qaX ?_))
 refine qaW (wpAny_setEntries_of ho hd hS.fits ?_)
 have same: ¬(((es.size:Nat):Int) != (n:Int))=true:=by rw [hn];simp
 rw [qa5 same]
 exact qaZ q (λf s' ⟨v,e,z⟩=>⟨v,e,qaX z⟩) λe s' z=>z
theorem zkr {it:Addr} {r:Shared->Prop} {Q:Option Value->Shared->Prop} (hh:A.handled=none) (q: ∀ h',(∀ b ob,s.heap.get? b=some ob->h'.get? b=some ob)->Q none {s with heap:=h'}):
  wpAny (model prog w) A.in1 (do raiseNew (<- newExc (.type "StopIteration") []):Sem PySem.Fin) (λf s'=> ∃ v,f= .done (.ret v)/\Q (some v) s') (λe s'=>wpAny (model prog w) A (do if<-isInstance e (.type "StopIteration") then pure none else throw e) Q E s') s:=by
 refine qaW ?_
 simp only [newExc,newTuple]
 refine qaW (qaC ?_ (by size_fits))
 refine qaW (m:=firstArgMember _ _) (wpAny_of_eq (a:=Value.none) (by first | rfl | (simp only [firstArgMember];rfl)) ?_)
 refine qaC ?_ (by size_fits)
 simp only [raiseNew]
 refine qaW (wpAny_handled ?_)
 rw [show A.in1.handled=none from hh]
 refine qaW (qaX (wpAny_throw ?_))
 refine qaW (wpAny_isInstance (T:="StopIteration") (b:=true) ⟨_,qar _ rfl,rfl⟩ isSubtype_stop ?_)
 exact qaX (q _ λb ob e=>qag _ (qag _ e))
theorem zff {es:Array (Int×Value)} {tb:SetTable} (hf:tb.fits es.size=true):tb.place.size=es.size:=by
 unfold SetTable.fits at hf
 simp only [qaG,beq_iff_eq] at hf
 exact hf.1
theorem zdA {a:Addr} {ep i slot:Nat} {es:Array (Int×Value)} {tb:SetTable} {R:Option (Value×Nat)->Shared->Prop} (hS:zh4 s.heap a es ep tb) (led:tb.led=true) (bt:w.params.followText "set-order"=false) (pl:(!tb.plain && decide (es.size>1))=false)
  (q:R (match es[SetTable.below tb.place slot]?, tb.place[SetTable.below tb.place slot]? with | some (_,x),some j=>some (x,j+1) | _,_=>none) s):wpAny (model prog w) A (setNext a slot i ep) R E s:=by
 obtain ⟨ob,ho,hx,hd⟩:=hS.at_
 unfold setNext
 refine qaW (wpAny_setState_of ho hd hS.fits ?_)
 dsimp only
 unfold setsByText
 refine qaW (qaW (wpAny_askSetting (qaX ?_)))
 dsimp only
 rw [show (model prog w).w.params.followText "set-order"=false from bt]
 simp only [qax,if_false]
 show wpAny _ _ (if (!tb.plain && decide (es.size>1))=true then _ else _) _ _ _
 rw [qa5 (by rw [pl];exact Bool.false_ne_true)]
 refine qaW ?_
 show wpAny _ _ (if (!tb.led && !es.isEmpty)=true then _ else _) _ _ _
 rw [qa5 (by rw [led];exact Bool.false_ne_true)]
 exact qaX (qaX q)
theorem zeg {a:Addr} {ep i slot:Nat} {es:Array (Int×Value)} {tb:SetTable} {R:Option (Value×Nat)->Shared->Prop} (hS:zh4 s.heap a es ep tb) (bt:w.params.followText "set-order"=true)
  (q:R (((pickOrder (w.params.setOrder a ep) es)[i]?).map λe=>(e.2,slot)) s):wpAny (model prog w) A (setNext a slot i ep) R E s:=by
 obtain ⟨ob,ho,hx,hd⟩:=hS.at_
 unfold setNext
 refine qaW (wpAny_setState_of ho hd hS.fits ?_)
 dsimp only
 unfold setsByText
 refine qaW (qaW (wpAny_askSetting (qaX ?_)))
 dsimp only
 rw [show (model prog w).w.params.followText "set-order"=true from bt]
 simp only [if_true]
 rw [qa5 (by simp)]
 refine qaW ?_
 unfold setWalk
 refine qaW (wpAny_setState_of ho hd hS.fits ?_)
 dsimp only
 unfold setsByText
 refine qaW (qaW (wpAny_askSetting (qaX ?_)))
 dsimp only
 rw [show (model prog w).w.params.followText "set-order"=true from bt]
 simp only [if_true]
 refine qaW (wpAny_askSetting (qaX (qaX q)))
theorem zjL {it a:Addr} {n ep i slot nx:Nat} {x:Value} {es:Array (Int×Value)} {tb:SetTable} {Q:Option Value->Shared->Prop} (hI:SIt s.heap it a (.int slot 0) i n ep) (hS:zh4 s.heap a es ep tb) (hn:es.size=n)
  (st: ∀ (R:Option (Value×Nat)->Shared->Prop) (E':Value->Shared->Prop),R (some (x,nx)) s->wpAny (model prog w) A.in1 (setNext a slot i ep) R E' s)
  (q: ∀ h',SIt h' it a (.int nx 0) (i+1) n ep->Heap.SameBut it s.heap h'->Q (some x) {s with heap:=h'}):wpAny (model prog w) A (pyNext (.ref it)) Q E s:=by
 refine zjW hI hS hn slot rfl (qaW (st _ _ ?_))
 dsimp only
 refine qaW (wpAny_setField_rec hI (by simp) λh1 a1 sb1=> ?_)
 refine qaW (wpAny_setField_rec (s:={s with heap:=h1}) a1 (by simp) λh2 a2 sb2=> ?_)
 refine qaX ⟨x,rfl,q h2 ?_ (sb1.trans sb2)⟩
 unfold SIt
 rw [a2]
 simp [rawInt]
theorem znP {it a:Addr} {n ep i slot:Nat} {es:Array (Int×Value)} {tb:SetTable} {Q:Option Value->Shared->Prop} (hh:A.handled=none) (hI:SIt s.heap it a (.int slot 0) i n ep) (hS:zh4 s.heap a es ep tb) (hn:es.size=n)
  (st: ∀ (R:Option (Value×Nat)->Shared->Prop) (E':Value->Shared->Prop),R none s->wpAny (model prog w) A.in1 (setNext a slot i ep) R E' s)
  (q: ∀ h',(∀ b ob,b≠it->s.heap.get? b=some ob->h'.get? b=some ob)->Q none {s with heap:=h'}):wpAny (model prog w) A (pyNext (.ref it)) Q E s:=by
 refine zjW hI hS hn slot rfl (qaW (st _ _ ?_))
 dsimp only
 refine qaW (wpAny_setField_rec hI (by simp) λh1 a1 sb1=> ?_)
 exact zkr (r:=λ_=>True) (it:=it) (s:={s with heap:=h1}) hh λh' k=>q h' λb ob hb e=>k b ob ((sb1.2 b hb).trans e)
end
theorem zc3 {α:Type}: ∀ {l:List α} {i:Nat} {x:α},l[i]? = some x->List.Perm l (x::l.eraseIdx i)
 | [],_,_,e=>by simp at e
 | a::r,0,x,e=>by simp at e;subst e;exact .rfl
 | a::r,i+1,x,e=>by
  have e:r[i]? = some x:=by simpa using e
  exact ((zc3 e).cons a).trans (.swap x a _)
theorem zef {α:Type} {l:List α} {i:Nat} {x:α} (e:l[i]? = some x):(l.eraseIdx i).length+1=l.length:=by
 have:=(zc3 e).length_eq
 rw [qaE] at this
 exact this.symm
theorem zgu {α:Type} (nx:Nat->Nat): ∀ (fuel k:Nat) (left:List α) (out:Array α),left.length=fuel->List.Perm (pickOrder.go nx fuel k left out).toList (out.toList++left)
 | 0,k,left,out,h=>by
  have:left=[]:=length_eq_zero_iff.mp h
  subst this
  simp [pickOrder.go]
 | fuel+1,k,left,out,h=>by
  unfold pickOrder.go
  have hl:nx k % left.length<left.length:=mod_lt _ ⋯
  have e:left[nx k % left.length]? = some left[nx k % left.length]:=by simp [hl]
  rw [e]
  dsimp only
  have hz:=zef e
  refine (zgu nx fuel (k+1) _ _ ⋯).trans ?_
  rw [Array.toList_push,List.append_assoc]
  exact List.Perm.append_left _ (zc3 e).symm
theorem zb5 {α:Type} (nx:Nat->Nat) (xs:Array α):List.Perm (pickOrder nx xs).toList xs.toList:=by
 have:=zgu nx xs.size 0 xs.toList #[] (by simp)
 simpa [pickOrder] using this
section
variable {prog:Program} {w:World} {A:Around} {E:Value->Shared->Prop} {s:Shared}
theorem zje {src:Source} {n:Nat} {Q:Nat->Shared->Prop} (hn:n≠0) (q: ∀ k d,k<n->Q k {s with drawn:=d}):wpAny (model prog w) A (choose src n) Q E s:=λΓ p hΓ=>⟨hn,q _ _ (mod_lt _ (Nat.pos_of_ne_zero hn))⟩
theorem zd9 {α:Type}: ∀ (fuel:Nat) (xs:List α) (s:Shared) (Q:List α->Shared->Prop),xs.length<=fuel->(∀ ys d,List.Perm ys xs->Q ys {s with drawn:=d})->wpAny (model prog w) A (drawOrder fuel xs) Q E s
 | 0,xs,s,Q,h,q=>by
  have:xs=[]:=length_eq_zero_iff.mp ⋯
  subst this
  unfold drawOrder
  exact qaX (q [] s.drawn .rfl)
 | fuel+1,[],s,Q,h,q=>by
  unfold drawOrder
  exact qaX (q [] s.drawn .rfl)
 | fuel+1,x::r,s,Q,h,q=>by
  unfold drawOrder
  refine qaW (zje (by simp) λk d hk=> ?_)
  have e:(x::r)[k]? = some (x::r)[k]:=by simp [hk]
  rw [e]
  dsimp only
  have hz:=zef e
  refine qaW (zd9 fuel ((x::r).eraseIdx k) {s with drawn:=d} _ ⋯ λys d' p=>qaX ?_)
  exact q _ d' ((p.cons _).trans (zc3 e).symm)
theorem zi6 {it a tp:Addr} {n ep i p:Nat} {x:Value} {es:Array (Int×Value)} {tb:SetTable} {ps:Array Value} {Q:Option Value->Shared->Prop} (hI:SIt s.heap it a (.ref tp) i n ep) (hS:zh4 s.heap a es ep tb) (hn:es.size=n)
  (hT:s.heap.get? tp=some {cls:= .type "tuple",data:= .seq ps}) (hp:ps[i]? = some (.int (p:Nat) 0)) (he:(es[p]?).map (·.2)=some x)
  (q: ∀ h',SIt h' it a (.ref tp) (i+1) n ep->Heap.SameBut it s.heap h'->Q (some x) {s with heap:=h'}):wpAny (model prog w) A (pyNext (.ref it)) Q E s:=by
 obtain ⟨ob,ho,hx,hd⟩:=hS.at_
 have tI:s.TypeIs (.ref it) "set_iterator":=⟨_,hI,rfl⟩
 unfold pyNext
 refine qaW (wpAny_attempt (wpAny_callSpecial?_slot (name:=Str.ofString "__next__") tI zaL (wpAny_call_entry zaL tI zca ?_ (zcz _))))
 unfold Builtin.«set_iterator.__next__»
 refine qaW (m:=slotArgs "__next__" 0 _) (qaX ?_)
 refine qaW (m:=fieldsOf (.ref it)) ?_
 unfold fieldsOf
 refine qaW (wpAny_load hI (qaX ?_))
 refine qaW (wpAny_setEntries_of ho hd hS.fits ?_)
 have same: ¬(((es.size:Nat):Int) != (n:Int))=true:=by rw [hn];simp
 rw [qa5 same]
 refine qaW (m:=seqItems? (.ref tp)) ?_
 unfold seqItems?
 refine qaW (wpAny_load hT (qaX ?_))
 dsimp only
 rw [show ((i:Nat):Int).toNat=i from qaB i,hp]
 dsimp only
 refine qaW (m:=setNextDrawn a _ _) ?_
 unfold setNextDrawn
 refine qaW (wpAny_setState_of ho hd hS.fits ?_)
 dsimp only
 rw [show ((ep:Nat):Int).toNat=ep from qaB ep,show ((p:Nat):Int).toNat=p from qaB p,qa5 (by simp)]
 cases ee:es[p]? with
 | none=>rw [ee] at he;cases he
 | some e=>
  rw [ee] at he
  cases he
  dsimp only
  refine qaX ?_
  refine qaW (wpAny_setField_rec hI (by simp) λh2 a2 sb2=> ?_)
  refine qaX ⟨_,rfl,qaX (q h2 ?_ sb2)⟩
  unfold SIt
  rw [a2]
  simp [rawInt]
theorem zkB {it a tp:Addr} {n ep i:Nat} {es:Array (Int×Value)} {tb:SetTable} {ps:Array Value} {Q:Option Value->Shared->Prop} (hh:A.handled=none) (hI:SIt s.heap it a (.ref tp) i n ep) (hS:zh4 s.heap a es ep tb) (hn:es.size=n)
  (hT:s.heap.get? tp=some {cls:= .type "tuple",data:= .seq ps}) (hp:ps[i]? = none)
  (q: ∀ h',(∀ b ob,b≠it->s.heap.get? b=some ob->h'.get? b=some ob)->Q none {s with heap:=h'}):wpAny (model prog w) A (pyNext (.ref it)) Q E s:=by
 obtain ⟨ob,ho,hx,hd⟩:=hS.at_
 have tI:s.TypeIs (.ref it) "set_iterator":=⟨_,hI,rfl⟩
 unfold pyNext
 refine qaW (wpAny_attempt (wpAny_callSpecial?_slot (name:=Str.ofString "__next__") tI zaL (wpAny_call_entry zaL tI zca ?_ (zcz _))))
 unfold Builtin.«set_iterator.__next__»
 refine qaW (m:=slotArgs "__next__" 0 _) (qaX ?_)
 refine qaW (m:=fieldsOf (.ref it)) ?_
 unfold fieldsOf
 refine qaW (wpAny_load hI (qaX ?_))
 refine qaW (wpAny_setEntries_of ho hd hS.fits ?_)
 have same: ¬(((es.size:Nat):Int) != (n:Int))=true:=by rw [hn];simp
 rw [qa5 same]
 refine qaW (m:=seqItems? (.ref tp)) ?_
 unfold seqItems?
 refine qaW (wpAny_load hT (qaX ?_))
 dsimp only
 rw [show ((i:Nat):Int).toNat=i from qaB i,hp]
 dsimp only
 refine qaW (wpAny_setField_rec hI (by simp) λh1 a1 sb1=> ?_)
 refine qaW (wpAny_setField_rec (s:={s with heap:=h1}) a1 (by simp) λh2 a2 sb2=> ?_)
 refine qaZ (zkr (Q:=Q) (E:=E) (r:=λ_=>True) (it:=it) (s:={s with heap:=h2}) hh λh' k=>q h' λb ob hb e=>k b ob ((sb2.2 b hb).trans ((sb1.2 b hb).trans e))) (λf s' ⟨v,e,z⟩=>⟨v,e,qaX z⟩) λe s' z=>z
theorem ze1 {it a:Addr} {first:Value} {i n ep:Nat} {Q:Value->Shared->Prop} (hI:SIt s.heap it a first i n ep) (q:Q (.ref it) s):wpAny (model prog w) A (pyIter (.ref it)) Q E s:=by
 have tI:s.TypeIs (.ref it) "set_iterator":=⟨_,hI,rfl⟩
 refine wpAny_pyIter_slot tI zdC (wpAny_call_entry zdC tI zfb ?_ (zfN _))
 show wpAny _ _ (ret (.ref it)) _ _ _
 exact qaX ⟨_,rfl,"set_iterator",_,tI,zaL.lookup,q⟩
theorem zh4.keep {h h':Heap} {a:Addr} {es:Array (Int×Value)} {ep:Nat} {tb:SetTable} (x:zh4 h a es ep tb) (k: ∀ ob,h.get? a=some ob->h'.get? a=some ob):zh4 h' a es ep tb:=
 ⟨let ⟨ob,h1,h2⟩:=x.at_;⟨ob,k ob h1,h2⟩,x.fits⟩
def zgZ (tb:SetTable):Nat->Nat
 | 0=>0
 | i+1=>tb.place.getD i 0+1
theorem zi9 (hh:A.handled=none) {it a:Addr} {ep:Nat} {es:Array (Int×Value)} {tb:SetTable} (hne:a≠it) (up:Up tb.place) (led:tb.led=true) (bt:w.params.followText "set-order"=false) (pl:(!tb.plain && decide (es.size>1))=false) (hf:tb.fits es.size=true):
  Walks prog w A it [it,a] [it] es.size (λi v=> ∃ e,es.toList[i]? = some e/\v=e.2) (λi h=>SIt h it a (.int (zgZ tb i:Nat) 0) i es.size ep/\zh4 h a es ep tb) where
 sub:=λb hb=>by simp at hb;simp [hb]
 frame:=λi h h' st k=>⟨k it (by simp) _ st.1,st.2.keep λob e=>k a (by simp) ob e⟩
 item:=λi s Q E hi st q=>by
  have pz:=zff hf
  have hi2:i<tb.place.size:=by omega
  have bl:SetTable.below tb.place (zgZ tb i)=i:=by
   cases i with
   | zero=>exact zfj up
   | succ i=>
    have hi3:i<tb.place.size:=by omega
    have e:tb.place[i]? = some (tb.place.getD i 0):=by simp [hi3,Array.getD]
    exact zfk up e
  have ep':tb.place.getD i 0=tb.place[i]:=by simp [hi2,Array.getD]
  refine zjL (nx:=zgZ tb (i+1)) (x:=es[i].2) st.1 st.2 rfl (λR E' r=>zdA st.2 led bt pl ?_) λh' a1 sb=> ?_
  ·rw [bl]
   have e1:es[i]? = some es[i]:=by simp [hi]
   have e2:tb.place[i]? = some tb.place[i]:=by simp [hi2]
   rw [e1,e2]
   show R (some (es[i].2,tb.place[i]+1)) s
   have e3:zgZ tb (i+1)=tb.place[i]+1:=by show tb.place.getD i 0+1=_;rw [ep']
   rw [<- e3]
   exact r
  ·exact q _ h' s.toks ⟨es[i],by simp [hi],rfl⟩ ⟨a1,st.2.keep λob e=>(sb.2 a hne).trans e⟩ λb ob hb e=>(sb.2 b λz=>hb (by simp [z])).trans e
 done:=λs Q E st q=>by
  have pz:=zff hf
  have bl:SetTable.below tb.place (zgZ tb es.size)=es.size:=by
   cases hz:es.size with
   | zero=>exact zfj up
   | succ i=>
    have hi3:i<tb.place.size:=by omega
    have e:tb.place[i]? = some (tb.place.getD i 0):=by simp [hi3,Array.getD]
    exact zfk up e
  refine znP hh st.1 st.2 rfl (λR E' r=>zdA st.2 led bt pl ?_) λh' k=>q h' s.toks λb ob hb e=>k b ob (λz=>hb (by simp [z])) e
  rw [bl]
  have e1:es[es.size]? = none:=by simp
  rw [e1]
  exact r
 self:=λi s Q E st q=>ze1 st.1 q
theorem zjD (hh:A.handled=none) {it a:Addr} {ep:Nat} {es:Array (Int×Value)} {tb:SetTable} (hne:a≠it) (bt:w.params.followText "set-order"=true) (hf:tb.fits es.size=true):
  Walks prog w A it [it,a] [it] es.size (λi v=> ∃ e,(pickOrder (w.params.setOrder a ep) es).toList[i]? = some e/\v=e.2) (λi h=>SIt h it a (.int (0:Nat) 0) i es.size ep/\zh4 h a es ep tb) where
 sub:=λb hb=>by simp at hb;simp [hb]
 frame:=λi h h' st k=>⟨k it (by simp) _ st.1,st.2.keep λob e=>k a (by simp) ob e⟩
 item:=λi s Q E hi st q=>by
  have pz:(pickOrder (w.params.setOrder a ep) es).size=es.size:=by
   have:=(zb5 (w.params.setOrder a ep) es).length_eq
   simpa using this
  have hi2:i<(pickOrder (w.params.setOrder a ep) es).size:=by omega
  refine zjL (nx:=0) (x:=(pickOrder (w.params.setOrder a ep) es)[i].2) st.1 st.2 rfl (λR E' r=>zeg st.2 bt ?_) λh' a1 sb=> ?_
  ·have e1:(pickOrder (w.params.setOrder a ep) es)[i]? = some (pickOrder (w.params.setOrder a ep) es)[i]:=by simp [hi2]
   rw [e1]
   exact r
  ·exact q _ h' s.toks ⟨(pickOrder (w.params.setOrder a ep) es)[i],by simp [hi2],rfl⟩ ⟨a1,st.2.keep λob e=>(sb.2 a hne).trans e⟩ λb ob hb e=>(sb.2 b λz=>hb (by simp [z])).trans e
 done:=λs Q E st q=>by
  have pz:(pickOrder (w.params.setOrder a ep) es).size=es.size:=by
   have:=(zb5 (w.params.setOrder a ep) es).length_eq
   simpa using this
  refine znP hh st.1 st.2 rfl (λR E' r=>zeg st.2 bt ?_) λh' k=>q h' s.toks λb ob hb e=>k b ob (λz=>hb (by simp [z])) e
  have e1:(pickOrder (w.params.setOrder a ep) es)[es.size]? = none:=by simp [pz]
  rw [e1]
  exact r
 self:=λi s Q E st q=>ze1 st.1 q
theorem zjh (hh:A.handled=none) {it a tp:Addr} {ep:Nat} {es:Array (Int×Value)} {tb:SetTable} {ys:List Nat} (hne:a≠it) (hne2:tp≠it) (hp:List.Perm ys (List.range es.size)):
  Walks prog w A it [it,a,tp] [it] es.size (λi v=> ∃ e,(ys.filterMap (es[·]?))[i]? = some e/\v=e.2) (λi h=>SIt h it a (.ref tp) i es.size ep/\zh4 h a es ep tb/\h.get? tp=some {cls:= .type "tuple",data:= .seq (ys.map λ(i:Nat)=>rawInt i).toArray}) where
 sub:=λb hb=>by simp at hb;simp [hb]
 frame:=λi h h' st k=>⟨k it (by simp) _ st.1,st.2.1.keep λob e=>k a (by simp) ob e,k tp (by simp) _ st.2.2⟩
 item:=λi s Q E hi st q=>by
  have hl:ys.length=es.size:=by simpa using hp.length_eq
  have hi2:i<ys.length:=by omega
  have lt: ∀ y∈ys,y<es.size:=λy hy=>by simpa using hp.mem_iff.mp hy
  have lti:=lt _ (getElem_mem hi2)
  have fm: ∀ (zs:List Nat),(∀ y∈zs,y<es.size)-> ∀ (j:Nat) (y:Nat),zs[j]? = some y->(zs.filterMap (es[·]?))[j]? = es[y]? := by
   intro zs
   induction zs with
   | nil=>intro _ j y e;simp at e
   | cons z r ih=>
    intro hz j y e
    have lz:=hz z (.head _)
    rw [List.filterMap_cons_some (b:=es[z]) (by simp [lz])]
    cases j with
    | zero=>simp at e;subst e;simp [lz]
    | succ j=>simpa using ih (λy hy=>hz y (.tail _ hy)) j y (by simpa using e)
  refine zi6 (p:=ys[i]) (x:=es[ys[i]].2) st.1 st.2.1 rfl st.2.2 (by simp [hi2,rawInt]) (by simp [lti]) λh' a1 sb=> ?_
  refine q _ h' s.toks ⟨es[ys[i]],?_,rfl⟩ ⟨a1,st.2.1.keep λob e=>(sb.2 a hne).trans e,(sb.2 tp hne2).trans st.2.2⟩ λb ob hb e=>(sb.2 b λz=>hb (by simp [z])).trans e
  rw [fm ys lt i ys[i] (by simp [hi2])]
  simp [lti]
 done:=λs Q E st q=>by
  have hl:ys.length=es.size:=by simpa using hp.length_eq
  exact zkB hh st.1 st.2.1 rfl st.2.2 (by simp [hl]) λh' k=>q h' s.toks λb ob hb e=>k b ob (λz=>hb (by simp [z])) e
 self:=λi s Q E st q=>ze1 st.1 q
end
section
variable {prog:Program} {w:World} {A:Around} {E:Value->Shared->Prop} {s:Shared}
structure zpC (prog:Program) (w:World) (a it:Addr) (es:Array (Int×Value)) (ord:List (Int×Value)) (fp:List Addr) (St:Nat->Heap->Prop):Prop where
 walks: ∀ A:Around,A.handled=none->Walks prog w A it fp [it] es.size (λi v=> ∃ e,ord[i]? = some e/\v=e.2) St
 perm:List.Perm ord es.toList
 mem:it∈fp
theorem zsW {a:Addr} {S:Int->Bool} {n:Nat} {Q:Value->Shared->Prop} (g:zgc prog w s.heap a S n)
  (q: ∀ it es ep tb ord fp St h' d,(∃ ob,s.heap.get? a=some ob/\ob.ExactSet/\ob.data= .set es ep tb)->zpC prog w a it es ord fp St->St 0 h'->s.heap.objs.size<=it->(∀ b ob,s.heap.get? b=some ob->h'.get? b=some ob)->(∀ b∈fp,b=a\/s.heap.objs.size<=b)->es.size<scanBound->
    Q (.ref it) {s with heap:=h',drawn:=d}):wpAny (model prog w) A (pyIter (.ref a)) Q E s:=by
 obtain ⟨ob,es,ep,tb,⟨h1,h2,h3⟩,h4,h5,⟨h6,h7,h8⟩,h9⟩:=g
 have tS:s.TypeIs (.ref a) "set":=⟨ob,h1,h2.1⟩
 have lta:a<s.heap.objs.size:=qaQ h1
 refine wpAny_pyIter_slot tS F.slot_set_iter (wpAny_call_entry F.slot_set_iter tS ze9 ?_ (F.args_set_iter_1 _))
 unfold Builtin.«frozenset.__iter__»
 refine qaW (m:=Builtin.Frozenset.slot0 "__iter__" _) (qaX ?_)
 refine qaW (m:=Builtin.Frozenset.sizeOf a) ?_
 unfold Builtin.Frozenset.sizeOf
 refine qaW (wpAny_setEntries_of h1 h3 h7 (qaX ?_))
 refine qaW (m:=setDrawn a) ?_
 unfold setDrawn
 refine qaW (wpAny_setState_of h1 h3 h7 ?_)
 dsimp only
 unfold setsByText
 refine qaW (qaW (wpAny_askSetting (qaX (qaX ?_))))
 dsimp only
 have sobj: ∀ {h':Heap},(∀ b ob,s.heap.get? b=some ob->h'.get? b=some ob)->zh4 h' a es ep tb:=λk=>⟨⟨ob,k _ _ h1,h2,h3⟩,h7⟩
 by_cases dr:(!(model prog w).w.params.followText "set-order" && (!tb.plain && decide (es.size>1)))=true
 ·show wpAny _ _ (if (!(model prog w).w.params.followText "set-order" && (!tb.plain && decide (es.size>1)))=true then _ else _) _ _ _
  rw [qa4 dr]
  refine qaW (zd9 es.size (List.range es.size) s _ (by simp) λys d hp=> ?_)
  have hl:ys.length=es.size:=by simpa using hp.length_eq
  have small:es.size<=sizeLine:=fits_of_scanBound h6
  refine qaW ?_
  unfold newTuple
  refine qaC ?_ (by show (ys.map λ(i:Nat)=>rawInt i).toArray.size<=sizeLine;simp [hl];exact small)
  unfold setEpoch
  refine qaW (qaW (wpAny_setState_of (s:={s with heap:=_,drawn:=d}) (qag _ h1) h3 h7 (qaX ?_)))
  dsimp only
  refine qaW (qaC (qaX ⟨_,rfl,"set_iterator",_,⟨_,qar _ rfl,rfl⟩,zaL.lookup,?_⟩))
  have z1:(s.heap.push {cls:= .type "tuple",dict:=none,data:= .seq (ys.map λ(i:Nat)=>rawInt i).toArray}).objs.size=s.heap.objs.size+1:=qaL ..
  have kp: ∀ (o2:Obj) b ob,s.heap.get? b=some ob->((s.heap.push {cls:= .type "tuple",dict:=none,data:= .seq (ys.map λ(i:Nat)=>rawInt i).toArray}).push o2).get? b=some ob:=λo2 b ob e=>qag _ (qag _ e)
  refine q _ es ep tb (ys.filterMap (es[·]?)) [(s.heap.push {cls:= .type "tuple",dict:=none,data:= .seq (ys.map λ(i:Nat)=>rawInt i).toArray}).objs.size,a,s.heap.objs.size] _ _ d ⟨ob,h1,h2,h3⟩ ⟨λA' hA=>zjh (tb:=tb) (ep:=ep) hA ?_ ?_ hp,?_,.head _⟩ ⟨?_,sobj (kp _),?_⟩ ?_ (kp _) (λb hb=> ?_) h6
  ·rw [z1];exact qaR (lt_succ_of_lt lta)
  ·rw [z1];exact qaR (Nat.lt_succ_self _)
  ·refine (hp.filterMap _).trans ?_
   rw [filterMap_getElem?_range]
  ·exact qar _ rfl
  ·exact qag _ (qar _ rfl)
  ·rw [z1];exact le_succ _
  ·simp only [qaP,qaF,or_false] at hb
   rcases hb with z | z | z
   ·right;rw [z,z1];exact le_succ _
   ·exact .inl z
   ·right;rw [z];exact qaV _
 ·show wpAny _ _ (if (!(model prog w).w.params.followText "set-order" && (!tb.plain && decide (es.size>1)))=true then _ else _) _ _ _
  rw [qa5 dr]
  refine qaW (qaX ?_)
  unfold setEpoch
  refine qaW (qaW (wpAny_setState_of h1 h3 h7 (qaX ?_)))
  dsimp only
  refine qaW (qaC (qaX ⟨_,rfl,"set_iterator",_,⟨_,qar _ rfl,rfl⟩,zaL.lookup,?_⟩))
  have kp: ∀ (o2:Obj) b ob,s.heap.get? b=some ob->(s.heap.push o2).get? b=some ob:=λo2 b ob e=>qag _ e
  have fpl: ∀ b∈[s.heap.objs.size,a],b=a\/s.heap.objs.size<=b:=λb hb=>by
   simp only [qaP,qaF,or_false] at hb
   rcases hb with z | z
   ·right;rw [z];exact qaV _
   ·exact .inl z
  cases bt:w.params.followText "set-order" with
  | true=>
   exact q _ es ep tb _ [s.heap.objs.size,a] _ _ s.drawn ⟨ob,h1,h2,h3⟩ ⟨λA' hA=>zjD (tb:=tb) (ep:=ep) hA (qaR lta) bt h7,zb5 _ _,.head _⟩ ⟨qar _ rfl,sobj (kp _)⟩ (qaV _) (kp _) fpl h6
  | false=>
   have pl:(!tb.plain && decide (es.size>1))=false:=by
    rw [show (model prog w).w.params.followText "set-order"=false from bt] at dr
    simpa using dr
   have led:tb.led=true:=by
    rw [h9.led]
    unfold zcA
    rw [bt]
    rfl
   exact q _ es ep tb _ [s.heap.objs.size,a] _ _ s.drawn ⟨ob,h1,h2,h3⟩ ⟨λA' hA=>zi9 (tb:=tb) (ep:=ep) hA (qaR lta) h9.up led bt pl h7,.rfl,.head _⟩ ⟨qar _ rfl,sobj (kp _)⟩ (qaV _) (kp _) fpl h6
theorem zmq {a:Addr} {S:Int->Bool} {n:Nat} {Q:List Value->Shared->Prop} (hh:A.handled=none) (g:zgc prog w s.heap a S n)
  (q: ∀ vs s' es ep tb,(∃ ob,s.heap.get? a=some ob/\ob.ExactSet/\ob.data= .set es ep tb)->List.Perm vs (es.toList.map (·.2))->(∀ b ob,s.heap.get? b=some ob->s'.heap.get? b=some ob)->s'.gens=s.gens->s'.os=s.os->Q vs s'):wpAny (model prog w) A (collect (.ref a)) Q E s:=by
 have tS: ∀ {h':Heap} {s':Shared},s'.heap=h'->(∀ b ob,s.heap.get? b=some ob->h'.get? b=some ob)->s'.TypeIs (.ref a) "set":=λ{h' s'} e k=>by
  obtain ⟨ob,es,ep,tb,⟨h1,h2,h3⟩,_⟩:=g
  exact ⟨ob,by rw [e];exact k _ _ h1,h2.1⟩
 have lta:a<s.heap.objs.size:=by
  obtain ⟨ob,es,ep,tb,⟨h1,h2,h3⟩,_⟩:=g
  exact qaQ h1
 unfold collect
 refine qaW (wpAny_runValue (codeAny_builtin F.entry_proto_collect ?_))
 rw [qap F.plain_proto_collect _]
 show wpAny _ _ (newList []>>=λl=>again (.builtin "list.__iadd__" ⟨[l,.ref a],[]⟩)) _ _ _
 refine qaW (qaC (qaX ⟨plainId_quiet F.plain_list_iadd _,codeAny_builtin F.entry_list_iadd ?_⟩))
 rw [qap F.plain_list_iadd _]
 show wpAny _ _ (Builtin.List.listExtendWith (.ref s.heap.objs.size) (.ref a) (.ref s.heap.objs.size)) _ _ _
 unfold Builtin.List.listExtendWith
 have k1: ∀ b ob,s.heap.get? b=some ob->(s.heap.push {cls:= .type "list",data:= .seq ([]:List Value).toArray}).get? b=some ob:=λb ob e=>qag _ e
 refine qaW (wpAny_typeOf (tS rfl k1) ?_)
 have nsame:Builtin.List.listSameRef (.ref s.heap.objs.size) (.ref a)=false:=by
  simp only [Builtin.List.listSameRef,beq_eq_false_iff_ne]
  exact λz=>qaN _ (z▸lta)
 have nl:(Value.type "set"==Value.type "list")=false:=by decide
 have nt:(Value.type "set"==Value.type "tuple")=false:=by decide
 simp only [nsame,nl,nt,Bool.or_false,qax,if_false]
 refine qaW (zsW (g.move (λob e=>k1 _ _ e) (λ_=>rfl) rfl) λit es ep tb ord fp St h2 d hob W st0 lit k2 fpl few=> ?_)
 refine qaW (qaO ?_)
 unfold Builtin.List.listLengthHint
 have k12: ∀ b ob,s.heap.get? b=some ob->h2.get? b=some ob:=λb ob e=>k2 b ob (k1 b ob e)
 refine qaW (wpAny_specialOf (tS rfl k12) F.slot_set_len.lookup ?_)
 have sp:splitId "set.__len__"=some ("set","__len__"):=by decide +kernel
 dsimp only
 rw [sp]
 dsimp only
 refine qaW (wpAny_isInstance (tS rfl k12) sub_set_self ?_)
 rw [qa5 (by decide)]
 rw [qa4 ⋯]
 refine qaW (wpAny_typeOf (tS rfl k12) (qaX ?_))
 rw [qa4 ⋯]
 refine qaW (wpAny_rule ?_)
 have l2:h2.get? s.heap.objs.size=some {cls:= .type "list",data:= .seq ([]:List Value).toArray}:=k2 _ _ (qar _ rfl)
 refine qaW ?_
 unfold Builtin.List.listTouch
 show wpAny _ _ (updateSeq s.heap.objs.size (·.push .none)>>=λ_=>updateSeq s.heap.objs.size (·.pop)) _ _ _
 refine qaW (wpAny_updateSeq l2 rfl ?_)
 have l3:=qal (Obj.mapSeq (·.push Value.none)) l2 rfl
 refine wpAny_updateSeq l3 rfl ?_
 have l4:=qal (Obj.mapSeq (·.pop)) l3 rfl
 have oth: ∀ b ob,b≠s.heap.objs.size->h2.get? b=some ob->((h2.update s.heap.objs.size (Obj.mapSeq (·.push Value.none))).update s.heap.objs.size (Obj.mapSeq (·.pop))).get? b=some ob:=λb ob hb e=>
  (qah _ _ (Ne.symm hb)).trans ((qah _ _ (Ne.symm hb)).trans e)
 have nfp:s.heap.objs.size∉fp:=λz=>by
  rcases fpl _ z with z | z
  ·exact qaN _ (z▸lta)
  ·rw [show ({s with heap:=s.heap.push {cls:= .type "list",data:= .seq ([]:List Value).toArray}}:Shared).heap.objs.size=s.heap.objs.size+1 from qaL ..] at z
   exact qaN _ z
 have fin: ∀ (s':Shared) (vs:Array Value) (c:Nat),(∀ b ob,s.heap.get? b=some ob->s'.heap.get? b=some ob)->s'.gens=s.gens->s'.os=s.os->s'.heap.get? s.heap.objs.size=some {cls:= .type "list",dict:=none,data:= .seq vs c,slots:= #[]}->ItemsOf (λi v=> ∃ e,ord[i]? = some e/\v=e.2) vs es.size->
   wpAny (model prog w) A (load s.heap.objs.size>>=λo=>match o.data with | .seq xs _=>pure xs.toList | _=>unsupported "internal:collect") Q E s':=λs' vs c k g1 g2 e it1=>by
  refine qaW (wpAny_load e (qaX (q vs.toList s' es ep tb ?_ ?_ k g1 g2)))
  ·obtain ⟨ob,o1,o2⟩:=hob
   obtain ⟨ob',es',ep',tb',⟨p1,p2,p3⟩,_⟩:=g
   have:=k1 _ _ p1
   rw [o1] at this
   cases this
   exact ⟨ob,p1,o2⟩
  ·have hl:ord.length=es.size:=by simpa using W.perm.length_eq
   have e2:vs.toList=ord.map (·.2):=by
    apply List.ext_getElem?
    intro i
    by_cases hi:i<es.size
    ·have hv0:i<vs.size:=by rw [it1.1];exact hi
     have hv:vs[i]? = some vs[i]:=by simp [hv0]
     obtain ⟨e,e1,e2⟩:=it1.2 i _ hv
     rw [List.getElem?_map,e1,Array.getElem?_toList,hv,e2]
     rfl
    ·rw [List.getElem?_eq_none (by simp [it1.1];omega),List.getElem?_eq_none (by simp [hl];omega)]
   rw [e2]
   exact W.perm.map _
 have Wk:=(W.walks A.in1 hh).toS
 refine qaX ⟨plainId_quiet F.plain_extend_loop _,codeAny_extend_loopS Wk ?_ _ nfp _ es.size 0 _ _ _ rfl (zero_le _) ?_ l4 (ItemsOf.nil _) λs' vs c mv e it1=> ?_⟩
 ·exact fits_of_scanBound few
 ·exact (W.walks A.in1 hh).frame 0 h2 _ st0 λb hb ob e=>oth b ob (λz=>nfp (z▸hb)) e
 ·refine fin s' vs c (λb ob e'=>mv.heap b ob ?_ (oth b ob ?_ (k12 b ob e'))) mv.gens mv.os e it1
  ·intro z
   rcases qaP.mp z with z | z
   ·exact qaN _ (z▸qaQ e')
   ·simp only [qaP,qaF,or_false] at z
    have:=qaQ e'
    rw [z] at this
    exact qaN _ (qaw this (qaS (by rw [qaL];exact le_succ _) lit))
  ·exact λz=>qaN _ (z▸qaQ e')
end
def znn (x:Int):List Int->List Int
 | []=>[x]
 | y::r=>if x<=y then x::y::r else y::znn x r
def zcm:List Int->List Int
 | []=>[]
 | x::r=>znn x (zcm r)
theorem zeZ (x:Int): ∀ l:List Int,List.Perm (znn x l) (x::l)
 | []=> .rfl
 | y::r=>by
  unfold znn
  split
  ·exact .rfl
  ·exact ((zeZ x r).cons y).trans (.swap x y r)
theorem zmQ {x z:Int} {l:List Int}:z∈znn x l↔z=x\/z∈l:=by rw [(zeZ x l).mem_iff,qaP]
theorem zkf (x:Int): ∀ l:List Int,l.Pairwise (· <= ·)->(znn x l).Pairwise (· <= ·)
 | [],_=>by unfold znn;simp
 | y::r,h=>by
  obtain ⟨h1,h2⟩:=qay.mp h
  unfold znn
  split
  ·rename_i hxy
   refine qay.mpr ⟨λz hz=> ?_,h⟩
   rcases qaP.mp hz with e | hz
   ·rw [e];exact hxy
   ·exact Int.le_trans hxy (h1 z hz)
  ·rename_i hxy
   refine qay.mpr ⟨λz hz=> ?_,zkf x r h2⟩
   rcases zmQ.mp hz with e | hz
   ·rw [e];omega
   ·exact h1 z hz
theorem zaW: ∀ l:List Int,List.Perm (zcm l) l
 | []=> .rfl
 | x::r=>(zeZ x _).trans ((zaW r).cons x)
theorem zdJ: ∀ l:List Int,(zcm l).Pairwise (· <= ·)
 | []=> .nil
 | x::r=>zkf x _ (zdJ r)
theorem zf7 {a b:List Int} (hp:a.Perm b) (h:a.Pairwise (· <= ·)):a=zcm b:=W.ksm_same (hp.trans (zaW b).symm) h (zdJ b)
def zhc (ns:List Int):List Int:=zcm (ns.foldl step_dedup [])
theorem zlC (ns:List Int): ∀ (acc:List Int) (k:Int),(ns.foldl step_dedup acc).any (· == k)=(acc.any (· == k) || ns.any (· == k)):=by
 induction ns with
 | nil=>intro acc k;simp
 | cons x r ih=>
  intro acc k
  rw [List.foldl_cons,ih,step_any]
  simp only [any_cons]
  have:(x==k)=decide (k=x):=by
   by_cases h:k=x
   ·subst h;simp
   ·have h': ¬x=k:=λe=>h e.symm
    simp [h,h']
  rw [this,Bool.or_assoc]
theorem zgk {ns:List Int} {k:Int}:k∈ns.foldl step_dedup []↔k∈ns:=by
 have:=zlC ns [] k
 simp only [List.any_nil,Bool.false_or] at this
 have e: ∀ l:List Int,k∈l↔(l.any λx=>x==k)=true:=λl=>by
  rw [any_eq_true]
  constructor
  ·exact λh=>⟨k,h,by simp⟩
  ·rintro ⟨x,h,c⟩
   have c:x=k:=by simpa using c
   rw [<- c]
   exact h
 rw [e,e,this]
theorem zdv (ns:List Int): ∀ acc:List Int,acc.Nodup->(ns.foldl step_dedup acc).Nodup:=by
 induction ns with
 | nil=>intro acc h;exact h
 | cons x r ih=>
  intro acc h
  refine ih _ ?_
  unfold step_dedup
  split
  ·exact h
  ·rename_i hx
   rw [List.nodup_append]
   refine ⟨h,by simp,λa ha b hb=> ?_⟩
   simp only [mem_singleton] at hb
   subst hb
   intro e
   subst e
   exact hx (any_eq_true.mpr ⟨a,ha,by simp⟩)
theorem ziC {ns:List Int} {k:Int}:k∈zhc ns↔k∈ns:=by unfold zhc;rw [(zaW _).mem_iff,zgk]
theorem zkO (ns:List Int):(zhc ns).Pairwise (· < ·):=by
 have h1:=zdJ (ns.foldl step_dedup [])
 have h2:(zhc ns).Nodup:=(zaW _).nodup_iff.mpr (zdv ns [] List.nodup_nil)
 exact (List.Pairwise.and h1 h2).imp λ⟨a,b⟩=>by omega
theorem zeD (ns:List Int):firstMet (λi=>ns.getD i 0) ns.length=ns.foldl step_dedup []:=by
 unfold firstMet
 congr 1
 apply List.ext_getElem?
 intro i
 by_cases hi:i<ns.length
 ·simp [hi,List.getD]
 ·rw [List.getElem?_eq_none (by simp;omega),List.getElem?_eq_none ⋯]
theorem zeJ: ∀ {fm ms:List Int},fm.Nodup->(∀ k,k∈fm->k∈ms)->ms.length<=fm.length->List.Perm ms fm
 | [],ms,_,_,h=>by
  have:ms=[]:=length_eq_zero_iff.mp (by simpa using h)
  subst this
  exact .rfl
 | x::r,ms,nd,hm,h=>by
  obtain ⟨n1,n2⟩:=nodup_cons.mp nd
  have hx:=hm x (.head _)
  have p:=List.perm_cons_erase hx
  have hl:=p.length_eq
  rw [qaE] at hl h
  refine p.trans ((zeJ n2 (λk hk=> ?_) ⋯).cons x)
  have hne:k≠x:=λe=>n1 (e▸hk)
  rcases qaP.mp (p.mem_iff.mp (hm k (.tail _ hk))) with e | e
  ·exact absurd e hne
  ·exact e
section
variable {prog:Program} {w:World} {A:Around} {E:Value->Shared->Prop} {s:Shared}
theorem zgH {l l':List Value} {ns:List Int} (p:List.Perm l l') (h:IntsAre l' ns): ∃ ms,IntsAre l ms/\List.Perm ms ns:=by
 induction p generalizing ns with
 | nil=>exact ⟨ns,h,.rfl⟩
 | cons x _ ih=>
  cases h with
  | cons n t h=>
   obtain ⟨ms,h1,h2⟩:=ih h
   exact ⟨n::ms,.cons n t h1,h2.cons n⟩
 | swap x y l=>
  cases h with
  | cons n t h=>
   cases h with
   | cons n' t' h=>exact ⟨n'::n::_,.cons n' t' (.cons n t h),.swap _ _ _⟩
 | trans _ _ ih1 ih2=>
  obtain ⟨ms,h1,h2⟩:=ih2 h
  obtain ⟨ms',h3,h4⟩:=ih1 h1
  exact ⟨ms',h3,h4.trans h2⟩
theorem zfr: ∀ {es:List (Int×Value)},ElemsOf (intKind prog w) es-> ∃ ms,IntsAre (es.map (·.2)) ms/\ ∀ k,k∈ms↔ ∃ e∈es,(intKind prog w).is k e.2=true
 | [],_=>⟨[],.nil,λk=>by simp⟩
 | e::r,h=>by
  obtain ⟨ms,h1,h2⟩:=zfr (ElemsOf.tail h)
  obtain ⟨⟨k,hk,_⟩,_⟩:=ElemsOf.head h
  obtain ⟨t,ht⟩:=Value.isInt_shape (k:=k) (v:=e.2) hk
  refine ⟨k::ms,by rw [qaM,ht];exact .cons k t h1,λz=> ?_⟩
  rw [qaP,h2 z]
  constructor
  ·rintro (c | ⟨e',c1,c2⟩)
   ·exact ⟨e,.head _,by rw [c];exact hk⟩
   ·exact ⟨e',.tail _ c1,c2⟩
  ·rintro ⟨e',c1,c2⟩
   rcases qaP.mp c1 with c | c
   ·subst c;exact .inl ((intKind prog w).inj _ _ _ c2 hk)
   ·exact .inr ⟨e',c,c2⟩
theorem zeH {x:Value} {Q:Value->Shared->Prop} (hc: ∀ E':Value->Shared->Prop,wpAny (model prog w) A.in1 (collect x) (λvs s1=> ∃ ns,IntsAre vs ns/\vs.length<64/\ ∀ out e h',IntsAre out (zcm ns)->(∀ b ob,s1.heap.get? b=some ob->h'.get? b=some ob)->
      h'.get? s1.heap.objs.size=some (seqObj "list" out.toArray e)->Q (.ref s1.heap.objs.size) {s1 with heap:=h'}) E' s):wpAny (model prog w) A (call (.builtin "sorted") [x]) Q E s:=by
 refine Calls.call_function_entry kind_sorted plain_sorted entry_sorted (args_sorted1 _) ?_
 unfold Builtin.«sorted»
 refine qaW (m:=checkCount "sorted" 1 1 _) (qaX ?_)
 refine qaW (m:=collect x) (qaZ (hc _) (λvs s1 ⟨ns,hI,h64,q⟩=> ?_) λ_ _ z=>z)
 have small:vs.length<=sizeLine:=qaS (le_of_lt h64) (by decide)
 refine qaW (wpAny_newList ?_ small)
 have at0:(s1.heap.push {cls:= .type "list",data:= .seq vs.toArray}).get? s1.heap.objs.size=some (seqObj "list" vs.toArray 0):=qar _ rfl
 refine qaW (qaO (wpAny_call_entry slot_list_sort ⟨_,at0,rfl⟩ entry_list_sort (list_sort_tree (s:={s1 with heap:=s1.heap.push {cls:= .type "list",data:= .seq vs.toArray}}) at0 hI h64 λout ns' a1 a2 a3=>⟨_,rfl,?_⟩) (args_list_sort _)))
 obtain ⟨e,he⟩:=sortedHeap_at (out:=out) at0
 refine qaX ⟨_,rfl,q out.toList e _ ?_ (λb ob eb=> ?_) (by simpa using he)⟩
 ·rw [<- zf7 a2 a3];exact a1
 ·have lt:=qaQ eb
  rw [sortedHeap_old (qaR lt) (by rw [qaL];exact lt_succ_of_lt lt)]
  exact qag _ eb
theorem zht {l:Addr} {vs:List Value} {Q:List Value->Shared->Prop} (hl:s.heap.IsTuple l vs.toArray) (small:vs.length<=sizeLine)
  (q: ∀ h',(∀ b ob,s.heap.get? b=some ob->h'.get? b=some ob)->Q vs {s with heap:=h'}):wpAny (model prog w) A (collect (.ref l)) Q E s:=by
 obtain ⟨ob,ho,hc,n,hd⟩:=id hl
 unfold collect
 refine qaW (wpAny_runValue (codeAny_builtin F.entry_proto_collect ?_))
 rw [qap F.plain_proto_collect _]
 show wpAny _ _ (newList []>>=λd=>again (.builtin "list.__iadd__" ⟨[d,.ref l],[]⟩)) _ _ _
 refine qaW (qaC (qaX ⟨plainId_quiet F.plain_list_iadd _,codeAny_builtin F.entry_list_iadd ?_⟩))
 rw [qap F.plain_list_iadd _]
 show wpAny _ _ (Builtin.List.listExtendWith (.ref s.heap.objs.size) (.ref l) (.ref s.heap.objs.size)) _ _ _
 unfold Builtin.List.listExtendWith
 have ho':(s.heap.push {cls:= .type "list",data:= .seq ([]:List Value).toArray}).get? l=some ob:=qag _ ho
 have d0:(s.heap.push {cls:= .type "list",data:= .seq ([]:List Value).toArray}).get? s.heap.objs.size=some (seqObj "list" #[] 0):=qar _ rfl
 refine qaW (wpAny_typeOf (T:="tuple") ⟨ob,ho',hc⟩ ?_)
 rw [qa4 (by simp)]
 refine qaW (listItems_at ho' hd ?_)
 refine qaW (listItems_at d0 rfl ?_)
 rw [qa5 (by simp)]
 refine qaW (listUpdate_at (xs:= #[]) (n:=0) d0 rfl ?_ (zero_le _) (by show (#[]++vs.toArray).size<=sizeLine+1;simp;omega))
 refine qaX ?_
 show wpAny _ _ (load s.heap.objs.size>>=λo=>match o.data with | .seq xs _=>pure xs.toList | _=>unsupported "internal:collect") _ _ _
 refine qaW (wpAny_load (get?_update_seq d0 _) ?_)
 have z:=q ((s.heap.push {cls:= .type "list",data:= .seq ([]:List Value).toArray}).update s.heap.objs.size (Obj.mapSeq λx=>x++vs.toArray)) λb ob e=>(qah _ _ (λz=>qaN _ (z▸qaQ e))).trans (qag _ e)
 show wpAny _ _ (pure ((#[]:Array Value)++vs.toArray).toList) _ _ _
 rw [show ((#[]:Array Value)++vs.toArray).toList=vs by simp]
 exact qaX z
end
end LT
namespace L2
open LT
section
variable {X:Cx}
def zkP (P:Program) (w:World) (p:Addr) (ns:List Int):HO:= .ext λh=>zgc P w h p (λz=>(ns.foldl step_dedup []).any (· == z)) (ns.foldl step_dedup []).length
theorem zkS (ns:List Int):(ns.foldl step_dedup []).length<=ns.length:=by
 rw [<- zeD]
 exact firstMet_length_le _ _
theorem zka (hc:X.calm=true):zaO X (.type "set") (λxs H Q=> ∃ (a:Addr) (ns:List Int),xs=[.ref a]/\(SqL X.K H a (ns.map V.int)\/SqT X.K H a (ns.map V.int))/\ns.length<4000/\ ∀ p,H p=none->Q (.ref p) (upd H p (zkP X.prog X.w p ns))):=by
 intro pins s σ H xs us Q I r h
 obtain ⟨a,ns,rfl,hq,hl,q⟩:=h
 obtain ⟨u,rfl,rx⟩:=zcX r
 cases rx
 have fin: ∀ (items:Array Value),items.size=ns.length-> ∀ (h':Heap) (tk:Nat),zgc X.prog X.w h' s.heap.objs.size (λz=>(firstMet (λi=>ns.getD i 0) items.size).any (· == z)) (firstMet (λi=>ns.getD i 0) items.size).length->(∀ b ob,s.heap.get? b=some ob->h'.get? b=some ob)->
   EP X pins σ Q (.ref s.heap.objs.size) {s with heap:=h',toks:=tk}:=λitems hz h' tk g k=>by
  rw [hz,zeD] at g
  refine ⟨.ref s.heap.objs.size,_,I.laid (t':=tk) (o:=zkP X.prog X.w s.heap.objs.size ns) k (qaV _) ⟨g,?_,λh1 h2 z e=>z.move e (λ_=>rfl) rfl⟩,rfl,q _ (I.hok.fresh (qaV _))⟩
  obtain ⟨ob,es,ep,tb,⟨h1,_⟩,_⟩:=g
  exact ⟨ob,h1⟩
 have room:ns.length+1<scanBound:=by
  have:scanBound=4096:=rfl
  omega
 rcases hq with hq | hq
 ·obtain ⟨its,r',pl,_⟩:=I.list hq
  have hz:its.toArray.size=ns.length:=by rw [qaA, <-r'.length,qaH]
  exact ztP (I.ok.hd hc) (.inl ⟨rfl,pl.isList⟩) (by simpa using zck r') (by rw [hz];exact room) λh' tk g k=>fin _ hz h' tk g k
 ·obtain ⟨its,r',pl,_⟩:=I.tuple hq
  have hz:its.toArray.size=ns.length:=by rw [qaA, <-r'.length,qaH]
  exact ztP (I.ok.hd hc) (.inr ⟨rfl,pl⟩) (by simpa using zck r') (by rw [hz];exact room) λh' tk g k=>fin _ hz h' tk g k
theorem Inv.grown {pins:List (Addr×Obj)} {σ:St} {H:Hp} {s s':Shared} (I:Inv X pins σ H s) (ho:s'.os=s.os) (hg:s'.gens=s.gens) (k: ∀ b ob,s.heap.get? b=some ob->s'.heap.get? b=some ob):Inv X pins σ H s':=
 I.call' (ch:=[]) ho (Un.kept k) (I.hok.kept k) (by rw [hg];exact I.bare) λb z=>nomatch z
theorem zm6 {out:List Value} {ms:List Int} (h:IntsAre out ms):za7 (ms.map V.int) out:=zeO h
theorem zeh (hc:X.calm=true):zaO X (.builtin "sorted") (λxs H Q=> ∃ (p:Addr) (ns:List Int),xs=[.ref p]/\((((ns.foldl step_dedup []).length<64/\H p=some (zkP X.prog X.w p ns))/\ ∀ l,H l=none->Q (.ref l) (upd H l (.lst ((zhc ns).map V.int))))\/
    ((ns.length<64/\(SqL X.K H p (ns.map V.int)\/SqT X.K H p (ns.map V.int)))/\ ∀ l,H l=none->Q (.ref l) (upd H l (.lst ((zcm ns).map V.int)))))):=by
 intro pins s σ H xs us Q I r h
 obtain ⟨p,ns,rfl,h⟩:=h
 obtain ⟨u,rfl,rx⟩:=zcX r
 cases rx
 have fin: ∀ (s1:Shared) (ms:List Int),ms.length<=64->(∀ b ob,s.heap.get? b=some ob->s1.heap.get? b=some ob)->s1.gens=s.gens->s1.os=s.os->(∀ l,H l=none->Q (.ref l) (upd H l (.lst ((zcm ms).map V.int))))-> ∀ out e h',IntsAre out (zcm ms)->(∀ b ob,s1.heap.get? b=some ob->h'.get? b=some ob)->
   h'.get? s1.heap.objs.size=some (seqObj "list" out.toArray e)->EP X pins σ Q (.ref s1.heap.objs.size) {s1 with heap:=h'}:=λs1 ms hm k g1 o1 q out e h' hi k2 e2=>by
  have I1:=I.grown o1 g1 k
  refine ⟨.ref s1.heap.objs.size,_,I1.laid (t':=s1.toks) (o:= .lst ((zcm ms).map V.int)) k2 (qaV _) ⟨?_,out,e,zm6 hi,e2⟩,rfl,q _ (I1.hok.fresh (qaV _))⟩
  rw [qaH,(zaW ms).length_eq]
  exact qaS hm (by decide)
 rcases h with ⟨⟨hl,hs⟩,q⟩ | ⟨⟨hl,hq⟩,q⟩
 ·obtain ⟨g,_⟩:=(show zbZ X.prog X.w H s.heap p (zkP X.prog X.w p ns) from I.hok p _ hs)
  refine zeH λE'=>zmq (show X.A.in1.handled=none from I.ok.hd hc) g λvs s1 es ep tb hob pv k g1 o1=> ?_
  obtain ⟨ob',es',ep',tb',⟨a1,a2,a3⟩,h4,h5,⟨h6,h7,h8⟩,h9⟩:=g
  obtain ⟨ob,b1,b2,b3⟩:=hob
  rw [a1] at b1
  cases b1
  rw [a3] at b3
  cases b3
  obtain ⟨ms,m1,m2⟩:=zfr h4
  obtain ⟨ms',m3,m4⟩:=zgH pv m1
  have len:ms.length=(ns.foldl step_dedup []).length:=by
   rw [<- m1.length,qaH,qas]
   exact h8
  have pm:List.Perm ms (ns.foldl step_dedup []):=zeJ (zdv ns [] List.nodup_nil) (λz hz=>by
    rw [m2 z, <-h5 z]
    exact any_eq_true.mpr ⟨z,hz,by simp⟩) (le_of_eq len)
  have es1:zcm ms'=zhc ns:=by
   unfold zhc
   exact zf7 ((zaW ms').trans (m4.trans pm)) (zdJ ms')
  have lm:ms'.length<64:=by
   rw [m4.length_eq,len]
   exact hl
  refine ⟨ms',m3,by rw [m3.length];omega,λout e h' hi k2 e2=> ?_⟩
  exact fin s1 ms' ⋯ k g1 o1 (by rw [es1];exact q) out e h' hi k2 e2
 ·rcases hq with hq | hq
  ·obtain ⟨its,r',pl,hz⟩:=I.list hq
   have hi:=zck r'
   have lz:its.length=ns.length:=by rw [<- r'.length,qaH]
   refine zeH λE'=>collect_list pl.isList ?_ (by rw [lz, <-qaH (f:=V.int)];exact hz)
   refine ⟨ns,hi,⋯,λout e h' hi2 k2 e2=> ?_⟩
   refine fin {s with heap:=(s.heap.push (seqObj "list" #[] 0)).update s.heap.objs.size (Obj.mapSeq λx=>x++its.toArray)} ns ⋯ (λb ob eb=> ?_) rfl rfl q out e h' hi2 k2 e2
   exact (qah _ _ (λz=>qaN _ (z▸qaQ eb))).trans (qag _ eb)
  ·obtain ⟨its,r',pl,hz⟩:=I.tuple hq
   have hi:=zck r'
   have lz:its.length=ns.length:=by rw [<- r'.length,qaH]
   refine zeH λE'=>zht pl (by rw [lz, <-qaH (f:=V.int)];exact hz) λh1 k1=> ?_
   refine ⟨ns,hi,⋯,λout e h' hi2 k2 e2=> ?_⟩
   exact fin {s with heap:=h1} ns ⋯ k1 rfl rfl q out e h' hi2 k2 e2
theorem zjZ (hc:X.calm=true):zaO X (.builtin "all") (λxs H Q=> ∃ (a:Addr) (bs:List Bool),xs=[.ref a]/\SqL X.K H a (bs.map V.bl)/\Q (.bl (bs.all id)) H):=by
 intro pins s σ H xs us Q I r h
 obtain ⟨a,bs,rfl,hq,q⟩:=h
 obtain ⟨u,rfl,rx⟩:=zcX r
 cases rx
 obtain ⟨its,r',pl,hz⟩:=I.list hq
 have hlt:a<s.heap.objs.size:=by obtain ⟨_,e,_⟩:=pl.isList;exact qaQ e
 refine call_all_walk (wpAny_pyIter_list pl.isList ?_)
 refine ⟨s.heap.objs.size,[s.heap.objs.size,a],[s.heap.objs.size],its.toArray.size,_,_,λi=>(bs[i]?).getD true,rfl,Walks.list (A:=X.A.in1) (I.ok.hd hc) _ a (qaR hlt) its.toArray,⟨⟨_,qar _ rfl,rfl,rfl⟩,pl.isList.push _⟩,λi v s' Q' E' hP hQ=> ?_,λh' tk hk=> ?_⟩
 ·have hv:its[i]? = some v:=by simpa using hP
  obtain ⟨hi,_⟩:=qac.mp hv
  have hlen:bs.length=its.length:=by rw [<- r'.length,qaH]
  have hb:(bs.map V.bl)[i]? = some (V.bl bs[i]):=by simp [hlen,hi]
  obtain ⟨u',hu,ru⟩:=r'.get hb
  rw [hv] at hu
  cases hu
  cases ru
  have e:(bs[i]?).getD true=bs[i]:=by simp [hlen,hi]
  have hQ:Q' ((bs[i]?).getD true) s':=hQ
  rw [e] at hQ
  exact wpAny_truthy_bool hQ
 ·have e:((List.range its.toArray.size).all λi=>(bs[i]?).getD true)=bs.all id:=by
   have hlen:bs.length=its.length:=by rw [<- r'.length,qaH]
   rw [qaA, <-hlen]
   rw [Bool.eq_iff_iff,all_eq_true,all_eq_true]
   constructor
   ·intro h x hx
    obtain ⟨i,hi⟩:=List.mem_iff_getElem?.mp hx
    have hl:=(qac.mp hi).1
    have:=h i (by simpa using hl)
    rw [hi] at this
    exact this
   ·intro h i hi
    have hl:i<bs.length:=by simpa using hi
    have e1:bs[i]? = some bs[i]:=by simp [hl]
    rw [e1]
    exact h _ (getElem_mem hl)
  rw [e]
  refine ⟨.bl _,H,I.grown (s':={s with heap:=h',toks:=tk}) rfl rfl λb ob eb=>hk b ob (λz=> ?_) (qag _ eb),rfl,q⟩
  simp only [qaP,qaF,or_false] at z
  exact qaN _ (z▸qaQ eb)
end
end L2
namespace L3
open L2 LT
section
variable {X:Cx} {E:XE} {e:Expr} {es:List Expr} {pos p:Pos} {fs:Sd->M (List D)} {x:Str}
theorem zlY {id:String} {F:List D->M D} (hc:zaO X (.builtin id) (zhf X.K E F)) (hg:Gl X x) (hm:X.mg x=none) (hv:bootBuiltins x=some (.builtin id)) (ha:SA X E (e::es) fs) (hn:x≠"__name__":=by decide) (hdb:(x==("__debug__":Str))=false:=by decide)
  (he:starEach (e::es) X.env=(false,eval e X.env)::starEach es X.env:=by rfl) (hpl:(backTo pos (starEach es X.env)).any (·.1)=false:=by rfl):SE X E (.Call (.Name x p) (e::es) [] pos) (λsd=>do let ds<-fs sd;F ds):=
 PE.imp (zdD hc hg hm hv ha hn hdb he hpl) λσ H Q ⟨ι,h,sd,L,hh,q⟩=>⟨ι,h,sd,L,hh,Fin.bind q λds h1 ι1 H1 e1 s1 hr1 q1 vs rv=>⟨ι1,h1,ds,rv,hr1,q1⟩⟩
theorem zkH {T:String} {F:List D->M D} (hc:zaO X (.type T) (zhf X.K E F)) (hg:Gl X x) (hm:X.mg x=none) (hv:bootBuiltins x=some (.type T)) (ha:SA X E (e::es) fs) (hn:x≠"__name__":=by decide) (hdb:(x==("__debug__":Str))=false:=by decide)
  (he:starEach (e::es) X.env=(false,eval e X.env)::starEach es X.env:=by rfl) (hpl:(backTo pos (starEach es X.env)).any (·.1)=false:=by rfl):SE X E (.Call (.Name x p) (e::es) [] pos) (λsd=>do let ds<-fs sd;F ds):=
 PE.imp (zg5 hc hg hm hv ha hn hdb he hpl) λσ H Q ⟨ι,h,sd,L,hh,q⟩=>⟨ι,h,sd,L,hh,Fin.bind q λds h1 ι1 H1 e1 s1 hr1 q1 vs rv=>⟨ι1,h1,ds,rv,hr1,q1⟩⟩
noncomputable def zl6:D->M (List D)
 | .tup ds=>pure ds
 | .lst ds=>pure ds
 | .scr ds=>pure ds
 | .cel n=>zaq n
 | _=>M.bad
theorem zc8 {K:W.Frag} {ι:Io} {H:Hp} {h:Hh} {d:D} {v:V} {α:Type} {f:List D->M α} {P:α->Io->Hp->Prop} (hr:za6 K ι H h) (r:Rel K ι H d v) (q:Fin K E ι H ((do let ds<-zl6 d;f ds) h) P):
  ∃ a vs ds,v= .ref a/\((SqL K H a vs/\ ∀ ts,d≠ .tup ts)\/(SqT K H a vs/\d= .tup ds))/\zaw K ι H ds vs/\Fin K E ι H (f ds h) P:=by
 cases d with
 | tup ds=>
  obtain ⟨a,vs,e,h1,h2⟩:=zdf r
  exact ⟨a,vs,ds,e,.inr ⟨h1,rfl⟩,h2,q⟩
 | lst ds=>
  obtain ⟨a,vs,e,h1,h2⟩:=zdO r
  exact ⟨a,vs,ds,e,.inl ⟨h1,λ_ z=>by cases z⟩,h2,q⟩
 | scr ds=>
  obtain ⟨a,vs,e,h1,h2⟩:=zlf r
  exact ⟨a,vs,ds,e,.inl ⟨h1,λ_ z=>by cases z⟩,h2,q⟩
 | cel n=>
  have q':Fin K E ι H (M.bind (zaq n) f h) P:=q
  unfold M.bind at q'
  cases z:zaq n h with
  | bad=>rw [z] at q';exact qa0 q'
  | exc c h'=>unfold zaq at z;split at z<;>cases z
  | ok ds h'=>
   rw [z] at q'
   obtain ⟨rfl,z2⟩:=zcq z
   obtain ⟨a,vs,e,hn,hH,rl⟩:=hr.read r z2
   exact ⟨a,vs,ds,e,.inl ⟨SqL.of hH,λ_ z=>by cases z⟩,rl,q'⟩
 | _=>exact qa0 q
theorem znc {K:W.Frag} {H:Hp} {a:Addr} {vs:List V} {d:D} {ds:List D} (h:(SqL K H a vs/\ ∀ ts,d≠ .tup ts)\/(SqT K H a vs/\d= .tup ds)):SqL K H a vs\/SqT K H a vs:=h.imp And.left And.left
theorem ztk {K:W.Frag} {ι:Io} {H:Hp} {d:D} {xs:List V} (h:zaw K ι H [d] xs): ∃ v,xs=[v]/\Rel K ι H d v:=by
 simp only [zaw] at h
 obtain ⟨v,r,rfl,h1,rfl⟩:=h
 exact ⟨v,rfl,h1⟩
noncomputable def zlI {α:Type} (f:D->M α):List D->M α
 | [d]=>f d
 | _=>M.bad
theorem zb0 {α:Type} {K:W.Frag} {ι:Io} {H:Hp} {h:Hh} {f:D->M α} {ds:List D} {xs:List V} {P:α->Io->Hp->Prop} (rl:zaw K ι H ds xs) (q:Fin K E ι H (zlI f ds h) P): ∃ d v,xs=[v]/\Rel K ι H d v/\Fin K E ι H (f d h) P:=by
 match ds,rl,q with
 | [d],rl,q=>
  obtain ⟨v,e,r⟩:=ztk rl
  exact ⟨d,v,e,r,q⟩
 | [],_,q=>exact qa0 q
 | _::_::_,_,q=>exact qa0 q
def zi8:List D->M D:=zlI λd=>do let ds<-zl6 d;pure (.int ds.length)
theorem zbm:zaO X (.builtin "len") (zhf X.K E zi8):=by
 refine zaO.imp zgX λxs H Q ⟨ι,h,ds,rl,hr,q⟩=> ?_
 obtain ⟨d,v,e,r,q⟩:=zb0 rl q
 obtain ⟨a,vs,ds',e',hs,rl',q⟩:=zc8 hr r q
 exact ⟨a,vs,by rw [e,e'],znc hs,Fin.out hr q _ (by rw [rl'.length];simp [Rel])⟩
def zbM:List D->M D:=zlI λd=>do let ds<-zl6 d;pure (.tup ds)
theorem zaP:zaO X (.type "tuple") (zhf X.K E zbM):=by
 refine zaO.imp zf3 λxs H Q ⟨ι,h,ds,rl,hr,q⟩=> ?_
 obtain ⟨d,v,e,r,q⟩:=zb0 rl q
 obtain ⟨a,vs,ds',e',hs,rl',q⟩:=zc8 hr r q
 refine ⟨a,vs,by rw [e,e'],?_⟩
 rcases hs with ⟨hs,_⟩ | ⟨hs,hd⟩
 ·exact .inl ⟨hs,λl hl=>zpP hr rl' q hl⟩
 ·exact .inr ⟨hs,Fin.out hr q _ (by rw [<- e', <-hd];exact r)⟩
def zsH:List D->M D:=zlI λd=>do let ds<-zl6 d;pure (.lst ds)
noncomputable def two2 (g:Int->Int->Int):List D->M D
 | [.int i,.int j]=>pure (.int (g i j))
 | _=>M.bad
theorem two2_inv {K:W.Frag} {ι:Io} {H:Hp} {h:Hh} {g:Int->Int->Int} {ds:List D} {xs:List V} {P:D->Io->Hp->Prop} (hr:za6 K ι H h) (rl:zaw K ι H ds xs) (q:Fin K E ι H (two2 g ds h) P): ∃ i j,xs=[.int i,.int j]/\P (.int (g i j)) ι H:=by
 unfold two2 at q
 split at q
 ·simp only [zaw,Rel] at rl
  obtain ⟨v,r,rfl,rfl,v',r',rfl,rfl,rfl⟩:=rl
  exact ⟨_,_,rfl,Fin.out hr q⟩
 ·exact qa0 q
def zpc:=two2 λi j=>if j>i then j else i
def zn6:=two2 λi j=>if j<i then j else i
theorem zjm (hc:X.calm=true):zaO X (.builtin "max") (zhf X.K E zpc):=by
 refine zaO.imp (zlu hc) λxs H Q ⟨ι,h,ds,rl,hr,q⟩=> ?_
 obtain ⟨i,j,e,q⟩:=two2_inv hr rl q
 exact ⟨i,j,e,q _ (by simp [Rel])⟩
theorem ziT (hc:X.calm=true):zaO X (.builtin "min") (zhf X.K E zn6):=by
 refine zaO.imp (zlb hc) λxs H Q ⟨ι,h,ds,rl,hr,q⟩=> ?_
 obtain ⟨i,j,e,q⟩:=two2_inv hr rl q
 exact ⟨i,j,e,q _ (by simp [Rel])⟩
noncomputable def zm8:List D->Option (List Bool)
 | []=>some []
 | .bl b::r=>(zm8 r).map (b:: ·)
 | _=>none
noncomputable def zei:List D->Option (List Int)
 | []=>some []
 | .int i::r=>(zei r).map (i:: ·)
 | _=>none
theorem zfV {K:W.Frag} {ι:Io} {H:Hp}: ∀ {ds:List D} {vs:List V} {bs:List Bool},zaw K ι H ds vs->zm8 ds=some bs->vs=bs.map V.bl
 | [],_,_,h,e=>by simp only [zaw] at h;subst h;cases e;rfl
 | d::ds,_,bs,h,e=>by
  simp only [zaw] at h
  obtain ⟨v,r,rfl,h1,h2⟩:=h
  cases d with
  | bl b=>
   unfold zm8 at e
   cases z:zm8 ds with
   | none=>rw [z] at e;cases e
   | some cs=>
    rw [z] at e
    cases e
    simp only [Rel] at h1
    rw [h1,zfV h2 z]
    rfl
  | _=>cases e
theorem zdK {K:W.Frag} {ι:Io} {H:Hp}: ∀ {ds:List D} {vs:List V} {bs:List Int},zaw K ι H ds vs->zei ds=some bs->vs=bs.map V.int
 | [],_,_,h,e=>by simp only [zaw] at h;subst h;cases e;rfl
 | d::ds,_,bs,h,e=>by
  simp only [zaw] at h
  obtain ⟨v,r,rfl,h1,h2⟩:=h
  cases d with
  | int b=>
   unfold zei at e
   cases z:zei ds with
   | none=>rw [z] at e;cases e
   | some cs=>
    rw [z] at e
    cases e
    simp only [Rel] at h1
    rw [h1,zdK h2 z]
    rfl
  | _=>cases e
theorem Fin.ofOb {α β:Type} {K:W.Frag} {ι:Io} {H:Hp} {h:Hh} {o:Option α} {f:α->M β} {P:β->Io->Hp->Prop} (q:Fin K E ι H ((do let a<-L3.ofO o;f a) h) P): ∃ a,o=some a/\Fin K E ι H (f a h) P:=by
 cases o with
 | none=>exact qa0 q
 | some a=>exact ⟨a,rfl,q⟩
def zql:List D->M D:=zlI λd=>match d with
 | .lst ds=>do let bs<-ofO (zm8 ds);pure (.bl (bs.all id))
 | _=>M.bad
theorem zgh (hc:X.calm=true):zaO X (.builtin "all") (zhf X.K E zql):=by
 refine zaO.imp (zjZ hc) λxs H Q ⟨ι,h,ds,rl,hr,q⟩=> ?_
 obtain ⟨d,v,e,r,q⟩:=zb0 rl q
 cases d with
 | lst ds=>
  obtain ⟨a,vs,e',h1,h2⟩:=zdO r
  obtain ⟨bs,eb,q⟩:=Fin.ofOb q
  have:=zfV h2 eb
  subst this
  exact ⟨a,bs,by rw [e,e'],h1,Fin.out hr q _ (by simp [Rel])⟩
 | _=>exact qa0 q
def ztS:List D->M D:=zlI λd=>match d with
 | .lst ds=>do let bs<-ofO (zei ds);pure (.int bs.sum)
 | _=>M.bad
def zhN:List D->M D:=zlI λd=>do
 let ds<-zl6 d
 let ns<-ofO (zei ds)
 if ns.length<64 then pure (.lst ((zcm ns).map D.int)) else M.bad
theorem zgm (hc:X.calm=true):zaO X (.builtin "sorted") (zhf X.K E zhN):=by
 refine zaO.imp (zeh hc) λxs H Q ⟨ι,h,ds,rl,hr,q⟩=> ?_
 obtain ⟨d,v,e,r,q⟩:=zb0 rl q
 obtain ⟨a,vs,ds',e',hs,rl',q⟩:=zc8 hr r q
 obtain ⟨ns,en,q⟩:=Fin.ofOb q
 have:=zdK rl' en
 subst this
 obtain ⟨hl,q⟩:=Fin.guard q
 exact ⟨a,ns,by rw [e,e'],.inr ⟨⟨hl,znc hs⟩,λl hl=>zpR hr (zcQ.mpr rfl) q hl⟩⟩
def zb3 (d:D):M D:=do
 let ds<-zl6 d
 let ns<-ofO (zei ds)
 if (ns.foldl step_dedup []).length<64/\ns.length<4000 then pure (.lst ((zhc ns).map D.int)) else M.bad
theorem ziU {p1 p2 pos2:Pos} {f:Sd->M D} (hc:X.calm=true) (hg1:Gl X "sorted") (hm1:X.mg "sorted"=none) (hg2:Gl X "set") (hm2:X.mg "set"=none) (he:SE X E e f)
  (h1:starEach [.Call (.Name "set" p2) [e] [] pos2] X.env=[(false,eval (.Call (.Name "set" p2) [e] [] pos2) X.env)]:=by rfl) (h2:starEach [e] X.env=[(false,eval e X.env)]:=by rfl):
  SE X E (.Call (.Name "sorted" p1) [.Call (.Name "set" p2) [e] [] pos2] [] pos) (λsd=>do let d<-f sd;zb3 d):=by
 refine PE.imp (zdD (zeh hc) hg1 hm1 boot_sorted (zbc (zg5 (zka hc) hg2 hm2 PyProof.Rows.boot_set (zbc he zcn h2) (he:=h2)) zcn h1) (he:=h1)) λσ H Q ⟨ι,h,sd,L,hh,q⟩=>⟨ι,h,sd,L,hh,Fin.bind q λd h1 ι1 H1 e1 s1 hr1 q1 v rv=> ?_⟩
 obtain ⟨a,vs,ds',e',hs,rl',q2⟩:=zc8 hr1 rv q1
 obtain ⟨ns,en,q3⟩:=Fin.ofOb q2
 have:=zdK rl' en
 subst this
 obtain ⟨hl,q4⟩:=Fin.guard q3
 refine ⟨a,ns,by rw [e'],znc hs,hl.2,λp hp=> ?_⟩
 have hr2:za6 X.K ι1 (upd H1 p (zkP X.prog X.w p ns)) h1:=hr1.laid hp
 exact ⟨p,ns,rfl,.inl ⟨⟨hl.1,zaV⟩,λl hl'=>zpR hr2 (zcQ.mpr rfl) (Fin.step (hr1.laidS hp) q4) hl'⟩⟩
end
def tyD:D->M String
 | .non=>pure "NoneType"
 | .bl _=>pure "bool"
 | .int _=>pure "int"
 | .str _=>pure "str"
 | .tup _=>pure "tuple"
 | .lst _=>pure "list"
 | .dct=>pure "dict"
 | .cel n=>do let _<-zaq n;pure "list"
 | _=>M.bad
def zkl:List String:=["NoneType","bool","int","str","tuple","list","dict"]
def isB (T t:String):Bool:=t==T || (t=="bool" && T=="int")
def zev (T:String) (d:D):M D:=do let t<-tyD d;pure (.bl (isB T t))
def zhl (T:String):Prop:= ∀ (K:W.Frag), ∀ t∈zkl,W.kitOne K (.type t) (.type T)=some (isB T t)
def ztX (t T:String):Option Bool:=if ((Value.type t)==(Value.type T))=true then some true else if W.kitMeta T=true then (fastBuiltinMro t).map (·.contains (Value.type T)) else none
theorem zex {T:String} (h:(zkl.all λt=>ztX t T==some (isB T t))=true):zhl T:=λK t ht=>by
 have:=all_eq_true.mp h t ht
 have e:W.kitOne K (.type t) (.type T)=ztX t T:=rfl
 rw [e]
 exact beq_iff_eq.mp this
theorem zoN:zhl "int":=zex ⋯
theorem zlS:zhl "bool":=zex ⋯
theorem zdB:zhl "tuple":=zex ⋯
theorem zjN:zhl "str":=zex ⋯
section
variable {X:Cx} {E:XE} {α:Type}
theorem zoL {K:W.Frag} {ι:Io} {H:Hp} {h:Hh} {d:D} {v:V} {f:String->M α} {P:α->Io->Hp->Prop} (hr:za6 K ι H h) (r:Rel K ι H d v) (q:Fin K E ι H ((do let t<-tyD d;f t) h) P):
  ∃ t,t∈zkl/\zhQ K H v (.type t)/\Fin K E ι H (f t h) P:=by
 cases d with
 | non=>simp only [Rel] at r;subst r;exact ⟨_,by decide,.non,q⟩
 | bl b=>simp only [Rel] at r;subst r;exact ⟨_,by decide,.bl b,q⟩
 | int b=>simp only [Rel] at r;subst r;exact ⟨_,by decide,.int b,q⟩
 | str b=>simp only [Rel] at r;subst r;exact ⟨_,by decide,.str b,q⟩
 | tup ds=>
  simp only [Rel] at r
  obtain ⟨a,vs,e,h1,h2⟩:=r
  subst e
  exact ⟨_,by decide,.tup h1.1,q⟩
 | lst ds=>
  simp only [Rel] at r
  obtain ⟨a,vs,e,h1,h2⟩:=r
  subst e
  exact ⟨_,by decide,.lst h1.1,q⟩
 | dct=>
  simp only [Rel] at r
  obtain ⟨a,e,h1,h2⟩:=r
  subst e
  exact ⟨_,by decide,.dK h1,q⟩
 | cel n=>
  have q':Fin K E ι H (M.bind (zaq n) (λ_=>f "list") h) P:=by
   have e:(do let t<-tyD (.cel n);f t:M α)=(zaq n>>=λ_=>f "list"):=by
    show ((zaq n>>=λ_=>pure "list")>>=f)=_
    simp only [bind_assoc,pure_bind]
   rw [e] at q
   exact q
  unfold M.bind at q'
  cases z:zaq n h with
  | bad=>rw [z] at q';exact qa0 q'
  | exc c h'=>unfold zaq at z;split at z<;>cases z
  | ok ds h'=>
   rw [z] at q'
   obtain ⟨rfl,z2⟩:=zcq z
   obtain ⟨a,vs,e,hn,hH,rl⟩:=hr.read r z2
   subst e
   exact ⟨_,by decide,.lst hH,q'⟩
 | _=>exact qa0 q
theorem zm2:zaO X (.builtin "isinstance") (λxs H Q=> ∃ x t T b,xs=[x,.ty T]/\zhQ X.K H x t/\W.kitOne X.K t (.type T)=some b/\Q (.bl b) H):=by
 intro pins s σ H xs us Q I r h
 obtain ⟨x,t,T,b,rfl,ty,e,q⟩:=h
 cases r with
 | cons r1 r2=>
  cases r2 with
  | cons r3 r4=>
   cases r4
   cases r3
   exact zkh I r1 ty e λtk=>⟨.bl b,H,I.tok tk,rfl,q⟩
theorem zrG {a:Expr} {x:Str} {T:String} {p1 p2 pos:Pos} {fa:Sd->M D} (hk:zhl T) (hg:Gl X "isinstance") (hm:X.mg "isinstance"=none) (hgT:Gl X x) (hmT:X.mg x=none) (hvT:bootBuiltins x=some (.type T)) (ha:SE X E a fa)
  (hn:x≠"__name__":=by decide) (hd:(x==("__debug__":Str))=false:=by decide)
  (h1:starEach [a,.Name x p2] X.env=(false,eval a X.env)::starEach [.Name x p2] X.env:=by rfl) (h2:starEach [.Name x p2] X.env=[(false,eval (.Name x p2) X.env)]:=by rfl)
  (hpl:(backTo pos (starEach [.Name x p2] X.env)).any (·.1)=false:=by rfl):
  SE X E (.Call (.Name "isinstance" p1) [a,.Name x p2] [] pos) (λsd=>do let d<-fa sd;zev T d):=by
 refine PE.imp (zdD zm2 hg hm PyProof.Rows.boot_isinstance (zbc ha (zbc (zlj (v:= .ty T) hgT hmT hvT rfl hn hd) zcn h2) h1) (he:=h1) (hpl:=hpl)) λσ H Q ⟨ι,h,sd,L,hh,q⟩=>⟨ι,h,sd,L,hh,Fin.bind q λd h1 ι1 H1 e1 s1 hr1 q1 v rv=> ?_⟩
 obtain ⟨t,ht,ty,q2⟩:=zoL hr1 rv q1
 exact ⟨v,.type t,T,isB T t,rfl,ty,hk X.K t ht,Fin.out hr1 q2 _ (by simp [Rel])⟩
noncomputable def zjf (xs:List D) (lo hi:Option Int):List D:=(xs.drop (HT.sIx xs.length 0 lo)).take (HT.sIx xs.length xs.length hi - HT.sIx xs.length 0 lo)
def dSl (d:D) (lo hi:Option Int):M D:=match d with
 | .tup ds=>pure (.tup (zjf ds lo hi))
 | .lst ds=>pure (.lst (zjf ds lo hi))
 | _=>M.bad
def zt2 (K:W.Frag) (E:XE) (f:Sd->M (Option Int)):TO:=λσ H Q=> ∃ ι h sd,zcH K ι H sd σ/\za6 K ι H h/\Fin K E ι H (f sd h) λo ι' H'=>Q o H'
abbrev SO (X:Cx) (E:XE) (e:Option Expr) (f:Sd->M (Option Int)):Prop:=PO X e (zt2 X.K E f)
theorem PO.imp {e:Option Expr} {t t':TO} (h:PO X e t) (m: ∀ σ H Q,t' σ H Q->t σ H Q):PO X e t':=λpins s σ H Q I q=>h pins s σ H Q I (m _ _ _ q)
def zdk:Sd->M (Option Int):=λ_=>pure none
def zok:D->M (Option Int)
 | .int i=>pure (some i)
 | _=>M.bad
def zct (f:Sd->M D):Sd->M (Option Int):=λsd=>do let d<-f sd;zok d
theorem zb9:SO X E none zdk:=PO.imp zop λσ H Q ⟨ι,h,sd,L,hh,q⟩=>Fin.out hh q
theorem zbn {e:Expr} {f:Sd->M D} (h:SE X E e f):SO X E (some e) (zct f):=by
 refine PO.imp (zph h) λσ H Q ⟨ι,h,sd,L,hh,q⟩=>⟨ι,h,sd,L,hh,Fin.bind q λd h1 ι1 H1 e1 s1 hr1 q1 v rv=> ?_⟩
 cases d with
 | int i=>simp only [Rel] at rv;exact ⟨i,rv,Fin.out hr1 q1⟩
 | _=>exact qa0 q1
def cSl (f:Sd->M D) (lo hi:Sd->M (Option Int)):Sd->M D:=λsd=>do let d<-f sd;let l<-lo sd;let u<-hi sd;dSl d l u
theorem zf8 {e:Expr} {lo hi:Option Expr} {p2 pos:Pos} {f:Sd->M D} {fl fh:Sd->M (Option Int)} (he:SE X E e f) (hl:SO X E lo fl) (hu:SO X E hi fh):SE X E (.Subscript e (.Slice lo hi none p2) pos) (cSl f fl fh):=by
 refine PE.imp (zix (zom.or (zpZ.or zo1)) he hl hu) λσ H Q ⟨ι,h,sd,L,hh,q⟩=>⟨ι,h,sd,L,hh,Fin.bind q λd h1 ι1 H1 e1 s1 hr1 q1 v rv=> ?_⟩
 refine ⟨ι1,h1,sd,L.step s1,hr1,Fin.bind q1 λl h2 ι2 H2 e2 s2 hr2 q2=> ?_⟩
 refine ⟨ι2,h2,sd,(L.step s1).step s2,hr2,Fin.bind q2 λu h3 ι3 H3 e3 s3 hr3 q3=> ?_⟩
 have rv3:=(rv.step s2).step s3
 cases d with
 | tup ds=>
  obtain ⟨a,vs,e,k1,k2⟩:=zdf rv3
  by_cases hw:HT.sIx vs.length 0 l=0/\HT.sIx vs.length vs.length u=vs.length
  ·refine .inl ⟨a,vs,e,k1,hw,?_⟩
   have ec:zjf ds l u=ds:=by
    unfold zjf
    rw [k2.length,hw.1,hw.2, <-k2.length]
    simp
   refine Fin.out hr3 q3 _ ?_
   rw [ec, <-e]
   exact rv3
  ·refine .inr (.inl ⟨a,vs,e,k1,hw,λp hp=>zpP hr3 ?_ q3 hp⟩)
   unfold zjf znl
   rw [k2.length]
   exact zaw.take _ (zaw.drop _ k2)
 | lst ds=>
  obtain ⟨a,vs,e,k1,k2⟩:=zdO rv3
  refine .inr (.inr ⟨a,vs,e,k1,λp hp=>zpR hr3 ?_ q3 hp⟩)
  unfold zjf znl
  rw [k2.length]
  exact zaw.take _ (zaw.drop _ k2)
 | _=>exact qa0 q3
def zuk:D->M D
 | .tup ds=>pure (.tup ds.reverse)
 | _=>M.bad
def zjt (x y:D):M D:=match x,y with
 | .int i,.int j=>if (zb7 i || zb7 j)=true then pure (.int (i*j)) else M.bad
 | .tup xs,.int k=>if xs≠[]/\2<=k/\k<1000/\xs.length*k.toNat<=sizeLine then pure (.tup (replicate k.toNat xs).flatten) else M.bad
 | _,_=>M.bad
theorem zaw.rep {K:W.Frag} {ι:Io} {H:Hp} {ds:List D} {vs:List V} (h:zaw K ι H ds vs): ∀ n,zaw K ι H (replicate n ds).flatten (replicate n vs).flatten
 | 0=>zaw.nil
 | n+1=>by
  rw [replicate_succ,replicate_succ,flatten_cons,flatten_cons]
  exact zaw.append h (zaw.rep h n)
theorem zdn:OpR X (binaryOp .Mult) (zdt X.K E zjt):=by
 refine OpR.imp (zrg.or zn4) λx y H Q ⟨ι,h,d1,d2,r1,r2,hr,q⟩=> ?_
 unfold zjt at q
 split at q
 ·simp only [Rel] at r1 r2
  obtain ⟨c,q⟩:=Fin.guard q
  refine .inl ⟨_,_,r1,r2,?_,Fin.out hr q _ (by simp [Rel])⟩
  rcases (Bool.or_eq_true _ _).mp c with z | z
  ·exact .inl (zeG z)
  ·exact .inr (zeG z)
 ·simp only [Rel] at r2
  obtain ⟨a,vs,e,k1,k2⟩:=zdf r1
  obtain ⟨⟨c1,c2,c3,c4⟩,q⟩:=Fin.guard q
  refine .inr ⟨a,_,vs,e,r2,k1,λz=>c1 ?_,c2,c3,by rw [<- k2.length];exact c4,λp hp=>zpP hr (k2.rep _) q hp⟩
  subst z
  exact List.eq_nil_of_length_eq_zero k2.length
 ·exact qa0 q
theorem zjk {pins:List (Addr×Obj)} {σ:L2.St} {H:Hp} {s:Shared} (I:Inv X pins σ H s):sysModules<s.heap.objs.size:=
 lt_trans (by decide) (show mainGlobals<s.heap.objs.size from (I.mod.glob.keeps I.bk).lt)
theorem zlO {pos:Pos}:PE X (.Dict [] [] pos) (λ_ H Q=> ∀ p,H p=none->Q (.ref p) (upd H p (.dK []))):=λpins s σ H Q I h=>
 wpAny_Dict_empty ⟨.ref s.heap.objs.size,_,I.laid (a:=s.heap.objs.size) (o:= .dK []) (t':=s.toks) (λ_ _ q=>qag _ q) (qaV _)
   ⟨zero_le _,beq_eq_false_iff_ne.mpr (Ne.symm (qaR (zjk I))),[],.nil,Heap.DictOf.new s.heap⟩,rfl,h _ (I.hok.fresh (qaV _))⟩
theorem zmU {pos:Pos}:SE X E (.Dict [] [] pos) (λ_=>pure .dct):=by
 refine PE.imp zlO λσ H Q ⟨ι,h,sd,L,hh,q⟩ p hp=> ?_
 exact q ι _ (hh.laidS hp) (hh.laid hp) _ (by
   simp only [Rel]
   exact ⟨p,rfl,zaV,hh.nin hp⟩)
mutual
noncomputable def pdH (h:Hh):D->Option PyData
 | .non=>some .none
 | .bl b=>some (.bool b)
 | .int i=>some (.int i)
 | .str x=>some (.str x)
 | .tup xs=>(zjw h xs).map .tuple
 | .lst xs=>(zjw h xs).map .list
 | .cel n=>match h[n]? with
  | some (.lst ds)=>(pdL ds).map .list
  | _=>none
 | _=>none
noncomputable def zjw (h:Hh):List D->Option (List PyData)
 | []=>some []
 | x::xs=>match pdH h x,zjw h xs with
  | some a,some r=>some (a::r)
  | _,_=>none
end
mutual
theorem zkI {pins:List (Addr×Obj)} {σ:L2.St} {H:Hp} {s:Shared} {ι:Io} {h:Hh} (I:Inv X pins σ H s) (hr:za6 X.K ι H h): ∀ {d:D} {v:V} {u:Value} {p:PyData},Rel X.K ι H d v->zbB v u->pdH h d=some p-> ∃ as,Reads s.heap u p as
 | .non,v,u,p,r,ru,e=>by simp only [Rel] at r;subst r;cases ru;simp only [pdH] at e;cases e;exact ⟨_,.none⟩
 | .bl b,v,u,p,r,ru,e=>by simp only [Rel] at r;subst r;cases ru;simp only [pdH] at e;cases e;exact ⟨_,.bool _⟩
 | .int i,v,u,p,r,ru,e=>by simp only [Rel] at r;subst r;obtain ⟨t,rfl⟩:=ru;simp only [pdH] at e;cases e;exact ⟨_,.int _ _⟩
 | .str i,v,u,p,r,ru,e=>by simp only [Rel] at r;subst r;obtain ⟨t,rfl⟩:=ru;simp only [pdH] at e;cases e;exact ⟨_,.str _ _⟩
 | .tup ds,v,u,p,r,ru,e=>by
  obtain ⟨a,vs,rfl,h1,h2⟩:=zdf r
  cases ru
  obtain ⟨its,rv,pl,_⟩:=I.tuple h1
  obtain ⟨o,ho,hc,n,hd⟩:=pl
  simp only [pdH] at e
  cases z:zjw h ds with
  | none=>rw [z] at e;cases e
  | some ps=>
   rw [z] at e;cases e
   obtain ⟨as,q⟩:=zhj I hr h2 rv z
   exact ⟨_,.tuple ho hc hd (by simpa using q)⟩
 | .lst ds,v,u,p,r,ru,e=>by
  obtain ⟨a,vs,rfl,h1,h2⟩:=zdO r
  cases ru
  obtain ⟨its,rv,pl,_⟩:=I.list h1
  obtain ⟨o,ho,hc,n,hd⟩:=pl.isList
  simp only [pdH] at e
  cases z:zjw h ds with
  | none=>rw [z] at e;cases e
  | some ps=>
   rw [z] at e;cases e
   obtain ⟨as,q⟩:=zhj I hr h2 rv z
   exact ⟨_,.list ho hc hd (by simpa using q)⟩
 | .cel m,v,u,p,r,ru,e=>by
  simp only [pdH] at e
  cases z0:h[m]? with
  | none=>rw [z0] at e;cases e
  | some c=>
   rw [z0] at e
   cases c with
   | dit ks=>cases e
   | ins _ _=>cases e
   | dead=>cases e
   | dic _=>cases e
   | lst ds=>
    obtain ⟨a,vs,rfl,hn,hH,rl⟩:=hr.read r z0
    cases ru
    obtain ⟨its,rv,pl,_⟩:=I.list (SqL.of hH)
    obtain ⟨o,ho,hc,n,hd⟩:=pl.isList
    cases z:pdL ds with
    | none=>simp only [z] at e;cases e
    | some ps=>
     simp only [z] at e;cases e
     obtain ⟨as,q⟩:=zgC I rl rv z
     exact ⟨_,.list ho hc hd (by simpa using q)⟩
 | .scr ds,_,_,_,_,_,e=>by simp only [pdH] at e;cases e
 | .set xs,_,_,_,_,_,e=>by simp only [pdH] at e;cases e
 | .dct,_,_,_,_,_,e=>by simp only [pdH] at e;cases e
 | .fn _,_,_,_,_,_,e=>by simp only [pdH] at e;cases e
 | .exn _,_,_,_,_,_,e=>by simp only [pdH] at e;cases e
theorem zhj {pins:List (Addr×Obj)} {σ:L2.St} {H:Hp} {s:Shared} {ι:Io} {h:Hh} (I:Inv X pins σ H s) (hr:za6 X.K ι H h): ∀ {ds:List D} {vs:List V} {us:List Value} {ps:List PyData},zaw X.K ι H ds vs->za7 vs us->zjw h ds=some ps-> ∃ as,ReadsAll s.heap us ps as
 | [],vs,us,ps,r,ru,e=>by simp only [zaw] at r;subst r;cases ru;simp only [zjw] at e;cases e;exact ⟨_,.nil⟩
 | d::ds,vs,us,ps,r,ru,e=>by
  simp only [zaw] at r
  obtain ⟨v,vr,rfl,r1,r2⟩:=r
  cases ru with
  | cons ru1 ru2=>
   simp only [zjw] at e
   cases z:pdH h d with
   | none=>rw [z] at e;cases e
   | some a=>
    cases z2:zjw h ds with
    | none=>rw [z,z2] at e;cases e
    | some b=>
     rw [z,z2] at e
     cases e
     obtain ⟨as,q1⟩:=zkI I hr r1 ru1 z
     obtain ⟨bs,q2⟩:=zhj I hr r2 ru2 z2
     exact ⟨_,.cons q1 q2⟩
end
noncomputable def zrc (x y:D):M D:=λh=>match pdH h x,pdH h y with
 | some a,some b=>if zel a b=true then .ok (.bl (PyData.eqv a b)) h else .bad
 | _,_=> .bad
theorem zrh (hu:X.A.units+60<cLine):OpR X (compareOp .Eq) (zdt X.K E zrc):=by
 intro pins s σ H x y v u Q I rx ry ⟨ι,h,d1,d2,r1,r2,hr,q⟩
 unfold zrc at q
 cases e1:pdH h d1 with
 | none=>rw [e1] at q;exact qa0 q
 | some a=>
  cases e2:pdH h d2 with
  | none=>rw [e1,e2] at q;exact qa0 q
  | some b=>
   rw [e1,e2] at q
   dsimp only at q
   by_cases c:zel a b=true
   ·rw [qa4 c] at q
    obtain ⟨c1,c2,c3⟩:=zfE c
    obtain ⟨as,ra⟩:=zkI I hr r1 rx e1
    obtain ⟨bs,rb⟩:=zkI I hr r2 ry e2
    exact SeqAt.compareEq_reads ra rb c1 c2 ⋯ ⟨.bl _,H,I,rfl,q ι H (zbU.refl _ _) hr (.bl _) (by simp [Rel])⟩
   ·rw [qa5 c] at q
    exact qa0 q
end
abbrev FE:=Sd->M D
abbrev FT:=Sd->M Bool
abbrev FA:=Sd->M (List D)
abbrev FS:=Sd->M Out
def cOp (F:D->D->M D) (a b:FE):FE:=λsd=>do let x<-a sd;let y<-b sd;F x y
def cUn (F:D->M D) (a:FE):FE:=λsd=>do let x<-a sd;F x
def zax (F:List D->M D) (a:FA):FE:=λsd=>do let ds<-a sd;F ds
def zbq (F:D->D->M D) (a b:FE):FT:=λsd=>do let z<-(do let x<-a sd;let y<-b sd;F x y);zcr z
def zid (a:FE):FT:=λsd=>do let x<-a sd;zcr x
def zhe (t:FT):FT:=λsd=>do let c<-t sd;pure (!c)
def zpL (t u:FT):FT:=λsd=>do let c<-t sd;if c=true then u sd else pure false
def tOr (t u:FT):FT:=λsd=>do let c<-t sd;if c=true then pure true else u sd
def zm7 (a b:FE):FE:=λsd=>do let c<-(do let x<-a sd;zcr x);if c=true then b sd else pure (.bl false)
def cOr (a b:FE):FE:=λsd=>do let c<-(do let x<-a sd;zcr x);if c=true then pure (.bl true) else b sd
def zs3 (a:FE):FE:=λsd=>do let c<-(do let x<-a sd;zcr x);pure (.bl (!c))
def cIf (t:FT) (a b:FE):FE:=λsd=>do let c<-t sd;if c=true then a sd else b sd
def cK (d:D):FE:=λ_=>pure d
def zaj:FA:=λ_=>pure []
def zab (a:FE) (r:FA):FA:=λsd=>do let x<-a sd;let r<-r sd;pure (x::r)
def zec (fs:FA):FE:=λsd=>do let ds<-fs sd;fits ds.length;pure (.tup ds)
def zfa (fs:FA):FE:=λsd=>do let ds<-fs sd;fits ds.length;pure (.lst ds)
def zja (fs:FA):FE:=λsd=>do let ds<-fs sd;fits ds.length;zeW ds
def zdb:FS:=λsd=>pure (.nx sd)
def zam (g g':FS):FS:=λsd=>do let o<-g sd;andThen o g'
def zbk (i:Nat) (f:FE):FS:=λsd=>do let d<-f sd;pure (.nx (sd.set i (some d)))
def zbr (f:FE):FS:=λsd=>do let d<-f sd;pure (.rt d)
def sIf (t:FT) (g g':FS):FS:=λsd=>do let c<-t sd;if c=true then g sd else g' sd
def zlH (fi:FA) (g:D->Sd->M Sd) (gb:FS):FS:=λsd=>do let ds<-fi sd;zbe (λx sd=>do let sd1<-g x sd;gb sd1) ds sd
def zmV (f:FE) (g:D->Sd->M Sd):FS:=λsd=>do let d<-f sd;let sd'<-g d sd;pure (.nx sd')
def zke (f:FE):FS:=λsd=>do let _<-f sd;pure (.nx sd)
def iSq (f:FE):FA:=λsd=>do let d<-f sd;zfw d
def zg7 (fs:FA):FA:=λsd=>do let ds<-fs sd;zj0 ds
def zmi (fo fi:FE):D->Sd->M Sd:=λd sd=>do let x<-fo sd;let y<-fi sd;zlk x y d;pure sd
section
variable {X:Cx} {E:XE} {a b e c:Expr} {es:List Expr} {pos p p1 p2:Pos} {fa fb f:FE} {fs:FA} {x:Str}
theorem zac (i:Nat) (hN:X.N[i]? = some x:=by rfl) (hv:Vis X.env.scope x:=by first | exact Or.inl rfl | exact Or.inr (Or.inl rfl) | exact Or.inr (Or.inr rfl)) (hd:(x==("__debug__":Str))=false:=by decide) (hcd:(x==("__classdict__":Str))=false:=by decide):SE X E (.Name x pos) (zaf i):=zrw i hN hv hd hcd
theorem zah {i:Int} {j:Nat}:SE X E (.Constant (.int i) j pos) (cK (.int i)):=zrB
theorem zhk {i:Bool} {j:Nat}:SE X E (.Constant (.bool i) j pos) (cK (.bl i)):=zs0
theorem zeA {j:Nat}:SE X E (.Constant .none j pos) (cK .non):=zqj
theorem zaE {i:Str} {j:Nat}:SE X E (.Constant (.str i) j pos) (cK (.str i)):=zqT
theorem zhz {i:Int} (hm: ∃ t,X.mg x=some (.int i t)) (hg:Gl X x:=by rfl) (hd:(x==("__debug__":Str))=false:=by decide):SE X E (.Name x pos) (cK (.int i)):=by
 obtain ⟨t,hm⟩:=hm
 exact zmN hg hm hd
theorem zbf {op:Operator} {F:D->D->M D} (ho:OpR X (binaryOp op) (zdt X.K E F)) (ha:SE X E a fa) (hb:SE X E b fb):SE X E (.BinOp a op b pos) (cOp F fa fb):=zsr ho ha hb
theorem zfI {op:CmpOp} {F:D->D->M D} (ho:OpR X (compareOp op) (zdt X.K E F)) (ha:SE X E a fa) (hb:SE X E b fb) (hm:behindInMarks op b=false:=by rfl):SE X E (.Compare a [op] [b] pos) (cOp F fa fb):=zrL ho ha hb hm
theorem zau {op:CmpOp} {F:D->D->M D} (ho:OpR X (compareOp op) (zdt X.K E F)) (ha:SE X E a fa) (hb:SE X E b fb) (hm:behindInMarks op b=false:=by rfl):ST X E (.Compare a [op] [b] pos) (zbq F fa fb):=zqY ho ha hb hm
theorem zcj (ha:SE X E a fa) (hb:SE X E b fb) (hs:ze0 b:=by intro _ _;rfl):SE X E (.Subscript a b pos) (cOp dIx fa fb):=zqn zus ha hb hs
theorem zqV (ha:SE X E a fa):SE X E (.UnaryOp .USub a pos) (cUn zqS fa):=zp2 ha
theorem ztc (ha:SE X E a fa):SE X E (.UnaryOp .Not a pos) (zs3 fa):=zqm ha
theorem zhq {op:BoolOp} (h:SE X E a fa):SE X E (.BoolOp op [a] pos) fa:=zrH h
theorem zhw {rest:List Expr} (ha:SE X E a fa) (hb:SE X E (.BoolOp .And (b::rest) pos) fb):SE X E (.BoolOp .And (a::b::rest) pos) (zm7 fa fb):=zsb ha hb
theorem zt9 {rest:List Expr} (ha:SE X E a fa) (hb:SE X E (.BoolOp .Or (b::rest) pos) fb):SE X E (.BoolOp .Or (a::b::rest) pos) (cOr fa fb):=zs2 ha hb
theorem zcL (h:SE X E e f) (he: ∀ whole,isTrue e X.env whole=(do let v<-whole;standAt e.pos;holding [v] (truthy v)):=by intro _;rfl):ST X E e (zid f):=zqN h he
theorem zcJ {t:FT} (ha:ST X E a t):ST X E (.UnaryOp .Not a pos) (zhe t):=zqa ha
theorem zj9 {t:FT} (ha:ST X E a t):PW X (.BoolOp .And [a] pos) (zf2 X.K E t):=zpF ha
theorem zcW {t:FT} (ha:ST X E a t):PW X (.BoolOp .Or [a] pos) (zf2 X.K E t):=zrp ha
theorem znN {rest:List Expr} {t u:FT} (ha:ST X E a t) (hb:PW X (.BoolOp .And (b::rest) pos) (zf2 X.K E u)):PW X (.BoolOp .And (a::b::rest) pos) (zf2 X.K E (zpL t u)):=zrE ha hb
theorem zcd {rest:List Expr} {t u:FT} (ha:ST X E a t) (hb:PW X (.BoolOp .Or (b::rest) pos) (zf2 X.K E u)):PW X (.BoolOp .Or (a::b::rest) pos) (zf2 X.K E (tOr t u)):=ztn ha hb
theorem zbw {op:BoolOp} {vs:List Expr} {t:FT} (h:PW X (.BoolOp op vs pos) (zf2 X.K E t)):ST X E (.BoolOp op vs pos) t:=zpr h
theorem ziZ {t:FT} (hc:ST X E c t) (ha:SE X E a fa) (hb:SE X E b fb):SE X E (.IfExp c a b pos) (cIf t fa fb):=zmv hc ha hb
theorem zkM {env:Env} (h: ∀ v p,e≠ .Starred v p):starEach (e::es) env=(false,eval e env)::starEach es env:=by
 cases e<;>first | rfl | exact absurd rfl (h _ _)
theorem zad:SA X E [] zaj:=zrv
theorem zaa (ha:SE X E e fa) (hr:SA X E es fs) (hs:starEach (e::es) X.env=(false,eval e X.env)::starEach es X.env:=by exact zkM (λ_ _ z=>nomatch z)):SA X E (e::es) (zab fa fs):=zoC ha hr hs
theorem zbW {k} (h:SA X E es fs):SE X E (.Tuple es k pos) (zec fs):=zrU h
theorem zc2 (h:SA X E es fs):SE X E (.List es pos) (zfa fs):=zqe h
theorem zio (h:SA X E es fs):SE X E (.List es pos) (zja fs):=zoX h
theorem zpb:SE X E (.Dict [] [] pos) (cK .dct):=zmU
theorem zaS {id:String} {F:List D->M D} (hc:zaO X (.builtin id) (zhf X.K E F)) (hv:bootBuiltins x=some (.builtin id)) (hm:X.mg x=none) (ha:SA X E (e::es) fs) (hg:Gl X x:=by rfl) (hn:x≠"__name__":=by decide) (hdb:(x==("__debug__":Str))=false:=by decide)
  (he:starEach (e::es) X.env=(false,eval e X.env)::starEach es X.env:=by rfl) (hpl:(backTo pos (starEach es X.env)).any (·.1)=false:=by rfl):SE X E (.Call (.Name x p) (e::es) [] pos) (zax F fs):=zlY hc hg hm hv ha hn hdb he hpl
theorem zay {T:String} {F:List D->M D} (hc:zaO X (.type T) (zhf X.K E F)) (hv:bootBuiltins x=some (.type T)) (hm:X.mg x=none) (ha:SA X E (e::es) fs) (hg:Gl X x:=by rfl) (hn:x≠"__name__":=by decide) (hdb:(x==("__debug__":Str))=false:=by decide)
  (he:starEach (e::es) X.env=(false,eval e X.env)::starEach es X.env:=by rfl) (hpl:(backTo pos (starEach es X.env)).any (·.1)=false:=by rfl):SE X E (.Call (.Name x p) (e::es) [] pos) (zax F fs):=zkH hc hg hm hv ha hn hdb he hpl
theorem zg3 {T:String} (hk:zhl T) (hvT:bootBuiltins x=some (.type T)) (hm:X.mg "isinstance"=none) (hmT:X.mg x=none) (ha:SE X E a fa) (hg:Gl X "isinstance":=by rfl) (hgT:Gl X x:=by rfl)
  (hn:x≠"__name__":=by decide) (hd:(x==("__debug__":Str))=false:=by decide)
  (h1:starEach [a,.Name x p2] X.env=(false,eval a X.env)::starEach [.Name x p2] X.env:=by rfl) (h2:starEach [.Name x p2] X.env=[(false,eval (.Name x p2) X.env)]:=by rfl)
  (hpl:(backTo pos (starEach [.Name x p2] X.env)).any (·.1)=false:=by rfl):SE X E (.Call (.Name "isinstance" p1) [a,.Name x p2] [] pos) (cUn (zev T) fa):=zrG hk hg hm hgT hmT hvT ha hn hd h1 h2 hpl
theorem zeT {pos2:Pos} (hc:X.calm=true) (hm1:X.mg "sorted"=none) (hm2:X.mg "set"=none) (he:SE X E e f) (hg1:Gl X "sorted":=by rfl) (hg2:Gl X "set":=by rfl)
  (h1:starEach [.Call (.Name "set" p2) [e] [] pos2] X.env=[(false,eval (.Call (.Name "set" p2) [e] [] pos2) X.env)]:=by rfl) (h2:starEach [e] X.env=[(false,eval e X.env)]:=by rfl):
  SE X E (.Call (.Name "sorted" p1) [.Call (.Name "set" p2) [e] [] pos2] [] pos) (cUn zb3 f):=ziU hc hg1 hm1 hg2 hm2 he h1 h2
theorem zar {k:Nat} {g:Addr} {fd:FuncData} {ps:List Str} {n:Nat} {F:List D->M D} (G:zbE X.prog X.w X.K X.mg X.base CX0 k g fd ps (zbY X.K n F)) (hr:zdL k X.A) (hm:X.mg x=some (.ref g)) (hk:W.keepIn X.K (.ref g)=true) (hb:zaJ X.K fd ps [])
  (ha:SA X E0x (e::es) fs) (hg:Gl X x:=by rfl) (hdb:(x==("__debug__":Str))=false:=by decide) (he:starEach (e::es) X.env=(false,eval e X.env)::starEach es X.env:=by rfl) (hpl:(backTo pos (starEach es X.env)).any (·.1)=false:=by rfl):
  SE X E0x (.Call (.Name x p) (e::es) [] pos) (zax (zal n F) fs):=zoT G hr hg hm hk hb ha hdb he hpl
theorem zaU:SSs X E [] zdb:=zq0
theorem zai {st:Stmt} {g:FS} (h1:SS X E st g):SSs X E [st] g:=zrR h1
theorem zag {st:Stmt} {rest:List Stmt} {g g':FS} (h1:SS X E st g) (h2:SSs X E rest g'):SSs X E (st::rest) (zam g g'):=zoD h1 h2
theorem zaH (he:SE X E e f):SS X E (.Return (some e) pos) (zbr f):=ztm he
theorem zdP {ys ns:List Stmt} {t:FT} {g g':FS} (hc:ST X E c t) (ha:SSs X E ys g) (hb:SSs X E ns g'):SS X E (.If c ys ns pos) (sIf t g g'):=zuh hc ha hb
theorem zlB (he:SE X E e f) (hs:swapsWith e none pos.line X.env=pure false:=by rfl):SS X E (.Expr e pos) (zke f):=zrj he hs
theorem zaQ (i:Nat) (hN:X.N.Nodup) (he:SE X E e f) (hi:X.N[i]? = some x:=by rfl) (hx:Loc X.env.scope x:=by first | exact Or.inl rfl | exact Or.inr rfl) (hf:X.fn x=true\/X.env.scope.names.lookup x=some .local:=by first | exact Or.inl rfl | exact Or.inr rfl)
  (hs:swapsWith e (some (.Name x p)) pos.line X.env=pure false:=by rfl):SS X E (.Assign [.Name x p] e pos) (zbk i f):=zsA i hN hi hx hf he hs
theorem zjr {tg:Expr} {g:D->Sd->M Sd} (he:SE X E e f) (hg:SG X E tg g) (hs:swapsWithSole [tg] e pos.line X.env=pure false:=by rfl) (hw:swappedStores [tg] e X.env=pure none:=by rfl)
  (h1:(assignEach [tg] X.env).map (·.2)=[assign tg X.env]:=by rfl):SS X E (.Assign [tg] e pos) (zmV f g):=ztB he hg hs hw h1
theorem zas (i:Nat) (hN:X.N.Nodup) (hi:X.N[i]? = some x:=by rfl) (hx:Loc X.env.scope x:=by first | exact Or.inl rfl | exact Or.inr rfl) (hf:X.fn x=true\/X.env.scope.names.lookup x=some .local:=by first | exact Or.inl rfl | exact Or.inr rfl):SG X E (.Name x pos) (zaR i):=zpE i hN hi hx hf
theorem zdW:SGs X E [] zdG:=zoM
theorem za9 {g:D->Sd->M Sd} {gs:List D->Sd->M Sd} (h1:SG X E e g) (h2:SGs X E es gs) (hs:(assignEach (e::es) X.env).map (·.2)=assign e X.env::(assignEach es X.env).map (·.2):=by rfl):SGs X E (e::es) (za2 g gs):=zl7 h1 h2 hs
theorem zfe {k n:Nat} {gs:List D->Sd->M Sd} (hc:X.calm=true) (h:SGs X E es gs) (hn:(assignEach es X.env).length=n:=by rfl) (hst:(assignEach es X.env).findIdx? (·.1)=none:=by rfl):SG X E (.Tuple es k pos) (zdm n gs):=zq1 hc h hn hst
theorem znw (ho:SE X E a fa) (hi:SE X E b fb) (ha: ∀ v,assign (.Subscript a b pos) X.env v=(do
      let ov<-holding [v] (eval a X.env)
      let iv<-holding [v,ov] (eval b X.env)
      standAt pos
      holding [v,ov,iv] (setItem ov iv v)
      release [v,ov,iv] []):=by intro _;rfl):SG X E (.Subscript a b pos) (zmi fa fb):=zqv λhs=>zr0 ho hi hs ha
theorem zcw {tg:Expr} (he:SE X E e f):SI X E tg e (iSq f):=zre he
theorem zfO {tg:Expr} (hm:X.mg "range"=none) (ha:SA X E [a] fs) (hg:Gl X "range":=by rfl) (hs:starEach [a] X.env=[(false,eval a X.env)]:=by rfl):SI X E tg (.Call (.Name "range" p) [a] [] pos) (zg7 fs):=znX hg hm ha hs
theorem zhs {tg iter:Expr} {body:List Stmt} {fi:FA} {g:D->Sd->M Sd} {gb:FS} (hc:X.calm=true) (hp:PassesOwn (model X.prog X.w) X.A X.env X.xe) (hi:SI X E tg iter fi) (hg:SG X E tg g) (hb:SSs X E body gb)
  (hs: ∀ x,foldedSetIterable iter X.env x=pure x:=by intro _;rfl):SS X E (.For tg iter body [] pos) (zlH fi g gb):=ztC hc hp hi hg hb hs
theorem zbD:SCs X E [] (λ_=>pure true):=zrx
theorem zgB {t:FT} (h:ST X E c t):SCs X E [c] t:=zr3 h
theorem zbS {scope:Scope} {N:List Str} {src:List (Option Nat)} {tg iter elt:Expr} {ifs:List Expr} {fi:FA} {g:D->Sd->M Sd} {tc:FT} {te:FE} (hc:X.calm=true) (B:BOk X scope N src) (hk:zaI g src) (hi:SI X E tg iter fi)
  (hg: ∀ s H fp,SG (cxB X scope N s H fp) E tg g) (ht: ∀ s H fp,SCs (cxB X scope N s H fp) E ifs tc) (he: ∀ s H fp,SE (cxB X scope N s H fp) E elt te)
  (hs: ∀ x,foldedSetIterable iter X.env x=pure x:=by intro _;rfl):SE X E (.ListComp elt [⟨tg,iter,ifs,0⟩] scope pos) (zaB fi g tc te src):=zkz B hk hi hg ht he hs
theorem zdy {scope:Scope} {N:List Str} {src:List (Option Nat)} {tg iter elt:Expr} {ifs:List Expr} {fi:FA} {g:D->Sd->M Sd} {tc:FT} {te:FE} (i:Nat) {y:Str} {py spos:Pos} (hc:X.calm=true) (hN:X.N.Nodup) (B:BOk X scope N src) (hk:zaI g src) (hi:SI X E tg iter fi)
  (hg: ∀ s H fp,SG (cxB X scope N s H fp) E tg g) (ht: ∀ s H fp,SCs (cxB X scope N s H fp) E ifs tc) (he: ∀ s H fp,SE (cxB X scope N s H fp) E elt te)
  (hy:X.N[i]? = some y:=by rfl) (hx:Loc X.env.scope y:=by first | exact Or.inl rfl | exact Or.inr rfl) (hf:X.fn y=true\/X.env.scope.names.lookup y=some .local:=by first | exact Or.inl rfl | exact Or.inr rfl) (hsw:swapsWith (.ListComp elt [⟨tg,iter,ifs,0⟩] scope pos) (some (.Name y py)) spos.line X.env=pure true:=by rfl)
  (hs: ∀ x,foldedSetIterable iter X.env x=pure x:=by intro _;rfl):SS X E (.Assign [.Name y py] (.ListComp elt [⟨tg,iter,ifs,0⟩] scope pos) spos) (zbk i (zaB fi g tc te src)):=zkY i B hk hi hg ht he hN hy hx hf hsw hs
end
theorem za6.empty {K:W.Frag} {H:Hp}:za6 K ⟨[],[]⟩ H []:=⟨rfl,λm n a h=>by simp at h,λn a c h=>by simp at h,λn h=>by simp at h,λa h=>by cases h⟩
theorem ztH {K:W.Frag} {F:List D->M D} {H:Hp} {a:Addr} {ns:List Int} (hS:SqL K H a (ns.map V.int)) (hm: ∃ h',F [.scr (ns.map D.int)] []= .ok (.bl true) h'):zbY K 1 F [.ref a] H (λv _=>v= .bl true) λ_ _ _=>False:=by
 obtain ⟨h',e⟩:=hm
 refine ⟨rfl,⟨[],[]⟩,[],[.scr (ns.map D.int)],zaw.cons ?_ zaw.nil,za6.empty,?_⟩
 ·simp only [Rel]
  refine ⟨a,ns.map V.int,rfl,?_,zcQ.mpr rfl⟩
  rcases hS with h | h
  ·exact .inl ⟨h,λz=>by rcases z with z | z<;>cases z⟩
  ·exact .inr (.inr h)
 ·rw [e]
  intro ι1 H1 s hr v rv
  simpa [Rel] using rv
section
variable {sd:Sd} {a b:FE} {fs:FA} {t u:FT} {g g':FS} {F:D->D->M D}
@[simp] theorem zb8:cOp F a b sd=(do let x<-a sd;let y<-b sd;F x y):=rfl
@[simp] theorem znj {F:D->M D}:cUn F a sd=(do let x<-a sd;F x):=rfl
@[simp] theorem zbj {F:List D->M D}:zax F fs sd=(do let ds<-fs sd;F ds):=rfl
@[simp] theorem zeb:zbq F a b sd=(do let z<-(do let x<-a sd;let y<-b sd;F x y);zcr z):=rfl
@[simp] theorem ziI:zid a sd=(do let x<-a sd;zcr x):=rfl
@[simp] theorem ziL:zhe t sd=(do let c<-t sd;pure (!c)):=rfl
@[simp] theorem zqu:zpL t u sd=(do let c<-t sd;if c=true then u sd else pure false):=rfl
@[simp] theorem zoE:tOr t u sd=(do let c<-t sd;if c=true then pure true else u sd):=rfl
@[simp] theorem znr:zm7 a b sd=(do let c<-(do let x<-a sd;zcr x);if c=true then b sd else pure (.bl false)):=rfl
@[simp] theorem ztj:cOr a b sd=(do let c<-(do let x<-a sd;zcr x);if c=true then pure (.bl true) else b sd):=rfl
@[simp] theorem znA:zs3 a sd=(do let c<-(do let x<-a sd;zcr x);pure (.bl (!c))):=rfl
@[simp] theorem zsL:cIf t a b sd=(do let c<-t sd;if c=true then a sd else b sd):=rfl
@[simp] theorem zeL {d:D}:cK d sd=pure d:=rfl
@[simp] theorem zaX:zaj sd=pure []:=rfl
@[simp] theorem zaK:zab a fs sd=(do let x<-a sd;let r<-fs sd;pure (x::r)):=rfl
@[simp] theorem zgO:zec fs sd=(do let ds<-fs sd;fits ds.length;pure (.tup ds)):=rfl
@[simp] theorem zh2:zfa fs sd=(do let ds<-fs sd;fits ds.length;pure (.lst ds)):=rfl
@[simp] theorem zfH:zja fs sd=(do let ds<-fs sd;fits ds.length;zeW ds):=rfl
@[simp] theorem zee:zdb sd=pure (.nx sd):=rfl
@[simp] theorem zaY:zam g g' sd=(do let o<-g sd;andThen o g'):=rfl
@[simp] theorem zcG {i:Nat}:zbk i a sd=(do let d<-a sd;pure (.nx (sd.set i (some d)))):=rfl
@[simp] theorem zcD:zbr a sd=(do let d<-a sd;pure (.rt d)):=rfl
@[simp] theorem zgj:sIf t g g' sd=(do let c<-t sd;if c=true then g sd else g' sd):=rfl
@[simp] theorem ziG {fi:FA} {gt:D->Sd->M Sd}:zlH fi gt g sd=(do let ds<-fi sd;zbe (λx sd=>do let sd1<-gt x sd;g sd1) ds sd):=rfl
@[simp] theorem zhV {gt:D->Sd->M Sd}:zmV a gt sd=(do let d<-a sd;let sd'<-gt d sd;pure (.nx sd')):=rfl
@[simp] theorem zou:zke a sd=(do let _<-a sd;pure (.nx sd)):=rfl
@[simp] theorem zn5:iSq a sd=(do let d<-a sd;zfw d):=rfl
@[simp] theorem zgQ:zg7 fs sd=(do let ds<-fs sd;zj0 ds):=rfl
@[simp] theorem zjQ {d:D}:zmi a b d sd=(do let x<-a sd;let y<-b sd;zlk x y d;pure sd):=rfl
@[simp] theorem zcR {i:Nat} {d:D}:zaR i d sd=pure (sd.set i (some d)):=rfl
@[simp] theorem zgM:andThen (.nx sd) g=g sd:=rfl
@[simp] theorem zsn {d:D}:andThen (.rt d) g=pure (.rt d):=rfl
@[simp] theorem ztD:zcC (.nx sd)=pure .non:=rfl
@[simp] theorem ze8 {d:D}:zcC (.rt d)=pure d:=rfl
@[simp] theorem zcS {c:Bool}:zcr (.bl c)=pure c:=rfl
@[simp] theorem zsN {lo hi:Sd->M (Option Int)}:cSl a lo hi sd=(do let d<-a sd;let l<-lo sd;let u<-hi sd;dSl d l u):=rfl
@[simp] theorem zn3:zdk sd=pure none:=rfl
@[simp] theorem zod:zct a sd=(do let d<-a sd;zok d):=rfl
@[simp] theorem zrK {i:Int}:zok (.int i)=pure (some i):=rfl
@[simp] theorem zsE {ds:List D} {lo hi:Option Int}:dSl (.tup ds) lo hi=pure (.tup (zjf ds lo hi)):=rfl
@[simp] theorem zs5 {ds:List D}:zuk (.tup ds)=pure (.tup ds.reverse):=rfl
@[simp] theorem zrt {i:Int}:zqS (.int i)=pure (.int (-i)):=rfl
@[simp] theorem zdh {i j:Int}:zbC (.int i) (.int j)=pure (.int (i+j)):=rfl
@[simp] theorem zns {xs ys:List D}:zbC (.tup xs) (.tup ys)=(do fits (xs.length+ys.length);pure (.tup (xs++ys))):=rfl
@[simp] theorem zr9 {xs ys:List D}:zbC (.lst xs) (.lst ys)=(do fits (xs.length+ys.length);pure (.lst (xs++ys))):=rfl
@[simp] theorem znV {i j:Int}:zsa (.int i) (.int j)=pure (.int (i - j)):=rfl
@[simp] theorem ztu {i j:Int}:ztt (.int i) (.int j)=pure (.int (Builtin.bitAnd i j)):=rfl
@[simp] theorem zpJ {i j:Int}:dLt (.int i) (.int j)=pure (.bl (decide (i<j))):=rfl
@[simp] theorem zuo {i j:Int}:dGt (.int i) (.int j)=pure (.bl (decide (j<i))):=rfl
@[simp] theorem ztZ {i j:Int}:dGe (.int i) (.int j)=pure (.bl (decide (j<=i))):=rfl
@[simp] theorem zqr {ds:List D}:zi8 [.tup ds]=pure (.int ds.length):=rfl
@[simp] theorem znE {ds:List D}:zi8 [.lst ds]=pure (.int ds.length):=rfl
@[simp] theorem znB {ds:List D}:zi8 [.scr ds]=pure (.int ds.length):=rfl
@[simp] theorem zqQ {ds:List D}:zbM [.tup ds]=pure (.tup ds):=rfl
@[simp] theorem zgw {ds:List D}:zbM [.lst ds]=pure (.tup ds):=rfl
@[simp] theorem zqh {ds:List D}:zsH [.tup ds]=pure (.lst ds):=rfl
@[simp] theorem zrS {ds:List D}:zfw (.tup ds)=pure ds:=rfl
@[simp] theorem zoS {ds:List D}:zfw (.lst ds)=pure ds:=rfl
@[simp] theorem zhF {F:List D->M D} {x:D}:zal 1 F [x]=F [x]:=rfl
@[simp] theorem zbx {F:List D->M D} {x y:D}:zal 2 F [x,y]=F [x,y]:=rfl
@[simp] theorem zo9 {F:List D->M D} {x y z:D}:zal 3 F [x,y,z]=F [x,y,z]:=rfl
@[simp] theorem zeo {body:D->Sd->M Out}:zbe body [] sd=pure (.nx sd):=rfl
theorem zcv {body:D->Sd->M Out} {x:D} {r:List D}:zbe body (x::r) sd=(do let o<-body x sd;match o with | .nx sd'=>zbe body r sd' | .ct sd'=>zbe body r sd' | .bk sd'=>pure (.nx sd') | .rt d=>pure (.rt d)):=rfl
@[simp] theorem zkx {gs:List D->Sd->M Sd} {x y:D}:zdm 2 gs (.tup [x,y]) sd=gs [x,y] sd:=rfl
@[simp] theorem zk7:zdG [] sd=pure sd:=rfl
@[simp] theorem zhS {gt:D->Sd->M Sd} {gs:List D->Sd->M Sd} {x:D} {r:List D}:za2 gt gs (x::r) sd=(do let sd1<-gt x sd;gs r sd1):=rfl
@[simp] theorem znq {n:Nat} {k:Int} {d:D}:zlk (.cel n) (.int k) d=(do let ds<-zaq n;let j<-ofO (ixN ds.length k);zbF n (ds.set j d)):=rfl
@[simp] theorem ztb {ds:List D} {i:Int}:dIx (.tup ds) (.int i)=ofO (atI ds i):=rfl
@[simp] theorem zlm {ds:List D} {i:Int}:dIx (.lst ds) (.int i)=ofO (atI ds i):=rfl
@[simp] theorem zsp {ds:List D} {i:Int}:dIx (.scr ds) (.int i)=ofO (atI ds i):=rfl
@[simp] theorem zmt {n:Nat} {i:Int}:dIx (.cel n) (.int i)=(do let ds<-zaq n;ofO (atI ds i)):=rfl
@[simp] theorem zcM {α:Type} {x:α}:ofO (some x)=pure x:=rfl
@[simp] theorem zkR {x:D} {r:List D}:atI (x::r) 0=some x:=by unfold atI ixN;simp
@[simp] theorem zqs {x y:D} {r:List D}:atI (x::y::r) 1=some y:=by
 have:=zdS (xs:=x::y::r) (j:=1) (v:=y) rfl
 simpa using this
end
theorem zaA {n:Nat} (h:n<=1000):fits n=pure ():=by
 unfold fits
 rw [qa4 (qaS h (by decide))]
theorem zhW {i j:Int} (h:(zb7 i || zb7 j)=true):zjt (.int i) (.int j)=pure (.int (i*j)):=by
 show (if (zb7 i || zb7 j)=true then _ else _)=_
 rw [qa4 h]
theorem zib {i:Int} (h: -1000000000000000<i) (h':i<1000000000000000):zb7 i=true:=by unfold zb7;simp;omega
theorem zgK {i j:Int} (h: -1000000000000000<i) (h':i<1000000000000000):zjt (.int i) (.int j)=pure (.int (i*j)):=zhW (by rw [zib h h'];rfl)
theorem znK {i j:Int} (h: -1000000000000000<j) (h':j<1000000000000000):zjt (.int i) (.int j)=pure (.int (i*j)):=zhW (by rw [zib h h'];simp)
theorem zdV {i j:Int} (h:0<j):znR (.int i) (.int j)=pure (.int (i % j)):=by
 show (if (decide (0<j))=true then _ else _)=_
 rw [qa4 (by simpa using h)]
theorem ziy {i j:Int} (h:0<j) (h':j<2^64):zmz (.int i) (.int j)=pure (.int (i / j)):=by
 show (if (decide (0<j) && decide (j<2^64))=true then _ else _)=_
 rw [qa4 (by rw [qaG];exact ⟨by simpa using h,by simpa using h'⟩)]
theorem zlE {i j:Int}:dEq (.int i) (.int j)=pure (.bl (i==j)):=by
 unfold dEq ziK
 simp only [pd]
 rw [qa4 (show zel (.int i) (.int j)=true from rfl)]
 rfl
theorem ztR {i j:Int}:dNe (.int i) (.int j)=pure (.bl (!(i==j))):=by
 unfold dNe ziK
 simp only [pd]
 rw [qa4 (show zel (.int i) (.int j)=true from rfl)]
 rfl
def wp {α:Type} (m:M α) (h:Hh) (P:α->Hh->Prop):Prop:= ∃ a h',m h= .ok a h'/\P a h'
section
variable {α β:Type} {h:Hh} {P P':α->Hh->Prop}
theorem zak {a:α}:wp (pure a:M α) h P↔P a h:=⟨λ⟨b,h',e,q⟩=>by cases (show R.ok a h=R.ok b h' from e);exact q,λq=>⟨a,h,rfl,q⟩⟩
theorem zan {m:M β} {f:β->M α}:wp (m>>=f) h P↔wp m h λb h'=>wp (f b) h' P:=by
 constructor
 ·rintro ⟨a,h',e,q⟩
  have e:M.bind m f h= .ok a h':=e
  unfold M.bind at e
  cases z:m h with
  | ok b h1=>rw [z] at e;exact ⟨b,h1,z,a,h',e,q⟩
  | exc c h1=>rw [z] at e;cases e
  | bad=>rw [z] at e;cases e
 ·rintro ⟨b,h1,e,a,h',e2,q⟩
  refine ⟨a,h',?_,q⟩
  show M.bind m f h=_
  unfold M.bind
  rw [e]
  exact e2
theorem zkU {m:M α} (q:wp m h P) (k: ∀ a h',P a h'->P' a h'):wp m h P':=by
 obtain ⟨a,h',e,q⟩:=q
 exact ⟨a,h',e,k _ _ q⟩
theorem zdN {n:Nat} {ds:List D} {P:List D->Hh->Prop} (e:h[n]? = some (.lst ds)):wp (zaq n) h P↔P ds h:=by
 unfold wp zaq
 rw [e]
 exact ⟨λ⟨b,h',e,q⟩=>by cases e;exact q,λq=>⟨_,_,rfl,q⟩⟩
theorem zk3 {n:Nat} {ds:List D} {P:Unit->Hh->Prop}:wp (zbF n ds) h P↔P () (h.set n (.lst ds)):=⟨λ⟨b,h',e,q⟩=>by cases (show R.ok () (h.set n (.lst ds))=R.ok b h' from e);exact q,λq=>⟨_,_,rfl,q⟩⟩
theorem ziw {ds:List D} {P:D->Hh->Prop}:wp (zeW ds) h P↔P (.cel h.length) (h++[.lst ds]):=⟨λ⟨b,h',e,q⟩=>by cases (show R.ok (D.cel h.length) (h++[C.lst ds])=R.ok b h' from e);exact q,λq=>⟨_,_,rfl,q⟩⟩
end
theorem zdX {f:D->M (Option D)} {k:D->Option D}: ∀ {ds:List D},(∀ x∈ds,f x=pure (k x))->zbg f ds=pure (ds.filterMap k)
 | [],_=>rfl
 | x::r,hf=>by
  rw [zbg,hf x qau,zdX λy hy=>hf y (qan _ hy)]
  simp only [pure_bind]
  cases e:k x<;>simp [qat,e]
theorem zc4 {fi:FA} {g:D->Sd->M Sd} {tc:FT} {te:FE} {src:List (Option Nat)} {sd:Sd} {ds:List D} {k:D->Option D} (hi:fi sd=pure ds) (hl:ds.length<=1000) (hf: ∀ x∈ds,zbd g tc te (zat src sd) x=pure (k x)):zaB fi g tc te src sd=pure (.lst (ds.filterMap k)):=by
 unfold zaB
 rw [hi]
 simp only [pure_bind]
 rw [zaA hl]
 simp only [pure_bind]
 rw [zdX hf]
 simp only [pure_bind]
theorem zld {fi:FA} {g:D->Sd->M Sd} {tc:FT} {te:FE} {src:List (Option Nat)} {sd:Sd} {ds:List D} {k:D->D} (hi:fi sd=pure ds) (hl:ds.length<=1000) (hf: ∀ x∈ds,zbd g tc te (zat src sd) x=pure (some (k x))):zaB fi g tc te src sd=pure (.lst (ds.map k)):=by
 rw [zc4 (k:=λx=>some (k x)) hi hl hf]
 simp
theorem zh5: ∀ bs:List Bool,zm8 (bs.map D.bl)=some bs
 | []=>rfl
 | b::r=>by rw [qaM,zm8,zh5 r];rfl
theorem zco: ∀ bs:List Int,zei (bs.map D.int)=some bs
 | []=>rfl
 | b::r=>by rw [qaM,zei,zco r];rfl
theorem zjA (bs:List Bool):zql [.lst (bs.map D.bl)]=pure (.bl (bs.all id)):=by
 show (do let bs<-ofO (zm8 (bs.map D.bl));pure (.bl (bs.all id)):M D)=_
 rw [zh5]
 rfl
theorem zkk {d:D} {xs:List Int} (e:zl6 d=pure (xs.map D.int)) (h:(xs.foldl step_dedup []).length<64) (h2:xs.length<4000):zb3 d=pure (.lst ((zhc xs).map D.int)):=by
 unfold zb3
 rw [e]
 show (do let ns<-ofO (zei (xs.map D.int));if (ns.foldl step_dedup []).length<64/\ns.length<4000 then pure (.lst ((zhc ns).map D.int)) else M.bad:M D)=_
 rw [zco]
 show (if (xs.foldl step_dedup []).length<64/\xs.length<4000 then (pure (.lst ((zhc xs).map D.int)):M D) else M.bad)=_
 rw [qa4 ⟨h,h2⟩]
theorem zcZ {xs:List Int} (h:xs.length<64):zb3 (.lst (xs.map D.int))=pure (.lst ((zhc xs).map D.int)):=zkk rfl (Nat.lt_of_le_of_lt (zkS xs) h) ⋯
theorem zjp {xs:List Int} (h:xs.length<64):zhN [.tup (xs.map D.int)]=pure (.lst ((zcm xs).map D.int)):=by
 show (do let ns<-ofO (zei (xs.map D.int));if ns.length<64 then pure (.lst ((zcm ns).map D.int)) else M.bad:M D)=_
 rw [zco]
 show (if xs.length<64 then (pure (.lst ((zcm xs).map D.int)):M D) else M.bad)=_
 rw [qa4 h]
def kn:D->Bool
 | .non | .bl _ | .int _ | .str _ | .tup _ | .lst _ | .dct=>true
 | _=>false
def isT:D->Bool
 | .tup _=>true
 | _=>false
def isI:D->Bool
 | .int _=>true
 | _=>false
theorem znu {d:D} (k:kn d=true):zev "tuple" d=pure (.bl (isT d)):=by
 cases d<;>simp [kn] at k<;>simp [zev,tyD,isB,isT]
theorem zpd {d:D} (k:kn d=true):zev "int" d=pure (.bl (isI d || (match d with | .bl _=>true | _=>false))):=by
 cases d<;>simp [kn] at k<;>simp [zev,tyD,isB,isI]
theorem zqD {d:D} (k:kn d=true):zev "bool" d=pure (.bl (match d with | .bl _=>true | _=>false)):=by
 cases d<;>simp [kn] at k<;>simp [zev,tyD,isB,isI]
mutual
noncomputable def zkK:D->Bool
 | .non | .bl _ | .int _=>true
 | .str x=>PyData.strOk x
 | .tup ds=>decide (ds.length<64) && zhE ds
 | .lst ds=>decide (ds.length<64) && zhE ds
 | _=>false
noncomputable def zhE:List D->Bool
 | []=>true
 | d::r=>zkK d && zhE r
end
mutual
theorem zpo: ∀ {d:D},zkK d=true-> ∃ p,pd d=some p/\p.canLay0=true
 | .non,_=>⟨.none,rfl,rfl⟩
 | .bl b,_=>⟨.bool b,rfl,rfl⟩
 | .int i,_=>⟨.int i,rfl,rfl⟩
 | .str x,g=>⟨.str x,rfl,by simpa [zkK,PyData.canLay0] using g⟩
 | .tup ds,g=>by
  have g2:zhE ds=true:=by simp [zkK] at g;exact g.2
  obtain ⟨ps,e,c⟩:=zfP g2
  exact ⟨.tuple ps,by unfold pd;rw [e];rfl,c⟩
 | .lst ds,g=>by
  have g2:zhE ds=true:=by simp [zkK] at g;exact g.2
  obtain ⟨ps,e,c⟩:=zfP g2
  exact ⟨.list ps,by unfold pd;rw [e];rfl,c⟩
 | .cel _,g=>by simp [zkK] at g
 | .set _,g=>by simp [zkK] at g
 | .dct,g=>by simp [zkK] at g
 | .fn _,g=>by simp [zkK] at g
 | .scr _,g=>by simp [zkK] at g
 | .exn _,g=>by simp [zkK] at g
theorem zfP: ∀ {ds:List D},zhE ds=true-> ∃ ps,pdL ds=some ps/\PyData.canLayAll0 ps=true
 | [],_=>⟨[],rfl,rfl⟩
 | d::r,g=>by
  simp [zhE] at g
  obtain ⟨p,e,c⟩:=zpo g.1
  obtain ⟨ps,e2,c2⟩:=zfP g.2
  exact ⟨p::ps,by unfold pdL;rw [e,e2],by simp [PyData.canLayAll0,c,c2]⟩
end
theorem zcy: ∀ xs:List Int,pdL (xs.map D.int)=some (xs.map PyData.int)
 | []=>rfl
 | x::r=>by rw [qaM,pdL,zcy r];rfl
theorem za8: ∀ xs:List Int,PyData.canLayAll0 (xs.map PyData.int)=true
 | []=>rfl
 | x::r=>by simp [PyData.canLayAll0,PyData.canLay0,za8 r]
theorem zbK: ∀ xs:List Int,PyData.depthAll (xs.map PyData.int)=0
 | []=>rfl
 | x::r=>by simp [PyData.depthAll,PyData.depth,zbK r]
theorem zep: ∀ xs ys:List Int,PyData.eqvAll (xs.map PyData.int) (ys.map PyData.int)=(xs==ys)
 | [],[]=>rfl
 | [],_::_=>rfl
 | _::_,[]=>rfl
 | x::xs,y::ys=>by
  simp only [qaM,PyData.eqvAll,PyData.eqv,zep xs ys]
  rfl
theorem zil (xs ys:List Int):dNe (.lst (xs.map D.int)) (.lst (ys.map D.int))=pure (.bl (!(xs==ys))):=by
 show ziK true _ _=_
 unfold ziK
 have e1:pd (.lst (xs.map D.int))=some (.list (xs.map PyData.int)):=by unfold pd;rw [zcy];rfl
 have e2:pd (.lst (ys.map D.int))=some (.list (ys.map PyData.int)):=by unfold pd;rw [zcy];rfl
 rw [e1,e2]
 have c:zel (.list (xs.map PyData.int)) (.list (ys.map PyData.int))=true:=by
  unfold zel
  simp [PyData.canLay0,za8,PyData.depth,zbK]
 simp only [c,if_true,PyData.eqv,zep]
theorem ziH (k:Int): ∀ xs:List Int,((xs.map PyData.int).any λy=>PyData.eqv y (.int k))=xs.any (· == k)
 | []=>rfl
 | x::r=>by simp only [qaM,any_cons,ziH k r];rfl
theorem zm1 (k:Int) (xs:List Int):dIn (.int k) (.tup (xs.map D.int))=pure (.bl (xs.any (· == k))):=by
 show zmM false (.int k) (.tup (xs.map D.int))=_
 unfold zmM
 simp only [pd]
 rw [zcy]
 have c:zjx (.int k) (xs.map PyData.int)=true:=by
  unfold zjx
  simp [PyData.canLay0,za8,PyData.depth,zbK]
 simp only [c,if_true,ziH]
 rfl
end L3
namespace L2
open LT
section
variable {X:Cx}
end
end L2
namespace L3
open L2 LT
section
variable {X:Cx} {E:XE} {a b c o e:Expr} {pos apos cpos:Pos} {fa fb fc fo fe:FE}
def zfp:D->M Unit
 | .cel n=>do let _<-zaq n;pure ()
 | _=>M.bad
def zdp (x y:D):M D:=match x with
 | .cel n=>do
  let ds<-zaq n
  fits (ds.length+1)
  zbF n (ds++[y])
  pure .non
 | _=>M.bad
def zhx (fo fe:FE):FE:=λsd=>do
 let x<-fo sd
 zfp x
 let y<-fe sd
 zdp x y
theorem zlg {α:Type} {K:W.Frag} {ι:Io} {H:Hp} {h:Hh} {n:Nat} {f:List D->M α} {P:α->Io->Hp->Prop} (q:Fin K E ι H ((zaq n>>=f) h) P): ∃ ds,h[n]? = some (.lst ds)/\Fin K E ι H (f ds h) P:=by
 have q':Fin K E ι H (M.bind (zaq n) f h) P:=q
 unfold M.bind at q'
 cases z:zaq n h with
 | bad=>rw [z] at q';exact qa0 q'
 | exc c h'=>unfold zaq at z;split at z<;>cases z
 | ok ds h'=>
  rw [z] at q'
  obtain ⟨rfl,z2⟩:=zcq z
  exact ⟨ds,z2,q'⟩
theorem zm4 (ho:SE X E o fo) (he:SE X E e fe)
  (hbase:attributeBase o "append" X.env (eval o X.env)=eval o X.env:=by rfl)
  (hfew:((backTo cpos (starEach [e] X.env)).all (λx=> !x.1) && (backToKw cpos (keywordEach [] X.env)).all (λx=>x.1.isSome)
    && decide (([e]:List Expr).length+([]:List Keyword).length+(if ([]:List Keyword).isEmpty then 0 else 1)<30))=true:=by rfl)
  (hline:(apos.endLine==cpos.line)=true:=by rfl) (hs:starEach [e] X.env=(false,eval e X.env)::starEach [] X.env:=by rfl) (hplain:(backTo cpos (starEach [] X.env)).any (·.1)=false:=by rfl):
  SE X E (.Call (.Attribute o "append" apos) [e] [] cpos) (zhx fo fe):=by
 refine PE.imp (ziV PySem.F.plainAttrs_list PySem.F.slot_list_append PySem.F.type_list_append zeS ho (zbc he zcn hs) hbase hfew hline hs hplain) λσ H Q ⟨ι,h,sd,L,hh,q⟩=>⟨ι,h,sd,L,hh,Fin.bind q λd h1 ι1 H1 e1 s1 hr1 q1 v rv=> ?_⟩
 cases d with
 | cel n=>
  have q2:Fin X.K E ι1 H1 ((zaq n>>=λ_=>fe sd>>=λy=>zdp (.cel n) y) h1) (λd ι' H'=> ∀ v,Rel X.K ι' H' d v->Q v H'):=by
   have ee:(zfp (.cel n)>>=λ_=>fe sd>>=λy=>zdp (.cel n) y:M D)=(zaq n>>=λ_=>fe sd>>=λy=>zdp (.cel n) y):=by
    show ((zaq n>>=λ_=>pure ())>>=λ_=>fe sd>>=λy=>zdp (.cel n) y)=_
    simp only [bind_assoc,pure_bind]
   rw [<- ee]
   exact q1
  obtain ⟨ds,e2,q3⟩:=zlg q2
  obtain ⟨a,vs,rfl,hn,hH,rl⟩:=hr1.read rv e2
  refine ⟨.inl ⟨rfl,vs,SqL.of hH⟩,ι1,h1,sd,L.step s1,hr1,Fin.bind q3 λy h3 ι3 H3 e3 s3 hr3 q4 w rw'=> ?_⟩
  have rv3:=rv.step s3
  have q5:Fin X.K E ι3 H3 ((zaq n>>=λds=>fits (ds.length+1)>>=λ_=>zbF n (ds++[y])>>=λ_=>pure D.non) h3) (λd ι' H'=> ∀ v,Rel X.K ι' H' d v->Q v H'):=q4
  obtain ⟨ds3,e4,q6⟩:=zlg q5
  obtain ⟨a3,vs3,ea,hn3,hH3,rl3⟩:=hr3.read rv3 e4
  cases ea
  obtain ⟨z,q7⟩:=Fin.fits q6
  refine ⟨a,vs3,w,rfl,rfl,hH3,by rw [<- rl3.length];omega,?_⟩
  have q8:Fin X.K E ι3 H3 (R.ok D.non (h3.set n (.lst (ds3++[y])))) (λd ι' H'=> ∀ v,Rel X.K ι' H' d v->Q v H'):=q7
  exact q8 ι3 _ (hr3.cellS hn3) (hr3.cell hn3 (rl3.append (zaw.cons rw' zaw.nil))) _ (by simp [Rel])
 | _=>exact qa0 q1
end
end L3
namespace Att
open PySem.W PySem.Calls
end Att
namespace L2
end L2
namespace L3
open L2 LT
section
variable {X:Cx} {E:XE}
end
end L3
namespace PySem
open PySem.Sem (wp)
open PySem.AutoSeq1 (wpAny_loadPart')
section
variable {prog:Program} {w:World} {A:Around} {E:Value->Shared->Prop} {s:Shared}
end
end PySem
namespace L2
open LT
section
variable {X:Cx}
end
end L2
namespace L3
open L2 LT
section
variable {X:Cx} {E:XE} {e:Expr} {f:FE}
end
@[simp] theorem zaD {d:D} {r:Sd}:zaf 0 (some d::r)=pure d:=rfl
@[simp] theorem zaM {n:Nat} {x:Option D} {r:Sd}:zaf (n+1) (x::r)=zaf n r:=rfl
def zbt (m:Int):Int->List D->Bool
 | _,[]=>true
 | l,.int i::r=>decide (l<=i) && decide (i<m) && zbt m (i+1) r
 | _,_::_=>false
theorem zbh {m:Int}: ∀ {xs:List Int} {l:Int},zbt m l (xs.map D.int)=true↔xs.Pairwise (· < ·)/\ ∀ x∈xs,l<=x/\x<m
 | [],l=>by simp [zbt]
 | x::r,l=>by
  rw [qaM,zbt,qaG,qaG,zbh (xs:=r) (l:=x+1),qay]
  simp only [qaD,qaP,forall_eq_or_imp]
  constructor
  ·rintro ⟨⟨h1,h2⟩,h3,h4⟩
   refine ⟨⟨λy hy=> ?_,h3⟩,⟨h1,h2⟩,λy hy=> ?_⟩
   ·have:=(h4 y hy).1;omega
   ·have:=h4 y hy;omega
  ·rintro ⟨⟨h1,h2⟩,⟨h3,h4⟩,h5⟩
   refine ⟨⟨h3,h4⟩,h2,λy hy=> ?_⟩
   have a1:=h1 y hy
   have a2:=h5 y hy
   omega
theorem zf5 {m:Int}: ∀ {ts:List D} {l:Int},zbt m l ts=true->ts.all isI=true
 | [],_,_=>rfl
 | d::r,l,h=>by
  cases d<;>first
   | (simp [zbt] at h;done)
   | (rw [zbt,qaG] at h;rw [all_cons,zf5 h.2];rfl)
theorem zhO: ∀ {ts:List D},ts.all isI=true-> ∃ xs:List Int,ts=xs.map D.int
 | [],_=>⟨[],rfl⟩
 | d::r,h=>by
  rw [all_cons,qaG] at h
  obtain ⟨xs,e⟩:=zhO h.2
  cases d<;>first
   | (simp [isI] at h;done)
   | (rename_i i;exact ⟨i::xs,by rw [e];rfl⟩)
theorem zjC {xs:List Int} (h:xs.Pairwise (· < ·)):zhc xs=xs:=by
 have hn:xs.Nodup:=h.imp λz=>by omega
 have hp:List.Perm (xs.foldl step_dedup []) xs:=by
  refine (List.perm_ext_iff_of_nodup (zdv xs [] List.nodup_nil) hn).mpr λk=>zgk
 unfold zhc
 exact (zf7 hp.symm (h.imp λz=>by omega)).symm
theorem zet {m:Int}: ∀ {ts:List D} {l:Int},zbt m l ts=true->l<=m->(ts.length:Int)<=m - l
 | [],l,_,h=>by simp;omega
 | d::r,l,h,hl=>by
  cases d<;>first
   | (simp [zbt] at h;done)
   | (rename_i i
      rw [zbt,qaG,qaG,qaD,qaD] at h
      have:=zet h.2 ⋯
      simp
      omega)
def Bx (b:Nat) (h:Hh):Prop:= ∃ z:Int,h[b]? = some (.lst [.int z])
def Ext (b:Nat) (h h':Hh):Prop:=Bx b h'/\ ∀ (n:Nat) (c:C),n≠b->h[n]? = some c->h'[n]? = some c
theorem Ext.refl {b:Nat} {h:Hh} (q:Bx b h):Ext b h h:=⟨q,λ_ _ _ e=>e⟩
theorem Ext.trans {b:Nat} {h h1 h2:Hh} (p:Ext b h h1) (q:Ext b h1 h2):Ext b h h2:=⟨q.1,λn c hn e=>q.2 n c hn (p.2 n c hn e)⟩
theorem Bx.set {b:Nat} {h:Hh} {z:Int} (q:Bx b h):Ext b h (h.set b (.lst [.int z])):=by
 obtain ⟨y,e⟩:=q
 have hl:=(qac.mp e).1
 exact ⟨⟨z,qai hl⟩,λn c hn e=>by rw [qao (Ne.symm hn)];exact e⟩
theorem Bx.push {b:Nat} {h:Hh} {c:C} (q:Bx b h):Ext b h (h++[c]):=by
 obtain ⟨y,e⟩:=q
 have hl:=(qac.mp e).1
 refine ⟨⟨y,by rw [qad hl];exact e⟩,λn c' hn e=> ?_⟩
 rw [qad (qac.mp e).1]
 exact e
theorem zcB {j:Int} (h0:0<=j) (h:j<1000):zj0 [.int j]=pure (ze5 0 j.toNat):=by
 show (if zdi j=true then _ else _)=_
 rw [qa4 (by unfold zdi;simp;omega)]
theorem zf1 {n:Nat} {d:D} (h:d∈ze5 0 n): ∃ i:Int,d= .int i/\0<=i/\i<n:=by
 unfold ze5 at h
 obtain ⟨k,hk,e⟩:=qaU.mp h
 have:=mem_range.mp hk
 exact ⟨0+(k:Int),e.symm,⋯,⋯⟩
theorem zds {n:Nat}:(ze5 0 n).length=n:=by unfold ze5;simp
theorem zew (n:Nat):ze5 0 n=((List.range n).map λ(k:Nat)=>(k:Int)).map D.int:=by unfold ze5;simp
theorem zkG {α:Type} {c:Prop} [Decidable c] {a b:M α} {h:Hh} {P:α->Hh->Prop}:wp (if c then a else b) h P↔if c then wp a h P else wp b h P:=by split<;>exact Iff.rfl
theorem zn1 {m:Int} (h0:0<=m) (h:m<=1000):zsK (.int 1) (.int m)=pure (.int (1*2^m.toNat)):=by
 show (if zpM 1 m=true then _ else _)=_
 rw [qa4 (by unfold zpM;simp;omega)]
theorem zoo {i m:Int} (h0:0<=m):ztG (.int i) (.int m)=pure (.int (i / 2^m.toNat)):=by
 show (if decide (0<=m)=true then _ else _)=_
 rw [qa4 (by simpa using h0)]
theorem zoA:zsj (.int 10) (.int 12)=pure (.int 1000000000000):=by
 unfold zsj dII
 simp only
 rw [qa4 (by decide)]
 rfl
theorem zn7 (i:Int):Builtin.bitAnd i 1=i % 2:=by
 exact bitAnd_m1 i
theorem zdU {f:D->M (Option D)} {k:D->Option D} {h:Hh}: ∀ {ds:List D} {P:List D->Hh->Prop},(∀ x∈ds,wp (f x) h λo h'=>o=k x/\h'=h)->P (ds.filterMap k) h->wp (zbg f ds) h P
 | [],P,_,q=>by rw [zbg,zak];exact q
 | x::r,P,hf,q=>by
  rw [zbg,zan]
  refine zkU (hf x qau) ?_
  rintro o h' ⟨rfl,rfl⟩
  rw [zan]
  refine zdU (k:=k) (λy hy=>hf y (qan _ hy)) ?_
  rw [zak]
  cases e:k x with
  | none=>rw [qat,e] at q;exact q
  | some y=>rw [qat,e] at q;exact q
theorem ziR {fi:FA} {g:D->Sd->M Sd} {tc:FT} {te:FE} {src:List (Option Nat)} {sd:Sd} {ds:List D} {k:D->Option D} {h:Hh} {P:D->Hh->Prop} (hi:fi sd=pure ds) (hl:ds.length<=1000) (hf: ∀ x∈ds,wp (zbd g tc te (zat src sd) x) h λo h'=>o=k x/\h'=h) (q:P (.lst (ds.filterMap k)) h):wp (zaB fi g tc te src sd) h P:=by
 unfold zaB
 rw [hi]
 simp only [pure_bind]
 rw [zaA hl]
 simp only [pure_bind]
 rw [zan]
 refine zdU hf ?_
 rw [zak]
 exact q
theorem zoi {xs:List Int} {i:Int} (h:xs.Pairwise (· < ·)) (hi:i∉xs):(zcm (xs++[i])).Pairwise (· < ·):=by
 have hn:(xs++[i]).Nodup:=by
  rw [List.nodup_append]
  refine ⟨h.imp λz=>by omega,by simp,λa ha b hb=> ?_⟩
  simp at hb
  subst hb
  exact λz=>hi (z▸ha)
 have hn2:(zcm (xs++[i])).Nodup:=(zaW _).nodup_iff.mpr hn
 exact ((zdJ (xs++[i])).and hn2).imp λ⟨a,b⟩=>by omega
theorem zjR {xs:List D} {z:D} (h:xs.getLast? = some z):atI xs (-1)=some z:=by
 obtain ⟨ys,e⟩:=List.getLast?_eq_some_iff.mp h
 subst e
 exact zhZ ys z
end L3
namespace L2
open L3
theorem zbZ.there {P:Program} {w:World} {H:Hp} {h:Heap} {a:Addr} {o:HO} (x:zbZ P w H h a o): ∃ ob,h.get? a=some ob:=by
 cases o with
 | lst xs=>obtain ⟨_,_,_,_,e⟩:=x;exact ⟨_,e⟩
 | tup xs=>obtain ⟨_,_,_,ob,e,_⟩:=x;exact ⟨ob,e⟩
 | dK kvs=>obtain ⟨_,_,_,_,ob,_,_,e,_⟩:=x;exact ⟨ob,e⟩
 | dT kvs=>obtain ⟨_,_,_,_,ob,_,_,e,_⟩:=x;exact ⟨ob,e⟩
 | set S n=>obtain ⟨ob,_,_,_,e,_⟩:=x;exact ⟨ob,e⟩
 | ins C dx fs=>obtain ⟨_,_,_,e,_⟩:=x;exact ⟨_,e⟩
 | own y=>exact x
 | xd fs=>obtain ⟨_,⟨ob,_,_,e,_⟩,_⟩:=x;exact ⟨ob,e⟩
 | rng lo hi=>obtain ⟨_,_,_,e⟩:=x;exact ⟨_,e⟩
 | frz ob u=>exact ⟨ob,x.1⟩
 | tbl ps=>exact ⟨_,x⟩
 | met f y=>exact ⟨_,x⟩
 | ext φ=>exact x.2.1
structure HS (H H':Hp) (h:Heap):Prop where
 free: ∀ b o,h.get? b=some o->H b=none->H' b=none
 tups: ∀ b xs,H b=some (.tup xs)->H' b=some (.tup xs)
 frzs: ∀ b o u,H b=some (.frz o u)->H' b=some (.frz o u)
 tbls: ∀ b ps,H b=some (.tbl ps)-> ∃ more,H' b=some (.tbl (ps++more))
structure FlB (P:Program) (w:World) (l:List Env) (H:Hp) (h:Heap) (H':Hp) (B:Heap):Prop where
 old: ∀ b o,h.get? b=some o->b∉frs l-> ∃ o',B.get? b=some o'/\(H b=none->o'=o)
 trk: ∀ b u,H' b=some u-> ∃ o,B.get? b=some o
 ok:HOk P w H' B
structure Fl (P:Program) (w:World) (l:List Env) (H:Hp) (s:Shared) (a C:Addr) (fl:Value) (H':Hp) (s':Shared):Prop where
 os:s'.os=s.os
 bare:AllBare s'.gens
 base: ∃ B:Heap,Fly B l a (.ref C) fl s'.heap/\FlB P w l H s.heap H' B
 slot: ∀ b o,s.heap.get? b=some o->H b=none->b∈frs l-> ∃ sl,s'.heap.get? b=some {o with slots:=sl}
 hs:HS H H' s.heap
section
variable {P:Program} {w:World} {l:List Env} {H H':Hp} {s s':Shared} {a C:Addr} {fl:Value}
theorem Fl.un (y:Fl P w l H s a C fl H' s'):Un (frs l) [] H H' s.heap s'.heap:=by
 obtain ⟨B,y1,y2⟩:=y.base
 refine ⟨λb o e n hb _=> ?_,λb o e n hb _=>y.slot b o e n hb,λb o e n _=>y.hs.free b o e n,λb o e _=> ?_,y.hs.tups,y.hs.frzs,y.hs.tbls⟩
 ·obtain ⟨o',e',q⟩:=y2.old b o e hb
  rw [<- q n]
  exact y1.stays b o' e'
 ·by_cases hb:b∈frs l
  ·obtain ⟨_,o',e',_⟩:=y1.frames.mem hb
   exact ⟨o',e'⟩
  ·obtain ⟨o',e',_⟩:=y2.old b o e hb
   exact ⟨o',y1.stays b o' e'⟩
theorem Fl.hok (y:Fl P w l H s a C fl H' s'):HOk P w H' s'.heap:=by
 obtain ⟨B,y1,y2⟩:=y.base
 exact y2.ok.kept y1.stays
theorem Fl.exc (y:Fl P w l H s a C fl H' s'): ∃ head,zhg s'.heap a (.ref C) head:=by
 obtain ⟨B,y1,y2⟩:=y.base
 obtain ⟨hd,z,_⟩:=y1.exc
 exact ⟨hd,z⟩
theorem Fl.fresh (y:Fl P w l H s a C fl H' s'):s.heap.get? a=none/\H' a=none/\a∉frs l:=by
 obtain ⟨B,y1,y2⟩:=y.base
 have nf:a∉frs l:=λz=>by
  obtain ⟨_,o,e,n⟩:=y1.frames.mem z
  obtain ⟨_,⟨ob,vs,e2,_,_,d,_⟩,_⟩:=y1.exc
  rw [e] at e2
  cases e2
  exact n vs d
 refine ⟨?_,?_,nf⟩
 ·cases q:s.heap.get? a with
  | none=>rfl
  | some o=>
   obtain ⟨o',e,_⟩:=y2.old a o q nf
   rw [y1.new] at e
   cases e
 ·cases q:H' a with
  | none=>rfl
  | some u=>
   obtain ⟨o',e⟩:=y2.trk a u q
   rw [y1.new] at e
   cases e
theorem Fl.mv {B h':Heap} {fl':Value} (os:s'.os=s.os) (bare:AllBare s'.gens) (slot: ∀ b o,s.heap.get? b=some o->H b=none->b∈frs l-> ∃ sl,s'.heap.get? b=some {o with slots:=sl}) (hs:HS H H' s.heap)
  (fr:s'.heap.FunFrames B l) (z:Fly B l a (.ref C) fl' h') (y:FlB P w l H s.heap H' B) (u:s'.heap.UpToSlots h'):Fl P w l H s a C fl' H' {s' with heap:=h'}:=by
 refine ⟨os,bare,⟨B,z,y⟩,λb o e n hb=> ?_,hs⟩
 obtain ⟨sl,e2⟩:=slot b o e n hb
 obtain ⟨_,o2,e3,n3⟩:=fr.mem hb
 rw [e2] at e3
 cases e3
 obtain ⟨sl',e4⟩:=u b _ e2 n3
 exact ⟨sl',e4⟩
section
variable {M:Model} {A:Around} {E:Value->Shared->Prop} {env:Env} {outer:List Env} {L:Addr} {Q:Unit->Shared->Prop}
theorem Fl.note (y:Fl P w (env::outer) H s a C .none H' s') (hfr:A.frames=some (env::outer)) (hf:env.frame=some L) (k: ∀ h',Fl P w (env::outer) H s a C (rawInt L) H' {s' with heap:=h'}->Q () {s' with heap:=h'}):
  wpAny M A (noteFrame (.ref a) env) Q E s':=by
 obtain ⟨B,y1,y2⟩:=y.base
 exact zlz hfr hf y1 λh' z u=>k h' (Fl.mv y.os y.bare y.slot y.hs y1.frames z y2 u)
theorem Fl.off (y:Fl P w l H s a C fl H' s') (k: ∀ h',Fl P w l H s a C .none H' {s' with heap:=h'}->Q () {s' with heap:=h'}):wpAny M A (setFlight (.ref a) none) Q E s':=by
 obtain ⟨B,y1,y2⟩:=y.base
 exact zc5 y1 λh' z u=>k h' (Fl.mv y.os y.bare y.slot y.hs y1.frames z y2 λb o e n=>⟨o.slots,u b o e n⟩)
end
end
structure zcO (X:Cx):Prop where
 stk:X.stack=X.env::X.outer
 frm:X.env.frame=some X.env.locals
 ex:X.ex=[]
theorem zcO.frs {X:Cx} (z:zcO X):frs X.stack=X.env.locals::frs X.outer:=by
 rw [z.stk]
 unfold L2.frs
 rw [qat,z.frm]
section
variable {X:Cx} {pins:List (Addr×Obj)} {σ:St} {H H':Hp} {s s':Shared} {a C:Addr} {M:Model} {E:Value->Shared->Prop} {Q:Unit->Shared->Prop}
theorem Inv.below (I:Inv X pins σ H s) {b:Addr} {o:Obj} (e:X.s₀.heap.get? b=some o):b≠X.env.locals:=qaR (qaw (qaQ e) I.ok.above)
theorem Fl.leave (z:zcO X) (I:Inv X pins σ H s) (y:Fl X.prog X.w X.stack H s a C .none H' s') (k: ∀ s2,Fl X.prog X.w X.outer X.H₀ X.s₀ a C .none H' s2->Q () s2):wpAny M X.A (leaving X.env (.ref a)) Q E s':=by
 have nex: ∀ b,b∉X.ex:=λb h=>by rw [z.ex] at h;cases h
 obtain ⟨B,y1,y2⟩:=y.base
 have hfr:=I.ok.frames
 rw [z.stk] at hfr y1
 refine zmD hfr z.frm y1 λh' q u=>k _ ?_
 have nin: ∀ b o,X.s₀.heap.get? b=some o->b∉frs X.outer->b∉frs X.stack:=λb o e hb hm=>by
  rw [z.frs] at hm
  rcases qaP.mp hm with r | r
  ·exact I.below e r
  ·exact hb r
 refine ⟨y.os.trans I.os,y.bare,⟨B,q,λb o e hb=> ?_,y2.trk,y2.ok⟩,λb o e n hb=> ?_,λb o e n=> ?_,λb xs e=>y.hs.tups b xs (I.base.tups b xs e),λb o v e=>y.hs.frzs b o v (I.base.frzs b o v e),λb ps e=> ?_⟩
 ·obtain ⟨o1,e1⟩:=I.base.there b o e (nex b)
  obtain ⟨o2,e2,q2⟩:=y2.old b o1 e1 (nin b o e hb)
  refine ⟨o2,e2,λn=> ?_⟩
  have e3:=I.base.keep b o e n hb (nex b)
  rw [e1] at e3
  cases e3
  exact q2 (I.base.free b o e n (nex b))
 ·obtain ⟨sl,e1⟩:=I.base.slot b o e n hb (nex b)
  have hb2:b∈frs X.stack:=by rw [z.frs];exact qan _ hb
  obtain ⟨sl2,e2⟩:=y.slot b _ e1 (I.base.free b o e n (nex b)) hb2
  obtain ⟨_,o3,e3,n3⟩:=y1.frames.mem (by rw [<- z.stk];exact hb2)
  rw [e2] at e3
  cases e3
  obtain ⟨sl4,e4⟩:=u b _ e2 n3
  exact ⟨sl4,e4⟩
 ·obtain ⟨o1,e1⟩:=I.base.there b o e (nex b)
  exact y.hs.free b o1 e1 (I.base.free b o e n (nex b))
 ·obtain ⟨m1,e1⟩:=I.base.tbls b ps e
  obtain ⟨m2,e2⟩:=y.hs.tbls b _ e1
  exact ⟨m1++m2,by rw [e2,Array.append_assoc]⟩
theorem Fl.made {h':Heap} {vs:List Value} (z:zcO X) (I:Inv X pins σ H s) (m:Heap.MadeExcOf s.heap h' a (.ref C) vs) (k: ∀ s2,Fl X.prog X.w X.outer X.H₀ X.s₀ a C .none H s2->Q () s2):wpAny M X.A (leaving X.env (.ref a)) Q E {s with heap:=h'}:=by
 have nex: ∀ b,b∉X.ex:=λb h=>by rw [z.ex] at h;cases h
 have hfr:=I.ok.frames
 have hl:=I.stack
 have hin: ∀ env∈X.stack, ∀ b,env.frame=some b->b∈frs X.stack:=λenv he b hb=>mem_filterMap.mpr ⟨env,he,hb⟩
 have hl2:=W.funFrames_hide hl hin
 have hl3:h'.FunFrames (W.hideAll s.heap (frs X.stack)) X.stack:=hl2.of_keeps λb o e _=>⟨o,m.keeps b o e,rfl⟩
 have inB: ∀ {b:Addr} {o:Obj},s.heap.get? b=some o->b∉frs X.stack->(W.hideAll s.heap (frs X.stack)).get? b=some o:=λe n=>W.hideAll_get _ e n
 have ofB: ∀ {b:Addr} {o:Obj},(W.hideAll s.heap (frs X.stack)).get? b=some o->s.heap.get? b=some o:=λe=>W.of_hideAll _ e
 have trk: ∀ b u,H b=some u->b∉frs X.stack:=λb u e hm=>by rw [I.stkFree b hm] at e;cases e
 have newB:(W.hideAll s.heap (frs X.stack)).get? a=none:=by
  cases q:(W.hideAll s.heap (frs X.stack)).get? a with
  | none=>rfl
  | some o=>have:=ofB q;rw [m.new] at this;cases this
 have hst:=z.stk
 refine zhA (B:=W.hideAll s.heap (frs X.stack)) (by rw [<- hst];exact hfr) (by rw [<- hst];exact hl3) z.frm (zmJ m) (λb o e=>m.keeps b o (ofB e)) newB λh2 q u=>k _ ?_
 have nin: ∀ b o,X.s₀.heap.get? b=some o->b∉frs X.outer->b∉frs X.stack:=λb o e hb hm=>by
  rw [z.frs] at hm
  rcases qaP.mp hm with r | r
  ·exact I.below e r
  ·exact hb r
 refine ⟨I.os,I.bare,⟨_,q,λb o e hb=> ?_,λb v e=> ?_,λb v e=> ?_⟩,λb o e n hb=> ?_,λb o e n=>I.base.free b o e n (nex b),I.base.tups,I.base.frzs,I.base.tbls⟩
 ·obtain ⟨o1,e1⟩:=I.base.there b o e (nex b)
  refine ⟨o1,inB e1 (nin b o e hb),λn=> ?_⟩
  have e3:=I.base.keep b o e n hb (nex b)
  rw [e1] at e3
  cases e3
  rfl
 ·obtain ⟨o,e1⟩:=(I.hok b v e).there
  exact ⟨o,inB e1 (trk b v e)⟩
 ·refine (I.hok b v e).stay (λc o hc e1=>inB e1 ?_) (λ_ r=>r) λ_ _ r=>r
  rcases hc with rfl | hc
  ·exact trk _ v e
  ·exact trk _ _ hc
 ·obtain ⟨sl,e1⟩:=I.base.slot b o e n hb (nex b)
  have hb2:b∈frs X.stack:=by rw [z.frs];exact qan _ hb
  obtain ⟨_,o3,e3,n3⟩:=hl.mem hb2
  rw [e1] at e3
  cases e3
  obtain ⟨sl4,e4⟩:=u b _ (m.keeps b _ e1) n3
  exact ⟨sl4,e4⟩
end
def CXE (P:Program) (w:World):CXT:=λouter H s E e s'=> ∃ a C H',e= .ref a/\Fl P w outer H s a C .none H' s'/\E e (some C) H'
end L2
namespace L3
open L2
def zbG (K:W.Frag) (c:String) (C:Addr):Prop:=W.nsIn K mainGlobals (c:Str)=some (some (.ref C))
def zjv (K:W.Frag) (E:XE):XK:=λ_ oc H'=> ∃ c C,oc=some C/\zbG K c C/\E c H'
def zqf (K:W.Frag) (E:XK):XE:=λc H'=> ∀ C v,zbG K c C->E v (some C) H'
def zpG (X:Cx) (E:XE):Prop:= ∀ (pins:List (Addr×Obj)) (σ:St) (H:Hp) (s:Shared) (h':Heap) (a C:Addr) (c:String) (vs:List Value),Inv X pins σ H s->zbG X.K c C->Heap.MadeExcOf s.heap h' a (.ref C) vs->E c H->X.xe (.ref a) {s with heap:=h'}
section
variable {P:Program} {w:World} {K:W.Frag} {mg:Str->Option Value} {base:Heap} {N:List Str} {qual:Str} {scope:Scope} {f:Addr} {cd:Value} {A:Around} {outer:List Env} {s:Shared} {H:Hp} {E:XK}
theorem zgN:zcO (zgU (CXE P w) P w K mg base N qual scope f cd A outer s H E):=⟨rfl,rfl,rfl⟩
theorem zd1:zbH (CXE P w) (zgU (CXE P w) P w K mg base N qual scope f cd A outer s H E) (zjv K (zqf K E)):=by
 intro pins σ H1 s1 e s2 I h
 obtain ⟨a,C,H2,rfl,y,c,C',e1,hc,he⟩:=h
 cases e1
 exact Fl.leave zgN I y λs3 y3=>⟨a,C,H2,rfl,y3,he _ _ hc⟩
theorem zda:zpG (zgU (CXE P w) P w K mg base N qual scope f cd A outer s H E) (zqf K E):=by
 intro pins σ H1 s1 h' a C c vs I hc m he
 exact Fl.made zgN I m λs3 y3=>⟨a,C,H1,rfl,y3,he _ _ hc⟩
end
noncomputable def noX {α:Type} (m:M α):M α:=λh=>match m h with
 | .exc _ _=> .bad
 | r=>r
theorem Fin.noX {α:Type} {K:W.Frag} {E E':XE} {ι:Io} {H:Hp} {m:M α} {h:Hh} {P:α->Io->Hp->Prop} (q:Fin K E ι H (L3.noX m h) P):Fin K E' ι H (m h) P:=by
 unfold L3.noX at q
 cases e:m h with
 | ok a h'=>rw [e] at q;exact q
 | exc c h'=>rw [e] at q;exact qa0 q
 | bad=>rw [e] at q;exact q
def spE (K:W.Frag) (n:Nat) (F:List D->M D):Sp:=λvs H Q E=>vs.length=n/\ ∃ ι h ds,zaw K ι H ds vs/\za6 K ι H h/\Fin K (zqf K E) ι H (F ds h) λd ι' H'=> ∀ v,Rel K ι' H' d v->Q v H'
section
variable {P:Program} {w:World} {K:W.Frag} {mg:Str->Option Value} {base:Heap}
theorem zfl {x qual:Str} {st:Stmt} {f:Addr} {fd:FuncData} {N ps:List Str} {k:Nat} {G:Sd->M Out} (F:Fun K x qual st f fd) (S:zao N ps (zae st))
  (hb: ∀ (cdv:Value) (A:Around) (outer:List Env) (s:Shared) (H:Hp) (E:XK),zdL k (A.deeper (envOfC qual (zae st) s.heap.objs.size f cdv))->SSs (zgU (CXE P w) P w K mg base N qual (zae st) f cdv A outer s H E) (zqf K E) (zce st) G):
  zbE P w K mg base (CXE P w) (k+1) f fd ps (spE K ps.length (zcK N.length G)):=by
 obtain ⟨oc,od,kV,doc,pm,an,cdv,ct,osl,rfl,lk,hcd⟩:=F.ex
 refine zrl lk hcd S (λvs H Q E h=>h.1) λA outer s H vs Q E hr ⟨hl,ι,h,ds,rl,hh,q⟩=>⟨_,hb cdv A outer s H E hr,ι,h,zfh N.length ds,zd0 rl,hh,?_⟩
 refine Fin.bind q λo h1 ι1 H1 e1 s1 hr1 q1=> ?_
 cases o with
 | nx sd=>exact λσ' _=>Fin.out hr1 q1 _ (by simp [Rel])
 | rt d=>exact λv rv=>Fin.out hr1 q1 v rv
 | bk sd=>exact qa0 q1
 | ct sd=>exact qa0 q1
end
section
variable {X:Cx} {E:XE} {e:Expr} {es:List Expr} {pos p:Pos}
theorem Fin.exmono {α:Type} {K:W.Frag} {E E':XE} {ι:Io} {H:Hp} {r:R α} {P:α->Io->Hp->Prop} (m: ∀ c H',E c H'->E' c H') (q:Fin K E ι H r P):Fin K E' ι H r P:=by
 cases r with
 | ok a h'=>exact q
 | exc c h'=>exact λι2 H2 t hr=>m _ _ (q ι2 H2 t hr)
 | bad=>exact q
theorem zmW {k:Nat} {f:Addr} {fd:FuncData} {ps:List Str} {n:Nat} {F:List D->M D} {fs:Sd->M (List D)} {x:Str} (G:zbE X.prog X.w X.K X.mg X.base (CXE X.prog X.w) k f fd ps (spE X.K n F)) (hx:zbH (CXE X.prog X.w) X (zjv X.K E)) (hr:zdL k X.A) (hg:Gl X x) (hm:X.mg x=some (.ref f)) (hk:W.keepIn X.K (.ref f)=true) (hb:zaJ X.K fd ps [])
  (ha:SA X E (e::es) fs) (hdb:(x==("__debug__":Str))=false:=by decide) (he:starEach (e::es) X.env=(false,eval e X.env)::starEach es X.env:=by rfl) (hpl:(backTo pos (starEach es X.env)).any (·.1)=false:=by rfl):
  SE X E (.Call (.Name x p) (e::es) [] pos) (zax (zal n F) fs):=by
 refine PE.imp (zhm G hr hg hm hk hb (dvs:=[]) .nil hx ha hdb he hpl) λσ H Q ⟨ι,h,sd,L,hh,q⟩=>⟨ι,h,sd,L,hh,Fin.bind q λds h1 ι1 H1 e1 s1 hr1 q1 vs rv=> ?_⟩
 show spE X.K n F (vs++[]) H1 Q _
 rw [append_nil]
 unfold zal at q1
 by_cases hl:ds.length=n
 ·rw [qa4 hl] at q1
  exact ⟨by rw [<- rv.length];exact hl,ι1,h1,ds,rv,hr1,Fin.exmono (λc H' z C v hc=>⟨c,C,rfl,hc,z⟩) q1⟩
 ·rw [qa5 hl] at q1
  exact qa0 q1
theorem zmK {k:Nat} {f:Addr} {fd:FuncData} {ps:List Str} {n:Nat} {F:List D->M D} {fs:Sd->M (List D)} {x:Str} (G:zbE X.prog X.w X.K X.mg X.base CX0 k f fd ps (zbY X.K n F)) (hr:zdL k X.A) (hg:Gl X x) (hm:X.mg x=some (.ref f)) (hk:W.keepIn X.K (.ref f)=true) (hb:zaJ X.K fd ps [])
  (ha:SA X E (e::es) fs) (hdb:(x==("__debug__":Str))=false:=by decide) (he:starEach (e::es) X.env=(false,eval e X.env)::starEach es X.env:=by rfl) (hpl:(backTo pos (starEach es X.env)).any (·.1)=false:=by rfl):
  SE X E (.Call (.Name x p) (e::es) [] pos) (zax (zal n λds=>noX (F ds)) fs):=by
 refine PE.imp (zhm G hr hg hm hk hb (dvs:=[]) .nil (E:=λ_ _ _=>False) zqp ha hdb he hpl) λσ H Q ⟨ι,h,sd,L,hh,q⟩=>⟨ι,h,sd,L,hh,Fin.bind q λds h1 ι1 H1 e1 s1 hr1 q1 vs rv=> ?_⟩
 show zbY X.K n F (vs++[]) H1 Q _
 rw [append_nil]
 unfold zal at q1
 by_cases hl:ds.length=n
 ·rw [qa4 hl] at q1
  exact ⟨by rw [<- rv.length];exact hl,ι1,h1,ds,rv,hr1,Fin.noX q1⟩
 ·rw [qa5 hl] at q1
  exact qa0 q1
end
end L3
namespace L2
open L3
structure zdH (k:Nat) (A:Around):Prop where
 dp:A.depth+3*k+5<recursionLimit
 un:A.units+16*k+200<cLine
theorem zdH.of {k:Nat} {A:Around} (r:zdL k A):zdH k A:=⟨r.dp,r.un⟩
theorem zdH.deeper {k:Nat} {A:Around} (r:zdH (k+1) A) (env:Env):zdH k (A.deeper env):=
 ⟨by have:=r.dp;show A.depth+1+3*k+5<_;omega,by have:=r.un;show A.units+3+16*k+200<_;omega⟩
structure FnH (P:Program) (w:World) (K:W.Frag) (mg:Str->Option Value) (base:Heap) (k:Nat) (f:Addr) (fd:FuncData) (ps:List Str) (sp:Sp):Prop where
 len: ∀ vs H Q E,sp vs H Q E->vs.length=ps.length
 run: ∀ (A:Around) (outer:List Env) (s:Shared) (H:Hp) (args:Args) (us:List Value) (vs:List V) (Q:VK),zdH k A->zpS P w K mg base A outer s H->BindsTo s fd args (ps.zip us)->za7 vs us->sp vs H Q E0->
  codeAny (model P w) A (.call (.ref f) args) (CR CX0 outer P w H s Q E0) s
theorem zrM {P:Program} {w:World} {K:W.Frag} {mg:Str->Option Value} {base:Heap} {k:Nat} {f:Addr} {name qual:Str} {params:Arguments} {body:List Stmt} {scope:Scope} {dV kV doc pm cdv ct oc:Value} {an od:Option Addr}
  {osl:Array (Option Value)} {N ps:List Str} {sp:Sp} (lk:K.lookup f=some ⟨oc,od,.func (W.fnOf name qual params body scope dV kV doc pm an cdv ct),osl⟩) (hcd:W.codeIn K cdv qual=true) (S:zao N ps scope)
  (len: ∀ vs H Q E,sp vs H Q E->vs.length=ps.length)
  (hbody: ∀ (A:Around) (outer:List Env) (s:Shared) (H:Hp) (vs:List V) (Q:VK),zdH k (A.deeper (envOfC qual scope s.heap.objs.size f cdv))->sp vs H Q E0->
    ∃ t,PSs ({zgU CX0 P w K mg base N qual scope f cdv A outer s H E0 with calm:=false}:Cx).nox body t/\t {nx:=λ_ H'=>Q .non H',rt:=Q} (zd4 N vs) H):
  FnH P w K mg base (k+1) f (W.fnOf name qual params body scope dV kV doc pm an cdv ct) ps sp:=by
 refine ⟨len,λA outer s H args us vs Q hr e0 hb r hsp=> ?_⟩
 have hl:=len _ _ _ _ hsp
 have KX:K.In s.heap:=e0.mod.kin.keeps λb o e=>(e0.bs b o e).1
 have lim:s.heap.NoLimit:=e0.mod.nolimit.keeps λb o e=>(e0.bs b o e).1
 have hkind: ∀ y∈ps.zip us,scope.names.lookup y.1=some .local\/(scope.names.lookup y.1=some .cell/\((cellsFrom (s.heap.objs.size+1) scope.names []).lookup y.1).isSome=true):=λ⟨n,v⟩ hy=>by
  rcases S.par n (of_mem_zip hy).1 with q | q
  ·exact .inl q
  ·exact .inr ⟨q,W.cellsFrom_some _ _ _ (.inl q)⟩
 refine codeAny_call_function (by have:=hr.dp;omega) (KX _ _ lk) rfl S.co S.gen rfl (W.codeRec_of KX hcd) (hb _ _ _ _ ?_)
 refine wpAny_newFunctionEnv_cells S.kind hkind λenv he s1 x=> ?_
 subst he
 refine ⟨lim.keeps x.toInCall.keep,codeAny_func ?_⟩
 obtain ⟨t,ht,hq⟩:=hbody A outer s H vs Q (hr.deeper _) hsp
 have I:Inv {zgU CX0 P w K mg base N qual scope f cdv A outer s H E0 with calm:=false} [] (zd4 N vs) H s1:=zg9 (cm:=false) S (λz=>by cases z) e0 hl r x
 refine qaZ (ht.nox [] s1 (zd4 N vs) H _ I hq) (λfl s' hs=> ?_) λe s' hs=>hs
 have fin: ∀ {σ':St} {H':Hp} {v:V} {u:Value},Inv {zgU CX0 P w K mg base N qual scope f cdv A outer s H E0 with calm:=false} [] σ' H' s'->zbB v u->Q v H'->CE outer P w H s Q u s':=
  λ{σ' H' v u} J rv q=>⟨v,H',J.os,J.bare,J.base,J.hok,rv,q⟩
 cases fl with
 | ret u=>
  obtain ⟨v,σ',H',J,rv,q⟩:=hs
  exact fin J rv q
 | next=>
  obtain ⟨σ',H',J,q⟩:=hs
  exact fin (v:=V.non) (u:=Value.none) J rfl q
 | brk=>
  obtain ⟨_,_,_,q⟩:=hs
  exact qa0 q
 | cont=>
  obtain ⟨_,_,_,q⟩:=hs
  exact qa0 q
section
variable {X:Cx} {pins:List (Addr×Obj)} {σ:St} {H H':Hp} {s s':Shared} {a:Addr} {o:Obj}
theorem Inv.track (I:Inv X pins σ H s) (hH:H a=none) (ho:s.heap.get? a=some o) (h0:X.s₀.heap.get? a=none) (hL:a≠X.env.locals) (hc: ∀ x c,X.env.cells.lookup x=some c->c≠a) (hp: ∀ p∈X.pn++pins,p.1≠a):
  Inv X pins σ (upd H a (.frz o (.own 0))) s:=by
 have un: ∀ {b:Addr} {u:HO},H b=some u->upd H a (.frz o (.own 0)) b=some u:=λe=>by rw [zaz (zaN e hH)];exact e
 refine ⟨I.ok,I.os,I.bare,⟨I.base.keep,I.base.slot,λb ob e n hx=> ?_,I.base.there,λb xs e=>un (I.base.tups b xs e),λb ob u e=>un (I.base.frzs b ob u e),λb ps e=> ?_⟩,I.loc,I.cell,?_,λx c e=> ?_,λp q=> ?_,λb u e=> ?_,I.len⟩
 ·rw [zaz (λz=>by subst z;rw [h0] at e;cases e)]
  exact I.base.free b ob e n hx
 ·obtain ⟨m,e1⟩:=I.base.tbls b ps e
  exact ⟨m,un e1⟩
 ·rw [zaz (Ne.symm hL)]
  exact I.free
 ·rw [zaz (hc x c e)]
  exact I.freeC x c e
 ·obtain ⟨e1,e2,e3⟩:=I.pin p q
  exact ⟨e1,by rw [zaz (hp p q)];exact e2,e3⟩
 ·by_cases hb:b=a
  ·subst hb
   rw [zaV] at e
   cases e
   exact ⟨ho,o,ho⟩
  ·rw [zaz hb] at e
   exact (I.hok b u e).stay (λ_ _ _ z=>z) (λc z=>un z) λc xs z=>un z
theorem zpl {M:Model} {A:Around} {E:Value->Shared->Prop} {i:Nat} {x:Str} {pos:Pos} {Q:Unit->Shared->Prop} (I:Inv X pins σ H s) (hN:X.N.Nodup) (hi:X.N[i]? = some x) (hk:X.env.scope.names.lookup x=some .local)
  (h: ∀ s',Inv X pins (σ.set i none) H s'->Q () s'):wpAny M A (do bindName X.env x .none;unbindBehindTheSuite X.env x pos) Q E s:=by
 obtain ⟨m,hn,hl⟩:=id I.loc
 have hcls:(X.env.scope.kind== .class || (X.env.scope.kind== .module && X.env.locals != X.env.globals))=false:=by rw [I.ok.kind];rfl
 have hiσ:i<σ.length:=by rw [I.len];exact (qac.mp hi).1
 have cne:=I.cne
 refine wpAny_nameGoes_keeps hk hn hcls λh' v hn' hs=> ?_
 obtain ⟨oL,_,_,hoL,_⟩:=id hn
 refine h _ ⟨I.ok,I.os,I.bare,⟨λb ob e n hb hx=> ?_,λb ob e n hb hx=> ?_,I.base.free,λb ob e hx=> ?_,I.base.tups,I.base.frzs,I.base.tbls⟩,⟨_,hn',λj y v' e1 e2 e3=> ?_⟩,λy c e=> ?_,I.free,I.freeC,λp hp=> ?_,λb ob e=> ?_,by simpa using I.len⟩
 ·exact (hs.2 b (I.below e)).trans (I.base.keep b ob e n hb hx)
 ·obtain ⟨sl,e1⟩:=I.base.slot b ob e n hb hx
  exact ⟨sl,(hs.2 b (I.below e)).trans e1⟩
 ·obtain ⟨o',e1⟩:=I.base.there b ob e hx
  exact ⟨o',(hs.2 b (I.below e)).trans e1⟩
 ·by_cases hj:j=i
  ·subst hj
   rw [qai hiσ] at e2
   cases e2
  ·rw [qao (Ne.symm hj)] at e2
   obtain ⟨u',r',q⟩:=hl j y v' e1 e2 e3
   refine ⟨u',r',?_⟩
   rcases q with ⟨k,e⟩ | ⟨k,c,e,z⟩
   ·refine .inl ⟨k,?_⟩
    have:y≠x:=λe=>hj (zfB hN e1 (e▸hi))
    simp [this,e]
   ·exact .inr ⟨k,c,e,z.sameBut hs (cne y c e)⟩
 ·obtain ⟨w',z⟩:=I.cell y c e
  exact ⟨w',z.sameBut hs (cne y c e)⟩
 ·obtain ⟨e,n,ne,nf,d⟩:=I.pin p hp
  exact ⟨(hs.2 p.1 ne).trans e,n,ne,nf,d⟩
 ·refine (I.hok b ob e).stay (λc w' hc q=>(hs.2 c ?_).trans q) (λ_ q=>q) λ_ _ q=>q
  rintro rfl
  rcases hc with rfl | hc
  ·rw [I.free] at e;cases e
  ·rw [I.free] at hc;cases hc
end
section
variable {X:Cx} {pins:List (Addr×Obj)} {σ:St} {H H':Hp} {s s':Shared} {a C CE:Addr} {ce en:Str} {pce pos:Pos} {b₀:Stmt} {suite:List Stmt} {j:Nat} {Q:Flow->Shared->Prop} {E:Value->Shared->Prop}
theorem Fl.caught (z:zcO X) (I:Inv X pins σ H s) (y:Fl X.prog X.w X.stack H s a C .none H' s') (hN:X.N.Nodup) (hj:X.N[j]? = some en) (hen:X.env.scope.names.lookup en=some .local) (hg:Gl X ce) (hm:X.mg ce=some (.ref CE)) (hx:W.exmOne X.K (.ref C) (.ref CE)=some true)
  (k: ∀ s6,Inv X pins (σ.set j (some (.ref a))) H' s6->(∃ head,zhg s6.heap a (.ref C) head)->wpAny (model X.prog X.w) (X.A.mark (some (.ref a))) (execs (b₀::suite) X.env)
    (λf s4=>wpAny (model X.prog X.w) X.A (do bindName X.env en .none;unbindBehindTheSuite X.env en pos) (λ_ s5=>Q f s5) E s4) (λ_ _=>False) s6) (hd:(ce==("__debug__":Str))=false:=by decide):
  wpAny (model X.prog X.w) X.A (noteFrame (.ref a) X.env) (λ_ s2=>wpAny (model X.prog X.w) X.A (setFlight (.ref a) none) (λ_ s3=>
    wpAny (model X.prog X.w) X.A (handleBy (.ref a) X.env [.ExceptHandler (some (.Name ce pce)) (some en) (b₀::suite) pos]) Q E s3) E s2) E s':=by
 have hfr:=I.ok.frames
 rw [z.stk] at hfr y
 refine y.note hfr z.frm λh3 y3=> ?_
 refine y3.off λh4 y4=> ?_
 have ev: ∀ {hp fl},Fl X.prog X.w (X.env::X.outer) H s a C fl H' {s' with heap:=hp}->Inv X pins σ H' {s' with heap:=hp}:=λ{hp fl} y=>by
  have u:=y.un
  rw [<- z.stk] at u
  exact I.call' y.os u y.hok y.bare λb q=>absurd q (by simp)
 have I4:=ev y4
 obtain ⟨hd4,x4⟩:=y4.exc
 have LT:W.Looks (model X.prog X.w) h4 (typeOf (.ref a)) (.ref C):=by
  obtain ⟨ob,vs,e1,e2,_⟩:=x4
  exact e2▸(W.Looks.ld e1).andThen .now
 refine wpAny_handleBy_cons (codeAny_handlers_test ?_) (by intro q;cases q)
 refine Calls.Name_function_global I4.ok.kind hg (Calls.loadGlobal_global (by rw [I4.ok.glob];exact I4.mod.glob.keeps I4.bk) hm ?_) hd
 refine (W.exm_one I4.kIn LT hx).here ?_
 refine codeAny_handlers_suite_as ?_
 refine y4.off λh5 y5=> ?_
 have I5:=ev y5
 obtain ⟨hd5,x5⟩:=y5.exc
 have na:a≠X.env.locals/\ ∀ x c,X.env.cells.lookup x=some c->c≠a:=by
  obtain ⟨f1,f2,f3⟩:=y.fresh
  refine ⟨λq=> ?_,λx c e q=> ?_⟩
  ·obtain ⟨m,⟨oL,_,_,hoL,_⟩,_⟩:=I.loc
   rw [<- q,f1] at hoL
   cases hoL
  ·obtain ⟨v,oc,hoc,_⟩:=I.cell x c e
   rw [q,f1] at hoc
   cases hoc
 refine zg8 I5 hN hj (.inl hen) (v:= .ref a) rfl (λs6 I6 ⟨b,sb,hb⟩=> ?_) (.inr hen)
 refine qaZ (k s6 I6 ⟨hd5,x5.keep λob e=>(sb.2 a λq=> ?_).trans e⟩) (λ_ _ q=>q) λ_ _ q=>q.elim
 rcases hb with hb | hb
 ·exact na.1 (q.trans hb)
 ·exact na.2 en b hb q.symm
end
abbrev zjP:List Value:=[.type "ValueError",.type "Exception",.type "BaseException",.type "object"]
theorem zpp {K:W.Frag} {h:Heap} {mg:Str->Option Value} {x:Str} {C:Addr} {bm:List Value} {nid:String} (X:K.In h) (hm:mg x=some (.ref C)) (q:W.excIn K C bm nid=true):OwnCls x C bm nid mg h:=by
 refine ⟨hm,?_⟩
 unfold W.excIn at q
 split at q
 ·rename_i dd cdt sl lk
  split at q
  ·rename_i C2 tl y0 y1 y2 y3 nn y5 hmro hsl
   simp only [qaG,beq_iff_eq,Bool.not_eq_true'] at q
   obtain ⟨⟨⟨⟨⟨rfl,rfl⟩,q3⟩,q4⟩,q5⟩,q6⟩:=q
   obtain ⟨z1,z2,z3,z4,z5,z6,z7,z8,z9,z10,z11⟩:=cdt
   dsimp only at hmro q3 q5 q6
   subst hmro q3
   obtain rfl:sl= #[y0,y1,y2,y3,some (.builtin nn),y5]:=by
    obtain ⟨ll⟩:=sl
    dsimp only at hsl
    rw [hsl]
   exact ⟨tl,z4,z1,z5,z2,z6,z7,z8,z9,z10,dd,y0,y1,y2,y3,y5,_,X _ _ lk,.of_isNs (W.isNs_of_in X q5),W.nsMap_none_of_in X q5 q6,W.tail_of_in X q4⟩
  ·cases q
 ·cases q
def Cx.re (X:Cx) (pn:List (Addr×Obj)) (xe:Value->Shared->Prop):Cx:={X with pn:=pn,xe:=xe}
section
variable {X:Cx} {pins pins':List (Addr×Obj)} {σ:St} {H H':Hp} {s s':Shared} {xe:Value->Shared->Prop}
theorem Inv.re (I:Inv X pins σ H s) (xe:Value->Shared->Prop):Inv (X.re (X.pn++pins) xe) [] σ H s:=
 ⟨⟨I.ok.mod,I.ok.kind,I.ok.glob,I.ok.blt,I.ok.above,I.ok.inj,I.ok.has,I.ok.cab,I.ok.hd,I.ok.hx,I.ok.frames,I.ok.stk,I.ok.exf,I.ok.bs,I.ok.bsz,I.ok.noex,I.ok.exfs,I.ok.funs,I.ok.frf⟩,I.os,I.bare,I.base,I.loc,I.cell,I.free,I.freeC,λp hp=>I.pin p (by simpa [Cx.re] using hp),I.hok,I.len⟩
theorem Inv.unre (I:Inv (X.re (X.pn++pins) xe) pins' σ H s):Inv X pins σ H s:=
 ⟨⟨I.ok.mod,I.ok.kind,I.ok.glob,I.ok.blt,I.ok.above,I.ok.inj,I.ok.has,I.ok.cab,I.ok.hd,I.ok.hx,I.ok.frames,I.ok.stk,I.ok.exf,I.ok.bs,I.ok.bsz,I.ok.noex,I.ok.exfs,I.ok.funs,I.ok.frf⟩,I.os,I.bare,I.base,I.loc,I.cell,I.free,I.freeC,λp hp=>I.pin p (List.mem_append_left _ hp),I.hok,I.len⟩
theorem SP.unre {D:znx} {f:Flow} (h:SP (X.re (X.pn++pins) xe) pins' D f s'):SP X pins D f s':=by
 cases f with
 | next=>obtain ⟨σ',H',I,q⟩:=h;exact ⟨σ',H',I.unre,q⟩
 | brk=>obtain ⟨σ',H',I,q⟩:=h;exact ⟨σ',H',I.unre,q⟩
 | cont=>obtain ⟨σ',H',I,q⟩:=h;exact ⟨σ',H',I.unre,q⟩
 | ret u=>obtain ⟨v,σ',H',I,r,q⟩:=h;exact ⟨v,σ',H',I.unre,r,q⟩
end
end L2
namespace L3
open L2
section
variable {X:Cx} {pins:List (Addr×Obj)} {σ:L2.St} {H:Hp} {s:Shared} {a C:Addr} {o:Obj} {vs:Array Value} {head:Value} {c:String} {gk en pe:Str} {p1 p2 p3:Pos} {j k:Nat} {fk:Addr} {fdk:FuncData} {Fk:List D->M D} {Qv:VK} {ι:Io} {h:Hh}
theorem zli (I:Inv X pins σ H s) (hH:H a=none) (ho:s.heap.get? a=some o) (ob:o.cls= .ref C/\o.dict=none/\o.data= .fields vs/\vs[2]? = some .none/\vs[1]? = some head)
  (h0:X.s₀.heap.get? a=none) (hL:a≠X.env.locals) (hcl: ∀ x c,X.env.cells.lookup x=some c->c≠a) (hp: ∀ p∈X.pn++pins,p.1≠a) (hj:X.N[j]? = some en) (hσ:σ[j]? = some (some (.ref a))) (hen:X.env.scope.names.lookup en=some .local)
  (FH:FnH X.prog X.w X.K X.mg X.base k fk fdk [pe] (zbY X.K 1 Fk)) (hb:zaJ X.K fdk [pe] []) (hg:Gl X gk) (hm:X.mg gk=some (.ref fk)) (kp:W.keepIn X.K (.ref fk)=true) (hr:zdH k X.A) (hc:zbG X.K c C) (hh:za6 X.K ι H h)
  (q:Fin X.K E0x ι (upd H a (.frz o (.own 0))) (Fk [.exn c] h) λd ι' H'=> ∀ v,Rel X.K ι' H' d v->Qv v H') (hd:(gk==("__debug__":Str))=false:=by decide) (hd2:(en==("__debug__":Str))=false:=by decide):
  wpAny (model X.prog X.w) (X.A.mark (some (.ref a))) (eval (.Call (.Name gk p1) [.Name en p2] [] p3) X.env) (λu s8=> ∃ v H8,Inv X pins σ H8 s8/\zbB v u/\Qv v H8) (λ_ _=>False) s:=by
 have It:=I.track hH ho h0 hL hcl hp
 have E0':=It.env0
 refine wpAny_Call_Name_kw (Calls.Name_function_global I.ok.kind hg (Calls.loadGlobal_global (by rw [I.ok.glob];exact I.mod.glob.keeps I.bk) hm ?_) hd)
 refine W.callWith_K (h₀:=X.base) I.ok.mod.kin kp ?_
 refine Calls.spliced_cons ?_
 obtain ⟨m,hn,hl⟩:=It.loc
 obtain ⟨u,r,l⟩:=hl j en (.ref a) hj hσ (.inl hen)
 obtain rfl:u=Value.ref a:=r
 have hme:m en=some (.ref a):=by
  rcases l with ⟨_,e⟩ | ⟨e,_⟩
  ·exact e
  ·exfalso
   have e':X.env.scope.names.lookup en=some .cell\/X.env.scope.names.lookup en=some .free:=e
   rw [hen] at e'
   rcases e' with e' | e'<;>cases e'
 refine wpAny_Name (wpAny_loadName_local I.ok.kind hen hn hme ?_) hd2
 refine Calls.spliced_nil ⟨It.kIn,?_⟩
 have e0:zpS X.prog X.w X.K X.mg X.base (X.A.mark (some (.ref a))) X.stack s (upd H a (.frz o (.own 0))):=
  ⟨It.ok.frames,E0'.mod,E0'.bs,E0'.bsz,E0'.funs,E0'.frf,E0'.hok,E0'.bare,.inr ⟨a,o,.ref C,head,vs,rfl,zaV,ob⟩⟩
 have sp:zbY X.K 1 Fk [.ref a] (upd H a (.frz o (.own 0))) Qv E0:=
  ⟨rfl,ι,h,[.exn c],zaw.cons (by simp only [Rel];exact ⟨a,o,C,head,vs,rfl,⟨zaV,hh.nin hH⟩,hc,ob⟩) zaw.nil,hh.laid hH,q⟩
 refine wpAny_call (codeAny_mono (FH.run (X.A.mark (some (.ref a))) X.stack s _ ⟨[.ref a],[]⟩ [.ref a] [.ref a] Qv ⟨hr.dp,hr.un⟩ e0 (hb s [.ref a] It.kIn rfl) (.cons rfl .nil) sp) λr s' hq=> ?_)
 cases r with
 | error e=>exact qa0 hq
 | ok fl=>
  cases fl with
  | ret u=>exact It.after hq
  | next=>exact qa0 hq
  | brk=>exact qa0 hq
  | cont=>exact qa0 hq
end
noncomputable def zhB (known:List String) (gb:FS) (Fk:List D->M D):FS:=λsd h=>match gb sd h with
 | .exc c h1=>if known.contains c=true then (do let d<-noX (Fk [.exn c]);pure (.rt d):M Out) h1 else .bad
 | r=>r
section
variable {X:Cx} {E:XE} {body:List Stmt} {ce en gk pe x:Str} {pce p1 p2 p3 p4 p5 hp pos:Pos} {CE fk:Addr} {fdk:FuncData} {Fk:List D->M D} {gb:FS} {j k i:Nat} {known:List String}
theorem zlQ {st:Stmt} {fin:Sd->D->M Out} {gt:FS} (hgt: ∀ sd h,gt sd h=match gb sd h with
      | .exc c h1=>if known.contains c=true then (do let d<-noX (Fk [.exn c]);fin sd d:M Out) h1 else .bad
      | r=>r)
  (z:zcO X) (hN:X.N.Nodup) (hj:X.N[j]? = some en) (hen:X.env.scope.names.lookup en=some .local) (hg:Gl X ce) (hm:X.mg ce=some (.ref CE))
  (hkn: ∀ c∈known, ∀ C,zbG X.K c C->W.exmOne X.K (.ref C) (.ref CE)=some true) (hd:(ce==("__debug__":Str))=false)
  (hb: ∀ pn xe E',zbH (CXE X.prog X.w) (X.re pn xe) (zjv X.K E')->SSs (X.re pn xe) E' body gb)
  (hst: ∀ (X':Cx) (pins:List (Addr×Obj)) (σ:L2.St) (H:Hp) (s:Shared) (a:Addr) (D0:znx) (sd:Sd) (Q:Flow->Shared->Prop) (Ef:Value->Shared->Prop) (pn:List (Addr×Obj)) (xe:Value->Shared->Prop),X'=X.re pn xe->Inv X' pins (σ.set j (some (.ref a))) H s->sd.length=X.N.length->
    (∀ Qv:VK,(∀ d ι' H' h',za6 X.K ι' H' h'->Fin X.K E ι' H' (fin sd d h') (zf9 X.K D0)-> ∀ v,Rel X.K ι' H' d v->Qv v H')->
      wpAny (model X.prog X.w) (X.A.mark (some (.ref a))) (eval (.Call (.Name gk p1) [.Name en p2] [] p3) X.env) (λu s8=> ∃ v H8,Inv X' pins (σ.set j (some (.ref a))) H8 s8/\zbB v u/\Qv v H8) (λ_ _=>False) s)->
    (∀ f s9,SP X' pins D0 f s9->Q f s9)->
    wpAny (model X.prog X.w) (X.A.mark (some (.ref a))) (execs [st] X.env) (λf s4=>wpAny (model X.prog X.w) X.A (do bindName X.env en .none;unbindBehindTheSuite X.env en hp) (λ_ s5=>Q f s5) Ef s4) (λ_ _=>False) s)
  (FH:FnH X.prog X.w X.K X.mg X.base k fk fdk [pe] (zbY X.K 1 Fk)) (hbk:zaJ X.K fdk [pe] []) (hgk:Gl X gk) (hmk:X.mg gk=some (.ref fk)) (kp:W.keepIn X.K (.ref fk)=true) (hr:zdH k X.A) (hd2:(gk==("__debug__":Str))=false) (hd3:(en==("__debug__":Str))=false):
  SS X E (.Try body [.ExceptHandler (some (.Name ce pce)) (some en) [st] hp] [] [] pos) gt:=by
 intro pins s σ H D0 I ⟨ι,h,sd,L,hh,q⟩
 refine wpAny_Try_except ?_
 rw [hgt] at q
 let xe':Value->Shared->Prop:=λe s₁=>wpAny (model X.prog X.w) X.A (noteFrame e X.env) (λ_ s₂=>wpAny (model X.prog X.w) X.A (setFlight e none) (λ_ s₃=>wpAny (model X.prog X.w) X.A (handleBy e X.env [.ExceptHandler (some (.Name ce pce)) (some en) [st] hp]) (SP X pins D0) X.xe s₃) X.xe s₂) X.xe s₁
 cases hres:gb sd h with
 | bad=>rw [hres] at q;exact qa0 q
 | ok o1 h1=>
  rw [hres] at q
  have run:=hb (X.pn++pins) xe'
   E0x (λpins' σ' H1 s1 e s2 I1 hx=>by obtain ⟨a,C,H2,_,_,c,C',_,_,w⟩:=hx;exact w.elim) [] s σ H D0 (I.re _) ⟨ι,h,sd,L,hh,by rw [hres];exact q⟩
  refine qaZ run (λf s1 hs=> ?_) λ_ _ w=>w
  have hs':=hs.unre
  cases f with
  | next=>exact wpAny_execs_nil hs'
  | ret u=>exact hs'
  | brk=>exact hs'
  | cont=>exact hs'
 | exc c h1=>
  rw [hres] at q
  by_cases hk:known.contains c=true
  ·simp only [hk,if_true] at q
   have run:=hb (X.pn++pins) xe'
    (λc' H'=>c'=c/\ ∃ ι',zbU ι H ι' H'/\za6 X.K ι' H' h1) (λpins' σ' H1 s1 e s2 I1 hx=>by
      obtain ⟨a,C,H2,rfl,y,c',C',e1,hc,rfl,ι',st1,hr1⟩:=hx
      cases e1
      have z':zcO (X.re (X.pn++pins) xe'):=⟨z.stk,z.frm,z.ex⟩
      obtain ⟨f1,f2,f3⟩:=y.fresh
      refine Fl.caught (X:=X.re (X.pn++pins) xe') (b₀:=st) (suite:=[]) (pce:=pce) (pos:=hp) (Q:=SP X pins D0) (E:=X.xe) z' I1 y hN hj hen hg hm (hkn c' (by simpa using hk) C hc) (λs6 I6 ⟨head,x6⟩=> ?_) hd
      obtain ⟨o,vs,ho,ob⟩:=x6
      have hnil: ∀ b,b∉X.ex:=λb h=>by rw [z.ex] at h;cases h
      refine hst _ pins' σ' H2 s6 a D0 sd (SP X pins D0) X.xe _ _ rfl I6 (L.1.trans I.len) (λQv hQ=> ?_) λf s9 w=>w.unre
      have hσ:(σ'.set j (some (V.ref a)))[j]? = some (some (.ref a)):=qai (by rw [I1.len];exact (qac.mp hj).1)
      refine zli (X:=X.re _ _) I6 f2 ho ob ?_ (λw=> ?_) (λx c e w=> ?_) (λp hp w=> ?_) hj hσ hen FH hbk hgk hmk kp hr hc hr1 ?_ hd2 hd3
      · cases w:X.s₀.heap.get? a with
        | none=>exact w
        | some ob=>
          obtain ⟨o',e'⟩:=I1.base.there a ob w (hnil a)
          rw [f1] at e'
          cases e'
      · obtain ⟨m,⟨oL,_,_,hoL,_⟩,_⟩:=I1.loc
        have hoL:s1.heap.get? X.env.locals=some oL:=hoL
        rw [<- show a=X.env.locals from w,f1] at hoL
        cases hoL
      · obtain ⟨v,oc,hoc,_⟩:=I1.cell x c e
        rw [w,f1] at hoc
        cases hoc
      · have e:=(I1.pin p hp).1
        rw [w,f1] at e
        cases e
      · have q1:=Fin.step (st1.trans (hr1.laidS (o:= .frz o (.own 0)) f2)) q
        exact Fin.noX (Fin.bind q1 λd h' ι8 H8 e8 s8 hr8 q8 v rv=>hQ d ι8 H8 h' hr8 q8 v rv))
    [] s σ H {nx:=λ_ _=>False,rt:=λ_ _=>False} (I.re _) ⟨ι,h,sd,L,hh,by rw [hres];exact λι' H' st1 hr1=>⟨rfl,ι',st1,hr1⟩⟩
   refine qaZ run (λf s1 hs=> ?_) λ_ _ w=>w
   cases f with
   | next=>obtain ⟨_,_,_,w⟩:=hs;exact w.elim
   | brk=>obtain ⟨_,_,_,w⟩:=hs;exact w.elim
   | cont=>obtain ⟨_,_,_,w⟩:=hs;exact w.elim
   | ret u=>obtain ⟨_,_,_,_,_,w⟩:=hs;exact w.elim
  ·simp only [hk] at q
   exact qa0 q
theorem zqZ (z:zcO X) (hN:X.N.Nodup) (hj:X.N[j]? = some en) (hen:X.env.scope.names.lookup en=some .local) (hg:Gl X ce) (hm:X.mg ce=some (.ref CE))
  (hkn: ∀ c∈known, ∀ C,zbG X.K c C->W.exmOne X.K (.ref C) (.ref CE)=some true)
  (hb: ∀ pn xe E',zbH (CXE X.prog X.w) (X.re pn xe) (zjv X.K E')->SSs (X.re pn xe) E' body gb)
  (FH:FnH X.prog X.w X.K X.mg X.base k fk fdk [pe] (zbY X.K 1 Fk)) (hbk:zaJ X.K fdk [pe] []) (hgk:Gl X gk) (hmk:X.mg gk=some (.ref fk)) (kp:W.keepIn X.K (.ref fk)=true) (hr:zdH k X.A)
  (hd:(ce==("__debug__":Str))=false:=by decide) (hd2:(gk==("__debug__":Str))=false:=by decide) (hd3:(en==("__debug__":Str))=false:=by decide):
  SS X E (.Try body [.ExceptHandler (some (.Name ce pce)) (some en) [.Return (some (.Call (.Name gk p1) [.Name en p2] [] p3)) p4] hp] [] [] pos) (zhB known gb Fk):=by
 refine zlQ (fin:=λ_ d=>pure (.rt d)) (p1:=p1) (p2:=p2) (p3:=p3) (λsd h=>rfl) z hN hj hen hg hm hkn hd hb (λX' pins σ H s a D0 sd Q Ef pn xe hX I6 hl ev hQ=> ?_) FH hbk hgk hmk kp hr hd2 hd3
 subst hX
 refine wpAny_execs_cons ?_
 refine wpAny_Return_some (qaZ (ev (λv H'=>D0.rt v H') λd ι' H' h' hr1 q v rv=>Fin.out hr1 q v rv) (λu s8 hv=> ?_) λ_ _ w=>w)
 obtain ⟨v,H8,I8,rv,qv⟩:=hv
 exact zpl (X:=X.re pn xe) I8 hN hj hen λs9 I9=>hQ _ s9 ⟨v,_,H8,I9,rv,qv⟩
def zdE (c:String):FS:=λ_ h=> .exc c h
theorem zoj {c:String} {C:Addr} {nid:String} {msg:Str} {jj:Nat} {np cpos:Pos} (hc:X.calm=true) (hp:zpG X E) (hX:W.excIn X.K C zjP "ValueError.__new__"=true) (hcl:zbG X.K c C) (hg:Gl X (c:Str)) (hd:((c:Str)==("__debug__":Str))=false:=by decide):
  SS X E (.Raise (some (.Call (.Name (c:Str) np) [.Constant (.str msg) jj p2] [] cpos)) none pos) (zdE c):=by
 intro pins s σ H D0 I ⟨ι,h,sd,L,hh,q⟩
 have hE:E c H:=q ι H (zbU.refl _ _) hh
 have hm:X.mg (c:Str)=some (.ref C):=W.mg_of I.ok.mod.kin I.ok.mod.glob hcl
 obtain ⟨tl,N,nm,qq,bs,hdct,sn,sub,ab,col,dd,k0,k1,k2,k3,k5,mN,hC,hNs,hni,T⟩:=(zpp (x:=(c:Str)) I.ok.mod.kin hm hX).obj
 refine wpAny_Raise_call_subT (C:=C) (nm:=nm) (q:=qq) (N:=N) (bs:=bs) (bm:=tl) (hdct:=hdct) (sn:=sn) (sub:=sub) (ab:=ab) (col:=col) (dd:=dd) (k0:=k0) (k1:=k1) (k2:=k2) (k3:=k3) (k5:=k5)
  PySem.F.excBase_ValueError (mN:=mN) (T.hasType PySem.F.excBase_ValueError.hasBase) (I.ok.hd hc) rfl hni (zhr I hg hm ⟨rfl,?_⟩ hd)
 refine Calls.evalArgs_plain (x:=eval (.Constant (.str msg) jj p2) X.env) (rest:=[]) ?_
 refine Calls.spliced_cons (thn (znH pins s σ H (λv H1=>H1=H) I rfl) λu s1 hu=> ?_)
 obtain ⟨v,H1,I1,rv,rfl⟩:=hu
 refine Calls.spliced_nil ⟨rfl,by show 1<=sizeLine;decide,I1.bk _ _ hC,hNs.keeps I1.bk,T.keeps I1.bk,λh' e m=> ?_⟩
 exact hp pins σ H1 s1 h' e C c _ I1 hcl m hE
end
end L3
namespace L3
open PySem.W
theorem zgs {K:Frag} {C:Addr} {name:Str} {a g:Value} (hc:(clsIn K C).isSome=true) (ha:findIn K (.ref C) name=some (some a)) (hg:specialIn K a "__get__"=some (some g)) (ht:takesIn K a=some true):findObj K C none name=some (.bind g a):=by
 obtain ⟨cd,hc⟩:=isSome_iff_exists.mp hc
 unfold findObj
 rw [hc,Option.bind_some,ha,Option.bind_some]
 simp [hg,ht]
section
variable {prog:Program} {w:World} {A:Around} {E:Value->Shared->Prop} {s:Shared} {K:Frag} {x D:Addr} {ox:Obj}
theorem zkv {Q:Option Value->Shared->Prop} (X:K.In s.heap) (I:InstAt s.heap x ox D none) (hc:(clsIn K D).isSome=true) (hga:findIn K (.ref D) "__getattribute__"=some (some (.builtin "BaseException.__getattribute__"))) (hk:findIn K (.ref D) "__getattr__"=some none)
  (ha:findIn K (.ref D) "__class__"=some (some (.builtin "object.__class__"))) (hn:specialIn K (.builtin "object.__class__") "__get__"=some (some (.builtin "getset_descriptor.__get__"))) (htk:takesIn K (.builtin "object.__class__")=some true)
  (hm:mroIn K D (.type "object")=some true) (hmB:mroIn K D (.type "BaseException")=some true) (h:Q (some (.ref D)) {s with toks:=s.toks+1}):wpAny (model prog w) A (getAttr? (.ref x) "__class__") Q E s:=by
 obtain ⟨hh,g,d,t,os⟩:=s
 have L0:=I.type (M:=model prog w)
 have L1:=looks_findIn (M:=model prog w) X hga
 have L2:=looks_findIn (M:=model prog w) X hk
 have L3:=looks_find (M:=model prog w) X I (zgs hc ha hn htk)
 have LB:Looks (model prog w) hh (isInstance (.ref x) (.type "BaseException")) true:=L0.andThen (looks_mroIn X hmB)
 have f3:=PySem.F.attr_ValueError.ga.bind (.ref x)
 have hx2:(Value.builtin "BaseException.__getattribute__"==Value.builtin "object.__getattribute__")=false:=by decide +kernel
 unfold getAttr? getAttrBy? getAttrBy
 refine qaW (wpAny_mkText (qaW (wpAny_attempt (qaO (qaW (L0.at (qaW (L1.at ?_))))))))
 dsimp only
 rw [hx2,Bool.and_false,qa5 Bool.false_ne_true]
 unfold getAttrByItsOwn hookBefore
 rw [qa4 (show onTheHeap (Value.ref D)=true from rfl)]
 refine qaW (L2.at ?_)
 refine qaW (wpAny_attempt (qaO ?_))
 unfold callGetattribute
 rw [qa5 (by simp)]
 unfold boundAndCalled
 rw [f3]
 refine qaW (qaX ?_)
 refine wpAny_call (codeAny_call_builtin PySem.F.attr_ValueError.ga.plain PySem.F.entry_bexc_ga ?_)
 have kd:builtinKind "BaseException.__getattribute__"=some .slot:=by decide +kernel
 have sp:splitId "BaseException.__getattribute__"=some ("BaseException","__getattribute__"):=by decide +kernel
 have ag:=PySem.F.args_bexc_ga (.ref x) (.str "__class__" t)
 simp only [checkBuiltinCall,kd,sp]
 refine qaW (LB.at ?_)
 rw [qa5 (by decide)]
 refine wpAny_of_eq (a:=()) ag ?_
 unfold Builtin.«object.__getattribute__»
 refine qaW (qaX ?_)
 refine qaW (qaX ?_)
 refine qaW (L0.at ?_)
 refine qaW (L3.at ?_)
 dsimp only
 unfold Builtin.ObjectAttr.bindTo
 dsimp only
 refine qaW (qaO (wpAny_call (class_get (s:=⟨hh,g,d,t+1,os⟩) X I hm ?_)))
 refine qaX ?_
 dsimp only
 refine wpAny_of_eq (a:=Value.ref D) rfl ?_
 exact qaX h
end
end L3
namespace L3
open L2
def kxb (K:W.Frag) (C:Addr):Bool:=(W.clsIn K C).isSome && W.findIn K (.ref C) "__getattribute__"==some (some (.builtin "BaseException.__getattribute__")) && W.findIn K (.ref C) "__getattr__"==some none && W.findIn K (.ref C) "__class__"==some (some (.builtin "object.__class__"))
 && W.specialIn K (.builtin "object.__class__") "__get__"==some (some (.builtin "getset_descriptor.__get__")) && W.takesIn K (.builtin "object.__class__")==some true && W.mroIn K C (.type "object")==some true && W.mroIn K C (.type "BaseException")==some true
theorem znb {K:W.Frag} {x C:Addr} {ox:Obj} (h:kxb K C=true):W.KitX K (.ref x) (.ref C) (λh=>W.InstAt h x ox C none):=by
 unfold kxb at h
 simp only [qaG,beq_iff_eq] at h
 obtain ⟨⟨⟨⟨⟨⟨⟨h1,h2⟩,h3⟩,h4⟩,h5⟩,h6⟩,h7⟩,h8⟩:=h
 refine ⟨λ_ _ _ I=>I.type,λM hp X _=> ?_,λhp tp dd its n sl X htp=> ?_,λX I k=>zkv X I h1 h2 h3 h4 h5 h6 h7 h8 k⟩
 ·obtain ⟨cd,hc⟩:=isSome_iff_exists.mp h1
  unfold W.clsIn at hc
  split at hc
  ·rename_i lk
   intro A' Q' E' s' k q
   unfold isType loadHead
   exact qaW (wpAny_loadPart (k _ _ (X _ _ lk)) (qaX q))
  ·cases hc
 ·refine Bool.eq_false_iff.mpr λq=> ?_
  have e:C=tp:=Value.ref.inj (beq_iff_eq.mp q)
  subst e
  obtain ⟨cd,hc⟩:=isSome_iff_exists.mp h1
  unfold W.clsIn at hc
  split at hc
  ·rename_i lk
   have z:=(X _ _ lk).symm.trans htp
   cases z
  ·cases hc
structure zs4 (K:W.Frag) (CE:Addr) (names:List String) (c:String) (C:Addr):Prop where
 exc:W.excIn K C zjP "ValueError.__new__"=true
 cov:W.exmOne K (.ref C) (.ref CE)=some true
 kx:kxb K C=true
 ve:W.kitOne K (.ref C) (.type "ValueError")=some true
 one: ∀ c'∈names, ∀ C',zbG K c' C'->W.kitOne K (.ref C) (.ref C')=some (c==c')
def zlF (K:W.Frag) (CE:Addr) (names:List String):Prop:= ∀ c∈names, ∀ C,zbG K c C->zs4 K CE names c C
def zla (K:W.Frag) (CE:Addr) (tab:List (String×Addr)):Bool:=tab.all λp=>W.nsIn K mainGlobals (p.1:Str)==some (some (.ref p.2)) && W.excIn K p.2 zjP "ValueError.__new__" && W.exmOne K (.ref p.2) (.ref CE)==some true && kxb K p.2 && W.kitOne K (.ref p.2) (.type "ValueError")==some true
 && tab.all λr=>W.kitOne K (.ref p.2) (.ref r.2)==some (p.1==r.1)
theorem zlF.of {K:W.Frag} {CE:Addr} {tab:List (String×Addr)} (h:zla K CE tab=true):zlF K CE (tab.map (·.1)):=by
 unfold zla at h
 rw [all_eq_true] at h
 have key: ∀ c∈tab.map (·.1), ∀ C,zbG K c C->(c,C)∈tab:=λc hc C hC=>by
  obtain ⟨p,hp,rfl⟩:=qaU.mp hc
  have h1:=h p hp
  simp only [qaG,beq_iff_eq] at h1
  have e:=h1.1.1.1.1.1
  unfold zbG at hC
  rw [hC] at e
  cases e
  exact hp
 intro c hc C hC
 have h1:=h _ (key c hc C hC)
 simp only [qaG,beq_iff_eq,all_eq_true] at h1
 obtain ⟨⟨⟨⟨⟨a1,a2⟩,a3⟩,a4⟩,a5⟩,a6⟩:=h1
 exact ⟨a2,a3,a4,a5,λc' hc' C' hC'=>a6 _ (key c' hc' C' hC')⟩
theorem zlF.known {K:W.Frag} {CE:Addr} {names:List String} (h:zlF K CE names): ∀ c∈names, ∀ C,zbG K c C->W.exmOne K (.ref C) (.ref CE)=some true:=λc hc C hC=>(h c hc C hC).cov
def zjy (names:List String) (T:String):D->M D
 | .exn c=>if names.contains c && names.contains T then pure (.bl (c==T)) else M.bad
 | _=>M.bad
def zrd (names:List String):D->M D
 | .exn c=>if names.contains c then pure (.bl true) else M.bad
 | _=>M.bad
section
variable {X:Cx} {E:XE}
theorem ziM:zaO X (.builtin "isinstance") (λxs H Q=> ∃ a o C vs x u b,xs=[.ref a,x]/\H a=some (.frz o (.own 0))/\(o.cls= .ref C/\o.dict=none/\o.data= .fields vs)/\kxb X.K C=true/\zbB x u/\(∀ u',zbB x u'->u'=u)/\W.kitOne X.K (.ref C) u=some b/\Q (.bl b) H):=by
 intro pins s σ H xs us Q I r h
 obtain ⟨a,o,C,vs,x,u,b,rfl,hH,⟨o1,o2,o3⟩,hk,hu,hu2,e,q⟩:=h
 cases r with
 | cons r1 r2=>
  cases r2 with
  | cons r3 r4=>
   cases r4
   cases r1
   have:=hu2 _ r3
   subst this
   have ho:=(I.hok a _ hH).1
   refine W.kia_one (znb (x:=a) (ox:=o) hk) I.kIn ⟨ho,o1,by unfold W.notCls;rw [o3],by rw [o2];trivial⟩ e (λz=>nomatch z) λtk=>⟨.bl b,H,I.tok tk,rfl,q⟩
variable {a:Expr} {p1 p2 pos:Pos} {fa:FE} {CE CC:Addr} {names:List String}
theorem zeP {c':String} (hx:zlF X.K CE names) (hc':names.contains c'=true) (hcl:zbG X.K c' CC) (hm:X.mg "isinstance"=none) (hmC:X.mg (c':Str)=some (.ref CC)) (ha:SE X E a fa) (hg:Gl X "isinstance":=by rfl) (hgC:Gl X (c':Str):=by rfl)
  (hd:((c':Str)==("__debug__":Str))=false:=by decide)
  (h1:starEach [a,.Name (c':Str) p2] X.env=(false,eval a X.env)::starEach [.Name (c':Str) p2] X.env:=by rfl) (h2:starEach [.Name (c':Str) p2] X.env=[(false,eval (.Name (c':Str) p2) X.env)]:=by rfl)
  (hpl:(backTo pos (starEach [.Name (c':Str) p2] X.env)).any (·.1)=false:=by rfl):
  SE X E (.Call (.Name "isinstance" p1) [a,.Name (c':Str) p2] [] pos) (cUn (zjy names c') fa):=by
 refine PE.imp (zdD ziM hg hm PyProof.Rows.boot_isinstance (zbc ha (zbc (zfD (v:= .ref CC) hgC hmC rfl hd) zcn h2) h1) (he:=h1) (hpl:=hpl)) λσ H Q ⟨ι,h,sd,L,hh,q⟩=>⟨ι,h,sd,L,hh,Fin.bind q λd h1 ι1 H1 e1 s1 hr1 q1 v rv=> ?_⟩
 cases d with
 | exn c=>
  obtain ⟨hg1,q2⟩:=Fin.guard (show Fin X.K E ι1 H1 ((if (names.contains c && names.contains c')=true then (pure (.bl (c==c')):M D) else M.bad) h1) _ from q1)
  rw [qaG] at hg1
  simp only [Rel] at rv
  obtain ⟨b,o,C,head,vs,rfl,⟨r1,_⟩,r2,r3,r4,r5,_⟩:=rv
  have ok:=hx c (by simpa using hg1.1) C r2
  exact ⟨b,o,C,vs,.ref CC,.ref CC,c==c',rfl,r1,⟨r3,r4,r5⟩,ok.kx,rfl,λu' z=>z,ok.one c' (by simpa using hc') CC hcl,Fin.out hr1 q2 _ (by simp [Rel])⟩
 | _=>exact qa0 q1
theorem zr7 (hx:zlF X.K CE names) (hm:X.mg "isinstance"=none) (hmT:X.mg "ValueError"=none) (ha:SE X E a fa) (hg:Gl X "isinstance":=by rfl) (hgT:Gl X "ValueError":=by rfl)
  (h1:starEach [a,.Name "ValueError" p2] X.env=(false,eval a X.env)::starEach [.Name "ValueError" p2] X.env:=by rfl) (h2:starEach [.Name "ValueError" p2] X.env=[(false,eval (.Name "ValueError" p2) X.env)]:=by rfl)
  (hpl:(backTo pos (starEach [.Name "ValueError" p2] X.env)).any (·.1)=false:=by rfl):
  SE X E (.Call (.Name "isinstance" p1) [a,.Name "ValueError" p2] [] pos) (cUn (zrd names) fa):=by
 refine PE.imp (zdD ziM hg hm PyProof.Rows.boot_isinstance (zbc ha (zbc (zlj (v:= .ty "ValueError") hgT hmT ⋯ rfl) zcn h2) h1) (he:=h1) (hpl:=hpl)) λσ H Q ⟨ι,h,sd,L,hh,q⟩=>⟨ι,h,sd,L,hh,Fin.bind q λd h1 ι1 H1 e1 s1 hr1 q1 v rv=> ?_⟩
 cases d with
 | exn c=>
  obtain ⟨hg1,q2⟩:=Fin.guard (show Fin X.K E ι1 H1 ((if names.contains c=true then (pure (.bl true):M D) else M.bad) h1) _ from q1)
  simp only [Rel] at rv
  obtain ⟨b,o,C,head,vs,rfl,⟨r1,_⟩,r2,r3,r4,r5,_⟩:=rv
  have ok:=hx c (by simpa using hg1) C r2
  exact ⟨b,o,C,vs,.ty "ValueError",.type "ValueError",true,rfl,r1,⟨r3,r4,r5⟩,ok.kx,rfl,λu' z=>z,ok.ve,Fin.out hr1 q2 _ (by simp [Rel])⟩
 | _=>exact qa0 q1
end
end L3
namespace L3
section
variable {prog:Program} {w:World} {A:Around} {E:Value->Shared->Prop} {s:Shared}
theorem zl8 {l:Addr} {xs:Array (Int×Tok)} {Q:Value->Shared->Prop} (hh:zn0 A s.heap) (hl:s.heap.IsList l (intItems xs))
  (k: ∀ h' tk t',(∀ b o,s.heap.get? b=some o->h'.get? b=some o)->Q (.int (preSum (numAt xs) xs.size) t') {s with heap:=h',toks:=tk}):wpAny (model prog w) A (call (.builtin "sum") [.ref l]) Q E s:=by
 refine call_sum_walkG (iter_intList hl λs₂ e st hfp hlI=> ?_)
 subst e
 rcases hh with hh | ⟨ha,cls,head,hh,hX⟩
 ·refine ⟨_,_,_,_,_,_,numAt xs,rfl,Walks.list (A:=A.in1) hh _ l hlI (intItems xs),st,hfp,(λ_ _=>intItems_at),λh' tk t' hk=> ?_⟩
  simpa [intItems] using k h' tk t' (old_kept hk)
 ·obtain ⟨ob,vs,x1,x2⟩:=id hX
  have hX2:=hX.keep (h':=s.heap.push {cls:= .type "list_iterator",data:= .fields #[.ref l,.int 0 0]}) λo e=>qag _ e
  refine ⟨_,_,_,_,_,_,numAt xs,rfl,zjn (A:=A.in1) (ha:=ha) (cls:=cls) (head:=head) hh _ l hlI (qaR (qaQ x1)) (intItems xs),⟨st.1,st.2,hX2⟩,λb hb=> ?_,(λ_ _=>intItems_at),λh' tk t' hk=> ?_⟩
  ·simp only [qaP,qaF,or_false] at hb
   rcases hb with z | z | z
   ·exact hfp b (by simp [z])
   ·exact hfp b (by simp [z])
   ·rw [z]
    show ha<(s.heap.push _).objs.size
    rw [qaL]
    exact lt_succ_of_lt (qaQ x1)
  ·simpa [intItems] using k h' tk t' (old_kept hk)
end
end L3
namespace L2
open L3
section
variable {X:Cx}
theorem zlA:zaO X (.builtin "sum") (λxs H Q=> ∃ (a:Addr) (ns:List Int),xs=[.ref a]/\SqL X.K H a (ns.map V.int)/\Q (.int ns.sum) H):=by
 intro pins s σ H xs us Q I r h
 obtain ⟨a,ns,rfl,hq,q⟩:=h
 obtain ⟨u,rfl,rx⟩:=zcX r
 cases rx
 obtain ⟨its,r',pl,hz⟩:=I.list hq
 have hi:=zck r'
 obtain ⟨ys,hy⟩:=hi.allInts.items
 have hl:s.heap.IsList a (intItems ys):=hy▸pl.isList
 refine zl8 I.hand hl λh' tk t' hk=> ?_
 have e1:ns=ys.toList.map (·.1):=by
  rw [<- nums_intItems, <-hy]
  exact (show numsOf its.toArray.toList=ns from hi.numsOf).symm
 have e2:preSum (numAt ys) ys.size=ns.sum:=by rw [preSum_eq,List.take_of_length_le (by simp),e1]
 rw [e2]
 exact ⟨.int ns.sum,H,I.grown (s':={s with heap:=h',toks:=tk}) rfl rfl hk,⟨t',rfl⟩,q⟩
theorem zft: ∀ {bs:List Bool} {its:List Value},za7 (bs.map V.bl) its->its=bs.map Value.bool
 | [],_,h=>by cases h;rfl
 | b::bs,_,h=>by
  cases h with
  | cons r t=>cases r;rw [zft t];rfl
theorem zlq:MtR X "list.index" (λx vs H Q=> ∃ (l:Addr) (bs:List Bool) (j:Nat),x= .ref l/\vs=[.bl true]/\SqL X.K H l (bs.map V.bl)/\bs[j]? = some true/\(∀ m,m<j->bs[m]? = some false)/\Q (.int (j:Int)) H):=by
 intro pins s σ H x vs v us Q I rx rv h
 obtain ⟨l,bs,j,rfl,rfl,hq,hj,hno,q⟩:=h
 cases rx
 obtain ⟨u,rfl,ru⟩:=zcX rv
 cases ru
 obtain ⟨its,r,pl,hz⟩:=I.list hq
 have eit:=zft r
 subst eit
 obtain ⟨ob,e1,c1,n1,d1⟩:=pl.isList
 obtain ⟨cc,dd,dt,sl⟩:=ob
 dsimp only at c1 d1
 subst c1 d1
 have hlt:j<bs.length:=(qac.mp hj).1
 rw [qaH] at hz
 have sz:(j:Int)<2^63 - 1:=by
  have:sizeLine<2^40:=by decide
  omega
 refine call_meets F.slot_list_index ⟨_,e1,rfl⟩ F.entry_list_index (F.args_list_index_2 _ _)
  (PySem.SeqAt.list_indexAt l _ n1 dd sl (.bool true) (λv=>match v with | .bool b=>b | _=>false) j (by simpa using hlt) sz ?_ ?_) ⟨e1,λy hy=> ?_,⟨.int j,H,I.tok _,⟨_,rfl⟩,q⟩⟩
 ·have:=(qac.mp hj).2
  simp [this]
 ·intro m hm hmj
  have:=(qac.mp (hno m hmj)).2
  simp [this]
 ·obtain ⟨b,_,rfl⟩:=qaU.mp (List.mem_toArray.mp hy)
  have:=PySem.SeqAt.EqAt.bool_bool (A:=X.A.in1) (s:=s) b true
  simpa using this
end
end L2
namespace L3
open L2
def zuc (f:FE):FE:=λsd=>noX (f sd)
def zut (f:FS):FS:=λsd=>noX (f sd)
section
variable {X:Cx} {E:XE} {a e o:Expr} {es:List Expr} {pos p cpos apos:Pos} {f fo fe fa:FE} {fs:FA} {x:Str}
theorem zcY {k:Nat} {g:Addr} {fd:FuncData} {ps:List Str} {n:Nat} {F:List D->M D} (G:zbE X.prog X.w X.K X.mg X.base (CXE X.prog X.w) k g fd ps (spE X.K n F)) (hx:zbH (CXE X.prog X.w) X (zjv X.K E)) (hr:zdL k X.A) (hm:X.mg x=some (.ref g)) (hk:W.keepIn X.K (.ref g)=true) (hb:zaJ X.K fd ps [])
  (ha:SA X E (e::es) fs) (hg:Gl X x:=by rfl) (hdb:(x==("__debug__":Str))=false:=by decide) (he:starEach (e::es) X.env=(false,eval e X.env)::starEach es X.env:=by rfl) (hpl:(backTo pos (starEach es X.env)).any (·.1)=false:=by rfl):
  SE X E (.Call (.Name x p) (e::es) [] pos) (zax (zal n F) fs):=zmW G hx hr hg hm hk hb ha hdb he hpl
theorem zkc {k:Nat} {g:Addr} {fd:FuncData} {ps:List Str} {n:Nat} {F:List D->M D} (G:zbE X.prog X.w X.K X.mg X.base CX0 k g fd ps (zbY X.K n F)) (hr:zdL k X.A) (hm:X.mg x=some (.ref g)) (hk:W.keepIn X.K (.ref g)=true) (hb:zaJ X.K fd ps [])
  (ha:SA X E (e::es) fs) (hg:Gl X x:=by rfl) (hdb:(x==("__debug__":Str))=false:=by decide) (he:starEach (e::es) X.env=(false,eval e X.env)::starEach es X.env:=by rfl) (hpl:(backTo pos (starEach es X.env)).any (·.1)=false:=by rfl):
  SE X E (.Call (.Name x p) (e::es) [] pos) (zax (zal n λds=>noX (F ds)) fs):=zmK G hr hg hm hk hb ha hdb he hpl
theorem zdZ {c:String} {C CE:Addr} {names:List String} {msg:Str} {jj:Nat} {np p2:Pos} (hc:X.calm=true) (hp:zpG X E) (hX:zlF X.K CE names) (hn:names.contains c=true) (hcl:zbG X.K c C) (hg:Gl X (c:Str):=by rfl) (hd:((c:Str)==("__debug__":Str))=false:=by decide):
  SS X E (.Raise (some (.Call (.Name (c:Str) np) [.Constant (.str msg) jj p2] [] cpos)) none pos) (zdE c):=zoj (nid:="") hc hp (hX c (by simpa using hn) C hcl).exc hcl hg hd
theorem znY {scope:Scope} {N:List Str} {src:List (Option Nat)} {tg iter elt:Expr} {ifs:List Expr} {fi:FA} {g:D->Sd->M Sd} {tc:FT} {te:FE} (B:BOk X scope N src) (hk:zaI g src) (hi:SI X E tg iter fi)
  (hg: ∀ s H fp,SG (cxB X scope N s H fp) E tg g) (ht: ∀ s H fp,SCs (cxB X scope N s H fp) E ifs tc) (he: ∀ s H fp,SE (cxB X scope N s H fp) E elt te)
  (hs: ∀ x,foldedSetIterable iter X.env x=pure x:=by intro _;rfl):SE X E (.ListComp elt [⟨tg,iter,ifs,0⟩] scope pos) (zaB fi g tc te src):=zkz B hk hi hg ht he hs
def zjg:List D->M D
 | [.int i]=>pure (.int i)
 | [.bl b]=>pure (.int (if b then 1 else 0))
 | _=>M.bad
theorem zfd:zaO X (.type "int") (zhf X.K E zjg):=by
 refine zaO.imp zkq λxs H Q ⟨ι,h,ds,rl,hr,q⟩=> ?_
 unfold zjg at q
 split at q
 ·simp only [zaw,Rel] at rl
  obtain ⟨v,r,rfl,rfl,rfl⟩:=rl
  exact .inl ⟨_,rfl,Fin.out hr q _ (by simp [Rel])⟩
 ·simp only [zaw,Rel] at rl
  obtain ⟨v,r,rfl,rfl,rfl⟩:=rl
  exact .inr ⟨_,rfl,Fin.out hr q _ (by simp [Rel])⟩
 ·exact qa0 q
theorem ziW:zaO X (.builtin "sum") (zhf X.K E ztS):=by
 refine zaO.imp zlA λxs H Q ⟨ι,h,ds,rl,hr,q⟩=> ?_
 obtain ⟨d,v,e,r,q⟩:=zb0 rl q
 cases d with
 | lst ds=>
  obtain ⟨a,vs,e',h1,h2⟩:=zdO r
  obtain ⟨ns,en,q⟩:=Fin.ofOb q
  have:=zdK h2 en
  subst this
  exact ⟨a,ns,by rw [e,e'],h1,Fin.out hr q _ (by simp [Rel])⟩
 | _=>exact qa0 q
def zp7:D->M D
 | .lst ds=>do
  let bs<-ofO (zm8 ds)
  let j<-ofO (bs.findIdx? id)
  pure (.int j)
 | _=>M.bad
theorem zo5 {jj:Nat} {p2:Pos} (ho:SE X E o fo)
  (hbase:attributeBase o "index" X.env (eval o X.env)=eval o X.env:=by rfl)
  (hfew:((backTo cpos (starEach [.Constant (.bool true) jj p2] X.env)).all (λx=> !x.1) && (backToKw cpos (keywordEach [] X.env)).all (λx=>x.1.isSome)
    && decide (([.Constant (.bool true) jj p2]:List Expr).length+([]:List Keyword).length+(if ([]:List Keyword).isEmpty then 0 else 1)<30))=true:=by rfl)
  (hline:(apos.endLine==cpos.line)=true:=by rfl) (hs:starEach [.Constant (.bool true) jj p2] X.env=(false,eval (.Constant (.bool true) jj p2) X.env)::starEach [] X.env:=by rfl) (hplain:(backTo cpos (starEach [] X.env)).any (·.1)=false:=by rfl):
  SE X E (.Call (.Attribute o "index" apos) [.Constant (.bool true) jj p2] [] cpos) (cUn zp7 fo):=by
 refine PE.imp (ziV PySem.F.plainAttrs_list PySem.F.slot_list_index PySem.F.type_list_index zlq ho (zbc zqo zcn hs) hbase hfew hline hs hplain) λσ H Q ⟨ι,h,sd,L,hh,q⟩=>⟨ι,h,sd,L,hh,Fin.bind q λd h1 ι1 H1 e1 s1 hr1 q1 v rv=> ?_⟩
 cases d with
 | lst ds=>
  obtain ⟨a,vs,e',h1',h2⟩:=zdO rv
  obtain ⟨bs,en,q2⟩:=Fin.ofOb q1
  obtain ⟨j,ej,q3⟩:=Fin.ofOb q2
  have:=zfV h2 en
  subst this
  subst e'
  refine ⟨.inl ⟨rfl,_,h1'⟩,a,bs,j,rfl,rfl,h1',?_,λm hm=> ?_,Fin.out hr1 q3 _ (by simp [Rel])⟩
  ·obtain ⟨h3,h4,_⟩:=List.findIdx?_eq_some_iff_getElem.mp ej
   rw [qaf h3]
   simpa using h4
  ·obtain ⟨h3,h4,h5⟩:=List.findIdx?_eq_some_iff_getElem.mp ej
   rw [qaf ⋯]
   simpa using h5 m hm
 | _=>exact qa0 q1
def zhJ (x y:D):M D:=match x,y with
 | .cel n,.tup zs=>do
  let ds<-zaq n
  fits (ds.length+zs.length)
  zbF n (ds++zs)
  pure .non
 | _,_=>M.bad
def zpB (fo fe:FE):FE:=λsd=>do
 let x<-fo sd
 zfp x
 let y<-fe sd
 zhJ x y
end
section
variable {P:Program} {w:World} {K:W.Frag} {mg:Str->Option Value} {base:Heap}
theorem zqE {x qual:Str} {st:Stmt} {f:Addr} {fd:FuncData} {N ps:List Str} {k:Nat} {G:Sd->M Out} (F:Fun K x qual st f fd) (S:zao N ps (zae st))
  (hb: ∀ (cdv:Value) (A:Around) (outer:List Env) (s:Shared) (H:Hp),zdH k (A.deeper (envOfC qual (zae st) s.heap.objs.size f cdv))->SSs ({zgU CX0 P w K mg base N qual (zae st) f cdv A outer s H E0 with calm:=false}:Cx).nox E0x (zce st) G):
  FnH P w K mg base (k+1) f fd ps (zbY K ps.length (zcK N.length G)):=by
 obtain ⟨oc,od,kV,doc,pm,an,cdv,ct,osl,rfl,lk,hcd⟩:=F.ex
 refine zrM lk hcd S (λvs H Q E h=>h.1) λA outer s H vs Q hr ⟨hl,ι,h,ds,rl,hh,q⟩=>⟨_,hb cdv A outer s H hr,ι,h,zfh N.length ds,zd0 rl,hh,?_⟩
 refine Fin.bind q λo h1 ι1 H1 e1 s1 hr1 q1=> ?_
 cases o with
 | nx sd=>exact λσ' _=>Fin.out hr1 q1 _ (by simp [Rel])
 | rt d=>exact λv rv=>Fin.out hr1 q1 v rv
 | bk sd=>exact qa0 q1
 | ct sd=>exact qa0 q1
end
section
variable {X:Cx} {E:XE} {body:List Stmt} {ce en gk pe x:Str} {pce p1 p2 p3 p4 p5 hp pos:Pos} {CE fk:Addr} {fdk:FuncData} {Fk:List D->M D} {gb:FS} {k:Nat} {known:List String}
theorem zqP (j:Nat) (z:zcO X) (hN:X.N.Nodup) (hm:X.mg ce=some (.ref CE)) (hkn:zlF X.K CE known)
  (FH:FnH X.prog X.w X.K X.mg X.base k fk fdk [pe] (zbY X.K 1 Fk)) (hbk:zaJ X.K fdk [pe] []) (hmk:X.mg gk=some (.ref fk)) (kp:W.keepIn X.K (.ref fk)=true) (hr:zdH k X.A)
  (hb: ∀ pn xe E',zbH (CXE X.prog X.w) (X.re pn xe) (zjv X.K E')->SSs (X.re pn xe) E' body gb)
  (hj:X.N[j]? = some en:=by rfl) (hen:X.env.scope.names.lookup en=some .local:=by rfl) (hg:Gl X ce:=by rfl) (hgk:Gl X gk:=by rfl)
  (hd:(ce==("__debug__":Str))=false:=by decide) (hd2:(gk==("__debug__":Str))=false:=by decide) (hd3:(en==("__debug__":Str))=false:=by decide):
  SS X E (.Try body [.ExceptHandler (some (.Name ce pce)) (some en) [.Return (some (.Call (.Name gk p1) [.Name en p2] [] p3)) p4] hp] [] [] pos) (zhB known gb Fk):=zqZ z hN hj hen hg hm hkn.known hb FH hbk hgk hmk kp hr hd hd2 hd3
end
def zhG (Fs:List (List D->M D)) (i:D):M (List D->M D):=match i with
 | .int j=>(match ixN Fs.length j with
   | some m=>ofO Fs[m]?
   | none=>M.bad)
 | _=>M.bad
def zpw (n:Nat) (Fs:List (List D->M D)) (fi:FE) (fs:FA):FE:=λsd=>do
 let i<-fi sd
 let F<-zhG Fs i
 let ds<-fs sd
 zal n F ds
structure Fns (X:Cx) (n:Nat) (addrs:List Addr) (Fs:List (List D->M D)):Prop where
 len:Fs.length=addrs.length
 ok: ∀ (m:Nat) (F:List D->M D) (a:Addr),Fs[m]? = some F->addrs[m]? = some a-> ∃ k fd ps,zbE X.prog X.w X.K X.mg X.base (CXE X.prog X.w) k a fd ps (spE X.K n F)/\zdL k X.A/\W.keepIn X.K (.ref a)=true/\zaJ X.K fd ps []
theorem Fns.nil {X:Cx} {n:Nat}:Fns X n [] []:=⟨rfl,λm F a h=>by simp at h⟩
theorem Fns.cons {X:Cx} {n k:Nat} {a:Addr} {F:List D->M D} {addrs:List Addr} {Fs:List (List D->M D)} {fd:FuncData} {ps:List Str} (G:zbE X.prog X.w X.K X.mg X.base (CXE X.prog X.w) k a fd ps (spE X.K n F)) (hr:zdL k X.A) (hk:W.keepIn X.K (.ref a)=true) (hb:zaJ X.K fd ps []) (h:Fns X n addrs Fs):Fns X n (a::addrs) (F::Fs):=by
 refine ⟨by simp [h.len],λm F' a' h1 h2=> ?_⟩
 cases m with
 | zero=>simp at h1 h2;subst h1 h2;exact ⟨k,fd,ps,G,hr,hk,hb⟩
 | succ m=>simp at h1 h2;exact h.ok m F' a' h1 h2
section
variable {X:Cx} {E:XE} {e ix:Expr} {es fes:List Expr} {pos p q3 q4:Pos} {fi:FE} {fs:FA} {x:Str}
theorem zr2 {a:Addr} {addrs:List Addr} (hm:X.mg x=some (.ref a)) (h:PA X fes (λ_ H Q=>Q (addrs.map V.ref) H)) (hg:Gl X x:=by rfl) (hd:(x==("__debug__":Str))=false:=by decide) (hs:starEach (.Name x p::fes) X.env=(false,eval (.Name x p) X.env)::starEach fes X.env:=by rfl):
  PA X (.Name x p::fes) (λ_ H Q=>Q ((a::addrs).map V.ref) H):=zbc (zfD (v:= .ref a) hg hm rfl hd) h hs
theorem zrY:PA X [] (λ_ H Q=>Q (([]:List Addr).map V.ref) H):=zcn
theorem zoW {n:Nat} {i:Int} {m:Nat} (h:ixN n i=some m):m<n:=by
 unfold ixN at h
 split at h
 ·split at h
  ·cases h;omega
  ·cases h
 ·split at h
  ·cases h;omega
  ·cases h
theorem zr8 {n:Nat} {addrs:List Addr} {Fs:List (List D->M D)} (hfe:PA X fes (λ_ H Q=>Q (addrs.map V.ref) H)) (hF:Fns X n addrs Fs) (hx:zbH (CXE X.prog X.w) X (zjv X.K E)) (hi:SE X E ix fi) (ha:SA X E (e::es) fs) (hsz:addrs.length<=60:=by simp) (hs:ze0 ix:=by intro _ _;rfl)
  (he:starEach (e::es) X.env=(false,eval e X.env)::starEach es X.env:=by rfl) (hpl:(backTo pos (starEach es X.env)).any (·.1)=false:=by rfl):
  SE X E (.Call (.Subscript (.List fes q3) ix q4) (e::es) [] pos) (zpw n Fs fi fs):=by
 intro pins s σ H Q I ⟨ι,h,sd,L,hh,q⟩
 show wpAny (model X.prog X.w) X.A (eval (.Subscript (.List fes q3) ix q4) X.env>>=λf=>callWith pos f [] (backTo pos (starEach (e::es) X.env)) (backToKw pos (keywordEach [] X.env))) _ _ s
 refine qaW ?_
 refine thn (zsd (pos:=q4) zkW (zjK hfe) hi hs pins s σ H (λv H1=> ∃ (a:Addr) (m:Nat) (F:List D->M D) (ι1:Io) (h1:Hh),v= .ref a/\Fs[m]? = some F/\addrs[m]? = some a/\zcH X.K ι1 H1 sd σ/\za6 X.K ι1 H1 h1/\Fin X.K E ι1 H1 ((do let ds<-fs sd;zal n F ds) h1) λd ι' H'=> ∀ v,Rel X.K ι' H' d v->Q v H') I ?_) λf s1 hf=> ?_
 ·refine ⟨by rw [qaH];exact qaS hsz (by decide),λp hp=>⟨ι,h,sd,L.step (hh.laidS hp),hh.laid hp,?_⟩⟩
  refine Fin.bind (Fin.step (hh.laidS hp) q) λd h1 ι1 H1 e1 s1 hr1 q1 v rv=> ?_
  cases d with
  | int j=>
   simp only [Rel] at rv
   subst rv
   have hp1:H1 p=some (.lst (addrs.map V.ref)):=s1.keep p _ zaV (hh.nin hp)
   cases ej:ixN Fs.length j with
   | none=>
    have q2:Fin X.K E ι1 H1 ((zhG Fs (.int j)>>=λF=>fs sd>>=λds=>zal n F ds) h1) _:=q1
    unfold zhG at q2
    simp only [ej] at q2
    exact qa0 q2
   | some m=>
    have hm:=zoW ej
    have hm2:m<addrs.length:=by rw [<- hF.len];exact hm
    refine ⟨p,_,j,.ref addrs[m],rfl,rfl,SqL.of hp1,?_,addrs[m],m,Fs[m],ι1,h1,rfl,by simp [hm],by simp [hm2],(L.step (hh.laidS hp)).step s1,hr1,?_⟩
    ·unfold atI
     rw [qaH, <-hF.len,ej]
     simp [hm2]
    ·have q2:Fin X.K E ι1 H1 ((zhG Fs (.int j)>>=λF=>fs sd>>=λds=>zal n F ds) h1) _:=q1
     unfold zhG at q2
     simp only [ej,qaf hm] at q2
     exact q2
  | _=>exact qa0 q1
 ·obtain ⟨v,H1,I1,rv,a,m,F,ι1,h1,rfl,hFm,ham,L1,hr1,q1⟩:=hf
  obtain rfl:f=Value.ref a:=rv
  obtain ⟨k,fd,ps,G,hr,hk,hb⟩:=hF.ok m F a hFm ham
  refine W.callWith_K (h₀:=X.base) I.ok.mod.kin hk (thn (ha pos pins s1 σ H1 _ I1 ⟨ι1,h1,sd,L1,hr1,Fin.bind q1 λds h2 ι2 H2 e2 s2 hr2 q2 vs rvs=> ?_⟩) λus s2 ⟨vs,H2,I2,r,q⟩=>⟨I2.kIn,znL G hr hb (dvs:=[]) .nil hx I2 r q⟩) he hpl
  show spE X.K n F (vs++[]) H2 Q _
  rw [append_nil]
  unfold zal at q2
  by_cases hl:ds.length=n
  ·rw [qa4 hl] at q2
   exact ⟨by rw [<- rvs.length];exact hl,ι2,h2,ds,rvs,hr2,Fin.exmono (λc H' z C v hc=>⟨c,C,rfl,hc,z⟩) q2⟩
  ·rw [qa5 hl] at q2
   exact qa0 q2
end
end L3
namespace L2
section
variable {X:Cx} {tg:Expr}
end
end L2
namespace L3
open L2
section
variable {X:Cx} {E:XE} {e o:Expr} {f fo fe:FE} {pos apos cpos:Pos}
noncomputable def zdo (tc:FT) (gb:FS):Nat->FS
 | 0,_=>M.bad
 | n+1,sd=>do
  let b<-tc sd
  if b=true then
   let o<-gb sd
   match o with
   | .nx sd'=>zdo tc gb n sd'
   | .ct sd'=>zdo tc gb n sd'
   | .bk sd'=>pure (.nx sd')
   | .rt d=>pure (.rt d)
  else pure (.nx sd)
def zku (n:Nat) (tc:FT) (gb:FS):FS:=zdo tc gb n
theorem zpa {c:Expr} {body:List Stmt} {tc:FT} {gb:FS} (n:Nat) (hp:PassesOwn (model X.prog X.w) X.A X.env X.xe) (hc:ST X E c tc) (hb:SSs X E body gb):SS X E (.While c body [] pos) (zku n tc gb):=by
 refine PS.imp (zmg hp hc hb) λD0 σ H ⟨ι,h,sd,L,hh,q⟩=> ?_
 refine ⟨λm σ' H'=> ∃ ι' h' sd',zcH X.K ι' H' sd' σ'/\za6 X.K ι' H' h'/\Fin X.K E ι' H' (zdo tc gb m sd' h') (zf9 X.K D0),⟨n,ι,h,sd,L,hh,q⟩,?_⟩
 rintro m σ2 H2 ⟨ι2,h2,sd2,L2,hr2,q2⟩
 cases m with
 | zero=>exact qa0 q2
 | succ m=>
  refine ⟨ι2,h2,sd2,L2,hr2,Fin.bind q2 λb h3 ι3 H3 e3 s3 hr3 q3=> ?_⟩
  cases b with
  | true=>
   refine ⟨λσ' H'=> ∃ ι' h' sd',zcH X.K ι' H' sd' σ'/\za6 X.K ι' H' h'/\Fin X.K E ι' H' (zdo tc gb m sd' h') (zf9 X.K D0),λσ' H' p=>⟨m,⋯,p⟩,ι3,h3,sd2,L2.step s3,hr3,Fin.bind q3 λo h7 ι7 H7 e7 s7 hr7 q7=> ?_⟩
   cases o with
   | nx sd'=>exact λσ' L'=>⟨ι7,h7,sd',L',hr7,q7⟩
   | ct sd'=>exact λσ' L'=>⟨ι7,h7,sd',L',hr7,q7⟩
   | bk sd'=>exact λσ' L'=>Fin.out (E:=E) (P:=zf9 X.K D0) hr7 q7 σ' L'
   | rt d=>exact λv rv=>Fin.out (E:=E) (P:=zf9 X.K D0) hr7 q7 v rv
  | false=>exact Fin.out (E:=E) (P:=zf9 X.K D0) hr3 q3 σ2 (L2.step s3)
end
end L3
namespace L3
open PySem.Sem (wp)
open PySem.AutoSeq1 (wpAny_loadPart')
section
variable {prog:Program} {w:World} {A:Around} {E:Value->Shared->Prop} {s:Shared}
end
end L3
namespace L3
section
variable {prog:Program} {w:World} {A:Around} {E:Value->Shared->Prop} {s:Shared}
end
end L3
namespace L2
section
variable {X:Cx} {pins:List (Addr×Obj)} {σ:St} {H:Hp} {s:Shared} {h':Heap}
end
section
variable {X:Cx} {elts:List Expr} {k:Nat} {tpos:Pos}
end
end L2
namespace L3
open L2
section
variable {X:Cx} {E:XE} {elts:List Expr} {k:Nat} {tpos pos:Pos}
end
end L3
namespace L3
section
open PySem.SeqAt
open PySem.AutoSeq1 (wpAny_loadPart')
open PySem.MeetsSeq PySem.MeetsSeq2 PySem.MeetsSeq3
section
variable {prog:Program} {w:World} {A:Around} {E:Value->Shared->Prop} {s:Shared}
end
end
end L3
namespace L3
section
variable {prog:Program} {w:World} {A:Around} {R:Result->Shared->Prop} {I:Addr} {fp wr:List Addr} {n:Nat} {P:Nat->Value->Prop} {St:Nat->Heap->Prop} {h0:Heap}
end
section
variable {prog:Program} {w:World} {A:Around} {E:Value->Shared->Prop} {s:Shared}
end
end L3
namespace L2
open L3
section
variable {X:Cx}
end
end L2
namespace L3
open L2
section
variable {X:Cx} {E:XE}
end
section
variable {X:Cx} {E:XE}
def ztF (d:D):M Bool:=do let ds<-zl6 d;pure (!ds.isEmpty)
def zqz (f:FE):FT:=λsd=>do let d<-f sd;ztF d
theorem zrW {e:Expr} {f:FE} (h:SE X E e f) (he: ∀ whole,isTrue e X.env whole=(do let v<-whole;standAt e.pos;holding [v] (truthy v)):=by intro _;rfl):ST X E e (zqz f):=by
 refine PT.imp (zmP h he) λσ H Q ⟨ι,h,sd,L,hh,q⟩=>⟨ι,h,sd,L,hh,Fin.bind q λd h1 ι1 H1 e1 s1 hr1 q1 v rv=> ?_⟩
 obtain ⟨a,vs,ds',e',hs,rl',q2⟩:=zc8 hr1 rv q1
 have hl:=rl'.length
 have ee:(!ds'.isEmpty)= !vs.isEmpty:=by
  cases ds' with
  | nil=>
   cases vs with
   | nil=>rfl
   | cons _ _=>simp at hl
  | cons _ _=>
   cases vs with
   | nil=>simp at hl
   | cons _ _=>rfl
 rw [ee] at q2
 refine ⟨!vs.isEmpty,?_,Fin.out hr1 q2⟩
 rw [e']
 rcases znc hs with z | z
 ·exact .inl ⟨vs,z,rfl⟩
 ·exact .inr (.inl ⟨vs,z,rfl⟩)
end
section
variable {X:Cx} {E:XE}
def ztf:D->Option Bool
 | .non=>some true
 | .int _=>some false
 | .tup _=>some false
 | .lst _=>some false
 | _=>none
def znS (x y:D):M D:=match y with
 | .non=>do let b<-ofO (ztf x);pure (.bl b)
 | _=>M.bad
theorem zl1 {K:W.Frag} {ι:Io} {H:Hp} {x:D} {v:V} {u:Value} {b:Bool} (r:Rel K ι H x v) (rv:zbB v u) (e:ztf x=some b):(u=Value.none/\b=true)\/(u≠Value.none/\b=false):=by
 cases x with
 | non=>
  simp only [Rel] at r
  subst r
  cases rv
  cases e
  exact .inl ⟨rfl,rfl⟩
 | int i=>
  simp only [Rel] at r
  subst r
  obtain ⟨t,rfl⟩:=rv
  cases e
  exact .inr ⟨(λz=>by cases z),rfl⟩
 | tup ds=>
  obtain ⟨a,vs,rfl,_,_⟩:=zdf r
  cases rv
  cases e
  exact .inr ⟨(λz=>by cases z),rfl⟩
 | lst ds=>
  obtain ⟨a,vs,rfl,_,_⟩:=zdO r
  cases rv
  cases e
  exact .inr ⟨(λz=>by cases z),rfl⟩
 | _=>cases e
theorem zjT:OpR X (compareOp .Is) (zdt X.K E znS):=by
 intro pins s σ H x y v u Q I rx ry ⟨ι,h,d1,d2,r1,r2,hr,q⟩
 cases d2 with
 | non=>
  obtain ⟨b,eb,q⟩:=Fin.ofOb (show Fin X.K E ι H ((do let b<-ofO (ztf d1);pure (.bl b):M D) h) _ from q)
  simp only [Rel] at r2
  subst r2
  cases ry
  rcases zl1 r1 rx eb with ⟨rfl,rfl⟩ | ⟨hv,rfl⟩
  ·exact is_none_none (zii I (Fin.out hr q _ (by simp [Rel])) rfl)
  ·exact is_none_ne hv (zii I (Fin.out hr q _ (by simp [Rel])) rfl)
 | _=>exact qa0 q
end
section
variable {X:Cx} {E:XE} {scope:Scope} {N:List Str} {src:List (Option Nat)} {tg iter elt:Expr} {ifs:List Expr} {pos:Pos}
end
end L3
namespace L3
open PySem.Sem (wp)
open PySem.AutoSeq1 (wpAny_loadPart')
section
variable {prog:Program} {w:World} {A:Around} {E:Value->Shared->Prop} {s:Shared}
end
end L3
namespace L2
section
variable {X:Cx} {elts:List Expr} {k:Nat} {tpos:Pos}
end
end L2
namespace L3
open L2
section
variable {X:Cx} {E:XE} {elts:List Expr} {k:Nat} {tpos pos:Pos}
end
end L3
namespace L2
section
variable {κ:Type} [DecidableEq κ]
end
section
variable {X:Cx}
end
end L2
namespace L3
open L2
section
variable {X:L2.Cx} {E:XE}
end
open LT
section
variable {h:Hh}
end
end L3
namespace L3
open L2
structure Fd (K:W.Frag) (x:Str) (st:Stmt) (a:Addr) (d:FuncData):Prop where
 e:W.nsIn K mainGlobals x=some (some (.ref a))
 F:Fun K x x st a d
section
variable {X:Cx} {E:XE}
end
end L3
namespace L3
open HT
section
open PySem.SeqAt
open PySem.AutoSeq1 (wpAny_loadPart')
open PySem.MeetsSeq PySem.MeetsSeq2 PySem.MeetsSeq3
end
section
variable {prog:Program} {w:World} {A:Around} {E:Value->Shared->Prop} {s:Shared}
end
end L3
namespace L3
section
open PySem.SeqAt
open PySem.AutoSeq1 (wpAny_loadPart')
open PySem.MeetsSeq PySem.MeetsSeq2 PySem.MeetsSeq3
section
variable {prog:Program} {w:World} {A:Around} {E:Value->Shared->Prop} {s:Shared}
end
end
open L2
section
variable {X:Cx} {E:XE}
end
end L3
namespace L2
section
variable {X:Cx}
theorem zln:zaO X (.builtin "abs") (λxs H Q=> ∃ i,xs=[.int i]/\Q (.int (if i<0 then -i else i)) H):=by
 intro pins s σ H xs us Q I r h
 obtain ⟨i,rfl,q⟩:=h
 obtain ⟨u,rfl,t,rfl⟩:=zcX r
 exact call_abs_int λu tk=>⟨.int (if i<0 then -i else i),H,I.tok _,⟨_,rfl⟩,q⟩
end
end L2
namespace L3
open L2
section
variable {X:Cx} {E:XE}
def zrb:List D->M D
 | [.int i]=>pure (.int (if i<0 then -i else i))
 | _=>M.bad
theorem zgo:zaO X (.builtin "abs") (zhf X.K E zrb):=by
 refine zaO.imp zln λxs H Q ⟨ι,h,ds,rl,hr,q⟩=> ?_
 unfold zrb at q
 split at q
 ·simp only [zaw,Rel] at rl
  obtain ⟨v,r,rfl,rfl,rfl⟩:=rl
  exact ⟨_,rfl,Fin.out hr q _ (by simp [Rel])⟩
 ·exact qa0 q
def zpK (i j:Nat) (fs:FA):FS:=λsd=>do let ds<-fs sd;match ds with | [d,d']=>pure (.nx ((sd.set i (some d)).set j (some d'))) | _=>M.bad
theorem zrT {x y:Str} {a b:Expr} {fs:FA} {px py pt pos:Pos} {kt k2 pt2} (i j:Nat) (hc:X.calm=true) (hN:X.N.Nodup) (ha:SA X E [a,b] fs) (hi:X.N[i]? = some x:=by rfl) (hj:X.N[j]? = some y:=by rfl) (hij:i≠j:=by decide)
  (hx:X.env.scope.names.lookup x=some .local:=by rfl) (hy:X.env.scope.names.lookup y=some .local:=by rfl)
  (hw:swappedStores [.Tuple [.Name x px,.Name y py] kt pt] (.Tuple [a,b] k2 pt2) X.env=pure (some [x,y]):=by rfl)
  (hs:swapsWithSole [.Tuple [.Name x px,.Name y py] kt pt] (.Tuple [a,b] k2 pt2) pos.line X.env=pure false:=by rfl):
  SS X E (.Assign [.Tuple [.Name x px,.Name y py] kt pt] (.Tuple [a,b] k2 pt2) pos) (zpK i j fs):=zsU (zpV hc hN hi hj hij hx hy ha hw hs)
end
open Classical in
section
variable {X:Cx} {E:XE} {scope:Scope} {N:List Str} {src:List (Option Nat)} {tg iter elt:Expr} {ifs:List Expr} {pos:Pos}
end
end L3
namespace L3
open L2
section
variable {X:Cx} {E:XE} {pos:Pos}
end
end L3
namespace L2
section
variable {X:Cx}
end
end L2
namespace L3
open L2
section
variable {X:L2.Cx} {E:XE}
theorem zlT:OpR X (binaryOp .FloorDiv) (rI (λ_ j=>0<j/\j<2^8000) λi j=> .int (i / j)):=opI λi j _ _ _ _ _ hc q=>by
 refine floordiv_int ⋯ (by rw [Int.fdiv_eq_ediv_of_nonneg _ ⋯];exact q) (.inl (PyProof.noPylong_of_log2 ?_))
 have h1:j.natAbs<2^8000:=by omega
 have h0:j.natAbs≠0:=by omega
 exact lt_trans ((Nat.log2_lt h0).mpr h1) (by decide)
def zgA:=dII (λ_ j=>decide (0<j) && decide (j<2^8000)) λi j=> .int (i / j)
theorem zh7:OpR X (binaryOp .FloorDiv) (zdt X.K E zgA):=zji zlT (λi j h=>by simpa using h) λ_ _ _ _=>by simp [Rel]
end
section
variable {X:L2.Cx} {E:XE}
def zb6:List D->M D:=zlI λd=>match d with
 | .int i=>if i.natAbs.log2<1920 then pure (.str (toString i)) else M.bad
 | _=>M.bad
theorem za3:zaO X (.type "str") (zhf X.K E zb6):=by
 refine zaO.imp zgy λxs H Q ⟨ι,h,ds,rl,hr,q⟩=> ?_
 obtain ⟨d,v,e,r,q⟩:=zb0 rl q
 cases d with
 | int i=>
  simp only [Rel] at r
  by_cases hc:i.natAbs.log2<1920
  ·have q:Fin X.K E ι H ((if i.natAbs.log2<1920 then (pure (D.str (toString i)):M D) else M.bad) h) _:=q
   rw [qa4 hc] at q
   exact ⟨i,by rw [e,r],hc,Fin.out hr q _ (by simp [Rel])⟩
  ·have q:Fin X.K E ι H ((if i.natAbs.log2<1920 then (pure (D.str (toString i)):M D) else M.bad) h) _:=q
   rw [qa5 hc] at q
   exact qa0 q
 | _=>exact qa0 q
end
end L3
namespace L2
section
variable {X:Cx}
end
end L2
namespace L3
open L2
section
variable {X:L2.Cx} {E:XE}
end
end L3
namespace L3
section
variable {M:Model} {A:Around} {E:Value->Shared->Prop} {s:Shared} {B:Heap} {env:Env} {outer l:List Env} {L e:Addr} {cls head fl:Value}
theorem zlU {Q:Unit->Shared->Prop} (hfr:A.frames=some (env::outer)) (hf:env.frame=some L) (y:Fly B (env::outer) e cls fl s.heap)
  (q: ∀ h',Fly B (env::outer) e cls (rawInt L) h'->s.heap.UpToSlots h'->Q () {s with heap:=h'}):wpAny M A (noteFrame (.ref e) env) Q E s:=by
 obtain ⟨hkb,hen,hl,hd,⟨ob,vs,h1,h2,h3,h4,h5,h6⟩,T,ot,ts,rfl,t1,t2,t3,t4,t5⟩:=id y
 unfold noteFrame
 simp only [hf]
 refine qaW (wpAny_field h1 h4 h6 ?_)
 rw [qa4 (show (Value.ref T != Value.none)=true by simp)]
 refine qaW (wpAny_field t3 t4 t5 ?_)
 by_cases c:(fl==rawInt L)=true
 ·rw [qa4 c]
  have:fl=rawInt L:=eq_of_beq c
  subst this
  exact qaX (q s.heap y λb o z hn=>⟨o.slots,z⟩)
 rw [qa5 c]
 refine qaW (wpAny_setField t3 t4 (qab.mp t5).1 ?_)
 have oth: ∀ b,b≠T->(s.heap.update T (Obj.mapFields (·.setIfInBounds 3 Value.none))).get? b=s.heap.get? b:=λb hb=>qah _ _ (Ne.symm hb)
 have nrec: ∀ b o,s.heap.get? b=some o->(∀ ws,o.data≠ .fields ws)->b≠T:=λb o z hn w=>by
  rw [w,t3] at z
  cases z
  exact hn ts t4
 refine zfy hfr (hl.of_keeps λb o z hn=>⟨o,(oth b (nrec b o z hn)).trans z,rfl⟩) hf ⟨ob,vs,(oth e (Ne.symm t2)).trans h1,h2,h3,h4,h5,h6⟩ (λb o z=>(oth b λw=>by rw [w,t1] at z;cases z).trans (hkb b o z)) hen λh' y u=> ?_
 exact q h' y λb o z hn=>u b o ((oth b (nrec b o z hn)).trans z) hn
theorem zi1 {fo:Option Addr} {Q:Unit->Shared->Prop} (y:Fly B l e cls fl s.heap) (q: ∀ h',Fly B l e cls (fo.elim Value.none λf=>rawInt f) h'->(∀ b o,s.heap.get? b=some o->(∀ ws,o.data≠ .fields ws)->h'.get? b=some o)->Q () {s with heap:=h'}):
  wpAny M A (setFlight (.ref e) fo) Q E s:=by
 obtain ⟨hkb,hen,hl,hd,⟨ob,vs,h1,h2,h3,h4,h5,h6⟩,T,ot,ts,rfl,t1,t2,t3,t4,t5⟩:=y
 have hsz:=(qab.mp t5).1
 have oth: ∀ b,b≠T->(s.heap.update T (Obj.mapFields (·.setIfInBounds 3 (fo.elim Value.none λf=>rawInt f)))).get? b=s.heap.get? b:=λb hb=>qah _ _ (Ne.symm hb)
 have nrec: ∀ b o,s.heap.get? b=some o->(∀ ws,o.data≠ .fields ws)->b≠T:=λb o z hn w=>by
  rw [w,t3] at z
  cases z
  exact hn ts t4
 unfold setFlight
 refine qaW (wpAny_field h1 h4 h6 ?_)
 rw [qa4 (show (Value.ref T != Value.none)=true by simp)]
 refine wpAny_setField t3 t4 hsz (q _ ⟨λb o z=>(oth b λw=>by rw [w,t1] at z;cases z).trans (hkb b o z),hen,hl.of_keeps λb o z hn=>⟨o,(oth b (nrec b o z hn)).trans z,rfl⟩,
   .ref T,⟨ob,vs,(oth e (Ne.symm t2)).trans h1,h2,h3,h4,h5,h6⟩,T,_,_,rfl,t1,t2,qal _ t3 (Obj.isFreed_of_fields (Obj.data_mapFields t4 _)),Obj.data_mapFields t4 _,by simp [hsz]⟩ λb o z hn=>(oth b (nrec b o z hn)).trans z)
end
end L3
namespace L2
open L3
section
variable {X:Cx} {pins:List (Addr×Obj)} {σ:St} {H H':Hp} {s s':Shared} {a C:Addr} {fl:Value} {M:Model} {E:Value->Shared->Prop} {Q:Unit->Shared->Prop}
theorem Fl.base' (z:zcO X) (I:Inv X pins σ H s) (y:Fl X.prog X.w X.stack H s a C fl H' s') {c:Addr} {oc:Obj} (ec:s.heap.get? c=some oc) (nc:H c=none) (fc:c∉frs X.stack) (hc:X.s₀.heap.objs.size<=c) {h':Heap} (sb:Heap.SameBut c s'.heap h'):
  Fl X.prog X.w X.stack X.H₀ X.s₀ a C fl H' {s' with heap:=h'}:=by
 have nex: ∀ b,b∉X.ex:=λb h=>by rw [z.ex] at h;cases h
 obtain ⟨B,y1,y2⟩:=y.base
 have old: ∀ b o,X.s₀.heap.get? b=some o->b≠c:=λb o e w=>by
  have:=qaQ e
  rw [w] at this
  exact qaN _ (qaw this hc)
 have off: ∀ b,b≠c->h'.get? b=s'.heap.get? b:=λb hb=>sb.2 b hb
 have nc':H' c=none:=y.hs.free c oc ec nc
 obtain ⟨oB,eB,_⟩:=y2.old c oc ec fc
 have tn: ∀ b u,H' b=some u->b≠c:=λb u e w=>by rw [w,nc'] at e;cases e
 have hB: ∀ {b:Addr} {o:Obj},B.get? b=some o->b≠c->(W.hideAll B [c]).get? b=some o:=λe n=>W.hideAll_get _ e (by simpa using n)
 have ofB: ∀ {b:Addr} {o:Obj},(W.hideAll B [c]).get? b=some o->B.get? b=some o/\b≠c:=λ{b o} e=>⟨W.of_hideAll _ e,λw=>by
   rw [w,W.hideAll_none [c] (by simp)] at e
   cases e⟩
 have ac:a≠c:=λw=>by have:=y1.new;rw [w,eB] at this;cases this
 refine ⟨y.os.trans I.os,y.bare,⟨W.hideAll B [c],⟨λb o e=> ?_,?_,?_,?_⟩,λb o e hb=> ?_,λb u e=> ?_,λb u e=> ?_⟩,λb o e n hb=> ?_,λb o e n=> ?_,λb xs e=>y.hs.tups b xs (I.base.tups b xs e),λb o v e=>y.hs.frzs b o v (I.base.frzs b o v e),λb ps e=> ?_⟩
 ·obtain ⟨e1,e2⟩:=ofB e
  rw [off b e2]
  exact y1.stays b o e1
 ·cases q:(W.hideAll B [c]).get? a with
  | none=>rfl
  | some o=>have:=(ofB q).1;rw [y1.new] at this;cases this
 ·have fr:=y1.frames
  have key: ∀ {l:List Env},c∉frs l->s'.heap.FunFrames B l->h'.FunFrames (W.hideAll B [c]) l:=by
   intro l
   induction l with
   | nil=>exact λ_ _=>trivial
   | cons env r ih=>
    rintro hn ⟨hk,⟨L,o,hf,hb,ho,hd⟩,hr⟩
    have hL:L≠c:=λw=>hn (by unfold frs;rw [qat,hf,w];exact qau)
    refine ⟨hk,⟨L,o,hf,?_,(off L hL).trans ho,hd⟩,ih (λw=>hn ?_) hr⟩
    ·cases q:(W.hideAll B [c]).get? L with
     | none=>rfl
     | some o=>have:=(ofB q).1;rw [hb] at this;cases this
    ·unfold frs at w ⊢
     rw [qat,hf]
     exact qan _ w
  exact key fc fr
 ·obtain ⟨hd,⟨ob,vs,h1,h2⟩,T,ot,ts,rfl,t1,t2,t3,t4⟩:=y1.exc
  have hT:T≠c:=λw=>by rw [w,eB] at t1;cases t1
  refine ⟨_,⟨ob,vs,(off a ac).trans h1,h2⟩,T,ot,ts,rfl,?_,t2,(off T hT).trans t3,t4⟩
  cases q:(W.hideAll B [c]).get? T with
  | none=>rfl
  | some o=>have:=(ofB q).1;rw [t1] at this;cases this
 ·obtain ⟨o1,e1⟩:=I.base.there b o e (nex b)
  have hbs:b∉frs X.stack:=hb
  obtain ⟨o2,e2,q2⟩:=y2.old b o1 e1 hbs
  refine ⟨o2,hB e2 (old b o e),λn=> ?_⟩
  have hfs:b∉X.fs:=λw=>hbs (by rw [z.frs];exact qan _ w)
  have e3:=I.base.keep b o e n hfs (nex b)
  rw [e1] at e3
  cases e3
  exact q2 (I.base.free b o e n (nex b))
 ·obtain ⟨o,e1⟩:=y2.trk b u e
  exact ⟨o,hB e1 (tn b u e)⟩
 ·refine (y2.ok b u e).stay (λd o hd e1=>hB e1 ?_) (λ_ r=>r) λ_ _ r=>r
  rcases hd with rfl | hd
  ·exact tn _ u e
  ·exact tn _ _ hd
 ·have hbs:b∈frs X.stack:=hb
  have hfs:b∈X.fs:=by
   rw [z.frs] at hbs
   rcases qaP.mp hbs with r | r
   ·exact absurd r (I.below e)
   ·exact r
  obtain ⟨sl,e1⟩:=I.base.slot b o e n hfs (nex b)
  obtain ⟨sl2,e2⟩:=y.slot b _ e1 (I.base.free b o e n (nex b)) hbs
  exact ⟨sl2,(off b (old b o e)).trans e2⟩
 ·obtain ⟨o1,e1⟩:=I.base.there b o e (nex b)
  exact y.hs.free b o1 e1 (I.base.free b o e n (nex b))
 ·obtain ⟨m1,e1⟩:=I.base.tbls b ps e
  obtain ⟨m2,e2⟩:=y.hs.tbls b _ e1
  exact ⟨m1++m2,by rw [e2,Array.append_assoc]⟩
theorem Fl.leaveB (z:zcO X) (hfr:X.A.frames=some X.stack) (nl:X.s₀.heap.objs.size<=X.env.locals) (y:Fl X.prog X.w X.stack X.H₀ X.s₀ a C fl H' s') (k: ∀ s2,Fl X.prog X.w X.outer X.H₀ X.s₀ a C .none H' s2->Q () s2):wpAny M X.A (leaving X.env (.ref a)) Q E s':=by
 obtain ⟨B,y1,y2⟩:=y.base
 have y1':=y1
 rw [z.stk] at hfr y1'
 have nin: ∀ b o,X.s₀.heap.get? b=some o->b∉frs X.outer->b∉frs X.stack:=λb o e hb hm=>by
  rw [z.frs] at hm
  rcases qaP.mp hm with r | r
  ·have:=qaQ e
   rw [r] at this
   exact qaN _ (qaw this nl)
  ·exact hb r
 unfold leaving
 refine qaW (zlU hfr z.frm y1' λh1 z1 u1=> ?_)
 refine zc5 (s:={s' with heap:=h1}) z1 λh2 z2 k2=>k _ ?_
 refine ⟨y.os,y.bare,⟨B,z2.tail,λb o e hb=>y2.old b o e (nin b o e hb),y2.trk,y2.ok⟩,λb o e n hb=> ?_,y.hs⟩
 have hb2:b∈frs X.stack:=by rw [z.frs];exact qan _ hb
 obtain ⟨sl2,e2⟩:=y.slot b o e n hb2
 obtain ⟨_,o3,e3,n3⟩:=y1.frames.mem hb2
 rw [e2] at e3
 cases e3
 obtain ⟨sl4,e4⟩:=u1 b _ e2 n3
 exact ⟨sl4,k2 b _ e4 n3⟩
theorem Fl.passed {α:Type} {what:String} {l:List Env} {P:Program} {w:World} {H0:Hp} {s0:Shared} {cenv:Env} {QQ:α->Shared->Prop} (y:Fl P w l H0 s0 a C fl H' s') (k: ∀ fl' h',Fl P w l H0 s0 a C fl' H' {s' with heap:=h'}->E (.ref a) {s' with heap:=h'}):wpAny M X.A (PySem.passOn what (.ref a) cenv:Sem α) QQ E s':=by
 obtain ⟨B,y1,y2⟩:=y.base
 obtain ⟨hd,⟨ob,vs,h1,h2,h3,h4,h5,h6⟩,T,ot,ts,rfl,t1,t2,t3,t4,t5⟩:=y1.exc
 unfold PySem.passOn
 refine qaW (wpAny_field h1 h4 h6 ?_)
 rw [qa5 (show ¬(Value.ref T==Value.none)=true by simp)]
 refine qaW (zi1 y1 λh2 z2 k2=> ?_)
 refine wpAny_throw (k _ h2 ⟨y.os,y.bare,⟨B,z2,y2⟩,λb o e n hb=> ?_,y.hs⟩)
 obtain ⟨sl,e1⟩:=y.slot b o e n hb
 obtain ⟨_,o3,e3,n3⟩:=y1.frames.mem hb
 rw [e1] at e3
 cases e3
 exact ⟨sl,k2 b _ e1 n3⟩
end
end L2
namespace L2
section
variable {prog:Program} {w:World} {A:Around} {E:Value->Shared->Prop} {R:Result->Shared->Prop} {s:Shared}
theorem zfZ {elt target iter:Expr} {ifs:List Expr} {scope:Scope} {pos:Pos} {it acc:Value} {env:Env} {Ex:Value->Shared->Prop} (hEx: ∀ x s',Ex x s'->notedBy (model prog w) A env (λx s'=>R (.error x) s') x s') (I:Nat->Shared->Prop)
  (turn: ∀ n s,I n s->wpAny (model prog w) A (pyNext it) (λr s₁=>match r with
    | none=>R (.ok .next) s₁
    | some v=>wpAny (model prog w) A (letOwnedTupleGo target it v) (λ_ s₁'=>wpAny (model prog w) A (assign target env v) (λ_ s₂=>
        wpAny (model prog w) A (forIn ifs true λc r=>if r=true then do let ok<-isTrue c env (eval c env);pure (ForInStep.yield ok) else pure (ForInStep.yield r)) (λok s₃=>
          if ok=true then wpAny (model prog w) A (eval elt env) (λx s₄=>
            wpAny (model prog w) A (call (.builtin "list.append") [acc,x]) (λ_ s₅=> ∃ m,m<n/\I m s₅) Ex s₄) Ex s₃
          else ∃ m,m<n/\I m s₃) Ex s₂) Ex s₁') Ex s₁) Ex s)
  (n:Nat) (h:I n s):
  codeAny (model prog w) A (.compLoop (.ListComp elt [⟨target,iter,ifs,0⟩] scope pos) 0 it acc env) R s:=by
 refine codeAny_loop rfl I (λn s hI=> ?_) n h
 show wpAny _ A ((compTurn (.ListComp elt [⟨target,iter,ifs,0⟩] scope pos) 0 it acc env).onRaise (λx=>do noteFrame x env;theTreesLotGoes x)) _ _ s
 refine wpAny_noted ?_
 rw [compTurn_list]
 refine qaW (wpAny_standAt (qaW (qaZ (turn n s hI) (λr s₁ h₁=> ?_) hEx)))
 cases r with
 | none=>exact qaX h₁
 | some v=>
  refine qaW (qaZ h₁ (λ_ s₁' h₁'=> ?_) hEx)
  refine qaW (qaZ h₁' (λ_ s₂ h₂=>qaW (qaZ h₂ (λok s₃ h₃=> ?_) hEx)) hEx)
  cases ok with
  | false=>exact qaX ⟨rfl,h₃⟩
  | true=>
   exact qaW (qaW (qaZ h₃ (λx s₄ h₄=>qaW (qaZ h₄ (λ_ s₅ h₅=>qaX (qaX ⟨rfl,h₅⟩)) hEx)) hEx))
end
section
variable {X:Cx} {scope:Scope} {N:List Str} {src:List (Option Nat)} {tg iter elt:Expr} {ifs:List Expr} {pos:Pos}
theorem zhb {pins:List (Addr×Obj)} {σ:St} {H:Hp} {s₂:Shared} {it:Addr} {fp:List Addr} {tn:Nat->Heap->Prop} {J:It} {g:TG} {tc:TT} {te:TE} {Q:Addr->Hp->Prop} {E:Value->Shared->Prop} {RR:Value->Addr->Result->Shared->Prop}
  (B:BOk X scope N src)
  {EK:XK} (z:zcO X)
  (hg: ∀ s H fp Ex,PG ((cxB X scope N s H fp).wish Ex) tg g) (ht: ∀ s H fp Ex,PCs ((cxB X scope N s H fp).wish Ex) ifs tc) (he: ∀ s H fp Ex,zbH (CXE X.prog X.w) ((cxB X scope N s H fp).wish Ex) EK->PE ((cxB X scope N s H fp).wish Ex) elt te)
  (I2:Inv X pins σ H s₂) (T:zoa X.prog X.w X.K tg J fp it tn) (st2:tn 0 s₂.heap) (f2: ∀ b∈fp,zjc X pins H b) (hw: ∀ D,H D=none->zsh J g tc te (bStart src σ) H D (Q D))
  (hRR: ∀ D C H' s' m,Inv X pins σ H' s'->s'.heap.Ns C m->s₂.heap.objs.size<=C->C<s'.heap.objs.size->H' C=none->Q D H'->RR (.ref D) C (.ok .next) s')
  (hRX: ∀ D C Hb sb oC a Cc H' s' fl,Inv X pins σ Hb sb->sb.heap.get? C=some oC->(∃ m,s'.heap.Ns C m)->Hb C=none->C∉frs X.stack->X.s₀.heap.objs.size<=C->Fl X.prog X.w X.stack Hb sb a Cc fl H' s'->EK (.ref a) (some Cc) H'->RR (.ref D) C (.error (.ref a)) s'):
  wpAny (model X.prog X.w) X.A (newList []) (λacc s₃=>wpAny (model X.prog X.w) X.A (newFunctionEnv scope X.env.globals (zbi X.env.cells scope.names []) [] X.env.qual none .none (some X.env)) (λcenv s₄=>
    codeAny (model X.prog X.w) X.A (.compStart (.ListComp elt [⟨tg,iter,ifs,0⟩] scope pos) 0 (.ref it) acc {cenv with scope:=relabel scope X.env}) (RR acc cenv.locals) s₄) E s₃) E s₂:=by
 refine qaC (zde λh₁ hk₁ hns₁ hce₁=> ?_)
 dsimp only at hk₁ hns₁ hce₁ ⊢
 have hfresh:H s₂.heap.objs.size=none:=I2.hok.fresh (qaV _)
 have I3:Inv X pins σ (upd H s₂.heap.objs.size (.lst [])) {s₂ with heap:=s₂.heap.push {cls:= .type "list",dict:=none,data:= .seq ([]:List Value).toArray}}:=by
  have:=I2.lnew (its:=[]) (ys:=[]) (t':=s₂.toks) .nil (zero_le _)
  exact this
 obtain ⟨W,⟨m0,w0⟩,turn⟩:=hw _ hfresh
 generalize hD:s₂.heap.objs.size=D at*
 generalize hs3:({s₂ with heap:=s₂.heap.push {cls:= .type "list",dict:=none,data:= .seq ([]:List Value).toArray}}:Shared)=s₃ at*
 have hh3:s₂.heap.push {cls:= .type "list",dict:=none,data:= .seq ([]:List Value).toArray}=s₃.heap:=by rw [<- hs3]
 rw [hh3] at hk₁ hns₁ hce₁ ⊢
 have push3: ∀ b o,s₂.heap.get? b=some o->s₃.heap.get? b=some o:=λb o e=>by rw [<- hs3];exact qag _ e
 have sz3:s₃.heap.objs.size=D+1:=by rw [<- hs3, <-hD];exact qaL ..
 have fpo: ∀ b∈fp, ∃ o,s₂.heap.get? b=some o/\ ∀ v,o.data≠ .cell v:=T.obj _ _ st2
 have fpD: ∀ b∈fp,b≠D:=λb hb z=>by
  obtain ⟨o,e,_⟩:=fpo b hb
  have:=qaQ e
  rw [z, <-hD] at this
  exact qaN _ this
 have f3: ∀ b∈fp,zjc X pins (upd H D (.lst [])) b:=λb hb=>⟨by rw [zaz (fpD b hb)];exact (f2 b hb).1,(f2 b hb).2⟩
 have hCs:X.s₀.heap.objs.size<=s₃.heap.objs.size:=by
  rw [sz3, <-hD]
  exact Nat.le_succ_of_le I2.sz
 have leaveB: ∀ {pb:List (Addr×Obj)} {σb:St} {Hb:Hp} {sb:Shared},Inv (cxB X scope N s₃ (upd H D (.lst [])) fp) pb σb Hb sb->Inv X pins σ Hb sb:=λ{pb σb Hb sb} I6=>by
  have un:=I6.base
  have u2:Un (frs X.stack) fp H Hb s₂.heap sb.heap:=by
   refine Un.trans ?_ un
   have:=Un.laid (fs:=frs X.stack) (ex:=fp) (H:=H) (h:=s₂.heap) (h':=s₃.heap) (a:=D) (o:= .lst []) push3 (le_of_eq hD) hfresh
   exact this
  refine I2.call' (ch:=fp) (by rw [I6.os, <-hs3]) u2 I6.hok I6.bare λb hb=> ?_
  obtain ⟨q0,q1,q2,q3,q4,q5⟩:=f2 b hb
  exact ⟨q3,q1,q4,q5⟩
 generalize hEx:(λ(e:Value) (s':Shared)=> ∃ a Cc H' Hb sb oC m,e= .ref a/\Inv X pins σ Hb sb/\sb.heap.get? s₃.heap.objs.size=some oC/\sb.heap.Ns s₃.heap.objs.size m/\Hb s₃.heap.objs.size=none/\Fl X.prog X.w X.stack Hb sb a Cc .none H' s'/\EK (.ref a) (some Cc) H')=Ex
 have nC:s₃.heap.objs.size∉frs X.stack:=λhm=>by
  rw [z.frs] at hm
  rcases qaP.mp hm with r | r
  ·have:=I2.lt
   rw [<- r,sz3,hD] at this
   exact qaN _ (Nat.lt_of_succ_lt this)
  ·exact I2.nofs (a:=s₃.heap.objs.size) (by rw [sz3,hD];exact le_succ _) r
 have pass:zbH (CXE X.prog X.w) ((cxB X scope N s₃ (upd H D (.lst [])) fp).wish Ex) EK:=λpb σb Hb sb e s' I6 ⟨a,Cc,H',e1,y,ek⟩=>by
  have I6:=I6.unwish
  obtain ⟨m,hnC,_⟩:=I6.loc
  obtain ⟨oC,es,ep,hoC,hr⟩:=id hnC
  show Ex e s'
  rw [<- hEx]
  subst e1
  exact ⟨a,Cc,H',Hb,sb,oC,m,rfl,leaveB I6,hoC,hnC,I6.free,y,ek⟩
 have noted: ∀ x s',Ex x s'->notedBy (model X.prog X.w) X.A (zmh X.env scope s₃.heap.objs.size) (λx s'=>RR (.ref D) s₃.heap.objs.size (.error x) s') x s':=λx s' hx=>by
  rw [<- hEx] at hx
  obtain ⟨a,Cc,H',Hb,sb,oC,m,rfl,Ib,hoC,hnC,nHb,y,ek⟩:=hx
  show wpAny _ _ (noteFrame (.ref a) X.env) _ _ _
  have hfr:=Ib.ok.frames
  have y':=y
  rw [z.stk] at hfr y'
  refine Fl.note y' hfr z.frm λh' y2=> ?_
  rw [<- z.stk] at y2
  refine hRX D _ Hb sb oC a Cc H' _ _ Ib hoC ⟨m,?_⟩ nHb nC hCs y2 ek
  obtain ⟨o,es,ep,ho,hr⟩:=hnC
  exact ⟨o,es,ep,y2.un.keep _ o ho nHb nC (by simp),hr⟩
 have I4:Inv ((cxB X scope N s₃ (upd H D (.lst [])) fp).wish Ex) [] (bStart src σ) (upd H D (.lst [])) {s₃ with heap:=h₁}:=
  (zgI I3 B f3 (λb hb=>let ⟨o,e,_⟩:=fpo b hb;⟨o,push3 b o e⟩) hk₁ hns₁ hce₁).wish Ex
 have fB: ∀ {H':Hp},(∀ b∈fp,H' b=none)-> ∀ b∈fp,zjc ((cxB X scope N s₃ (upd H D (.lst [])) fp).wish Ex) [] H' b:=λ{H'} hn b hb=>
  ⟨hn b hb,(I4.ok.exf b hb).1,I4.ok.exfs b hb,.inl hb,λx c e=>(I4.ok.exf b hb).2 x c e,λp hp=>absurd (show p∈([]:List (Addr×Obj)) from hp) (by simp)⟩
 have stat4: ∀ s',s'=({s₃ with heap:=h₁}:Shared)->codeAny (model X.prog X.w) X.A (.compLoop (.ListComp elt [⟨tg,iter,ifs,0⟩] scope pos) 0 (.ref it) (.ref D) (zmh X.env scope s₃.heap.objs.size)) (RR (.ref D) s₃.heap.objs.size) s':=by
  intro s' es
  refine zfZ noted (λn s'=> ∃ i σ' H',Inv ((cxB X scope N s₃ (upd H D (.lst [])) fp).wish Ex) [] σ' H' s'/\tn i s'.heap/\(∀ b∈fp,H' b=none)/\W i n σ' H') ?_ m0 ⟨0,_,_,by rw [es];exact I4,by rw [es];exact T.keep _ _ _ st2 λb hb o e=>hk₁ b o (push3 b o e),λb hb=>(f3 b hb).1,w0⟩
  rintro n s5 ⟨i,σ5,H5,I5,st5,fr5,w5⟩
  rcases turn i n σ5 H5 w5 with ⟨stop,qn⟩ | ⟨go,Nn,hN,step⟩
  ·refine thn (T.done ((cxB X scope N s₃ (upd H D (.lst [])) fp).wish Ex) rfl rfl rfl i [] s5 σ5 H5 _ I5 (fB fr5) st5 stop) λr s6 ⟨hr,I6⟩=> ?_
   subst hr
   obtain ⟨m,hnC,_⟩:=I6.loc
   exact hRR D _ H5 s6 m (leaveB I6.unwish) hnC (by rw [sz3];exact le_succ _) hnC.lt I6.free qn
  ·refine thn (T.item ((cxB X scope N s₃ (upd H D (.lst [])) fp).wish Ex) rfl rfl rfl i [] s5 σ5 H5 _ I5 (fB fr5) st5 go) λr s6 ⟨u,hr,h6⟩=> ?_
   subst hr
   refine thn h6 λ_ s7 ⟨x,H7,I7,r7,y7,st7,fr7⟩=> ?_
   have I7':=I7.pinned (fB fr7) (T.obj _ _ st7)
   refine thn (hg _ _ _ _ _ s7 σ5 H7 x u _ I7' r7 (step x H7 y7)) λ_ s8 ⟨σ8,H8,I8,q8⟩=> ?_
   refine thn (ht _ _ _ _ _ s8 σ8 H8 _ I8 q8) λok s9 ⟨H9,I9,q9⟩=> ?_
   have again: ∀ {σ7:St} {Hz:Hp} {sz:Shared},Inv ((cxB X scope N s₃ (upd H D (.lst [])) fp).wish Ex) ([]++zfs fp s7.heap) σ7 Hz sz->Nn σ7 Hz-> ∃ m,m<n/\ ∃ i σ' H',Inv ((cxB X scope N s₃ (upd H D (.lst [])) fp).wish Ex) [] σ' H' sz/\tn i sz.heap/\(∀ b∈fp,H' b=none)/\W i m σ' H':=λ{σz Hz sz} Iz nz=>by
    obtain ⟨m',hm,wz⟩:=hN _ _ nz
    refine ⟨m',hm,i+1,_,_,Iz.unpinned,T.keep _ _ _ st7 λb hb o e=>(Iz.pin (b,o) (qak _ (qak _ (zbL hb e)))).1,λb hb=> ?_,wz⟩
    obtain ⟨o,e,d⟩:=T.obj _ _ st7 b hb
    exact (Iz.pin (b,o) (qak _ (qak _ (zbL hb e)))).2.1
   cases ok with
   | false=>
    rw [qa5 (by decide)] at q9
    rw [qa5 (by decide)]
    exact again I9 q9
   | true=>
    rw [qa4 rfl] at q9
    rw [qa4 rfl]
    refine thn (he _ _ _ _ pass _ s9 σ8 H9 _ I9 q9) λy s10 ⟨yv,H10,I10,ry,xs,e10,z10,q10⟩=> ?_
    refine thn (zeS (X:=(cxB X scope N s₃ (upd H D (.lst [])) fp).wish Ex) _ s10 σ8 H10 (.ref D) [yv] (.ref D) [y] (λ_ Hf=>Nn σ8 Hf) I10 rfl (.cons ry .nil) ⟨D,xs,yv,rfl,rfl,e10,z10,q10⟩) λ_ s11 ⟨_,H11,I11,_,q11⟩=> ?_
    exact again I11 q11
 exact codeAny_compStart_list (stat4 _ (by rw [<- hs3])) (T.self _ 0 _ _ _ (T.keep _ _ _ st2 λb hb o e=>hk₁ b o (push3 b o e)) (stat4 _ (by rw [<- hs3])))
def zj3 (X:Cx) (EK:XK):Prop:= ∀ (a C:Addr) (fl:Value) (H':Hp) (s':Shared),X.Ok->Fl X.prog X.w X.stack X.H₀ X.s₀ a C fl H' s'->EK (.ref a) (some C) H'->X.xe (.ref a) s'
theorem zmY {wi:TI} {g:TG} {tc:TT} {te:TE} (B:BOk X scope N src) (hi:PI X tg iter wi)
  {EK:XK} (z:zcO X) (hp:zj3 X EK)
  (hg: ∀ s H fp Ex,PG ((cxB X scope N s H fp).wish Ex) tg g) (ht: ∀ s H fp Ex,PCs ((cxB X scope N s H fp).wish Ex) ifs tc) (he: ∀ s H fp Ex,zbH (CXE X.prog X.w) ((cxB X scope N s H fp).wish Ex) EK->PE ((cxB X scope N s H fp).wish Ex) elt te)
  (hs: ∀ x,foldedSetIterable iter X.env x=pure x:=by intro _;rfl):PE X (.ListComp elt [⟨tg,iter,ifs,0⟩] scope pos) (zkL wi g tc te src):=by
 intro pins s σ H Q I h
 rw [eval_ListComp]
 refine wpAny_comprehension_free (use:=none) rfl hs (zbJ λx hx e=>I.ok.has x.1 (B.free x hx e)) B.kind B.locs ?_
 refine thn (hi pins s σ H _ I h) λv s1 h1=>thn h1 λitv s2 h2=> ?_
 obtain ⟨it,fp,tn,J,H2,e,I2,T,st2,f2,hw⟩:=h2
 subst e
 refine zhb (RR:=λacc C=>compPost (model X.prog X.w) X.A X.xe none (EP X pins σ Q) acc C) (Q:=λD H'=>Q (.ref D) H') B z hg ht he I2 T st2 f2 hw ?_ (λD C Hb sb oC a Cc H' s' fl Ib hoC ⟨m,hn⟩ nHb nC hCs y ek=>⟨m,hn,λh' sb' cenv _=>Fl.passed (y.base' z Ib hoC nHb nC hCs sb') λfl' h2 y2=>hp _ _ _ _ _ Ib.ok y2 ek⟩)
 intro D C H' s' m I' hn hC hCs hf q
 refine ⟨m,hn,λh' hs'=>⟨.ref D,H',I'.letGo hn hf (qaS I2.sz hC) (λz=> ?_) (λp hp z=> ?_) hs',rfl,q⟩⟩
 ·exact qaN _ (qaw (z▸I2.lt) hC)
 ·have:=qaQ (I2.pin p hp).1
  rw [z] at this
  exact qaN _ (qaw this hC)
theorem zhv {wi:TI} {g:TG} {tc:TT} {te:TE} {i:Nat} {y:Str} {py spos:Pos} (B:BOk X scope N src) (hi:PI X tg iter wi)
  {EK:XK} (z:zcO X) (hp:zj3 X EK)
  (hg: ∀ s H fp Ex,PG ((cxB X scope N s H fp).wish Ex) tg g) (ht: ∀ s H fp Ex,PCs ((cxB X scope N s H fp).wish Ex) ifs tc) (he: ∀ s H fp Ex,zbH (CXE X.prog X.w) ((cxB X scope N s H fp).wish Ex) EK->PE ((cxB X scope N s H fp).wish Ex) elt te)
  (hN:X.N.Nodup) (hy:X.N[i]? = some y) (hx:Loc X.env.scope y) (hsw:swapsWith (.ListComp elt [⟨tg,iter,ifs,0⟩] scope pos) (some (.Name y py)) spos.line X.env=pure true)
  (hf:X.fn y=true\/X.env.scope.names.lookup y=some .local:=by first | exact .inl rfl | exact .inr rfl | assumption)
  (hs: ∀ x,foldedSetIterable iter X.env x=pure x:=by intro _;rfl):PS X (.Assign [.Name y py] (.ListComp elt [⟨tg,iter,ifs,0⟩] scope pos) spos) (zsk (zkL wi g tc te src) (zlK i)):=by
 intro pins s σ H D0 I h
 rw [exec_Assign_Name_used _ _ _ _ hsw]
 refine qaW (wpAny_standAt (qaW ?_))
 show wpAny _ X.A (do let _<-comprehension (.ListComp elt [⟨tg,iter,ifs,0⟩] scope pos) scope X.env _ (newList []) false (eval iter X.env) (some (assign (.Name y py) X.env))) _ _ s
 refine qaW (qaZ (wpAny_comprehension_free (use:=some (assign (.Name y py) X.env)) (Q:=λ_ s'=>SP X pins D0 .next s') rfl hs (zbJ λx hx e=>I.ok.has x.1 (B.free x hx e)) B.kind B.locs ?_)
   (λ_ s' hq=>qaX (qaX hq)) λ_ _ e=>e)
 refine thn (hi pins s σ H _ I h) λv s1 h1=>thn h1 λitv s2 h2=> ?_
 obtain ⟨it,fp,tn,J,H2,e,I2,T,st2,f2,hw⟩:=h2
 subst e
 refine zhb (RR:=λacc C=>compPost (model X.prog X.w) X.A X.xe (some (assign (.Name y py) X.env)) (λ_ s'=>SP X pins D0 .next s') acc C) (Q:=λD H'=>D0.nx (σ.set i (some (.ref D))) H') B z hg ht he I2 T st2 f2 hw ?_ (λD C Hb sb oC a Cc H' s' fl Ib hoC ⟨m,hn⟩ nHb nC hCs y ek=>⟨m,hn,λh' sb' cenv _=>Fl.passed (y.base' z Ib hoC nHb nC hCs sb') λfl' h2 y2=>hp _ _ _ _ _ Ib.ok y2 ek⟩)
 intro D C H' s' m I' hn hC hCs hf' q
 show wpAny _ X.A (assign (.Name y py) X.env (.ref D)) _ _ _
 have hCL:C≠X.env.locals:=λz=>qaN _ (qaw (z▸I2.lt) hC)
 have hCp: ∀ p∈X.pn++pins,p.1≠C:=λp hp z=>by
  have:=qaQ (I2.pin p hp).1
  rw [z] at this
  exact qaN _ (qaw this hC)
 have hCc: ∀ x c,X.env.cells.lookup x=some c->c≠C:=λx c e z=>by
  obtain ⟨v,hv⟩:=I2.cell x c e
  exact qaN _ (qaw (z▸hv.lt) hC)
 obtain ⟨oC,es,ep,hoC,hdC,hrest⟩:=hn
 have hCfs:C∉X.fs:=I2.nofs hC
 have Ip:Inv X (pins++[(C,oC)]) σ H' s':=I'.pins_of λp hp=>by
  rcases qaK.mp hp with z | z
  ·exact I'.pin p (qak _ z)
  ·obtain rfl:p=(C,oC):=by simpa using z
   exact ⟨hoC,hf',hCL,hCfs,λv z=>by have z':=hdC.symm.trans z;cases z'⟩
 refine wpAny_assign_Name (zc7 Ip hN hy hx (v:= .ref D) rfl (λs3 I3=> ?_) hf)
 have hC3:=(I3.pin (C,oC) (by simp)).1
 refine ⟨m,⟨oC,es,ep,hC3,hdC,hrest⟩,λh' hs'=> ?_⟩
 exact ⟨_,H',(I3.unpinned).letGo ⟨oC,es,ep,hC3,hdC,hrest⟩ hf' (qaS I2.sz hC) hCL hCp hs',q⟩
end
end L2
namespace L3
open L2
section
variable {P:Program} {w:World} {K:W.Frag} {mg:Str->Option Value} {base:Heap} {N:List Str} {qual:Str} {scope:Scope} {f:Addr} {cd:Value} {A:Around} {outer:List Env} {s:Shared} {H:Hp} {E:XK}
theorem zic:zj3 (zgU (CXE P w) P w K mg base N qual scope f cd A outer s H E) (zjv K (zqf K E)):=by
 intro a C fl H2 s2 ok y ⟨c,C',e1,hc,he⟩
 cases e1
 exact Fl.leaveB zgN ok.frames ok.above y λs3 y3=>⟨a,C,H2,rfl,y3,he _ _ hc⟩
end
section
variable {X:Cx} {E:XE} {scope:Scope} {N:List Str} {src:List (Option Nat)} {tg iter elt:Expr} {ifs:List Expr} {pos:Pos}
theorem zoV {fi:FA} {g:D->Sd->M Sd} {tc:FT} {te:FE} (z:zcO X) (hp:zj3 X (zjv X.K E)) (B:BOk X scope N src) (hk:zaI g src) (hi:SI X E tg iter fi)
  (hg: ∀ s H fp Ex,SG ((cxB X scope N s H fp).wish Ex) E tg g) (ht: ∀ s H fp Ex,SCs ((cxB X scope N s H fp).wish Ex) E ifs tc) (he: ∀ s H fp Ex,zbH (CXE X.prog X.w) ((cxB X scope N s H fp).wish Ex) (zjv X.K E)->SE ((cxB X scope N s H fp).wish Ex) E elt te)
  (hs: ∀ x,foldedSetIterable iter X.env x=pure x:=by intro _;rfl):SE X E (.ListComp elt [⟨tg,iter,ifs,0⟩] scope pos) (zaB fi g tc te src):=
 PE.imp (zmY B hi z hp hg ht he hs) (zfT hk)
theorem ziY {fi:Sd->M (List D)} {g:D->Sd->M Sd} {tc:Sd->M Bool} {te:Sd->M D} (i:Nat) {y:Str} {py spos:Pos} (z:zcO X) (hp:zj3 X (zjv X.K E)) (hN:X.N.Nodup) (B:BOk X scope N src) (hk:zaI g src) (hi:SI X E tg iter fi)
  (hg: ∀ s H fp Ex,SG ((cxB X scope N s H fp).wish Ex) E tg g) (ht: ∀ s H fp Ex,SCs ((cxB X scope N s H fp).wish Ex) E ifs tc) (he: ∀ s H fp Ex,zbH (CXE X.prog X.w) ((cxB X scope N s H fp).wish Ex) (zjv X.K E)->SE ((cxB X scope N s H fp).wish Ex) E elt te)
  (hy:X.N[i]? = some y:=by rfl) (hx:Loc X.env.scope y:=by first | exact Or.inl rfl | exact Or.inr rfl) (hf:X.fn y=true\/X.env.scope.names.lookup y=some .local:=by first | exact Or.inl rfl | exact Or.inr rfl) (hsw:swapsWith (.ListComp elt [⟨tg,iter,ifs,0⟩] scope pos) (some (.Name y py)) spos.line X.env=pure true:=by rfl)
  (hs: ∀ x,foldedSetIterable iter X.env x=pure x:=by intro _;rfl):SS X E (.Assign [.Name y py] (.ListComp elt [⟨tg,iter,ifs,0⟩] scope pos) spos) (zbk i (zaB fi g tc te src)):=by
 refine PS.imp (zhv B hi z hp hg ht he hN hy hx hsw hf hs) λD0 σ H ⟨ι,h,sd,L,hh,q⟩=>zfT hk σ H _ ⟨ι,h,sd,L,hh,Fin.bind q λd h1 ι1 H1 e1 s1 hr1 q1 v rv=> ?_⟩
 exact Fin.out (E:=E) (P:=zf9 X.K D0) hr1 q1 _ ((L.step s1).set rv i)
end
end L3
namespace L2
open L3
open Builtin Builtin.Str
section
variable {X:Cx}
theorem zgf: ∀ {xs:List Str} {its:List Value},za7 (xs.map V.str) its-> ∃ l:List (Str×Tok),strValues l=its/\l.map (·.1)=xs
 | [],_,h=>by cases h;exact ⟨[],rfl,rfl⟩
 | x::r,_,h=>by
  cases h with
  | cons h1 h2=>
   obtain ⟨t,rfl⟩:=h1
   obtain ⟨l,e1,e2⟩:=zgf h2
   exact ⟨(x,t)::l,by rw [<- e1];rfl,by rw [qaM,e2]⟩
theorem zeV: ∀ l:List (Str×Tok),za7 ((l.map (·.1)).map V.str) (strValues l)
 | []=> .nil
 | p::l=> .cons ⟨p.2,rfl⟩ (zeV l)
theorem zmw:MtR X "str.strip" (λx vs H Q=> ∃ a b,x= .str a/\vs=[.str b]/\a.length<=sizeLine/\Q (.str (Txt.stripChars a b)) H):=by
 intro pins s σ H x vs v us Q I rx rv h
 obtain ⟨a,b,rfl,rfl,hz,q⟩:=h
 obtain ⟨t,rfl⟩:=rx
 obtain ⟨u,rfl,t',rfl⟩:=zcX rv
 exact SC.stripChars (λt2 k=>⟨.str _,H,I.tok _,⟨_,rfl⟩,q⟩) hz
theorem zon:MtR X "str.join" (λx vs H Q=> ∃ a l xs,x= .str a/\vs=[.ref l]/\SqL X.K H l (xs.map V.str)/\JoinOk a xs=true/\Q (.str (Txt.join a xs)) H):=by
 intro pins s σ H x vs v us Q I rx rv h
 obtain ⟨a,l,xs,rfl,rfl,hq,hj,q⟩:=h
 obtain ⟨t,rfl⟩:=rx
 obtain ⟨u,rfl,rx⟩:=zcX rv
 cases rx
 obtain ⟨its,r,pl,hz⟩:=I.list hq
 obtain ⟨ps,rfl,e2⟩:=zgf r
 exact SC.join pl.isList e2 hj λt2 k=>⟨.str _,H,I.tok _,⟨_,rfl⟩,q⟩
theorem zmj:MtR X "str.split" (λx vs H Q=> ∃ a b,x= .str a/\vs=[.str b]/\(b.length==0)=false/\a.length<1000000/\(Txt.split a b).length<1000000/\(partsBetween a (occurrences a b 0 a.length (a.length+1)) b.length).length<1000000/\ ∀ p,H p=none->Q (.ref p) (upd H p (.lst ((Txt.split a b).map V.str)))):=by
 intro pins s σ H x vs v us Q I rx rv h
 obtain ⟨a,b,rfl,rfl,hy,ha,hz0,hz,q⟩:=h
 obtain ⟨t,rfl⟩:=rx
 obtain ⟨w,rfl,u,rfl⟩:=zcX rv
 have sl:=sizeLine_eq
 have fin: ∀ (l:List (Str×Tok)) (tk:Nat),l.map (·.1)=Txt.split a b->wants (EP X pins σ Q) X.xe (.ok (.ret (.ref s.heap.objs.size))) {s with heap:=s.heap.push {cls:= .type "list",data:= .seq (strValues l).toArray},toks:=tk}:=λl tk e=>by
  refine ⟨.ref s.heap.objs.size,_,I.lnew (ys:=(Txt.split a b).map V.str) ?_ ?_,rfl,q _ I.fresh⟩
  ·rw [<- e];exact zeV l
  ·rw [qaH];omega
 cases h1:(decide (a.length<b.length) || decide (strKind a<strKind b))
 ·cases hf:(occurrences a b 0 a.length (a.length+1)).isEmpty
  ·refine call_meets F.slot_str_split (typeIs_str _ _ _) F.entry_str_split (F.args_str_split_2 _ _) (meets_str_split_sep a b t u h1 hy hf ⋯ ⋯) ?_
   show wants (EP X pins σ Q) X.xe _ {s with toks:=_,heap:=s.heap.push {cls:= .type "list",data:= .seq (strsFrom s.toks (partsBetween a (occurrences a b 0 a.length (a.length+1)) b.length)).toArray}}
   rw [strsFrom_eq]
   exact fin (numbered s.toks _) _ ((numbered_texts _ _).trans ((qa5 (ne_true_of_eq_false h1)).trans (qa5 (ne_true_of_eq_false hf))).symm)
  ·exact call_meets F.slot_str_split (typeIs_str _ _ _) F.entry_str_split (F.args_str_split_2 _ _) (meets_str_split_not_found a b t u h1 hy hf)
    (fin [(a,t)] s.toks ((qa5 (ne_true_of_eq_false h1)).trans (qa4 hf)).symm)
 ·exact call_meets F.slot_str_split (typeIs_str _ _ _) F.entry_str_split (F.args_str_split_2 _ _) (meets_str_split_cannot_occur a b t u h1)
   (fin [(a,t)] s.toks (qa4 h1).symm)
def ze6 (a b:Str):List Str:=match occurrences a b 0 a.length 1 with
 | i::_=>[strSub a 0 i,b,strSub a (i+b.length) a.length]
 | []=>[a,Str.empty,Str.empty]
theorem zgJ:MtR X "str.partition" (λx vs H Q=> ∃ a b,x= .str a/\vs=[.str b]/\(b.length==0)=false/\a.length<=sizeLine/\ ∀ p,H p=none->Q (.ref p) (upd H p (.tup ((ze6 a b).map V.str)))):=by
 intro pins s σ H x vs v us Q I rx rv h
 obtain ⟨a,b,rfl,rfl,hy,ha,q⟩:=h
 obtain ⟨t,rfl⟩:=rx
 obtain ⟨w,rfl,u,rfl⟩:=zcX rv
 refine call_meets F.slot_str_partition (typeIs_str _ _ _) F.entry_str_partition (F.args_str_partition_2 _ _) (meets_str_partition a b t u hy ha) ?_
 have fin: ∀ (l:List (Str×Tok)) (tk:Nat),l.map (·.1)=ze6 a b->l.length=3->wants (EP X pins σ Q) X.xe (.ok (.ret (.ref s.heap.objs.size))) {s with heap:=s.heap.push {cls:= .type "tuple",data:= .seq (strValues l).toArray},toks:=tk}:=λl tk e e3=>by
  refine ⟨.ref s.heap.objs.size,_,I.laid (t':=tk) (o:= .tup ((ze6 a b).map V.str)) (λ_ _ q=>qag _ q) (qaV _) ⟨?_,strValues l,?_,_,qar _ rfl,rfl,0,rfl,rfl⟩,rfl,q _ I.fresh⟩
  ·rw [qaH, <-e,qaH,e3];decide
  ·rw [<- e];exact zeV l
 unfold ze6 at fin
 cases ho:occurrences a b 0 a.length 1 with
 | nil=>
  rw [ho] at fin
  exact fin [(a,t),(Str.empty,s.toks),(Str.empty,s.toks)] (s.toks+1) rfl rfl
 | cons i r=>
  rw [ho] at fin
  exact fin [(strSub a 0 i,s.toks),(b,u),(strSub a (i+b.length) a.length,s.toks+1)] (s.toks+1+1) rfl rfl
theorem zk9:zaO X (.type "int") (λxs H Q=> ∃ x n,xs=[.str x]/\intText? x=some n/\x.length<=640/\Q (.int n) H):=by
 intro pins s σ H xs us Q I r h
 obtain ⟨x,n,rfl,hn,hl,q⟩:=h
 obtain ⟨u,rfl,t,rfl⟩:=zcX r
 exact W.KIN.call_text hn hl ⟨.int n,H,I.tok _,⟨_,rfl⟩,q⟩
end
end L2
namespace L3
section
variable {prog:Program} {w:World} {A:Around} {E:Value->Shared->Prop} {s:Shared}
theorem zn8 {it:Addr} {x:Str} {t:Tok} {i:Nat} {Q:Option Value->Shared->Prop} (hh:zn0 A s.heap) (hit:s.heap.IsStrIter it "str_ascii_iterator" x t i) (hx:x.cps[i]? = none)
  (k: ∀ h',Heap.ExtBut it s.heap h'->Q none {s with heap:=h'}):wpAny (model prog w) A (pyNext (.ref it)) Q E s:=by
 rcases hh with hh | ⟨ha,cls,head,hh,hX⟩
 ·exact wpAny_pyNext_ascii_end hh hit hx k
 obtain ⟨o,h1,h2,h3⟩:=id hit
 unfold pyNext
 refine qaW (wpAny_attempt (wpAny_callSpecial?_slot (name:=Str.ofString "__next__") hit.typeIs F.slot_str_ascii_iterator_next (wpAny_call_entry F.slot_str_ascii_iterator_next hit.typeIs F.entry_str_ascii_iterator_next ?_ (F.args_str_ascii_iterator_next_1 _))))
 show wpAny _ _ (field (.ref it) 0>>=_) _ _ s
 refine qaW (wpAny_field h1 h3 (x:= .str x t) rfl ?_)
 show wpAny _ _ (field (.ref it) 1>>=_) _ _ s
 refine qaW (wpAny_field h1 h3 (x:= .int i 0) rfl ?_)
 simp only [qaB,hx]
 refine qaW (wpAny_rule (qaW (wpAny_setField h1 h3 (by simp) (qaW (wpAny_letGo ?_)))))
 have nit:ha≠it:=λz=>by
  subst z
  obtain ⟨ob,vs,x1,_,_,x4,x5,x6⟩:=hX
  rw [h1] at x1
  cases x1
  rw [h3] at x4
  cases x4
  simp at x5
 have hX1:zhg (s.heap.update it (Obj.mapFields (·.setIfInBounds 0 Value.none))) ha cls head:=by
  obtain ⟨ob,vs,x1,x2⟩:=hX
  exact ⟨ob,vs,(qah _ _ (Ne.symm nit)).trans x1,x2⟩
 show wpAny _ _ (newExc (.type "StopIteration") []>>=_) _ _ _
 refine qaW ?_
 simp only [newExc,newTuple]
 refine qaW (qaC ?_ (by size_fits))
 refine qaW (m:=firstArgMember _ _) (wpAny_of_eq (a:=Value.none) (by first | rfl | (simp only [firstArgMember];rfl)) ?_)
 refine qaC ?_ (by size_fits)
 obtain ⟨ob,vs,x1,x2⟩:=hX1
 have y1:=qag {cls:= .type "tuple",dict:=none,data:= .seq [].toArray} x1
 refine zc6 (h:=ha) (cls:=cls) (head:=head) hh ⟨ob,vs,qag _ y1,x2⟩ (qar _ rfl) rfl (by simp;omega) (qaR (qaQ y1)) ?_
 refine qaW (wpAny_isInstance (T:="StopIteration") (b:=true) ⟨_,qal _ (qar _ rfl) rfl,rfl⟩ isSubtype_stop ?_)
 refine qaX (k _ λb o hb z=> ?_)
 have z1:(s.heap.update it (Obj.mapFields (·.setIfInBounds 0 Value.none))).get? b=some o:=(qah _ _ (Ne.symm hb)).trans z
 have z2:=qag {cls:= .type "tuple",dict:=none,data:= .seq [].toArray} z1
 rw [qah _ _ (ne_of_gt (qaQ z2))]
 exact qag _ z2
end
end L3
namespace L2
open L3
open Builtin Builtin.Str
def Its (x:Str):It:=⟨λi _=>i<x.cps.size,λi H v H'=>H'=H/\ ∃ c,x.cps[i]? = some c/\v= .str ⟨#[c]⟩,λi _=>x.cps.size<=i⟩
theorem zmS {P:Program} {w:World} {K:W.Frag} {tg:Expr} (it:Addr) (x:Str) (t:Tok):zoa P w K tg (Its x) [it] it (λi h=>h.IsStrIter it "str_ascii_iterator" x t i) where
 mem:=by simp
 obj:=λi h st b hb=>by
  have e:b=it:=by simpa using hb
  subst e
  obtain ⟨o,e,c,d⟩:=st
  exact ⟨o,e,λv z=>by rw [d] at z;cases z⟩
 keep:=λi h h' st k=>let ⟨o,e,r⟩:=st;⟨o,k it (by simp) o e,r⟩
 item:=by
  intro X hP hw hK i pins s σ H E I hf st hg
  subst hP hw hK
  obtain ⟨f0,f1,f2,f3,f4,f5⟩:=hf it (by simp)
  have hi:i<x.cps.size:=hg
  refine wpAny_pyNext_ascii_item st (c:=x.cps[i]) (by simp [hi]) λh' st' kk=> ?_
  have I1:Inv X pins σ H {s with heap:=h',toks:=s.toks+1}:=I.turned (λb o hb e=>(kk.2 b hb).trans e) f0 f1 f3 f4 f5
  obtain ⟨o,e,c,d⟩:=id st'
  exact ⟨_,rfl,zmy (s:={s with heap:=h',toks:=s.toks+1}) (n:="str_ascii_iterator") e c d (by decide) ⟨.str ⟨#[x.cps[i]]⟩,H,I1,⟨s.toks,rfl⟩,⟨rfl,_,by simp [hi],rfl⟩,st',λb hb=>(hf b hb).1⟩⟩
 done:=by
  intro X hP hw hK i pins s σ H E I hf st hg
  subst hP hw hK
  obtain ⟨f0,f1,f2,f3,f4,f5⟩:=hf it (by simp)
  have hi:x.cps.size<=i:=hg
  exact L3.zn8 I.hand st (by simp [hi]) λh' eb=>⟨rfl,I.turned (t':=s.toks) (λb o hb e=>eb b o hb e) f0 f1 f3 f4 f5⟩
 self:=λ_ _ _ _ _ st h=>wpAny_pyIter_striter_ascii st h
section
variable {X:Cx} {tg e:Expr} {te:TE} {pos p2:Pos}
theorem zqF (he:PE X e te):PI X tg e (λσ H R=>te σ H λv H1=> ∃ x,v= .str x/\x.cps.all (· < 128)=true/\R (Its x) H1):=by
 intro pins s σ H R I h
 refine thn (he pins s σ H _ I h) λv s1 ⟨y,H1,I1,r1,q1⟩=> ?_
 obtain ⟨x,rfl,ha,q⟩:=q1
 obtain ⟨t,rfl⟩:=r1
 refine wpAny_pyIter_ascii ha ?_
 refine ⟨s1.heap.objs.size,[s1.heap.objs.size],_,_,H1,rfl,I1.kept (t':=s1.toks) λb o e=>qag _ e,zmS _ x t,⟨_,qar _ rfl,rfl,rfl⟩,λb hb=> ?_,q⟩
 have e:b=s1.heap.objs.size:=by simpa using hb
 subst e
 exact I1.fpOk (qaV _) (I1.hok.fresh (qaV _))
def slS (x:Str) (lo hi:Option Int) (st:Int):Str:=if (st==1 && (strSliceIndices lo hi st x.length).length==x.length)=true then x else ⟨((strSliceIndices lo hi st x.length).filterMap (x.cps[·]?)).toArray⟩
theorem zq6:SlR X (λx lo hi H Q=> ∃ z,x= .str z/\z.length<=sizeLine/\Q (.str (slS z lo hi 1)) H):=by
 intro pins s σ H x v vl vu lo hi sl Q I rx hs pl pu h
 obtain ⟨z,rfl,hz,q⟩:=h
 obtain ⟨t,rfl⟩:=rx
 refine ⟨"str",_,slot_str_getitem.lookup,typeIs_str s z t,?_⟩
 have hp: ∀ {v:Value} {o:Option Int},IsPart v o-> ∃ l:Option (Int×Tok),v=partValue l/\l.map (·.1)=o:=λh=>by
  cases h with
  | none=>exact ⟨none,rfl,rfl⟩
  | int i t=>exact ⟨some (i,t),rfl,rfl⟩
 obtain ⟨l,rfl,e1⟩:=hp pl
 obtain ⟨u,rfl,e2⟩:=hp pu
 refine wpAny_getItem_str_slice (l:=l) (u:=u) (st:=none) hs rfl ?_
 unfold sliceMade slicePicked
 rw [e1,e2]
 have fl:((strSliceIndices lo hi 1 z.length).filterMap (z.cps[·]?)).toArray.size<=sizeLine:=by
  refine qaS ?_ hz
  rw [qaA]
  exact qaS (List.length_filterMap_le _ _) (sliceIndices_le _ _ _)
 unfold slS at q
 show ((if ((1:Int)==1 && (strSliceIndices lo hi 1 z.length).length==z.length)=true then Made.val (.str z t) else Made.str ⟨((strSliceIndices lo hi 1 z.length).filterMap (z.cps[·]?)).toArray⟩)).post _ s
 split
 ·rename_i c
  rw [qa4 c] at q
  exact ⟨.str z,H,I,⟨t,rfl⟩,q⟩
 ·rename_i c
  rw [qa5 c] at q
  exact ⟨fl,.str _,H,I.tok _,⟨_,rfl⟩,q⟩
theorem zo4 {st:Expr} (he:PE X e te) (hst:PE X st (tC (.int (-1)))):PE X (.Subscript e (.Slice none none (some st) p2) pos) (λσ H Q=>te σ H λx H1=> ∃ z,x= .str z/\z.length<1000/\(strSliceIndices none none (-1) z.length).length<100000/\Q (.str (slS z none none (-1))) H1):=by
 intro pins s σ H Q I h
 refine Subscript_ (thn (he pins s σ H _ I h) λv s1 ⟨x,H1,I1,r1,q1⟩=> ?_)
 obtain ⟨z,rfl,hz,hf,q⟩:=q1
 obtain ⟨t',rfl⟩:=r1
 refine wpAny_Slice ?_
 rw [evalPart_none]
 refine qaX (qaX ?_)
 rw [evalPart_some]
 refine thn (hst pins s1 σ H1 (λz Hz=>z= .int (-1)/\Hz=H1) I1 ⟨rfl,rfl⟩) λu s2 ⟨y,Hz,I2,rz,ez,eH⟩=> ?_
 subst ez eH
 obtain ⟨t,rfl⟩:=rz
 have I4:Inv X pins σ Hz {s2 with heap:=s2.heap.push {cls:= .type "slice",data:= .fields #[.none,.none,.int (-1) t]}}:=I2.kept (t':=s2.toks) λb ob q=>qag _ q
 show wpAny (model X.prog X.w) X.A (subscriptTail e (.Slice none none (some st) p2) (.str z t') (.ref s2.heap.objs.size)) (EP X pins σ Q) X.xe {s2 with heap:=s2.heap.push {cls:= .type "slice",data:= .fields #[.none,.none,.int (-1) t]}}
 refine tail_any (ops:=[.str z t',.ref s2.heap.objs.size]) (typeIs_str _ z t') slot_str_getitem.lookup (wpAny_getItem_str_slice (l:=none) (u:=none) (st:=some (-1,t)) ⟨_,qar _ rfl,rfl,rfl⟩ rfl ?_) (by with_unfolding_all rfl)
 unfold sliceMade slicePicked
 unfold slS at q
 have sl:=sizeLine_eq
 show ((if ((-1:Int)==1 && (strSliceIndices none none (-1) z.length).length==z.length)=true then Made.val (.str z t') else Made.str ⟨((strSliceIndices none none (-1) z.length).filterMap (z.cps[·]?)).toArray⟩)).post _ _
 rw [qa5 (by simp)] at q ⊢
 refine ⟨?_,.str _,_,I4.tok _,⟨_,rfl⟩,q⟩
 show ((strSliceIndices none none (-1) z.length).filterMap (z.cps[·]?)).toArray.size<=sizeLine
 rw [qaA]
 have:=List.length_filterMap_le (λi=>z.cps[i]?) (strSliceIndices none none (-1) z.length)
 omega
end
end L2
namespace L2
section
variable {X:Cx} {a b:Expr} {rest:List Expr} {ta tb:TE} {pos:Pos}
theorem zr6 (ha:PE X a ta) (hb:PE X (.BoolOp .Or (b::rest) pos) tb):PE X (.BoolOp .Or (a::b::rest) pos) (λσ H Q=>ta σ H λv H1=> ∃ y,v= .str y/\y.length<1000000/\(if (y.length:Int) != 0 then Q (.str y) H1 else tb σ H1 Q)):=by
 intro pins s σ H Q I h
 refine BoolOp_or (thn (ha pins s σ H _ I h) λv s1 ⟨x,H1,I1,r1,q1⟩=> ?_)
 obtain ⟨y,rfl,hy,q1⟩:=q1
 obtain ⟨t,rfl⟩:=r1
 refine PySem.P.truthy_str ⋯ ?_
 cases c:((y.length:Int) != 0) with
 | false=>
  rw [c] at q1
  exact hb pins _ σ H1 Q (I1.tok _) q1
 | true=>
  rw [c] at q1
  exact ⟨.str y,H1,I1.tok _,⟨t,rfl⟩,q1⟩
end
end L2
namespace L3
open L2
open Builtin Builtin.Str
section
variable {X:Cx} {E:XE} {a b o e:Expr} {pos p p1 p2 apos cpos:Pos} {fa fb fo fe f:FE} {x:Str}
def zng:D->D->M D
 | .str z,.int i=>do fits z.length;let c<-ofO (atI z.cps.toList i);pure (.str ⟨#[c]⟩)
 | _,_=>M.bad
theorem zul:IxR X (zdt X.K E zng):=by
 refine IxR.imp zrA λx y H Q ⟨ι,h,d1,d2,r1,r2,hr,q⟩=> ?_
 unfold zng at q
 split at q
 ·simp only [Rel] at r1 r2
  obtain ⟨hz,q1⟩:=Fin.fits q
  obtain ⟨c,ec,q2⟩:=Fin.ofOb q1
  exact ⟨_,_,c,r1,r2,hz,ec,Fin.out hr q2 _ (by simp [Rel])⟩
 ·exact qa0 q
theorem zlR (ha:SE X E a fa) (hb:SE X E b fb) (hs:ze0 b:=by intro _ _;rfl):SE X E (.Subscript a b pos) (cOp zng fa fb):=zqn zul ha hb hs
def zi3:List D->M D:=zlI λd=>match d with
 | .str z=>do fits z.length;pure (.int z.length)
 | _=>M.bad
theorem zdw:zaO X (.builtin "len") (zhf X.K E zi3):=by
 refine zaO.imp zgd λxs H Q ⟨ι,h,ds,rl,hr,q⟩=> ?_
 obtain ⟨d,v,e,r,q⟩:=zb0 rl q
 cases d with
 | str z=>
  simp only [Rel] at r
  obtain ⟨hz,q1⟩:=Fin.fits q
  exact ⟨z,by rw [e,r],hz,Fin.out hr q1 _ (by simp [Rel])⟩
 | _=>exact qa0 q
def zsf:D->D->M D
 | .str i,.str j=>pure (.bl (!(occurrences j i 0 j.length 1).isEmpty))
 | _,_=>M.bad
theorem zq5:OpR X (compareOp .In) (zdt X.K E zsf):=by
 refine OpR.imp zk0 λx y H Q ⟨ι,h,d1,d2,r1,r2,hr,q⟩=> ?_
 unfold zsf at q
 split at q
 ·simp only [Rel] at r1 r2
  exact ⟨_,_,r1,r2,Fin.out hr q _ (by simp [Rel])⟩
 ·exact qa0 q
def zpO (d:D) (lo hi:Option Int):M D:=match d with
 | .str z=>do fits z.length;pure (.str (slS z lo hi 1))
 | _=>M.bad
def zkV (f:Sd->M D) (lo hi:Sd->M (Option Int)):Sd->M D:=λsd=>do let d<-f sd;let l<-lo sd;let u<-hi sd;zpO d l u
theorem zf0 {lo hi:Option Expr} {fl fh:Sd->M (Option Int)} (he:SE X E e f) (hl:SO X E lo fl) (hu:SO X E hi fh):SE X E (.Subscript e (.Slice lo hi none p2) pos) (zkV f fl fh):=by
 refine PE.imp (zix zq6 he hl hu) λσ H Q ⟨ι,h,sd,L,hh,q⟩=>⟨ι,h,sd,L,hh,Fin.bind q λd h1 ι1 H1 e1 s1 hr1 q1 v rv=> ?_⟩
 refine ⟨ι1,h1,sd,L.step s1,hr1,Fin.bind q1 λl h2 ι2 H2 e2 s2 hr2 q2=> ?_⟩
 refine ⟨ι2,h2,sd,(L.step s1).step s2,hr2,Fin.bind q2 λu h3 ι3 H3 e3 s3 hr3 q3=> ?_⟩
 cases d with
 | str z=>
  simp only [Rel] at rv
  obtain ⟨hz,q4⟩:=Fin.fits q3
  exact ⟨z,rv,hz,Fin.out hr3 q4 _ (by simp [Rel])⟩
 | _=>exact qa0 q3
def zpt:D->M D
 | .str z=>if z.length<1000/\(strSliceIndices none none (-1) z.length).length<100000 then pure (.str (slS z none none (-1))) else M.bad
 | _=>M.bad
theorem zp8 {j:Nat} {p3 p4:Pos} (he:SE X E e f):SE X E (.Subscript e (.Slice none none (some (.UnaryOp .USub (.Constant (.int 1) j p3) p4)) p2) pos) (cUn zpt f):=by
 refine PE.imp (zo4 he (PE.imp (zrZ znJ znt) λσ H Q q=>⟨1,rfl,q⟩)) λσ H Q ⟨ι,h,sd,L,hh,q⟩=>⟨ι,h,sd,L,hh,Fin.bind q λd h1 ι1 H1 e1 s1 hr1 q1 v rv=> ?_⟩
 cases d with
 | str z=>
  simp only [Rel] at rv
  obtain ⟨hz,q2⟩:=Fin.guard q1
  exact ⟨z,rv,hz.1,hz.2,Fin.out hr1 q2 _ (by simp [Rel])⟩
 | _=>exact qa0 q1
def zeQ:List D->Option (List Str)
 | []=>some []
 | .str z::r=>(zeQ r).map λzs=>z::zs
 | _::_=>none
theorem zgG {K:W.Frag} {ι:Io} {H:Hp}: ∀ {ds:List D} {vs:List V} {zs:List Str},zaw K ι H ds vs->zeQ ds=some zs->vs=zs.map V.str
 | [],vs,zs,h,e=>by
  simp only [zaw] at h
  subst h
  cases e
  rfl
 | d::r,vs,zs,h,e=>by
  simp only [zaw] at h
  obtain ⟨v,r',rfl,h1,h2⟩:=h
  cases d with
  | str z=>
   unfold zeQ at e
   cases z2:zeQ r with
   | none=>rw [z2] at e;cases e
   | some ys=>
    rw [z2] at e
    cases e
    simp only [Rel] at h1
    rw [h1,zgG h2 z2]
    rfl
  | _=>cases e
theorem ze2 {K:W.Frag} {ι:Io} {H:Hp}: ∀ zs:List Str,zaw K ι H (zs.map D.str) (zs.map V.str)
 | []=>zaw.nil
 | z::r=>by
  simp only [qaM,zaw]
  exact ⟨_,_,rfl,by simp [Rel],ze2 r⟩
def zdY (x y:D):M D:=match x with
 | .str a=>do
  let ds<-zl6 y
  let zs<-ofO (match y with | .tup _=>none | _=>zeQ ds)
  if JoinOk a zs=true then pure (.str (Txt.join a zs)) else M.bad
 | _=>M.bad
def zob:D->M Unit
 | .str _=>pure ()
 | _=>M.bad
def cMt (F:D->D->M D) (fo fe:FE):FE:=λsd=>do let x<-fo sd;zob x;let y<-fe sd;F x y
theorem zeN (ho:SE X E o fo) (he:SE X E e fe)
  (hbase:attributeBase o "join" X.env (eval o X.env)=eval o X.env:=by rfl)
  (hfew:((backTo cpos (starEach [e] X.env)).all (λx=> !x.1) && (backToKw cpos (keywordEach [] X.env)).all (λx=>x.1.isSome)
    && decide (([e]:List Expr).length+([]:List Keyword).length+(if ([]:List Keyword).isEmpty then 0 else 1)<30))=true:=by rfl)
  (hline:(apos.endLine==cpos.line)=true:=by rfl) (hs:starEach [e] X.env=(false,eval e X.env)::starEach [] X.env:=by rfl) (hplain:(backTo cpos (starEach [] X.env)).any (·.1)=false:=by rfl):
  SE X E (.Call (.Attribute o "join" apos) [e] [] cpos) (cMt zdY fo fe):=by
 refine PE.imp (ziV PySem.F.plainAttrs_str PySem.F.slot_str_join PySem.F.type_str_join zon ho (zbc he zcn hs) hbase hfew hline hs hplain) λσ H Q ⟨ι,h,sd,L,hh,q⟩=>⟨ι,h,sd,L,hh,Fin.bind q λd h1 ι1 H1 e1 s1 hr1 q1 v rv=> ?_⟩
 cases d with
 | str a=>
  simp only [Rel] at rv
  subst rv
  refine ⟨rfl,ι1,h1,sd,L.step s1,hr1,Fin.bind q1 λy h3 ι3 H3 e3 s3 hr3 q4 w rw'=> ?_⟩
  obtain ⟨l,vs,ds',e',hs',rl',q5⟩:=zc8 hr3 rw' q4
  obtain ⟨zs,ez,q6⟩:=Fin.ofOb q5
  obtain ⟨hj,q7⟩:=Fin.guard q6
  rcases hs' with ⟨hs',hd⟩ | ⟨hs',hd⟩
  ·have ez':zeQ ds'=some zs:=by
    cases y with
    | tup ts=>exact absurd rfl (hd ts)
    | _=>exact ez
   have:=zgG rl' ez'
   subst this
   exact ⟨a,l,zs,rfl,by rw [e'],hs',hj,Fin.out hr3 q7 _ (by simp [Rel])⟩
  ·subst hd
   cases ez
 | _=>exact qa0 q1
def zjM:D->D->M D
 | .str a,.str b=>do fits a.length;pure (.str (Txt.stripChars a b))
 | _,_=>M.bad
theorem zpH (ho:SE X E o fo) (he:SE X E e fe)
  (hbase:attributeBase o "strip" X.env (eval o X.env)=eval o X.env:=by rfl)
  (hfew:((backTo cpos (starEach [e] X.env)).all (λx=> !x.1) && (backToKw cpos (keywordEach [] X.env)).all (λx=>x.1.isSome)
    && decide (([e]:List Expr).length+([]:List Keyword).length+(if ([]:List Keyword).isEmpty then 0 else 1)<30))=true:=by rfl)
  (hline:(apos.endLine==cpos.line)=true:=by rfl) (hs:starEach [e] X.env=(false,eval e X.env)::starEach [] X.env:=by rfl) (hplain:(backTo cpos (starEach [] X.env)).any (·.1)=false:=by rfl):
  SE X E (.Call (.Attribute o "strip" apos) [e] [] cpos) (cMt zjM fo fe):=by
 refine PE.imp (ziV PySem.F.plainAttrs_str PySem.F.slot_str_strip PySem.F.type_str_strip zmw ho (zbc he zcn hs) hbase hfew hline hs hplain) λσ H Q ⟨ι,h,sd,L,hh,q⟩=>⟨ι,h,sd,L,hh,Fin.bind q λd h1 ι1 H1 e1 s1 hr1 q1 v rv=> ?_⟩
 cases d with
 | str a=>
  simp only [Rel] at rv
  subst rv
  refine ⟨rfl,ι1,h1,sd,L.step s1,hr1,Fin.bind q1 λy h3 ι3 H3 e3 s3 hr3 q4 w rw'=> ?_⟩
  cases y with
  | str b=>
   simp only [Rel] at rw'
   subst rw'
   obtain ⟨hz,q5⟩:=Fin.fits q4
   exact ⟨a,b,rfl,rfl,hz,Fin.out hr3 q5 _ (by simp [Rel])⟩
  | _=>exact qa0 q4
 | _=>exact qa0 q1
def zdd:D->D->M D
 | .str a,.str b=>if (b.length==0)=false/\a.length<1000000/\(Txt.split a b).length<1000000/\(partsBetween a (occurrences a b 0 a.length (a.length+1)) b.length).length<1000000 then pure (.lst ((Txt.split a b).map D.str)) else M.bad
 | _,_=>M.bad
theorem zdT (ho:SE X E o fo) (he:SE X E e fe)
  (hbase:attributeBase o "split" X.env (eval o X.env)=eval o X.env:=by rfl)
  (hfew:((backTo cpos (starEach [e] X.env)).all (λx=> !x.1) && (backToKw cpos (keywordEach [] X.env)).all (λx=>x.1.isSome)
    && decide (([e]:List Expr).length+([]:List Keyword).length+(if ([]:List Keyword).isEmpty then 0 else 1)<30))=true:=by rfl)
  (hline:(apos.endLine==cpos.line)=true:=by rfl) (hs:starEach [e] X.env=(false,eval e X.env)::starEach [] X.env:=by rfl) (hplain:(backTo cpos (starEach [] X.env)).any (·.1)=false:=by rfl):
  SE X E (.Call (.Attribute o "split" apos) [e] [] cpos) (cMt zdd fo fe):=by
 refine PE.imp (ziV PySem.F.plainAttrs_str PySem.F.slot_str_split PySem.F.type_str_split zmj ho (zbc he zcn hs) hbase hfew hline hs hplain) λσ H Q ⟨ι,h,sd,L,hh,q⟩=>⟨ι,h,sd,L,hh,Fin.bind q λd h1 ι1 H1 e1 s1 hr1 q1 v rv=> ?_⟩
 cases d with
 | str a=>
  simp only [Rel] at rv
  subst rv
  refine ⟨rfl,ι1,h1,sd,L.step s1,hr1,Fin.bind q1 λy h3 ι3 H3 e3 s3 hr3 q4 w rw'=> ?_⟩
  cases y with
  | str b=>
   simp only [Rel] at rw'
   subst rw'
   obtain ⟨⟨g1,g2,g3,g4⟩,q5⟩:=Fin.guard q4
   exact ⟨a,b,rfl,rfl,g1,g2,g3,g4,λp hp=>zpR hr3 (ze2 _) q5 hp⟩
  | _=>exact qa0 q4
 | _=>exact qa0 q1
def zle:D->D->M D
 | .str a,.str b=>if (b.length==0)=false/\a.length<1000000 then pure (.tup ((ze6 a b).map D.str)) else M.bad
 | _,_=>M.bad
theorem zhh (ho:SE X E o fo) (he:SE X E e fe)
  (hbase:attributeBase o "partition" X.env (eval o X.env)=eval o X.env:=by rfl)
  (hfew:((backTo cpos (starEach [e] X.env)).all (λx=> !x.1) && (backToKw cpos (keywordEach [] X.env)).all (λx=>x.1.isSome)
    && decide (([e]:List Expr).length+([]:List Keyword).length+(if ([]:List Keyword).isEmpty then 0 else 1)<30))=true:=by rfl)
  (hline:(apos.endLine==cpos.line)=true:=by rfl) (hs:starEach [e] X.env=(false,eval e X.env)::starEach [] X.env:=by rfl) (hplain:(backTo cpos (starEach [] X.env)).any (·.1)=false:=by rfl):
  SE X E (.Call (.Attribute o "partition" apos) [e] [] cpos) (cMt zle fo fe):=by
 refine PE.imp (ziV PySem.F.plainAttrs_str PySem.F.slot_str_partition PySem.F.type_str_partition zgJ ho (zbc he zcn hs) hbase hfew hline hs hplain) λσ H Q ⟨ι,h,sd,L,hh,q⟩=>⟨ι,h,sd,L,hh,Fin.bind q λd h1 ι1 H1 e1 s1 hr1 q1 v rv=> ?_⟩
 cases d with
 | str a=>
  simp only [Rel] at rv
  subst rv
  refine ⟨rfl,ι1,h1,sd,L.step s1,hr1,Fin.bind q1 λy h3 ι3 H3 e3 s3 hr3 q4 w rw'=> ?_⟩
  cases y with
  | str b=>
   simp only [Rel] at rw'
   subst rw'
   obtain ⟨⟨g1,g2⟩,q5⟩:=Fin.guard q4
   have sl:=sizeLine_eq
   exact ⟨a,b,rfl,rfl,g1,⋯,λp hp=>zpP hr3 (ze2 _) q5 hp⟩
  | _=>exact qa0 q4
 | _=>exact qa0 q1
def zna:List D->M D:=zlI λd=>match d with
 | .str z=>if z.length<=640 then do let n<-ofO (intText? z);pure (.int n) else M.bad
 | _=>M.bad
theorem zfi:zaO X (.type "int") (zhf X.K E zna):=by
 refine zaO.imp zk9 λxs H Q ⟨ι,h,ds,rl,hr,q⟩=> ?_
 obtain ⟨d,v,e,r,q⟩:=zb0 rl q
 cases d with
 | str z=>
  simp only [Rel] at r
  obtain ⟨hz,q1⟩:=Fin.guard q
  obtain ⟨n,en,q2⟩:=Fin.ofOb q1
  exact ⟨z,n,by rw [e,r],en,hz,Fin.out hr q2 _ (by simp [Rel])⟩
 | _=>exact qa0 q
theorem zov {i:Str} (hm: ∃ t,X.mg x=some (.str i t)) (hg:Gl X x:=by rfl) (hd:(x==("__debug__":Str))=false:=by decide):SE X E (.Name x pos) (cK (.str i)):=by
 obtain ⟨t,hm⟩:=hm
 exact PE.imp (zfD (v:= .str i) hg hm ⟨t,rfl⟩ hd) (zc9 λ_ _=>by simp [Rel])
def zsi (fa fb:FE):FE:=λsd=>do
 let d<-fa sd
 match d with
 | .str y=>if y.length<1000000 then (if (y.length:Int) != 0 then pure (.str y) else fb sd) else M.bad
 | _=>M.bad
theorem zsI {rest:List Expr} (ha:SE X E a fa) (hb:SE X E (.BoolOp .Or (b::rest) pos) fb):SE X E (.BoolOp .Or (a::b::rest) pos) (zsi fa fb):=by
 refine PE.imp (zr6 ha hb) λσ H Q ⟨ι,h,sd,L,hh,q⟩=>⟨ι,h,sd,L,hh,Fin.bind q λd h1 ι1 H1 e1 s1 hr1 q1 v rv=> ?_⟩
 cases d with
 | str y=>
  simp only [Rel] at rv
  obtain ⟨hz,q2⟩:=Fin.guard q1
  refine ⟨y,rv,hz,?_⟩
  cases c:((y.length:Int) != 0) with
  | true=>
   rw [c] at q2
   exact Fin.out hr1 q2 _ (by simp [Rel])
  | false=>
   rw [c] at q2
   exact ⟨ι1,h1,sd,L.step s1,hr1,q2⟩
 | _=>exact qa0 q1
def zhn:D->M (List D)
 | .str z=>if z.cps.all (· < 128)=true then pure (z.cps.toList.map λc=> .str ⟨#[c]⟩) else M.bad
 | _=>M.bad
def zq2 (f:FE):FA:=λsd=>do let d<-f sd;zhn d
theorem zmL {K:W.Frag} {ι:Io} {H:Hp} {z:Str}:zpQ K ι H (Its z) (z.cps.toList.map λc=> .str ⟨#[c]⟩) where
 go:=λι' H' i s hi=>by
  show i<z.cps.size
  simpa using hi
 yld:=λι' H' _ i x H2 s _ hi ⟨e,c,ec,ex⟩=>by
  subst e
  refine ⟨.inl rfl,.str ⟨#[c]⟩,?_,by simp [Rel,ex]⟩
  rw [List.getElem?_map,Array.getElem?_toList,ec]
  rfl
 stop:=λι' H' s=>by
  show z.cps.size<=_
  simp
theorem zmr {tg:Expr} (he:SE X E e f):SI X E tg e (zq2 f):=by
 intro pins s σ H R I ⟨ι,h,sd,L,hh,q⟩
 refine zqF he pins s σ H R I ⟨ι,h,sd,L,hh,Fin.bind q λd h1 ι1 H1 e1 s1 hr1 q1 v rv=> ?_⟩
 cases d with
 | str z=>
  simp only [Rel] at rv
  obtain ⟨hz,q2⟩:=Fin.guard q1
  exact ⟨z,rv,hz,Fin.out hr1 q2 _ zmL⟩
 | _=>exact qa0 q1
end
end L3
section
end
namespace L3
open L2
open Builtin Builtin.Str
abbrev tl (x:Str):List Nat:=x.cps.toList
theorem zed {x y:Str} (h:tl x=tl y):x=y:=Str.ext' (Array.toList_inj.mp h)
theorem za4 (x:Str):x.length=(tl x).length:=by show x.cps.size=_;simp
def spl (c:Nat):List Nat->List (List Nat)
 | []=>[[]]
 | a::r=>if a=c then []::spl c r else match spl c r with
  | []=>[[a]]
  | s::t=>(a::s)::t
theorem zfm (c:Nat): ∀ l,spl c l≠[]
 | []=>by simp [spl]
 | a::r=>by
  unfold spl
  split
  ·simp
  ·split<;>simp
theorem ze4 {c:Nat}: ∀ {l:List Nat},c∉l->spl c l=[l]
 | [],_=>rfl
 | a::r,h=>by
  have ⟨h1,h2⟩:a≠c/\c∉r:=⟨λe=>h (by simp [e]),λe=>h (by simp [e])⟩
  unfold spl
  rw [qa5 h1,ze4 h2]
theorem zfM {c:Nat}: ∀ {a b:List Nat},c∉a->spl c (a++c::b)=a::spl c b
 | [],b,_=>by
  show spl c (c::b)=_
  rw [spl,qa4 rfl]
 | x::a,b,h=>by
  have ⟨h1,h2⟩:x≠c/\c∉a:=⟨λe=>h (by simp [e]),λe=>h (by simp [e])⟩
  show spl c (x::(a++c::b))=_
  rw [spl,qa5 h1,zfM h2]
theorem zd8 (c:Nat): ∀ l,(spl c l).length=l.count c+1
 | []=>rfl
 | a::r=>by
  have ih:=zd8 c r
  unfold spl
  by_cases e:a=c
  ·rw [qa4 e,qaE,ih,e,List.count_cons_self]
  ·rw [qa5 e,List.count_cons_of_ne (by simpa using e), <-ih]
   cases h:spl c r with
   | nil=>exact absurd h (zfm c r)
   | cons s t=>rfl
theorem zdj {c:Nat}: ∀ {l p:List Nat},p∈spl c l->p.Sublist l/\c∉p
 | [],p,h=>by
  have:p=[]:=by simpa [spl] using h
  subst this
  simp
 | a::r,p,h=>by
  unfold spl at h
  by_cases e:a=c
  ·rw [qa4 e] at h
   rcases qaP.mp h with z | z
   ·subst z;simp
   ·obtain ⟨h1,h2⟩:=zdj z
    exact ⟨h1.cons _,h2⟩
  ·rw [qa5 e] at h
   cases hs:spl c r with
   | nil=>exact absurd hs (zfm c r)
   | cons s t=>
    rw [hs] at h
    rcases qaP.mp h with z | z
    ·subst z
     obtain ⟨h1,h2⟩:=zdj (c:=c) (l:=r) (p:=s) (by rw [hs];exact qau)
     refine ⟨h1.cons₂ _,λw=> ?_⟩
     rcases qaP.mp w with w | w
     ·exact e w.symm
     ·exact h2 w
    ·obtain ⟨h1,h2⟩:=zdj (c:=c) (l:=r) (p:=p) (by rw [hs];exact qan _ z)
     exact ⟨h1.cons _,h2⟩
def jL (c:Nat):List (List Nat)->List Nat
 | []=>[]
 | [p]=>p
 | p::q::r=>p++c::jL c (q::r)
theorem ziE {c:Nat}: ∀ {ps:List (List Nat)},ps≠[]->(∀ p∈ps,c∉p)->spl c (jL c ps)=ps
 | [],h,_=>absurd rfl h
 | [p],_,h=>ze4 (h p (by simp))
 | p::q::r,_,h=>by
  show spl c (p++c::jL c (q::r))=_
  rw [zfM (h p (by simp)),ziE (by simp) λx hx=>h x (qan _ hx)]
theorem zcT (a b:Str):tl (a++b)=tl a++tl b:=by
 show (a++b).cps.toList=_
 rw [Str.cps_append]
 simp
theorem zhK (c:Nat): ∀ xs:List Str,tl (Str.join ⟨#[c]⟩ xs)=jL c (xs.map tl)
 | []=>rfl
 | [x]=>rfl
 | x::y::r=>by
  show tl (x++⟨#[c]⟩++Str.join ⟨#[c]⟩ (y::r))=tl x++c::jL c ((y::r).map tl)
  rw [zcT,zcT,zhK c (y::r),List.append_assoc]
  rfl
theorem ziP (c:Nat) (xs:List Str):tl (Txt.join ⟨#[c]⟩ xs)=jL c (xs.map tl):=by
 unfold Txt.join
 rw [StrLaws.glued_eq_join,zhK]
theorem zlM (x y:Str):Txt.split x y≠[]:=by
 unfold Txt.split
 split
 ·simp
 ·split
  ·simp
  ·rw [StrLaws.partsBetween_eq]
   obtain ⟨p,r,e⟩:=StrLaws.partsFrom_ne x y.length 0 (occurrences x y 0 x.length (x.length+1))
   rw [e]
   simp
theorem zki (x:Str) (c:Nat):(Txt.split x ⟨#[c]⟩).map tl=spl c (tl x):=by
 have h1:=StrLaws.join_split x ⟨#[c]⟩
 have h2:=StrLaws.split_free x c
 have h3:=zhK c (Txt.split x ⟨#[c]⟩)
 rw [h1] at h3
 rw [h3,ziE (by simpa using zlM x ⟨#[c]⟩)]
 intro p hp
 obtain ⟨y,hy,rfl⟩:=qaU.mp hp
 exact h2 y hy
def ofL (l:List Nat):Str:=⟨l.toArray⟩
theorem zav (l:List Nat):tl (ofL l)=l:=by simp [ofL]
theorem zir (x:Str):ofL (tl x)=x:=zed (zav _)
theorem ziz (x:Str) (c:Nat):Txt.split x ⟨#[c]⟩=(spl c (tl x)).map ofL:=by
 rw [<- zki,qaT]
 have:(ofL∘tl)=_root_.id:=funext zir
 rw [this,map_id]
theorem zd7 (x:Str) (i j:Nat):tl (strSub x i j)=((tl x).drop i).take (j - i):=StrLaws.strSub_toList x i j
theorem zlV {x:Str} {c:Nat} (h:c∉tl x):ze6 x ⟨#[c]⟩=[x,Str.empty,Str.empty]:=by
 have:=StrLaws.found_one x c
 rw [decide_eq_false h] at this
 unfold ze6
 cases q:occurrences x ⟨#[c]⟩ 0 x.length 1 with
 | nil=>rfl
 | cons a r=>rw [q] at this;simp at this
theorem zkQ {x:Str} {a b:List Nat} {c:Nat} (h:tl x=a++c::b) (hc:c∉a):ze6 x ⟨#[c]⟩=[ofL a,⟨#[c]⟩,ofL b]:=by
 have key:=StrLaws.occ_head x ⟨#[c]⟩ 1 (qaV _)
 unfold ze6
 cases q:occurrences x ⟨#[c]⟩ 0 x.length 1 with
 | nil=>
  have:=StrLaws.found_one x c
  have hm:c∈tl x:=by rw [h];simp
  rw [q,decide_eq_true hm] at this
  simp at this
 | cons i r=>
  rw [q] at key
  rcases key with ⟨z,_⟩ | ⟨i',r',e,hi,hn⟩
  ·cases z
  cases e
  have hat: ∀ k,StrLaws.At x ⟨#[c]⟩ x.length k↔(tl x)[k]? = some c:=λk=>StrLaws.subAt_one x c k
  have e1:i=a.length:=by
   have h1:=(hat i).mp hi
   rcases Nat.lt_trichotomy i a.length with z | z | z
   ·exfalso
    rw [h,qad z] at h1
    exact hc (List.mem_of_getElem? h1)
   ·exact z
   ·exact absurd ((hat a.length).mpr (by rw [h];simp)) (hn _ z)
  dsimp only
  have l1:tl (strSub x 0 i)=a:=by rw [zd7,h,e1];simp
  have l2:tl (strSub x (i+1) x.length)=b:=by
   rw [zd7,e1,za4,h]
   simp only [qav,qaE]
   rw [show a++c::b=(a++[c])++b by simp,List.drop_left' (by simp),List.take_of_length_le ⋯]
  rw [<- zir (strSub x 0 i),l1]
  show [ofL a,_,strSub x (i+1) x.length]=_
  rw [<- zir (strSub x (i+1) x.length),l2]
theorem zg1 {c:Nat}: ∀ {l:List Nat},c∈l-> ∃ a b,l=a++c::b/\c∉a
 | [],h=>absurd h (by simp)
 | x::r,h=>by
  by_cases e:x=c
  ·exact ⟨[],r,by rw [e];rfl,by simp⟩
  ·obtain ⟨a,b,e1,e2⟩:=zg1 (c:=c) (l:=r) (by rcases qaP.mp h with z | z;exact absurd z.symm e;exact z)
   refine ⟨x::a,b,by rw [e1];rfl,λz=> ?_⟩
   rcases qaP.mp z with z | z
   ·exact e z.symm
   ·exact e2 z
theorem tw_all {p:Nat->Bool}: ∀ {l:List Nat} {c:Nat},c∈l.takeWhile p->p c=true
 | [],_,h=>by cases h
 | x::r,c,h=>by
  rw [List.takeWhile_cons] at h
  split at h
  ·rename_i hx
   rcases qaP.mp h with z | z
   ·rw [z];exact hx
   ·exact tw_all z
  ·cases h
theorem tw_eq {p:Nat->Bool}: ∀ {l:List Nat},(∀ c∈l,p c=true)->l.takeWhile p=l
 | [],_=>rfl
 | x::r,h=>by rw [List.takeWhile_cons,qa4 (h x (by simp)),tw_eq λc hc=>h c (qan _ hc)]
theorem tw_len {p:Nat->Bool} (l:List Nat):(l.takeWhile p).length<=l.length:=(List.takeWhile_prefix p).length_le
theorem zkn {x y:Str}:tl (Txt.stripChars x y)=[]↔ ∀ c∈tl x,c∈tl y:=by
 have hg: ∀ c,y.cps.contains c=true↔c∈tl y:=λc=>by simp
 have hl:(tl x).length=x.length:=(za4 x).symm
 unfold Txt.stripChars Txt.stripBy
 constructor
 ·intro h c hc
  split at h
  ·rw [h] at hc;cases hc
  ·unfold stripped at h
   rw [zd7] at h
   unfold stripLo stripHi at h
   simp only [if_true] at h
   generalize hp:y.cps.contains=p at h hg
   generalize hlo:(List.takeWhile p x.cps.toList).length=lo at h
   have hd:(tl x).take lo=(tl x).takeWhile p:=by rw [<- hlo];exact (List.prefix_iff_eq_take.mp (List.takeWhile_prefix _)).symm
   have hcs:c∈(tl x).take lo++(tl x).drop lo:=by rw [List.take_append_drop];exact hc
   rcases qaK.mp hcs with z | z
   ·rw [hd] at z
    exact (hg c).mp (tw_all z)
   ·have h2:=congrArg List.length h
    rw [show x.cps.toList=tl x from rfl] at h2
    rw [length_take,length_drop,qaJ,hl] at h2
    have h3:=tw_len (p:=p) ((tl x).drop lo).reverse
    rw [List.length_reverse,length_drop,hl] at h3
    have h4:(((tl x).drop lo).reverse.takeWhile p).length=((tl x).drop lo).reverse.length:=by
     rw [List.length_reverse,length_drop,hl]
     omega
    have h5:=(List.takeWhile_prefix (l:=((tl x).drop lo).reverse) p).eq_of_length h4
    have h6:c∈((tl x).drop lo).reverse:=by simpa using z
    rw [<- h5] at h6
    exact (hg c).mp (tw_all h6)
 ·intro h
  have e:(tl x).takeWhile y.cps.contains=tl x:=tw_eq λc hc=>(hg c).mpr (h c hc)
  by_cases hn:x.length=0
  ·have hx:tl x=[]:=length_eq_zero_iff.mp (hl.trans hn)
   split
   ·exact hx
   ·unfold stripped
    rw [zd7,hx]
    simp
  ·have hs:stripSame y.cps.contains true true x=false:=by
    unfold stripSame stripLo
    simp only [if_true]
    rw [show (List.takeWhile y.cps.contains x.cps.toList)=tl x from e,hl]
    have:(x.length==0)=false:=by simpa using hn
    rw [this]
    rfl
   rw [hs]
   simp only [qax,if_false]
   unfold stripped
   rw [zd7]
   unfold stripLo
   simp only [if_true]
   rw [show (List.takeWhile y.cps.contains x.cps.toList)=tl x from e,List.drop_length]
   simp
end L3
namespace L3
open L2 LT
section
variable {α β:Type} {m:M α} {a:α} {f:α->M β} {b:β} {h:Hh} {P:α->Hh->Prop}
end
@[simp] theorem zmF {α:Type} {a:α}:noX (pure a:M α)=pure a:=rfl
noncomputable def zbu {α:Type} (c:String):M α:=λh=> .exc c h
@[simp] theorem zfu {α β:Type} {c:String} {f:α->M β}:((zbu c:M α)>>=f)=zbu c:=rfl
@[simp] theorem zl0 {c:String} {sd:Sd}:zdE c sd=zbu c:=rfl
theorem zkt {names:List String} {gb:FS} {F:List D->M D} {sd:Sd} {o:Out} (e:gb sd=pure o):zhB names gb F sd=pure o:=by
 funext h
 unfold zhB
 rw [e]
 rfl
theorem zfv {names:List String} {gb:FS} {F:List D->M D} {sd:Sd} {c:String} {d:D} (e:gb sd=zbu c) (hc:names.contains c=true) (ek:F [.exn c]=pure d):zhB names gb F sd=pure (.rt d):=by
 funext h
 unfold zhB
 rw [e]
 show (if names.contains c=true then (do let d<-noX (F [.exn c]);pure (.rt d):M Out) h else .bad)=_
 rw [qa4 hc,ek]
 rfl
theorem zrq {n:Nat} {Fs:List (List D->M D)} {fi:FE} {fs:FA} {sd:Sd}:zpw n Fs fi fs sd=(do let i<-fi sd;let F<-zhG Fs i;let ds<-fs sd;zal n F ds):=rfl
def tI (xs:List Int):D:= .tup (xs.map D.int)
def zcN (o:List Int×Int):D:= .tup [tI o.1,.int o.2]
def zcU (m:Int) (os:List (List Int×Int)):D:= .tup [.int m,.tup (os.map zcN)]
structure Stk (m:Int) (os:List (List Int×Int)):Prop where
 m0:1<=m
 m1:m<=10
 len:os.length<=12
 up: ∀ o∈os,o.1.Pairwise (· < ·)
 bd: ∀ o∈os, ∀ x∈o.1,0<=x/\x<m
 ne: ∀ o∈os,o.1≠[]
 pos: ∀ o∈os,0<o.2
theorem Stk.olen {m:Int} {os:List (List Int×Int)} (s:Stk m os): ∀ o∈os,o.1.length<=10:=λo ho=>by
 have h:=zet (m:=m) (ts:=o.1.map D.int) (l:=0) (zbh.mpr ⟨s.up o ho,λx hx=>s.bd o ho x hx⟩) (by have:=s.m0;omega)
 rw [qaH] at h
 have:=s.m1
 omega
theorem zjB {fo fe:FE} {sd:Sd}:zpB fo fe sd=(do let x<-fo sd;zfp x;let y<-fe sd;zhJ x y):=rfl
theorem zoJ {n:Nat}:zfp (.cel n)=(do let _<-zaq n;pure ()):=rfl
theorem zmo {n:Nat} {zs:List D}:zhJ (.cel n) (.tup zs)=(do let ds<-zaq n;fits (ds.length+zs.length);zbF n (ds++zs);pure .non):=rfl
theorem zhY {xs:List Int} {m:Int} (m0:0<=m) (h:xs.Pairwise (· < ·)) (b: ∀ x∈xs,0<=x/\x<m):(xs.length:Int)<=m:=by
 have:=zet (m:=m) (ts:=xs.map D.int) (l:=0) (zbh.mpr ⟨h,b⟩) m0
 rw [qaH] at this
 omega
theorem zih {x y:D} {a b:PyData} (e1:pd x=some a) (e2:pd y=some b) (h:zel a b=true):dEq x y=pure (.bl (PyData.eqv a b)):=by
 show ziK false x y=_
 unfold ziK
 rw [e1,e2]
 simp only [h,if_true]
 rfl
theorem zmT (xs:List Int):pd (tI xs)=some (.tuple (xs.map PyData.int)):=by unfold tI pd;rw [zcy];rfl
theorem zra (xs ys:List Int):dEq (tI xs) (tI ys)=pure (.bl (xs==ys)):=by
 rw [zih (zmT xs) (zmT ys) (by unfold zel;simp [PyData.canLay0,za8,PyData.depth,zbK])]
 simp only [PyData.eqv,zep]
theorem zot (x y:Str) (hx:PyData.strOk x=true) (hy:PyData.strOk y=true):dEq (.str x) (.str y)=pure (.bl (x==y)):=by
 rw [zih (x:= .str x) (y:= .str y) rfl rfl (by unfold zel;simp [PyData.canLay0,PyData.depth,hx,hy])]
 rfl
def gk (d:D):Prop:=kn d=true/\ ∀ ds,d= .tup ds->ds.length<64/\ ∀ x∈ds,kn x=true
theorem zdg {p:Int->Bool} {k:D->Option D} (e: ∀ i:Int,k (.int i)=if p i=true then some (.int i) else none): ∀ xs:List Int,(xs.map D.int).filterMap k=(xs.filter p).map D.int
 | []=>rfl
 | x::r=>by
  rw [qaM,qat,e,List.filter_cons,zdg e r]
  cases p x<;>simp
theorem zlo {xs:List D} {t:Int} (t0:0<=t) (t1:t<(xs.length:Int)): ∃ d,atI xs t=some d/\d∈xs:=by
 have ht:t.toNat<xs.length:=by omega
 refine ⟨xs[t.toNat],?_,getElem_mem ht⟩
 have:=zdS (xs:=xs) (j:=t.toNat) (v:=xs[t.toNat]) (by simp [ht])
 rw [<- this]
 congr 1
 omega
theorem zpi {xs:List D} {t:Int} {h:Hh} {P:D->Hh->Prop} (t0:0<=t) (t1:t<(xs.length:Int)) (k: ∀ d∈xs,P d h):wp (ofO (atI xs t)) h P:=by
 obtain ⟨d,ed,hd⟩:=zlo t0 t1
 rw [ed,zcM,zak]
 exact k d hd
theorem ztq {i j:Int}:zn6 [.int i,.int j]=pure (.int (if j<i then j else i)):=rfl
theorem zsT {i j:Int}:zpc [.int i,.int j]=pure (.int (if j>i then j else i)):=rfl
theorem zmA (xs:List Int):dNe (tI xs) (.tup [])=pure (.bl (!xs.isEmpty)):=by
 show ziK true _ _=_
 unfold ziK
 rw [zmT xs,show pd (.tup [])=some (.tuple []) from rfl]
 have c:zel (.tuple (xs.map PyData.int)) (.tuple [])=true:=by
  unfold zel
  simp [PyData.canLay0,PyData.canLayAll0,za8,PyData.depth,PyData.depthAll,zbK]
 simp only [c,if_true,PyData.eqv]
 cases xs<;>rfl
theorem ziJ {b:Nat} {turn:D->M (Option D)} {G:D->Prop} (ht: ∀ (x:D) {h:Hh} {Q:Option D->Hh->Prop},Bx b h->(∀ d h',Ext b h h'->G d->Q (some d) h')->wp (turn x) h Q):
  ∀ (ds:List D) {h:Hh} {P:List D->Hh->Prop},Bx b h->(∀ rs h',Ext b h h'->rs.length=ds.length->(∀ r∈rs,G r)->P rs h')->wp (zbg turn ds) h P
 | [],h,P,q,k=>by
  rw [zbg,zak]
  exact k [] h (Ext.refl q) rfl λy hy=>by cases hy
 | i::r,h,P,q,k=>by
  rw [zbg,zan]
  refine ht i q λo h2 x2 ho=> ?_
  rw [zan]
  refine ziJ ht r x2.1 λys h3 x3 hl hm=> ?_
  rw [zak]
  exact k (o::ys) h3 (x2.trans x3) (by simp;omega) λy hy=>by
   rcases qaP.mp hy with rfl | hy
   ·exact ho
   ·exact hm y hy
theorem zly {b:Nat} {turn:D->M (Option D)} (ht: ∀ (i:Int) {h:Hh} {Q:Option D->Hh->Prop},Bx b h->(∀ o h',Ext b h h'->(o=none\/o=some (.int i))->Q o h')->wp (turn (.int i)) h Q):
  ∀ (is:List Int) {h:Hh} {P:List D->Hh->Prop},Bx b h->(∀ (ys:List Int) h',Ext b h h'->ys.Sublist is->P (ys.map D.int) h')->wp (zbg turn (is.map D.int)) h P
 | [],h,P,q,k=>by
  rw [map_nil,zbg,zak]
  exact k [] h (Ext.refl q) .slnil
 | i::r,h,P,q,k=>by
  rw [qaM,zbg,zan]
  refine ht i q λo h2 x2 ho=> ?_
  rw [zan]
  refine zly ht r x2.1 λys h3 x3 hl=> ?_
  rw [zak]
  rcases ho with rfl | rfl
  ·exact k ys h3 (x2.trans x3) (.cons _ hl)
  ·exact k (i::ys) h3 (x2.trans x3) (.cons₂ _ hl)
theorem zj6 {n:Nat}: ∀ x∈(List.range n).map λ(k:Nat)=>(k:Int),0<=x/\x<n:=λx hx=>by
 obtain ⟨k,hk,rfl⟩:=qaU.mp hx
 have:=mem_range.mp hk
 omega
section
variable {α β:Type} {m:M α} {a:α} {f:α->M β} {c:String}
end
theorem zq8 {g:FS} {sd:Sd}:zut g sd=noX (g sd):=rfl
theorem zq4 {g:FE} {sd:Sd}:zuc g sd=noX (g sd):=rfl
theorem zl4 (xs:List D) {k:Int} (h:0<=k):L3.zjf xs (some k) none=xs.drop k.toNat:=by
 have e:=HT.zoR xs.length 0 k.toNat
 rw [Int.toNat_of_nonneg h] at e
 unfold L3.zjf
 have e0:HT.sIx xs.length xs.length none=xs.length:=rfl
 rw [e0,e]
 by_cases hk:k.toNat<=xs.length
 ·rw [Nat.min_eq_left hk,List.take_of_length_le (by rw [length_drop];omega)]
 ·rw [Nat.min_eq_right ⋯,List.drop_eq_nil_of_le (show xs.length<=k.toNat by omega)]
  simp
end L3
namespace K96
open L2 L3
def zb1:List String:=["NoStock","NoOffer","NoThing","NoCover","NoPaper","NoNumber","NotFull","NotInRow","NoText","NoRow","TooMany"]
def G_28:FS:=zam (sIf (zbq dLt (zaf 1) (zax zi8 (zab (zaf 0) zaj))) (zbr (cOp dIx (zaf 0) (zaf 1))) zdb) (zbr (cOp zbC (cOp zjt (cK (.int 6151)) (zaf 1)) (cK (.int 29))))
def F_28:List D->M D:=zcK 2 G_28
theorem d_28 (x0 x1:D):F_28 [x0,x1]=(do let o<-G_28 [some x0,some x1];zcC o):=rfl
def zcP:FS:=zam (zbk 4 (cOp znR (cOp zbC (cOp zbC (cOp zbC (cOp zjt (zaf 4) (cK (.int 48271))) (cOp zjt (cOp zjt (cK (.int 7)) (zaf 5)) (zaf 5))) (cOp zjt (cK (.int 11)) (zaf 1))) (cK (.int 1))) (cK (.int 2147483647)))) (zbk 3 (cOp zbC (cOp zjt (zaf 3) (cK (.int 2147483647))) (zaf 4)))
def G_29:FS:=zam (zbk 2 (zax (zal 2 F_28) (zab (zaf 0) (zab (zaf 1) zaj)))) (zam (sIf (zbq dEq (cOp znR (zaf 2) (cK (.int 2))) (cK (.int 0))) (zbr (zja (zab (cOp zmz (zaf 2) (cK (.int 2))) zaj))) zdb) (zam (zbk 3 (cK (.int 0))) (zam (zbk 4 (cOp znR (zaf 2) (cK (.int 2147483647)))) (zam (zlH (zg7 (zab (cK (.int 24)) zaj)) (zaR 5) zcP) (zbr (zja (zab (zaf 3) zaj)))))))
def F_29:List D->M D:=zcK 6 G_29
theorem d_29 (x0 x1:D):F_29 [x0,x1]=(do let o<-G_29 [some x0,some x1,none,none,none,none];zcC o):=rfl
def G_30:FS:=zam (zbk 2 (cOp znR (cOp dIx (zaf 0) (cK (.int 0))) (zaf 1))) (zam (zmV (cOp zmz (cOp dIx (zaf 0) (cK (.int 0))) (zaf 1)) (zmi (zaf 0) (cK (.int 0)))) (zbr (zaf 2)))
def F_30:List D->M D:=zcK 3 G_30
theorem d_30 (x0 x1:D):F_30 [x0,x1]=(do let o<-G_30 [some x0,some x1,none];zcC o):=rfl
def zbO:FE:=zaf 0
def zbR:FT:=zbq dEq (cOp ztt (cOp ztG (zaf 1) (zaf 0)) (cK (.int 1))) (cK (.int 1))
def zbP:FE:=cOp znR (cOp zbC (zaf 1) (cOp zjt (zaf 2) (zaf 0))) (zaf 3)
def G_33:FS:=zam (zbk 2 (zax (zal 2 F_30) (zab (zaf 0) (zab (cK (.int 3)) zaj)))) (zam (sIf (zbq dEq (zaf 2) (cK (.int 0))) (zam (zbk 3 (cOp zbC (cK (.int 1)) (zax (zal 2 F_30) (zab (zaf 0) (zab (cOp zsa (cOp zsK (cK (.int 1)) (zaf 1)) (cK (.int 1))) zaj))))) (zbr (zax zbM (zab (zaB (zg7 (zab (zaf 1) zaj)) (zaR 0) zbR zbO [none,some 3]) zaj)))) zdb) (zam (zmV (zec (zab (zax (zal 2 F_30) (zab (zaf 0) (zab (zaf 1) zaj))) (zab (cOp dIx (zfa (zab (cK (.int 1)) (zab (cOp zbC (cK (.int 1)) (zax (zal 2 F_30) (zab (zaf 0) (zab (cK (.int 3)) zaj)))) zaj))) (cOp zsa (zaf 2) (cK (.int 1)))) zaj))) (zdm 2 (za2 (zaR 4) (za2 (zaR 5) zdG)))) (zbr (zax zbM (zab (cUn zb3 (zaB (zg7 (zab (cOp zbC (cK (.int 1)) (zax (zal 2 F_30) (zab (zaf 0) (zab (cK (.int 4)) zaj)))) zaj)) (zaR 0) (λ_=>pure true) zbP [none,some 4,some 5,some 1])) zaj)))))
def F_33:List D->M D:=zcK 6 G_33
theorem d_33 (x0 x1:D):F_33 [x0,x1]=(do let o<-G_33 [some x0,some x1,none,none,none,none];zcC o):=rfl
def zcx:FE:=zja (zab (zax (zal 2 F_33) (zab (zaf 1) (zab (zaf 2) zaj))) (zab (cOp zbC (cK (.int 1)) (zax (zal 2 F_30) (zab (zaf 1) (zab (zaf 3) zaj)))) zaj))
def zdF:FE:=zaf 0
def zdz:FT:=zbq dIn (zaf 1) (cOp dIx (zaf 0) (cK (.int 0)))
def zbp:FS:=sIf (zbq zrc (zaB (iSq (zaf 5)) (zaR 0) zdz zdF [none,some 6]) (zfa zaj)) (zam (zbk 7 (cOp dIx (zaf 5) (zax (zal 2 F_30) (zab (zaf 0) (zab (zax zi8 (zab (zaf 5) zaj)) zaj))))) (zmV (zax zbM (zab (zax zhN (zab (cOp zbC (cOp dIx (zaf 7) (cK (.int 0))) (zec (zab (zaf 6) zaj))) zaj)) zaj)) (zmi (zaf 7) (cK (.int 0))))) zdb
def zdx:FE:=zec (zab (cOp dIx (zaf 0) (cK (.int 0))) (zab (cOp dIx (zaf 0) (cK (.int 1))) zaj))
def G_34:FS:=zam (zbk 3 (cOp zbC (cK (.int 1)) (zax (zal 2 F_30) (zab (zaf 0) (zab (zaf 1) zaj))))) (zam (zbk 4 (cOp dIx (zfa (zab (cK (.int 3)) (zab (cK (.int 9)) (zab (cK (.int 50)) (zab (cOp zsj (cK (.int 10)) (cK (.int 12))) zaj))))) (zax (zal 2 F_30) (zab (zaf 0) (zab (cK (.int 4)) zaj))))) (zam (zbk 5 (zaB (zg7 (zab (cOp zbC (cK (.int 1)) (zax (zal 2 F_30) (zab (zaf 0) (zab (zaf 2) zaj)))) zaj)) (zaR 0) (λ_=>pure true) zcx [none,some 0,some 3,some 4])) (zam (zlH (zg7 (zab (zaf 3) zaj)) (zaR 6) zbp) (zbr (zec (zab (zaf 3) (zab (zax zbM (zab (zaB (iSq (zaf 5)) (zaR 0) (λ_=>pure true) zdx [none]) zaj)) zaj)))))))
def F_34:List D->M D:=zcK 8 G_34
theorem d_34 (x0 x1 x2:D):F_34 [x0,x1,x2]=(do let o<-G_34 [some x0,some x1,some x2,none,none,none,none,none];zcC o):=rfl
def zcf:FE:=zaf 0
def zci:FT:=zbq dNe (zaf 0) (zaf 1)
def zch:FE:=zec (zab (zax zbM (zab (zaB (iSq (zaf 0)) (zaR 0) zci zcf [none,some 2]) zaj)) (zab (zaf 1) zaj))
def zcc:FE:=zaf 0
def zcb:FT:=zbq dNe (cOp dIx (zaf 0) (cK (.int 0))) (zec zaj)
def G_35:FS:=zam (zmV (zaf 1) (zdm 2 (za2 (zaR 2) (za2 (zaR 3) zdG)))) (zam (zbk 4 (zax (zal 2 F_30) (zab (zaf 0) (zab (zaf 2) zaj)))) (zam (zbk 5 (zaB (iSq (zaf 3)) (zdm 2 (za2 (zaR 0) (za2 (zaR 1) zdG))) (λ_=>pure true) zch [none,none,some 4])) (zbr (zec (zab (zaf 2) (zab (zax zbM (zab (zaB (iSq (zaf 5)) (zaR 0) zcb zcc [none]) zaj)) zaj))))))
def F_35:List D->M D:=zcK 6 G_35
theorem d_35 (x0 x1:D):F_35 [x0,x1]=(do let o<-G_35 [some x0,some x1,none,none,none,none];zcC o):=rfl
def zbX:FE:=zax zb6 (zab (zaf 0) zaj)
def za0:FS:=zke (zhx (zaf 1) (cOp zbC (cOp zbC (cMt zdY (cK (.str ",")) (zaB (iSq (zaf 2)) (zaR 0) (λ_=>pure true) zbX [none])) (cK (.str "="))) (zax zb6 (zab (zaf 3) zaj))))
def G_37:FS:=zam (zbk 1 (zja (zab (zax zb6 (zab (cOp dIx (zaf 0) (cK (.int 0))) zaj)) (zab (cK (.str ":")) zaj)))) (zam (zlH (iSq (cOp dIx (zaf 0) (cK (.int 1)))) (zdm 2 (za2 (zaR 2) (za2 (zaR 3) zdG))) za0) (zbr (cMt zdY (cK (.str " ")) (zaf 1))))
def F_37:List D->M D:=zcK 4 G_37
theorem d_37 (x0:D):F_37 [x0]=(do let o<-G_37 [some x0,none,none,none];zcC o):=rfl
def zcl:FE:=zax zb6 (zab (zaf 0) zaj)
def G_38:FS:=zbr (zsi (cMt zdY (cK (.str " ")) (zaB (iSq (zaf 0)) (zaR 0) (λ_=>pure true) zcl [none])) (cK (.str "none")))
def F_38:List D->M D:=zcK 1 G_38
theorem d_38 (x0:D):F_38 [x0]=(do let o<-G_38 [some x0];zcC o):=rfl
def zfL:FE:=zax zjg (zab (zaf 0) zaj)
def G_32:FS:=zam (zbk 1 (zfa (zab (cUn (zjy zb1 "NoStock") (zaf 0)) (zab (cUn (zjy zb1 "NoOffer") (zaf 0)) (zab (cUn (zjy zb1 "NoThing") (zaf 0)) (zab (cUn (zjy zb1 "NoCover") (zaf 0)) zaj)))))) (zam (zbk 1 (cOp zbC (zaf 1) (zfa (zab (cUn (zjy zb1 "NoPaper") (zaf 0)) (zab (cUn (zjy zb1 "NoNumber") (zaf 0)) (zab (cUn (zjy zb1 "NotFull") (zaf 0)) (zab (cUn (zjy zb1 "NotInRow") (zaf 0)) zaj))))))) (zam (zbk 1 (cOp zbC (zaf 1) (zfa (zab (cUn (zjy zb1 "NoText") (zaf 0)) (zab (cUn (zjy zb1 "NoRow") (zaf 0)) (zab (cUn (zjy zb1 "TooMany") (zaf 0)) zaj)))))) (zam (sIf (tOr (zhe (zid (cUn (zrd zb1) (zaf 0)))) (zbq dNe (zax ztS (zab (zaB (iSq (zaf 1)) (zaR 0) (λ_=>pure true) zfL [none]) zaj)) (cK (.int 1)))) (zbr (cK (.str "! none of the classes"))) zdb) (zam (zbk 2 (zfa (zab (cK (.str "stock")) (zab (cK (.str "offer")) (zab (cK (.str "thing")) (zab (cK (.str "cover")) (zab (cK (.str "paper")) (zab (cK (.str "number")) (zab (cK (.str "full")) (zab (cK (.str "in row")) (zab (cK (.str "text")) (zab (cK (.str "row")) (zab (cK (.str "many")) zaj))))))))))))) (zbr (cOp zbC (cK (.str "! ")) (cOp dIx (zaf 2) (cUn zp7 (zaf 1)))))))))
def F_32:List D->M D:=zcK 3 G_32
theorem d_32 (x0:D):F_32 [x0]=(do let o<-G_32 [some x0,none,none];zcC o):=rfl
def G_23:FS:=sIf (zhe (zid (cUn (zev "str") (zaf 0)))) (zdE "NoText") zdb
def F_23:List D->M D:=zcK 1 G_23
theorem d_23 (x0:D):F_23 [x0]=(do let o<-G_23 [some x0];zcC o):=rfl
def za5:FE:=cOp zsf (zaf 0) (cK (.str "0123456789"))
def G_27:FS:=zam (sIf (tOr (zbq dLt (zax zi3 (zab (zaf 0) zaj)) (cK (.int 1))) (zbq dGt (zax zi3 (zab (zaf 0) zaj)) (cK (.int 40)))) (zbr (cK (.bl false))) zdb) (zbr (zm7 (zax zql (zab (zaB (zq2 (zaf 0)) (zaR 0) (λ_=>pure true) za5 [none]) zaj)) (cOr (cOp dEq (zaf 0) (cK (.str "0"))) (cOp dNe (cOp zng (zaf 0) (cK (.int 0))) (cK (.str "0"))))))
def F_27:List D->M D:=zcK 1 G_27
theorem d_27 (x0:D):F_27 [x0]=(do let o<-G_27 [some x0];zcC o):=rfl
def G_26:FS:=zam (sIf (zhe (zid (zax (zal 1 λds=>noX (F_27 ds)) (zab (zaf 0) zaj)))) (zdE "NoText") zdb) (zbr (zax zna (zab (zaf 0) zaj)))
def F_26:List D->M D:=zcK 1 G_26
theorem d_26 (x0:D):F_26 [x0]=(do let o<-G_26 [some x0];zcC o):=rfl
def zbo:FE:=zax (zal 1 F_26) (zab (zaf 0) zaj)
def G_25:FS:=zam (zbk 2 (zaB (iSq (cMt zdd (zaf 0) (zaf 1))) (zaR 0) (λ_=>pure true) zbo [none])) (zam (sIf (zbq dNe (zaf 2) (cUn zb3 (zaf 2))) (zdE "NoText") zdb) (zbr (zax zbM (zab (zaf 2) zaj))))
def F_25:List D->M D:=zcK 3 G_25
theorem d_25 (x0 x1:D):F_25 [x0,x1]=(do let o<-G_25 [some x0,some x1,none];zcC o):=rfl
def G_24:FS:=zam (zbk 1 (cMt zdd (zaf 0) (cK (.str "=")))) (zam (sIf (zbq dNe (zax zi8 (zab (zaf 1) zaj)) (cK (.int 2))) (zdE "NoText") zdb) (zbr (zec (zab (zax (zal 2 F_25) (zab (cOp dIx (zaf 1) (cK (.int 0))) (zab (cK (.str ",")) zaj))) (zab (zax (zal 1 F_26) (zab (cOp dIx (zaf 1) (cK (.int 1))) zaj)) zaj)))))
def F_24:List D->M D:=zcK 2 G_24
theorem d_24 (x0:D):F_24 [x0]=(do let o<-G_24 [some x0,none];zcC o):=rfl
def G_13:FS:=zbr (zm7 (cUn (zev "tuple") (zaf 0)) (cOp dEq (zax zi8 (zab (zaf 0) zaj)) (cK (.int 2))))
def F_13:List D->M D:=zcK 1 G_13
theorem d_13 (x0:D):F_13 [x0]=(do let o<-G_13 [some x0];zcC o):=rfl
def G_12:FS:=zbr (zm7 (cUn (zev "int") (zaf 0)) (zs3 (cUn (zev "bool") (zaf 0))))
def F_12:List D->M D:=zcK 1 G_12
theorem d_12 (x0:D):F_12 [x0]=(do let o<-G_12 [some x0];zcC o):=rfl
def zbb:FS:=zam (sIf (tOr (zhe (zid (zax (zal 1 F_12) (zab (zaf 3) zaj)))) (tOr (zbq dLt (zaf 3) (zaf 2)) (zbq dGe (zaf 3) (zaf 1)))) (zbr (cK (.bl false))) zdb) (zbk 2 (cOp zbC (zaf 3) (cK (.int 1))))
def G_14:FS:=zam (sIf (zhe (zid (cUn (zev "tuple") (zaf 0)))) (zbr (cK (.bl false))) zdb) (zam (zbk 2 (cK (.int 0))) (zam (zlH (iSq (zaf 0)) (zaR 3) zbb) (zbr (cK (.bl true)))))
def F_14:List D->M D:=zcK 4 G_14
theorem d_14 (x0 x1:D):F_14 [x0,x1]=(do let o<-G_14 [some x0,some x1,none,none];zcC o):=rfl
def G_16:FS:=zam (sIf (zhe (zid (zax (zal 1 F_13) (zab (zaf 0) zaj)))) (zbr (cK (.bl false))) zdb) (zam (zbk 2 (cOp dIx (zaf 0) (cK (.int 0)))) (zam (zbk 3 (cOp dIx (zaf 0) (cK (.int 1)))) (zbr (zm7 (zax (zal 2 F_14) (zab (zaf 2) (zab (zaf 1) zaj))) (zm7 (cOp dGt (zax zi8 (zab (zaf 2) zaj)) (cK (.int 0))) (zm7 (zax (zal 1 F_12) (zab (zaf 3) zaj)) (cOp dGt (zaf 3) (cK (.int 0)))))))))
def F_16:List D->M D:=zcK 4 G_16
theorem d_16 (x0 x1:D):F_16 [x0,x1]=(do let o<-G_16 [some x0,some x1,none,none];zcC o):=rfl
def zcV:FE:=zax (zal 2 F_16) (zab (zaf 0) (zab (zaf 1) zaj))
def G_15:FS:=zam (sIf (zhe (zid (zax (zal 1 F_13) (zab (zaf 0) zaj)))) (zbr (cK (.bl false))) zdb) (zam (zbk 1 (cOp dIx (zaf 0) (cK (.int 0)))) (zam (zbk 2 (cOp dIx (zaf 0) (cK (.int 1)))) (zam (sIf (tOr (zhe (zid (zax (zal 1 F_12) (zab (zaf 1) zaj)))) (tOr (zbq dLt (zaf 1) (cK (.int 1))) (zbq dGt (zaf 1) (cK (.int 10))))) (zbr (cK (.bl false))) zdb) (zam (sIf (tOr (zhe (zid (cUn (zev "tuple") (zaf 2)))) (zbq dGt (zax zi8 (zab (zaf 2) zaj)) (cK (.int 12)))) (zbr (cK (.bl false))) zdb) (zbr (zax zql (zab (zaB (iSq (zaf 2)) (zaR 0) (λ_=>pure true) zcV [none,some 1]) zaj)))))))
def F_15:List D->M D:=zcK 3 G_15
theorem d_15 (x0:D):F_15 [x0]=(do let o<-G_15 [some x0,none,none];zcC o):=rfl
def zbz:FE:=zax (zal 1 F_24) (zab (zaf 0) zaj)
def G_20:FS:=zam (zke (zax (zal 1 F_23) (zab (zaf 0) zaj))) (zam (zbk 1 (cMt zdd (zaf 0) (cK (.str " ")))) (zam (sIf (tOr (zbq dLt (zax zi8 (zab (zaf 1) zaj)) (cK (.int 2))) (zbq dNe (cOp dIx (zaf 1) (cK (.int 1))) (cK (.str ":")))) (zdE "NoText") zdb) (zam (zbk 2 (zec (zab (zax (zal 1 F_26) (zab (cOp dIx (zaf 1) (cK (.int 0))) zaj)) (zab (zax zbM (zab (zaB (iSq (cSl (zaf 1) (zct (cK (.int 2))) zdk)) (zaR 0) (λ_=>pure true) zbz [none]) zaj)) zaj)))) (zam (sIf (zhe (zid (zax (zal 1 λds=>noX (F_15 ds)) (zab (zaf 2) zaj)))) (zdE "NoText") zdb) (zbr (zaf 2))))))
def F_20:List D->M D:=zcK 3 G_20
theorem d_20 (x0:D):F_20 [x0]=(do let o<-G_20 [some x0,none,none];zcC o):=rfl
def G_21:FS:=zam (zke (zax (zal 1 F_23) (zab (zaf 0) zaj))) (zbr (cIf (zbq dEq (zaf 0) (cK (.str "none"))) (zec zaj) (zax (zal 2 F_25) (zab (zaf 0) (zab (cK (.str " ")) zaj)))))
def F_21:List D->M D:=zcK 1 G_21
theorem d_21 (x0:D):F_21 [x0]=(do let o<-G_21 [some x0];zcC o):=rfl
def G_41:FS:=zhB zb1 (zbr (zpw 1 [F_20,F_21] (zaf 0) (zab (zaf 1) zaj))) F_32
def F_41:List D->M D:=zcK 3 G_41
theorem d_41 (x0 x1:D):F_41 [x0,x1]=(do let o<-G_41 [some x0,some x1,none];zcC o):=rfl
def zea:FE:=zax zb6 (zab (zaf 0) zaj)
def G_18:FS:=zbr (cIf (zqz (zaf 0)) (cMt zdY (cK (.str " ")) (zaB (iSq (zaf 0)) (zaR 0) (λ_=>pure true) zea [none])) (cK (.str "none")))
def F_18:List D->M D:=zcK 1 G_18
theorem d_18 (x0:D):F_18 [x0]=(do let o<-G_18 [some x0];zcC o):=rfl
def zdc:FE:=zax zb6 (zab (zaf 0) zaj)
def G_22:FS:=zbr (cOp zbC (cOp zbC (cMt zdY (cK (.str ",")) (zaB (iSq (cOp dIx (zaf 0) (cK (.int 0)))) (zaR 0) (λ_=>pure true) zdc [none])) (cK (.str "="))) (zax zb6 (zab (cOp dIx (zaf 0) (cK (.int 1))) zaj)))
def F_22:List D->M D:=zcK 1 G_22
theorem d_22 (x0:D):F_22 [x0]=(do let o<-G_22 [some x0];zcC o):=rfl
def zcg:FE:=zax (zal 1 F_22) (zab (zaf 0) zaj)
def G_17:FS:=zbr (cMt zdY (cK (.str " ")) (cOp zbC (zfa (zab (zax zb6 (zab (cOp dIx (zaf 0) (cK (.int 0))) zaj)) (zab (cK (.str ":")) zaj))) (zaB (iSq (cOp dIx (zaf 0) (cK (.int 1)))) (zaR 0) (λ_=>pure true) zcg [none])))
def F_17:List D->M D:=zcK 1 G_17
theorem d_17 (x0:D):F_17 [x0]=(do let o<-G_17 [some x0];zcC o):=rfl
def zaC:FT:=zbq dGt (zaf 3) (cK (.int 0))
def zaF:FS:=zpK 2 3 (zab (zaf 3) (zab (cOp znR (zaf 2) (zaf 3)) zaj))
def G_36:FS:=zam (zpK 2 3 (zab (zax zrb (zab (zaf 0) zaj)) (zab (zax zrb (zab (zaf 1) zaj)) zaj))) (zam (zku 20000 zaC zaF) (zbr (zec (zab (cOp zgA (zaf 0) (zaf 2)) (zab (cOp zgA (zaf 1) (zaf 2)) zaj)))))
def F_36:List D->M D:=zcK 4 G_36
theorem d_36 (x0 x1:D):F_36 [x0,x1]=(do let o<-G_36 [some x0,some x1,none,none];zcC o):=rfl
def G_19:FS:=zam (zbk 1 (zax zb6 (zab (cOp dIx (zaf 0) (cK (.int 0))) zaj))) (zbr (cIf (zbq dEq (cOp dIx (zaf 0) (cK (.int 1))) (cK (.int 1))) (zaf 1) (cOp zbC (cOp zbC (zaf 1) (cK (.str "/"))) (zax zb6 (zab (cOp dIx (zaf 0) (cK (.int 1))) zaj)))))
def F_19:List D->M D:=zcK 2 G_19
theorem d_19 (x0:D):F_19 [x0]=(do let o<-G_19 [some x0,none];zcC o):=rfl
def G_44:FS:=zam (zbk 2 (zax (zal 2 F_30) (zab (zaf 0) (zab (cOp zbC (zax zi3 (zab (zaf 1) zaj)) (cK (.int 1))) zaj)))) (zam (zbk 3 (cOp zng (cK (.str "0123456789 :,=none")) (zax (zal 2 F_30) (zab (zaf 0) (zab (cK (.int 18)) zaj))))) (zam (zbk 4 (zfa (zab (zaf 1) (zab (cOp zbC (cOp zbC (zkV (zaf 1) zdk (zct (zaf 2))) (zaf 3)) (zkV (zaf 1) (zct (cOp zbC (zaf 2) (cK (.int 1)))) zdk)) (zab (cOp zbC (zkV (zaf 1) zdk (zct (zaf 2))) (zkV (zaf 1) (zct (cOp zbC (zaf 2) (cK (.int 1)))) zdk)) (zab (cOp zbC (cOp zbC (zkV (zaf 1) zdk (zct (zaf 2))) (zaf 3)) (zkV (zaf 1) (zct (zaf 2)) zdk)) zaj)))))) (zam (zbk 4 (cOp zbC (zaf 4) (zfa (zab (cOp zbC (cOp zbC (zkV (zaf 1) zdk (zct (zaf 2))) (cUn zpt (zkV (zaf 1) (zct (zaf 2)) (zct (cOp zbC (zaf 2) (cK (.int 2))))))) (zkV (zaf 1) (zct (cOp zbC (zaf 2) (cK (.int 2)))) zdk)) (zab (cOp zbC (cK (.str " ")) (zaf 1)) (zab (cOp zbC (zaf 1) (cK (.str " "))) zaj)))))) (zbr (cOp dIx (zaf 4) (zax (zal 2 F_30) (zab (zaf 0) (zab (cK (.int 7)) zaj))))))))
def F_44:List D->M D:=zcK 5 G_44
theorem d_44 (x0 x1:D):F_44 [x0,x1]=(do let o<-G_44 [some x0,some x1,none,none,none];zcC o):=rfl
def G_39:FS:=zam (sIf (tOr (zbq dEq (zaf 0) (cK (.str ""))) (tOr (zbq dGt (zax zi3 (zab (zaf 0) zaj)) (cK (.int 40))) (tOr (zbq dNe (cMt zjM (zaf 0) (cK (.str "0123456789"))) (cK (.str ""))) (zpL (zbq dEq (cOp zng (zaf 0) (cK (.int 0))) (cK (.str "0"))) (zbq dNe (zaf 0) (cK (.str "0"))))))) (zbr (cK .non)) zdb) (zbr (zax zna (zab (zaf 0) zaj)))
def F_39:List D->M D:=zcK 1 G_39
theorem d_39 (x0:D):F_39 [x0]=(do let o<-G_39 [some x0];zcC o):=rfl
def zbl:FE:=zax (zal 1 F_39) (zab (zaf 0) zaj)
def G_40:FS:=zam (zbk 1 (zaB (iSq (zaf 0)) (zaR 0) (λ_=>pure true) zbl [none])) (zam (sIf (tOr (zbq dIn (cK .non) (zaf 1)) (zbq dNe (zaf 1) (cUn zb3 (zaf 1)))) (zbr (cK .non)) zdb) (zbr (zax zbM (zab (zaf 1) zaj))))
def F_40:List D->M D:=zcK 2 G_40
theorem d_40 (x0:D):F_40 [x0]=(do let o<-G_40 [some x0,none];zcC o):=rfl
def G_42:FS:=zam (zmV (cMt zle (zaf 1) (cK (.str "="))) (zdm 3 (za2 (zaR 2) (za2 (zaR 3) (za2 (zaR 4) zdG))))) (zam (zbk 5 (zec (zab (zax (zal 1 F_40) (zab (cMt zdd (zaf 2) (cK (.str ","))) zaj)) (zab (zax (zal 1 F_39) (zab (zaf 4) zaj)) zaj)))) (zam (sIf (tOr (zbq dEq (zaf 3) (cK (.str ""))) (tOr (zbq dIn (cK .non) (zaf 5)) (tOr (zbq dGe (cOp dIx (cOp dIx (zaf 5) (cK (.int 0))) (cUn zqS (cK (.int 1)))) (zaf 0)) (zbq dEq (cOp dIx (zaf 5) (cK (.int 1))) (cK (.int 0)))))) (zbr (cK .non)) zdb) (zbr (zaf 5))))
def F_42:List D->M D:=zcK 6 G_42
theorem d_42 (x0 x1:D):F_42 [x0,x1]=(do let o<-G_42 [some x0,some x1,none,none,none,none];zcC o):=rfl
def zba:FE:=zax (zal 2 F_42) (zab (zaf 1) (zab (zaf 0) zaj))
def G_43:FS:=zam (zbk 1 (cMt zdd (zaf 0) (cK (.str " ")))) (zam (zbk 2 (zax (zal 1 F_39) (zab (cOp dIx (zaf 1) (cK (.int 0))) zaj))) (zam (sIf (tOr (zbq znS (zaf 2) (cK .non)) (tOr (zbq dLt (zaf 2) (cK (.int 1))) (tOr (zbq dGt (zaf 2) (cK (.int 10))) (tOr (zbq dNe (cSl (zaf 1) (zct (cK (.int 1))) (zct (cK (.int 2)))) (zfa (zab (cK (.str ":")) zaj))) (zbq dGt (zax zi8 (zab (zaf 1) zaj)) (cK (.int 14))))))) (zbr (cK .non)) zdb) (zam (zbk 3 (zaB (iSq (cSl (zaf 1) (zct (cK (.int 2))) zdk)) (zaR 0) (λ_=>pure true) zba [none,some 2])) (zbr (cIf (zbq dIn (cK .non) (zaf 3)) (cK .non) (zec (zab (zaf 2) (zab (zax zbM (zab (zaf 3) zaj)) zaj))))))))
def F_43:List D->M D:=zcK 4 G_43
theorem d_43 (x0:D):F_43 [x0]=(do let o<-G_43 [some x0,none,none,none];zcC o):=rfl
def G_45:FS:=zam (zbk 2 (zax (zal 1 F_43) (zab (zaf 1) zaj))) (zam (sIf (zbq dEq (zaf 0) (cK (.int 1))) (zbk 2 (cIf (zbq dEq (zaf 1) (cK (.str "none"))) (zec zaj) (zax (zal 1 F_40) (zab (cMt zdd (zaf 1) (cK (.str " "))) zaj)))) zdb) (zam (zbk 3 (zax (zal 2 F_41) (zab (zaf 0) (zab (zaf 1) zaj)))) (zbr (cIf (zbq znS (zaf 2) (cK .non)) (cOp dEq (zaf 3) (cK (.str "! text"))) (zm7 (cUn (zev "tuple") (zaf 3)) (cOp dEq (zaf 3) (zaf 2)))))))
def F_45:List D->M D:=zcK 4 G_45
theorem d_45 (x0 x1:D):F_45 [x0,x1]=(do let o<-G_45 [some x0,some x1,none,none];zcC o):=rfl
def G_31:FS:=zam (zbk 1 (zfa (zab (cK .non) (zab (cK (.bl true)) (zab (cK (.int 7)) (zab (cK (.str "")) (zab (cK (.str "0")) (zab (zec zaj) (zab (zfa zaj) (zab (cK .dct) (zab (zec (zab (cK (.int 1)) (zab (cK (.int 2)) zaj))) (zab (zec (zab (cK (.int 0)) zaj)) (zab (zec (zab (cK (.int 1)) (zab (cK (.int 0)) zaj))) (zab (cUn zqS (cK (.int 1))) (zab (zec (zab (cK (.int 0)) (zab (cK (.int 1)) zaj))) (zab (zfa (zab (zec (zab (cK (.int 1)) (zab (cK (.int 0)) (zab (cK (.int 1)) zaj)))) zaj)) (zab (cK (.bl false)) (zab (zec (zab (zec (zab (cK (.int 0)) (zab (cK (.int 1)) zaj))) zaj)) zaj)))))))))))))))))) (zbr (cOp dIx (zaf 1) (zax (zal 2 F_30) (zab (zaf 0) (zab (cK (.int 16)) zaj)))))
def F_31:List D->M D:=zcK 2 G_31
theorem d_31 (x0:D):F_31 [x0]=(do let o<-G_31 [some x0,none];zcC o):=rfl
def zeB:FE:=zaf 0
def zeF:FT:=zbq dEq (zax (zal 2 F_30) (zab (zaf 1) (zab (cK (.int 3)) zaj))) (cK (.int 1))
def zfF:FE:=cOp zng (cK (.str "012 :,=n")) (zax (zal 2 F_30) (zab (zaf 1) (zab (cK (.int 8)) zaj)))
def zeX:FS:=sIf (zhe (zid (zax (zal 2 F_45) (zab (zaf 9) (zab (zaf 10) zaj))))) (zbr (cK (.bl false))) zdb
def zd6:FS:=zam (zlH (iSq (zfa (zab (cOp dIx (zaf 5) (zaf 9)) (zab (zax (zal 2 F_44) (zab (zaf 2) (zab (cOp dIx (zaf 5) (zaf 9)) zaj))) (zab (zax (zal 2 F_44) (zab (zaf 2) (zab (cOp dIx (zaf 5) (zaf 9)) zaj))) (zab (cOp dIx (zaf 5) (cOp zsa (cK (.int 1)) (zaf 9))) (zab (zaf 8) zaj))))))) (zaR 10) zeX) (zam (zbk 11 (zax (zal 1 F_31) (zab (zaf 2) zaj))) (sIf (zpL (zhe (zid (cUn (zev "str") (zaf 11)))) (zbq dNe (zax (zal 2 F_41) (zab (zaf 9) (zab (zaf 11) zaj))) (cK (.str "! text")))) (zbr (cK (.bl false))) zdb))
def zeM:FS:=zam (zbk 2 (zax (zal 2 F_29) (zab (zaf 0) (zab (zaf 1) zaj)))) (zam (zbk 3 (zax (zal 3 F_34) (zab (zaf 2) (zab (cK (.int 10)) (zab (cK (.int 12)) zaj))))) (zam (sIf (zbq dEq (zax (zal 2 F_30) (zab (zaf 2) (zab (cK (.int 4)) zaj))) (cK (.int 0))) (zbk 3 (zax (zal 2 F_35) (zab (zaf 2) (zab (zaf 3) zaj)))) zdb) (zam (zbk 4 (zax zbM (zab (zaB (zg7 (zab (cK (.int 12)) zaj)) (zaR 0) zeF zeB [none,some 2]) zaj))) (zam (zbk 5 (zfa (zab (zax (zal 1 F_37) (zab (zaf 3) zaj)) (zab (zax (zal 1 F_38) (zab (zaf 4) zaj)) zaj)))) (zam (sIf (tOr (zbq dNe (zax (zal 1 F_17) (zab (zaf 3) zaj)) (cOp dIx (zaf 5) (cK (.int 0)))) (tOr (zbq dNe (zax (zal 1 F_18) (zab (zaf 4) zaj)) (cOp dIx (zaf 5) (cK (.int 1)))) (zbq dNe (zax (zal 2 F_41) (zab (cK (.int 0)) (zab (cOp dIx (zaf 5) (cK (.int 0))) zaj))) (zaf 3)))) (zbr (cK (.bl false))) zdb) (zam (zmV (zax (zal 2 F_36) (zab (zax (zal 2 F_30) (zab (zaf 2) (zab (cK (.int 99)) zaj))) (zab (cOp zbC (cK (.int 1)) (zax (zal 2 F_30) (zab (zaf 2) (zab (cK (.int 9)) zaj)))) zaj))) (zdm 2 (za2 (zaR 6) (za2 (zaR 7) zdG)))) (zam (sIf (zbq dNe (zax (zal 1 F_19) (zab (zec (zab (zaf 6) (zab (zaf 7) zaj))) zaj)) (cOp zbC (zax zb6 (zab (zaf 6) zaj)) (cOp dIx (zfa (zab (cOp zbC (cK (.str "/")) (zax zb6 (zab (zaf 7) zaj))) (zab (cK (.str "")) zaj))) (zax zjg (zab (cOp dEq (zaf 7) (cK (.int 1))) zaj))))) (zbr (cK (.bl false))) zdb) (zam (zbk 8 (cMt zdY (cK (.str "")) (zaB (zg7 (zab (zax (zal 2 F_30) (zab (zaf 2) (zab (cK (.int 9)) zaj))) zaj)) (zaR 0) (λ_=>pure true) zfF [none,some 2]))) (zlH (zg7 (zab (cK (.int 2)) zaj)) (zaR 9) zd6)))))))))
def G_46:FS:=zam (zlH (zg7 (zab (zax zpc (zab (cK (.int 1)) (zab (zax zn6 (zab (zax zi8 (zab (zaf 0) zaj)) (zab (cK (.int 4)) zaj))) zaj))) zaj)) (zaR 1) zeM) (zbr (cK (.bl true)))
def F_46:List D->M D:=zcK 12 G_46
theorem d_46 (x0:D):F_46 [x0]=(do let o<-G_46 [some x0,none,none,none,none,none,none,none,none,none,none,none];zcC o):=rfl
end K96
set_option genInjectivity false
set_option genSizeOf false
set_option genSizeOfSpec false
namespace K96
open L2 L3
set_option hygiene false in
local macro_rules
|`(tactic|ext a)=>`(tactic|refine zaa ?_ ?_)
|`(tactic|ext b)=>`(tactic|refine zar (k:=1) (g:=t.a_30) (fd:=t.d_30) (ps:=["box","many"]) ?_ ?_ ?_ ?_ ?_ ?_)
|`(tactic|ext c)=>`(tactic|exact (hr.mono (by decide)))
|`(tactic|ext d)=>`(tactic|refine zag ?_ ?_)
|`(tactic|ext e)=>`(tactic|refine zbf ?_ ?_ ?_)
|`(tactic|ext f)=>`(tactic|refine zau ?_ ?_ ?_)
|`(tactic|ext g)=>`(tactic|exact zac 0)
|`(tactic|ext h)=>`(tactic|exact zad)
|`(tactic|ext i)=>`(tactic|refine zai ?_)
|`(tactic|ext j)=>`(tactic|exact zah)
|`(tactic|ext k)=>`(tactic|refine zcj ?_ ?_)
|`(tactic|ext l)=>`(tactic|exact (zaI.name (i:=0) rfl))
|`(tactic|ext m)=>`(tactic|exact zac 1)
|`(tactic|ext n)=>`(tactic|refine zaH ?_)
|`(tactic|ext o)=>`(tactic|refine zdP ?_ ?_ ?_)
|`(tactic|ext p)=>`(tactic|exact (BOk.of (Xn:=(zae s_34).names) (XN:=["box","most","lots","many","far","rows","thing","row"]) rfl rfl rfl ⋯))
|`(tactic|ext q)=>`(tactic|refine zaS (id:="len") ?_ ?_ ?_ ?_)
|`(tactic|ext r)=>`(tactic|exact zdZ (c:="NoText") rfl zda T.x_exc ⋯ T.k_9)
|`(tactic|ext s)=>`(tactic|refine zay (T:="str") ?_ ?_ ?_ ?_)
|`(tactic|ext t)=>`(tactic|refine zay (T:="tuple") ?_ ?_ ?_ ?_)
|`(tactic|ext u)=>`(tactic|exact zac 2)
|`(tactic|ext v)=>`(tactic|exact (BOk.of (Xn:=(zae s_46).names) (XN:=["script","k","box","stock","lot","texts","top","bottom","short","way","text","thing"]) rfl rfl rfl ⋯))
|`(tactic|ext w)=>`(tactic|exact T.n_isinstance)
|`(tactic|ext x)=>`(tactic|exact (zbv (zcF hr)))
|`(tactic|ext y)=>`(tactic|exact (BOk.of (Xn:=(zae s_35).names) (XN:=["box","stock","many","offers","gone","left"]) rfl rfl rfl ⋯))
|`(tactic|ext z)=>`(tactic|refine zcd ?_ ?_)
|`(tactic|ext A)=>`(tactic|refine zar (k:=6) (g:=t.a_41) (fd:=t.d_41) (ps:=["way","thing"]) ?_ ?_ ?_ ?_ ?_ ?_)
|`(tactic|ext B)=>`(tactic|exact zaE)
|`(tactic|ext C)=>`(tactic|exact (BOk.of (Xn:=(zae s_33).names) (XN:=["box","many","way","bits","first","step"]) rfl rfl rfl ⋯))
|`(tactic|ext D)=>`(tactic|exact (zbI (zcF hr)))
|`(tactic|ext E)=>`(tactic|exact ⋯)
|`(tactic|ext F)=>`(tactic|refine zcY (k:=2) (g:=t.a_26) (fd:=t.d_26) (ps:=["word"]) ?_ ?_ ?_ ?_ ?_ ?_ ?_)
|`(tactic|ext G)=>`(tactic|refine zar (k:=1) (g:=t.a_12) (fd:=t.d_12) (ps:=["thing"]) ?_ ?_ ?_ ?_ ?_ ?_)
|`(tactic|ext H)=>`(tactic|exact T.F_30.kp)
|`(tactic|ext I)=>`(tactic|refine zar (k:=1) (g:=t.a_39) (fd:=t.d_39) (ps:=["word"]) ?_ ?_ ?_ ?_ ?_ ?_)
|`(tactic|ext J)=>`(tactic|refine zbW ?_)
|`(tactic|ext K)=>`(tactic|refine zaQ 2 ?_ ?_)
|`(tactic|ext L)=>`(tactic|exact zac 3)
|`(tactic|ext M)=>`(tactic|exact zap)
|`(tactic|ext N)=>`(tactic|refine zcY (k:=3) (g:=t.a_25) (fd:=t.d_25) (ps:=["text","between"]) ?_ ?_ ?_ ?_ ?_ ?_ ?_)
|`(tactic|ext O)=>`(tactic|refine zg3 ?_ ?_ ?_ ?_ ?_)
|`(tactic|ext P)=>`(tactic|refine zcw ?_)
|`(tactic|ext Q)=>`(tactic|refine zar (k:=2) (g:=t.a_44) (fd:=t.d_44) (ps:=["box","text"]) ?_ ?_ ?_ ?_ ?_ ?_)
|`(tactic|ext R)=>`(tactic|exact T.n_tuple)
|`(tactic|ext S)=>`(tactic|exact rfl)
|`(tactic|ext T)=>`(tactic|exact T.m_30)
|`(tactic|ext U)=>`(tactic|exact T.b_30)
|`(tactic|ext V)=>`(tactic|refine za9 ?_ ?_)
|`(tactic|ext W)=>`(tactic|refine zhs ?_ ?_ ?_ ?_ ?_)
|`(tactic|ext X)=>`(tactic|refine zc2 ?_)
|`(tactic|ext Y)=>`(tactic|refine zaQ 1 ?_ ?_)
|`(tactic|ext Z)=>`(tactic|exact PassesOwn.never)
|`(tactic|ext aa)=>`(tactic|refine zfI ?_ ?_ ?_)
|`(tactic|ext ab)=>`(tactic|refine zf0 ?_ ?_ ?_)
|`(tactic|ext ac)=>`(tactic|refine zaQ 3 ?_ ?_)
|`(tactic|ext ad)=>`(tactic|exact zaU)
|`(tactic|ext ae)=>`(tactic|exact T.n_str)
|`(tactic|ext af)=>`(tactic|refine zay (T:="int") ?_ ?_ ?_ ?_)
|`(tactic|ext ag)=>`(tactic|refine zbn ?_)
|`(tactic|ext ah)=>`(tactic|exact zac 5)
|`(tactic|ext ai)=>`(tactic|exact G_30)
|`(tactic|ext aj)=>`(tactic|exact T.n_len)
|`(tactic|ext ak)=>`(tactic|exact T.x_exc)
|`(tactic|ext al)=>`(tactic|refine zbw ?_)
|`(tactic|ext am)=>`(tactic|refine zfO ?_ ?_)
|`(tactic|ext an)=>`(tactic|refine zcJ ?_)
|`(tactic|ext ao)=>`(tactic|refine zcL ?_)
|`(tactic|ext ap)=>`(tactic|refine zaQ 4 ?_ ?_)
|`(tactic|ext aq)=>`(tactic|exact T.n_range)
|`(tactic|ext ar)=>`(tactic|refine zcW ?_)
|`(tactic|ext as)=>`(tactic|(ext i;ext n))
|`(tactic|ext au)=>`(tactic|(ext a;ext g))
|`(tactic|ext av)=>`(tactic|(ext e;ext M))
|`(tactic|ext aw)=>`(tactic|(ext j;ext h))
|`(tactic|ext ax)=>`(tactic|(ext d;ext o))
|`(tactic|ext ay)=>`(tactic|(ext au;ext h))
|`(tactic|ext az)=>`(tactic|(ext a;ext m))
|`(tactic|ext aA)=>`(tactic|(ext a;ext aw))
|`(tactic|ext aB)=>`(tactic|(ext b;ext ai))
|`(tactic|ext aC)=>`(tactic|(ext aB;ext c))
|`(tactic|ext aD)=>`(tactic|(ext aC;ext T))
|`(tactic|ext aE)=>`(tactic|(ext aD;ext H))
|`(tactic|ext aF)=>`(tactic|(ext aE;ext U))
|`(tactic|ext aG)=>`(tactic|(ext k;ext g))
|`(tactic|ext aH)=>`(tactic|(ext a;ext u))
|`(tactic|ext aI)=>`(tactic|(ext a;ext B))
|`(tactic|ext aJ)=>`(tactic|(ext az;ext h))
|`(tactic|ext aK)=>`(tactic|(ext z;ext f))
|`(tactic|ext aL)=>`(tactic|(ext J;ext a))
|`(tactic|ext aM)=>`(tactic|(ext l;ext P))
|`(tactic|ext aN)=>`(tactic|(ext aF;ext au))
|`(tactic|ext aO)=>`(tactic|(ext a;ext av))
|`(tactic|ext aP)=>`(tactic|(ext ad;ext d))
|`(tactic|ext aQ)=>`(tactic|(ext aG;ext j))
|`(tactic|ext aR)=>`(tactic|(ext h;ext h))
|`(tactic|ext aS)=>`(tactic|(ext ad;ext as))
|`(tactic|ext aT)=>`(tactic|(ext an;ext ao))
abbrev ya:List Str:=["word"]
abbrev yb:List Str:=["script","k","box","stock","lot","texts","top","bottom","short","way","text","thing"]
abbrev yc:List Str:=["thing"]
abbrev ye:List Str:=["text"]
abbrev yf:List Str:=["script","k"]
abbrev yg:List Str:=["box","most","lots","many","far","rows","thing","row"]
abbrev yh:List Str:=["box","many"]
abbrev yi:List Str:=["many","word","things","sign","price","found"]
abbrev yj:List Str:=["stock","words","things","price"]
abbrev yk:List Str:=["stock"]
abbrev yn:List Str:=["box","stock","many","offers","gone","left"]
abbrev yo:List Str:=["text","words","many","offers"]
abbrev yp:List Str:=["box","most","lots"]
abbrev yq:List Str:=["lot"]
abbrev yr:List Str:=["script","k","cell","number","mixed","j"]
abbrev yt:List Str:=["box","many","way","bits","first","step"]
abbrev yu:List Str:=["offer"]
abbrev yw:List Str:=["text","between","numbers"]
abbrev yx:List Str:=["thing","bound"]
abbrev yy:List Str:=["thing","bound","least","number"]
abbrev yz:List Str:=["thing","many","offers"]
abbrev yaa:List Str:=["thing","many","things","price"]
abbrev yab:List Str:=["box","text","at","sign","some"]
abbrev yac:List Str:=["thing","many"]
abbrev yad:List Str:=["top","bottom"]
abbrev yae:List Str:=["text","words","stock"]
abbrev yaf:List Str:=["box","stock"]
abbrev yag:List Str:=["text","between"]
abbrev yah:List Str:=["many","word"]
abbrev yai:List Str:=["top","bottom","one","other"]
abbrev yaj:List Str:=["way","text"]
abbrev yak:List Str:=["e","kinds","words"]
abbrev yal:List Str:=["way","text","due","found"]
abbrev yam:List Str:=["way","thing"]
abbrev yan:List Str:=["fraction"]
abbrev yao:List Str:=["box","text"]
abbrev yap:List Str:=["script"]
abbrev yaq:List Str:=["box","many","digit"]
abbrev yar:List Str:=["words","some"]
abbrev yas:List Str:=["words"]
def top (i:Nat):Stmt:=PySem.Challenge.pw_cheapcovers_k96_texts_of_stocks_and_lots.main.body.getD i (.Pass ⟨0,0,0,0⟩)
theorem zcF {A:Around} {k:Nat} (hr:zdL k A):A.units+60<cLine:=by have:=hr.units;omega
theorem zsC {A:Around} {k:Nat} (hr:zdH k A):A.units+60<cLine:=by have:=hr.un;omega
theorem zpW {P:Program} {w:World} {K:W.Frag} {mg:Str->Option Value} {base:Heap} {N:List Str} {qual:Str} {scope:Scope} {f:Addr} {cd:Value} {A:Around} {outer:List Env} {s:Shared} {H:Hp} {E:XK}:zcO (zgU CX0 P w K mg base N qual scope f cd A outer s H E).nox:=⟨rfl,rfl,rfl⟩
theorem znz:bootBuiltins "abs"=some (.builtin "abs"):=by decide +kernel
theorem zno:bootBuiltins "all"=some (.builtin "all"):=by decide +kernel
theorem zpA:bootBuiltins "bool"=some (.type "bool"):=by decide +kernel
theorem zg6:bootBuiltins "int"=some (.type "int"):=by decide +kernel
theorem zcp:bootBuiltins "len"=some (.builtin "len"):=by decide +kernel
theorem zrf:bootBuiltins "max"=some (.builtin "max"):=by decide +kernel
theorem zru:bootBuiltins "min"=some (.builtin "min"):=by decide +kernel
theorem zkT:bootBuiltins "sorted"=some (.builtin "sorted"):=by decide +kernel
theorem zb2:bootBuiltins "str"=some (.type "str"):=by decide +kernel
theorem zp0:bootBuiltins "sum"=some (.builtin "sum"):=by decide +kernel
theorem zaZ:bootBuiltins "tuple"=some (.type "tuple"):=by decide +kernel
abbrev s_28:Stmt:=top 37
abbrev s_29:Stmt:=top 38
abbrev s_30:Stmt:=top 39
abbrev s_33:Stmt:=top 42
abbrev s_34:Stmt:=top 43
abbrev s_35:Stmt:=top 44
abbrev s_37:Stmt:=top 46
abbrev s_38:Stmt:=top 47
abbrev s_32:Stmt:=top 41
abbrev s_23:Stmt:=top 31
abbrev s_27:Stmt:=top 35
abbrev s_26:Stmt:=top 34
abbrev s_25:Stmt:=top 33
abbrev s_24:Stmt:=top 32
abbrev s_13:Stmt:=top 15
abbrev s_12:Stmt:=top 14
abbrev s_14:Stmt:=top 16
abbrev s_16:Stmt:=top 21
abbrev s_15:Stmt:=top 20
abbrev s_20:Stmt:=top 28
abbrev s_21:Stmt:=top 29
abbrev s_41:Stmt:=top 50
abbrev s_18:Stmt:=top 26
abbrev s_22:Stmt:=top 30
abbrev s_17:Stmt:=top 25
abbrev s_36:Stmt:=top 45
abbrev s_19:Stmt:=top 27
abbrev s_44:Stmt:=top 53
abbrev s_39:Stmt:=top 48
abbrev s_40:Stmt:=top 49
abbrev s_42:Stmt:=top 51
abbrev s_43:Stmt:=top 52
abbrev s_45:Stmt:=top 54
abbrev s_31:Stmt:=top 40
abbrev s_46:Stmt:=top 55
structure Ad where
 a_0:Addr
 a_1:Addr
 a_2:Addr
 a_3:Addr
 a_4:Addr
 a_5:Addr
 a_6:Addr
 a_7:Addr
 a_8:Addr
 a_9:Addr
 a_10:Addr
 a_11:Addr
 a_28:Addr
 d_28:FuncData
 a_29:Addr
 d_29:FuncData
 a_30:Addr
 d_30:FuncData
 a_33:Addr
 d_33:FuncData
 a_34:Addr
 d_34:FuncData
 a_35:Addr
 d_35:FuncData
 a_37:Addr
 d_37:FuncData
 a_38:Addr
 d_38:FuncData
 a_32:Addr
 d_32:FuncData
 a_23:Addr
 d_23:FuncData
 a_27:Addr
 d_27:FuncData
 a_26:Addr
 d_26:FuncData
 a_25:Addr
 d_25:FuncData
 a_24:Addr
 d_24:FuncData
 a_13:Addr
 d_13:FuncData
 a_12:Addr
 d_12:FuncData
 a_14:Addr
 d_14:FuncData
 a_16:Addr
 d_16:FuncData
 a_15:Addr
 d_15:FuncData
 a_20:Addr
 d_20:FuncData
 a_21:Addr
 d_21:FuncData
 a_41:Addr
 d_41:FuncData
 a_18:Addr
 d_18:FuncData
 a_22:Addr
 d_22:FuncData
 a_17:Addr
 d_17:FuncData
 a_36:Addr
 d_36:FuncData
 a_19:Addr
 d_19:FuncData
 a_44:Addr
 d_44:FuncData
 a_39:Addr
 d_39:FuncData
 a_40:Addr
 d_40:FuncData
 a_42:Addr
 d_42:FuncData
 a_43:Addr
 d_43:FuncData
 a_45:Addr
 d_45:FuncData
 a_31:Addr
 d_31:FuncData
 a_46:Addr
 d_46:FuncData
structure Tx (K:W.Frag) (mg:Str->Option Value) (t:Ad):Prop where
 n_ValueError:mg "ValueError"=none
 n_abs:mg "abs"=none
 n_all:mg "all"=none
 n_bool:mg "bool"=none
 n_int:mg "int"=none
 n_isinstance:mg "isinstance"=none
 n_len:mg "len"=none
 n_max:mg "max"=none
 n_min:mg "min"=none
 n_range:mg "range"=none
 n_set:mg "set"=none
 n_sorted:mg "sorted"=none
 n_str:mg "str"=none
 n_sum:mg "sum"=none
 n_tuple:mg "tuple"=none
 g_0:mg "CoverError"=some (.ref t.a_0)
 g_1:mg "NoStock"=some (.ref t.a_1)
 g_2:mg "NoOffer"=some (.ref t.a_2)
 g_3:mg "NoThing"=some (.ref t.a_3)
 g_4:mg "NoCover"=some (.ref t.a_4)
 g_5:mg "NoPaper"=some (.ref t.a_5)
 g_6:mg "NoNumber"=some (.ref t.a_6)
 g_7:mg "NotFull"=some (.ref t.a_7)
 g_8:mg "NotInRow"=some (.ref t.a_8)
 g_9:mg "NoText"=some (.ref t.a_9)
 g_10:mg "NoRow"=some (.ref t.a_10)
 g_11:mg "TooMany"=some (.ref t.a_11)
 k_1:zbG K "NoStock" t.a_1
 k_2:zbG K "NoOffer" t.a_2
 k_3:zbG K "NoThing" t.a_3
 k_4:zbG K "NoCover" t.a_4
 k_5:zbG K "NoPaper" t.a_5
 k_6:zbG K "NoNumber" t.a_6
 k_7:zbG K "NotFull" t.a_7
 k_8:zbG K "NotInRow" t.a_8
 k_9:zbG K "NoText" t.a_9
 k_10:zbG K "NoRow" t.a_10
 k_11:zbG K "TooMany" t.a_11
 x_exc:zlF K t.a_0 zb1
 c_FIGURES: ∃ k,mg "FIGURES"=some (.str "0123456789" k)
 c_MOST_FIGURES: ∃ k,mg "MOST_FIGURES"=some (.int 40 k)
 c_MOST_OFFERS: ∃ k,mg "MOST_OFFERS"=some (.int 12 k)
 c_MOST_THINGS: ∃ k,mg "MOST_THINGS"=some (.int 10 k)
 m_28:mg "_law_cell"=some (.ref t.a_28)
 F_28:Fun K "_law_cell" "_law_cell" s_28 t.a_28 t.d_28
 b_28:zaJ K t.d_28 yf []
 m_29:mg "_law_box"=some (.ref t.a_29)
 F_29:Fun K "_law_box" "_law_box" s_29 t.a_29 t.d_29
 b_29:zaJ K t.d_29 yf []
 m_30:mg "_law_take"=some (.ref t.a_30)
 F_30:Fun K "_law_take" "_law_take" s_30 t.a_30 t.d_30
 b_30:zaJ K t.d_30 yh []
 m_33:mg "_law_things"=some (.ref t.a_33)
 F_33:Fun K "_law_things" "_law_things" s_33 t.a_33 t.d_33
 b_33:zaJ K t.d_33 yh []
 m_34:mg "_law_full"=some (.ref t.a_34)
 F_34:Fun K "_law_full" "_law_full" s_34 t.a_34 t.d_34
 b_34:zaJ K t.d_34 yp []
 m_35:mg "_law_holed"=some (.ref t.a_35)
 F_35:Fun K "_law_holed" "_law_holed" s_35 t.a_35 t.d_35
 b_35:zaJ K t.d_35 yaf []
 m_37:mg "_law_stock_text"=some (.ref t.a_37)
 F_37:Fun K "_law_stock_text" "_law_stock_text" s_37 t.a_37 t.d_37
 b_37:zaJ K t.d_37 yk []
 m_38:mg "_law_lot_text"=some (.ref t.a_38)
 F_38:Fun K "_law_lot_text" "_law_lot_text" s_38 t.a_38 t.d_38
 b_38:zaJ K t.d_38 yq []
 m_32:mg "_law_kind"=some (.ref t.a_32)
 F_32:Fun K "_law_kind" "_law_kind" s_32 t.a_32 t.d_32
 b_32:zaJ K t.d_32 ["e"] []
 m_23:mg "need_text"=some (.ref t.a_23)
 F_23:Fun K "need_text" "need_text" s_23 t.a_23 t.d_23
 b_23:zaJ K t.d_23 ye []
 m_27:mg "is_number_text"=some (.ref t.a_27)
 F_27:Fun K "is_number_text" "is_number_text" s_27 t.a_27 t.d_27
 b_27:zaJ K t.d_27 ya []
 m_26:mg "number_read"=some (.ref t.a_26)
 F_26:Fun K "number_read" "number_read" s_26 t.a_26 t.d_26
 b_26:zaJ K t.d_26 ya []
 m_25:mg "rising_read"=some (.ref t.a_25)
 F_25:Fun K "rising_read" "rising_read" s_25 t.a_25 t.d_25
 b_25:zaJ K t.d_25 yag []
 m_24:mg "offer_read"=some (.ref t.a_24)
 F_24:Fun K "offer_read" "offer_read" s_24 t.a_24 t.d_24
 b_24:zaJ K t.d_24 ya []
 m_13:mg "is_pair"=some (.ref t.a_13)
 F_13:Fun K "is_pair" "is_pair" s_13 t.a_13 t.d_13
 b_13:zaJ K t.d_13 yc []
 m_12:mg "is_whole"=some (.ref t.a_12)
 F_12:Fun K "is_whole" "is_whole" s_12 t.a_12 t.d_12
 b_12:zaJ K t.d_12 yc []
 m_14:mg "is_rising"=some (.ref t.a_14)
 F_14:Fun K "is_rising" "is_rising" s_14 t.a_14 t.d_14
 b_14:zaJ K t.d_14 yx []
 m_16:mg "is_offer"=some (.ref t.a_16)
 F_16:Fun K "is_offer" "is_offer" s_16 t.a_16 t.d_16
 b_16:zaJ K t.d_16 yac []
 m_15:mg "is_stock"=some (.ref t.a_15)
 F_15:Fun K "is_stock" "is_stock" s_15 t.a_15 t.d_15
 b_15:zaJ K t.d_15 yc []
 m_20:mg "stock_read"=some (.ref t.a_20)
 F_20:Fun K "stock_read" "stock_read" s_20 t.a_20 t.d_20
 b_20:zaJ K t.d_20 ye []
 m_21:mg "lot_read"=some (.ref t.a_21)
 F_21:Fun K "lot_read" "lot_read" s_21 t.a_21 t.d_21
 b_21:zaJ K t.d_21 ye []
 m_41:mg "_law_asked"=some (.ref t.a_41)
 F_41:Fun K "_law_asked" "_law_asked" s_41 t.a_41 t.d_41
 b_41:zaJ K t.d_41 yam []
 m_18:mg "lot_text"=some (.ref t.a_18)
 F_18:Fun K "lot_text" "lot_text" s_18 t.a_18 t.d_18
 b_18:zaJ K t.d_18 yq []
 m_22:mg "offer_text"=some (.ref t.a_22)
 F_22:Fun K "offer_text" "offer_text" s_22 t.a_22 t.d_22
 b_22:zaJ K t.d_22 yu []
 m_17:mg "stock_text"=some (.ref t.a_17)
 F_17:Fun K "stock_text" "stock_text" s_17 t.a_17 t.d_17
 b_17:zaJ K t.d_17 yk []
 m_36:mg "_law_frac"=some (.ref t.a_36)
 F_36:Fun K "_law_frac" "_law_frac" s_36 t.a_36 t.d_36
 b_36:zaJ K t.d_36 yad []
 m_19:mg "fraction_text"=some (.ref t.a_19)
 F_19:Fun K "fraction_text" "fraction_text" s_19 t.a_19 t.d_19
 b_19:zaJ K t.d_19 yan []
 m_44:mg "_law_spoilt"=some (.ref t.a_44)
 F_44:Fun K "_law_spoilt" "_law_spoilt" s_44 t.a_44 t.d_44
 b_44:zaJ K t.d_44 yao []
 m_39:mg "_law_number"=some (.ref t.a_39)
 F_39:Fun K "_law_number" "_law_number" s_39 t.a_39 t.d_39
 b_39:zaJ K t.d_39 ya []
 m_40:mg "_law_rising"=some (.ref t.a_40)
 F_40:Fun K "_law_rising" "_law_rising" s_40 t.a_40 t.d_40
 b_40:zaJ K t.d_40 yas []
 m_42:mg "_law_offer_in"=some (.ref t.a_42)
 F_42:Fun K "_law_offer_in" "_law_offer_in" s_42 t.a_42 t.d_42
 b_42:zaJ K t.d_42 yah []
 m_43:mg "_law_stock_in"=some (.ref t.a_43)
 F_43:Fun K "_law_stock_in" "_law_stock_in" s_43 t.a_43 t.d_43
 b_43:zaJ K t.d_43 ye []
 m_45:mg "_law_right"=some (.ref t.a_45)
 F_45:Fun K "_law_right" "_law_right" s_45 t.a_45 t.d_45
 b_45:zaJ K t.d_45 yaj []
 m_31:mg "_law_odd"=some (.ref t.a_31)
 F_31:Fun K "_law_odd" "_law_odd" s_31 t.a_31 t.d_31
 b_31:zaJ K t.d_31 ["box"] []
 m_46:mg "law"=some (.ref t.a_46)
 F_46:Fun K "law" "law" s_46 t.a_46 t.d_46
 b_46:zaJ K t.d_46 yap []
section
variable {P:Program} {w:World} {K:W.Frag} {mg:Str->Option Value} {base:Heap} {t:Ad}
theorem sc_28:zao yf yf (zae s_28):=⟨rfl,rfl,rfl,⋯,rfl,⋯,⋯⟩
theorem ok_28 (T:Tx K mg t):zbE P w K mg base CX0 1 t.a_28 t.d_28 yf (zbY K 2 F_28):=by
 refine zbs (k:=0) (G:=G_28) (N:=yf) (ps:=yf) (st:=s_28) T.F_28 sc_28 λcdv A outer s H E hr=> ?_
 ext ax;ext f
 exact zfn
 ext m;ext q
 exact zbm
 exact zcp
 ext aj;ext ay;ext as;ext aG;ext m;ext aS;ext av;ext e
 exact zdn
 ext j;ext m;ext j
theorem nd_29:(yr:List Str).Nodup:=⋯
theorem sc_29:zao yr yf (zae s_29):=⟨rfl,rfl,rfl,⋯,rfl,⋯,⋯⟩
theorem ok_29 (T:Tx K mg t):zbE P w K mg base CX0 2 t.a_29 t.d_29 yf (zbY K 2 F_29):=by
 have G_28:=ok_28 (P:=P) (w:=w) (base:=base) T
 refine zbs (k:=1) (G:=G_29) (N:=yr) (ps:=yf) (st:=s_29) T.F_29 sc_29 λcdv A outer s H E hr=> ?_
 ext d;ext K
 exact nd_29
 refine zar (k:=1) (g:=t.a_28) (fd:=t.d_28) (ps:=yf) ?_ ?_ ?_ ?_ ?_ ?_
 exact G_28
 ext c
 exact T.m_28
 exact T.F_28.kp
 exact T.b_28
 ext au;ext aJ;ext ax;ext f;ext x;ext e
 exact zd5
 ext u;ext j;ext j;ext as
 refine zio ?_
 ext a;ext e
 exact zie
 ext u;ext aw;ext aP;ext ac
 exact nd_29
 ext j;ext d;ext ap
 exact nd_29
 ext e
 exact zd5
 ext u;ext j;ext d;ext W;ext S;ext Z;ext am;ext aq;ext aA
 exact zas 5 nd_29
 ext d;ext ap
 exact nd_29
 ext e
 exact zd5
 ext av;ext av;ext av;ext e
 exact zdn
 exact zac 4
 ext j;ext e
 exact zdn
 ext e
 exact zdn
 ext j;ext ah;ext ah;ext e
 exact zdn
 ext j;ext m;ext j;ext j;ext i;ext ac
 exact nd_29
 ext av;ext e
 exact zdn
 ext L;ext j
 exact zac 4
 ext as
 refine zio ?_
 ext a;ext L;ext h
theorem nd_30:(yaq:List Str).Nodup:=⋯
theorem sc_30:zao yaq yh (zae s_30):=⟨rfl,rfl,rfl,⋯,rfl,⋯,⋯⟩
theorem ok_30 (T:Tx K mg t):zbE P w K mg base CX0 1 t.a_30 t.d_30 yh (zbY K 2 F_30):=by
 refine zbs (k:=0) (G:=G_30) (N:=yaq) (ps:=yh) (st:=s_30) T.F_30 sc_30 λcdv A outer s H E hr=> ?_
 ext d;ext K
 exact nd_30
 ext e
 exact zd5
 ext aQ;ext m;ext d
 refine zjr ?_ ?_
 ext e
 exact zie
 ext aQ;ext m
 refine znw ?_ ?_
 ext g;ext j;ext as;ext u
theorem nd_33:(yt:List Str).Nodup:=⋯
theorem zsu:(["thing","bits"]:List Str).Nodup:=⋯
theorem zrn:(["k","first","step","many"]:List Str).Nodup:=⋯
theorem sc_33:zao yt yh (zae s_33):=⟨rfl,rfl,rfl,⋯,rfl,⋯,⋯⟩
theorem ok_33 (T:Tx K mg t):zbE P w K mg base CX0 2 t.a_33 t.d_33 yh (zbY K 2 F_33):=by
 have G_30:=ok_30 (P:=P) (w:=w) (base:=base) T
 refine zbs (k:=1) (G:=G_33) (N:=yt) (ps:=yh) (st:=s_33) T.F_33 sc_33 λcdv A outer s H E hr=> ?_
 ext d;ext K
 exact nd_33
 ext aN;ext aA;ext ax;ext f;ext x;ext u;ext j;ext d;ext ac
 exact nd_33
 ext av;ext j;ext aN;ext a;ext e
 exact zhD
 ext e
 exact zoy
 ext j;ext m;ext aw;ext as;ext t
 exact zaP
 exact zaZ
 ext R;ext a
 refine zbS (N:=["thing","bits"]) ?_ ?_ ?_ ?_ ?_ ?_ ?_
 ext S;ext C;ext l;ext am;ext aq;ext aJ
 intro _ _ _
 exact zas 0 zsu
 intro _ _ _
 refine zgB ?_
 ext f;ext x;ext e
 exact zoc
 ext e
 exact zo2
 ext m;ext g;ext j;ext j
 intro _ _ _
 ext g;ext h;ext aP
 refine zjr ?_ ?_
 ext aL;ext aN;ext aJ;ext a;ext k;ext X;ext a;ext j;ext aO;ext j;ext aN;ext aA;ext h;ext e
 exact zhD
 ext u;ext aw
 refine zfe ?_ ?_
 ext S;ext V
 exact zas 4 nd_33
 ext V
 exact zas 5 nd_33
 exact zdW
 ext as;ext t
 exact zaP
 exact zaZ
 ext R;ext a
 refine zeT ?_ ?_ ?_ ?_
 ext S
 exact T.n_sorted
 exact T.n_set
 refine zbS (N:=["k","first","step","many"]) ?_ ?_ ?_ ?_ ?_ ?_ ?_
 ext S;ext C;ext l;ext am;ext aq;ext aO;ext j;ext aN;ext aA;ext h
 intro _ _ _
 exact zas 0 zrn
 intro _ _ _
 exact zbD
 intro _ _ _
 ext e
 exact zd5
 ext av;ext m;ext e
 exact zdn
 ext u;ext g;ext L;ext h
theorem nd_34:(yg:List Str).Nodup:=⋯
theorem zse:(["k","box","many","far"]:List Str).Nodup:=⋯
theorem zp4:(["row","thing"]:List Str).Nodup:=⋯
theorem zro:(["row"]:List Str).Nodup:=⋯
theorem sc_34:zao yg yp (zae s_34):=⟨rfl,rfl,rfl,⋯,rfl,⋯,⋯⟩
theorem ok_34 (T:Tx K mg t):zbE P w K mg base CX0 3 t.a_34 t.d_34 yp (zbY K 3 F_34):=by
 have G_30:=ok_30 (P:=P) (w:=w) (base:=base) T
 have G_33:=ok_33 (P:=P) (w:=w) (base:=base) T
 refine zbs (k:=2) (G:=G_34) (N:=yg) (ps:=yp) (st:=s_34) T.F_34 sc_34 λcdv A outer s H E hr=> ?_
 ext d;ext ac
 exact nd_34
 ext av;ext j;ext aN;ext aJ;ext d;ext ap
 exact nd_34
 ext k;ext X;ext a;ext j;ext a;ext j;ext a;ext j;ext a;ext e
 exact zoU
 ext j;ext aw;ext aN;ext aA;ext d
 refine zdy 5 (N:=["k","box","many","far"]) ?_ ?_ ?_ ?_ ?_ ?_ ?_ ?_
 ext S
 exact nd_34
 ext p;ext l;ext am;ext aq;ext aO;ext j;ext aN;ext aH;ext aR
 intro _ _ _
 exact zas 0 zse
 intro _ _ _
 exact zbD
 intro _ _ _
 refine zio ?_
 ext a
 refine zar (k:=2) (g:=t.a_33) (fd:=t.d_33) (ps:=yh) ?_ ?_ ?_ ?_ ?_ ?_
 exact G_33
 ext c
 exact T.m_33
 exact T.F_33.kp
 exact T.b_33
 ext az;ext aH;ext h;ext aO;ext j;ext aF;ext az;ext a;ext L;ext aR;ext d;ext W;ext S;ext Z;ext am;ext aq;ext a;ext L;ext h
 exact zas 6 nd_34
 ext i;ext o;ext f
 exact (zrh (zcF hr))
 refine zbS (N:=["row","thing"]) ?_ ?_ ?_ ?_ ?_ ?_ ?_
 ext S;ext p;ext aM;ext ah
 intro _ _ _
 exact zas 0 zp4
 intro _ _ _
 refine zgB ?_
 ext f
 exact (zia (zcF hr))
 ext m;ext aQ
 intro _ _ _
 ext g;ext X;ext h;ext d
 refine zaQ 7 ?_ ?_
 exact nd_34
 ext k;ext ah;ext aN;ext a;ext q
 exact zbm
 exact zcp
 ext aj;ext a;ext ah;ext aR;ext i
 refine zjr ?_ ?_
 ext t
 exact zaP
 exact zaZ
 ext R;ext a
 refine zaS (id:="sorted") ?_ ?_ ?_ ?_
 exact (zgm rfl)
 exact zkT
 exact T.n_sorted
 ext aO;ext k
 exact zac 7
 ext j;ext aL
 exact zac 6
 ext aR;ext h
 refine znw ?_ ?_
 exact zac 7
 ext j;ext aS;ext aL;ext L;ext a;ext t
 exact zaP
 exact zaZ
 ext R;ext a
 refine zbS (N:=["row"]) ?_ ?_ ?_ ?_ ?_ ?_ ?_
 ext S;ext p;ext aM;ext ah
 intro _ _ _
 exact zas 0 zro
 intro _ _ _
 exact zbD
 intro _ _ _
 ext aL;ext aQ;ext a;ext aG;ext aw;ext aR
theorem nd_35:(yn:List Str).Nodup:=⋯
theorem znO:(["things","price","gone"]:List Str).Nodup:=⋯
theorem zrX:(["thing","gone"]:List Str).Nodup:=⋯
theorem zrQ:(yu:List Str).Nodup:=⋯
theorem sc_35:zao yn yaf (zae s_35):=⟨rfl,rfl,rfl,⋯,rfl,⋯,⋯⟩
theorem ok_35 (T:Tx K mg t):zbE P w K mg base CX0 2 t.a_35 t.d_35 yaf (zbY K 2 F_35):=by
 have G_30:=ok_30 (P:=P) (w:=w) (base:=base) T
 refine zbs (k:=1) (G:=G_35) (N:=yn) (ps:=yaf) (st:=s_35) T.F_35 sc_35 λcdv A outer s H E hr=> ?_
 ext d
 refine zjr ?_ ?_
 ext m
 refine zfe ?_ ?_
 ext S;ext V
 exact zas 2 nd_35
 ext V
 exact zas 3 nd_35
 exact zdW
 ext d;ext ap
 exact nd_35
 ext aN;ext aH;ext h;ext d
 refine zdy 5 (N:=["things","price","gone"]) ?_ ?_ ?_ ?_ ?_ ?_ ?_ ?_
 ext S
 exact nd_35
 ext y
 exact (zaI.tup (zcs.cons (i:=0) rfl (zcs.cons (i:=1) rfl zcs.nil)))
 ext P;ext L
 intro _ _ _
 refine zfe ?_ ?_
 ext S;ext V
 exact zas 0 znO
 ext V
 exact zas 1 znO
 exact zdW
 intro _ _ _
 exact zbD
 intro _ _ _
 ext aL;ext t
 exact zaP
 exact zaZ
 ext R;ext a
 refine zbS (N:=["thing","gone"]) ?_ ?_ ?_ ?_ ?_ ?_ ?_
 ext S
 exact (BOk.of (N:=["thing","gone"]) (src:=[none,some 2]) rfl rfl rfl (by rfl))
 ext aM;ext g
 intro _ _ _
 exact zas 0 zrX
 intro _ _ _
 refine zgB ?_
 ext f;ext D;ext g;ext m
 intro _ _ _
 ext g;ext h;ext aJ;ext as;ext J;ext aH;ext a;ext t
 exact zaP
 exact zaZ
 ext R;ext a
 refine zbS (N:=yu) ?_ ?_ ?_ ?_ ?_ ?_ ?_
 ext S;ext y;ext aM;ext ah
 intro _ _ _
 exact zas 0 zrQ
 intro _ _ _
 refine zgB ?_
 ext f;ext D;ext aQ;ext J;ext h
 intro _ _ _
 ext g;ext aR
theorem nd_37:(yj:List Str).Nodup:=⋯
theorem zq7:(yc:List Str).Nodup:=⋯
theorem sc_37:zao yj yk (zae s_37):=⟨rfl,rfl,rfl,⋯,rfl,⋯,⋯⟩
theorem ok_37 (T:Tx K mg t):zbE P w K mg base CX0 1 t.a_37 t.d_37 yk (zbY K 1 F_37):=by
 refine zbs (k:=0) (G:=G_37) (N:=yj) (ps:=yk) (st:=s_37) T.F_37 sc_37 λcdv A outer s H E hr=> ?_
 ext d;ext Y
 exact nd_37
 refine zio ?_
 ext a;ext s
 exact za3
 exact zb2
 ext ae;ext a;ext aG;ext aw;ext aI;ext h;ext d;ext W;ext S;ext Z;ext P;ext aQ
 refine zfe ?_ ?_
 ext S;ext V
 exact zas 2 nd_37
 ext V
 exact zas 3 nd_37
 exact zdW
 ext i
 refine zlB ?_
 refine zm4 ?_ ?_
 ext m;ext av;ext av
 refine zeN ?_ ?_
 ext B
 refine zbS (N:=yc) ?_ ?_ ?_ ?_ ?_ ?_ ?_
 ext S
 exact (BOk.of (Xn:=(zae s_37).names) (XN:=yj) rfl rfl rfl ⋯)
 ext aM;ext u
 intro _ _ _
 exact zas 0 zq7
 intro _ _ _
 exact zbD
 intro _ _ _
 ext s
 exact za3
 exact zb2
 ext ae;ext ay;ext B;ext s
 exact za3
 exact zb2
 ext ae;ext a;ext L;ext h;ext as
 refine zeN ?_ ?_
 ext B;ext m
theorem zqU:(["one"]:List Str).Nodup:=⋯
theorem sc_38:zao yq yq (zae s_38):=⟨rfl,rfl,rfl,⋯,rfl,⋯,⋯⟩
theorem ok_38 (T:Tx K mg t):zbE P w K mg base CX0 1 t.a_38 t.d_38 yq (zbY K 1 F_38):=by
 refine zbs (k:=0) (G:=G_38) (N:=yq) (ps:=yq) (st:=s_38) T.F_38 sc_38 λcdv A outer s H E hr=> ?_
 ext as
 refine zsI ?_ ?_
 refine zeN ?_ ?_
 ext B
 refine zbS (N:=["one"]) ?_ ?_ ?_ ?_ ?_ ?_ ?_
 ext S
 exact (BOk.of (Xn:=(zae s_38).names) (XN:=yq) rfl rfl rfl ⋯)
 ext aM;ext g
 intro _ _ _
 exact zas 0 zqU
 intro _ _ _
 exact zbD
 intro _ _ _
 ext s
 exact za3
 exact zb2
 ext ae;ext ay
 refine zhq ?_
 ext B
theorem nd_32:(yak:List Str).Nodup:=⋯
theorem ztJ:(["kind"]:List Str).Nodup:=⋯
theorem sc_32:zao yak ["e"] (zae s_32):=⟨rfl,rfl,rfl,⋯,rfl,⋯,⋯⟩
theorem ok_32 (T:Tx K mg t):FnH P w K mg base  1 t.a_32 t.d_32 ["e"] (zbY K 1 F_32):=by
 refine zqE (k:=0) (G:=G_32) (N:=yak) (ps:=["e"]) (st:=s_32) T.F_32 sc_32 λcdv A outer s H hr=> ?_
 ext d;ext Y
 exact nd_32
 ext X;ext a
 refine zeP (CE:=t.a_0) (CC:=t.a_1) ?_ ?_ ?_ ?_ ?_ ?_
 ext ak;ext E
 exact T.k_1
 ext w
 exact T.g_1
 ext g;ext a
 refine zeP (CE:=t.a_0) (CC:=t.a_2) ?_ ?_ ?_ ?_ ?_ ?_
 ext ak;ext E
 exact T.k_2
 ext w
 exact T.g_2
 ext g;ext a
 refine zeP (CE:=t.a_0) (CC:=t.a_3) ?_ ?_ ?_ ?_ ?_ ?_
 ext ak;ext E
 exact T.k_3
 ext w
 exact T.g_3
 ext g;ext a
 refine zeP (CE:=t.a_0) (CC:=t.a_4) ?_ ?_ ?_ ?_ ?_ ?_
 ext ak;ext E
 exact T.k_4
 ext w
 exact T.g_4
 ext g;ext h;ext d;ext Y
 exact nd_32
 ext av;ext m;ext X;ext a
 refine zeP (CE:=t.a_0) (CC:=t.a_5) ?_ ?_ ?_ ?_ ?_ ?_
 ext ak;ext E
 exact T.k_5
 ext w
 exact T.g_5
 ext g;ext a
 refine zeP (CE:=t.a_0) (CC:=t.a_6) ?_ ?_ ?_ ?_ ?_ ?_
 ext ak;ext E
 exact T.k_6
 ext w
 exact T.g_6
 ext g;ext a
 refine zeP (CE:=t.a_0) (CC:=t.a_7) ?_ ?_ ?_ ?_ ?_ ?_
 ext ak;ext E
 exact T.k_7
 ext w
 exact T.g_7
 ext g;ext a
 refine zeP (CE:=t.a_0) (CC:=t.a_8) ?_ ?_ ?_ ?_ ?_ ?_
 ext ak;ext E
 exact T.k_8
 ext w
 exact T.g_8
 ext g;ext h;ext d;ext Y
 exact nd_32
 ext av;ext m;ext X;ext a
 refine zeP (CE:=t.a_0) (CC:=t.a_9) ?_ ?_ ?_ ?_ ?_ ?_
 ext ak;ext E
 exact T.k_9
 ext w
 exact T.g_9
 ext g;ext a
 refine zeP (CE:=t.a_0) (CC:=t.a_10) ?_ ?_ ?_ ?_ ?_ ?_
 ext ak;ext E
 exact T.k_10
 ext w
 exact T.g_10
 ext g;ext a
 refine zeP (CE:=t.a_0) (CC:=t.a_11) ?_ ?_ ?_ ?_ ?_ ?_
 ext ak;ext E
 exact T.k_11
 ext w
 exact T.g_11
 ext g;ext h;ext ax;ext al;ext z;ext aT
 refine zr7 (CE:=t.a_0) ?_ ?_ ?_ ?_
 ext ak;ext w
 exact T.n_ValueError
 ext g;ext ar;ext f
 exact (zbI (zsC hr))
 refine zaS (id:="sum") ?_ ?_ ?_ ?_
 exact ziW
 exact zp0
 exact T.n_sum
 ext a
 refine znY (N:=["kind"]) ?_ ?_ ?_ ?_ ?_ ?_
 exact (BOk.of (Xn:=(zae s_32).names) (XN:=yak) rfl rfl rfl ⋯)
 ext aM;ext m
 intro _ _ _
 exact zas 0 ztJ
 intro _ _ _
 exact zbD
 intro _ _ _
 ext af
 exact zfd
 exact zg6
 exact T.n_int
 ext ay;ext h;ext j;ext as;ext B;ext aP;ext K
 exact nd_32
 ext X;ext aI;ext aI;ext aI;ext aI;ext aI;ext aI;ext aI;ext aI;ext aI;ext aI;ext aI;ext h;ext as;ext av;ext B;ext k;ext u
 refine zo5 ?_
 ext m
theorem sc_23:zao ye ye (zae s_23):=⟨rfl,rfl,rfl,⋯,rfl,⋯,⋯⟩
theorem ok_23 (T:Tx K mg t):zbE P w K mg base (CXE P w) 1 t.a_23 t.d_23 ye (spE K 1 F_23):=by
 refine zfl (k:=0) (G:=G_23) (N:=ye) (ps:=ye) (st:=s_23) T.F_23 sc_23 λcdv A outer s H E hr=> ?_
 ext i;ext o;ext aT;ext O
 exact zjN
 exact zb2
 ext w;ext ae;ext g;ext i;ext r;ext ad
theorem zsF:(["sign"]:List Str).Nodup:=⋯
theorem sc_27:zao ya ya (zae s_27):=⟨rfl,rfl,rfl,⋯,rfl,⋯,⋯⟩
theorem ok_27 (T:Tx K mg t):zbE P w K mg base CX0 1 t.a_27 t.d_27 ya (zbY K 1 F_27):=by
 refine zbs (k:=0) (G:=G_27) (N:=ya) (ps:=ya) (st:=s_27) T.F_27 sc_27 λcdv A outer s H E hr=> ?_
 ext ax;ext al;ext aK
 exact zfn
 ext q
 exact zdw
 exact zcp
 ext aj;ext ay;ext j;ext ar;ext f
 exact zdM
 ext q
 exact zdw
 exact zcp
 ext aj;ext ay
 exact zhz T.c_MOST_FIGURES
 ext as
 exact zhk
 ext aS
 refine zhw ?_ ?_
 refine zaS (id:="all") ?_ ?_ ?_ ?_
 exact (zgh rfl)
 exact zno
 exact T.n_all
 ext a
 refine zbS (N:=["sign"]) ?_ ?_ ?_ ?_ ?_ ?_ ?_
 ext S
 exact (BOk.of (Xn:=(zae s_27).names) (XN:=ya) rfl rfl rfl ⋯)
 ext l
 refine zmr ?_
 ext g
 intro _ _ _
 exact zas 0 zsF
 intro _ _ _
 exact zbD
 intro _ _ _
 ext aa
 exact zq5
 ext g
 exact zov T.c_FIGURES
 ext h
 refine zhq ?_
 refine zt9 ?_ ?_
 ext aa;ext x;ext g;ext B
 refine zhq ?_
 ext aa;ext D
 refine zlR ?_ ?_
 ext g;ext j;ext B
theorem sc_26:zao ya ya (zae s_26):=⟨rfl,rfl,rfl,⋯,rfl,⋯,⋯⟩
theorem ok_26 (T:Tx K mg t):zbE P w K mg base (CXE P w) 2 t.a_26 t.d_26 ya (spE K 1 F_26):=by
 have G_27:=ok_27 (P:=P) (w:=w) (base:=base) T
 refine zfl (k:=1) (G:=G_26) (N:=ya) (ps:=ya) (st:=s_26) T.F_26 sc_26 λcdv A outer s H E hr=> ?_
 ext ax;ext aT
 refine zkc (k:=1) (g:=t.a_27) (fd:=t.d_27) (ps:=ya) ?_ ?_ ?_ ?_ ?_ ?_
 exact G_27
 ext c
 exact T.m_27
 exact T.F_27.kp
 exact T.b_27
 ext ay;ext i;ext r;ext aS;ext af
 exact zfi
 exact zg6
 exact T.n_int
 ext ay
theorem nd_25:(yw:List Str).Nodup:=⋯
theorem zs8:(ya:List Str).Nodup:=⋯
theorem sc_25:zao yw yag (zae s_25):=⟨rfl,rfl,rfl,⋯,rfl,⋯,⋯⟩
theorem ok_25 (T:Tx K mg t):zbE P w K mg base (CXE P w) 3 t.a_25 t.d_25 yag (spE K 2 F_25):=by
 have G_26:=ok_26 (P:=P) (w:=w) (base:=base) T
 refine zfl (k:=2) (G:=G_25) (N:=yw) (ps:=yag) (st:=s_25) T.F_25 sc_25 λcdv A outer s H E hr=> ?_
 ext d
 refine ziY 2 (N:=ya) ?_ ?_ ?_ ?_ ?_ ?_ ?_ ?_ ?_
 exact zgN
 exact zic
 exact nd_25
 exact (BOk.of (Xn:=(zae s_25).names) (XN:=yw) rfl rfl rfl ⋯)
 ext aM
 refine zdT ?_ ?_
 ext g;ext m
 intro _ _ _ _
 exact zas 0 zs8
 intro _ _ _ _
 exact zbD
 intro _ _ _ _ hx
 ext F
 exact G_26
 exact hx
 ext c
 exact T.m_26
 exact T.F_26.kp
 exact T.b_26
 ext ay;ext ax;ext f;ext D;ext u
 refine zeT ?_ ?_ ?_ ?_
 ext S
 exact T.n_sorted
 exact T.n_set
 ext u;ext i;ext r;ext aS;ext t
 exact zaP
 exact zaZ
 ext R;ext aH;ext h
theorem nd_24:(["word","parts"]:List Str).Nodup:=⋯
theorem sc_24:zao ["word","parts"] ya (zae s_24):=⟨rfl,rfl,rfl,⋯,rfl,⋯,⋯⟩
theorem ok_24 (T:Tx K mg t):zbE P w K mg base (CXE P w) 4 t.a_24 t.d_24 ya (spE K 1 F_24):=by
 have G_25:=ok_25 (P:=P) (w:=w) (base:=base) T
 have G_26:=ok_26 (P:=P) (w:=w) (base:=base) T
 refine zfl (k:=3) (G:=G_24) (N:=["word","parts"]) (ps:=ya) (st:=s_24) T.F_24 sc_24 λcdv A outer s H E hr=> ?_
 ext d;ext Y
 exact nd_24
 refine zdT ?_ ?_
 ext g;ext B;ext ax;ext f;ext D;ext q
 exact zbm
 exact zcp
 ext aj;ext aJ;ext j;ext i;ext r;ext aS;ext aL;ext N
 exact G_25
 exact zd1
 ext c
 exact T.m_25
 exact T.F_25.kp
 exact T.b_25
 ext a;ext k;ext m;ext j;ext aI;ext h;ext a;ext F
 exact G_26
 exact zd1
 ext c
 exact T.m_26
 exact T.F_26.kp
 exact T.b_26
 ext a;ext k;ext m;ext aw;ext h
theorem sc_13:zao yc yc (zae s_13):=⟨rfl,rfl,rfl,⋯,rfl,⋯,⋯⟩
theorem ok_13 (T:Tx K mg t):zbE P w K mg base CX0 1 t.a_13 t.d_13 yc (zbY K 1 F_13):=by
 refine zbs (k:=0) (G:=G_13) (N:=yc) (ps:=yc) (st:=s_13) T.F_13 sc_13 λcdv A outer s H E hr=> ?_
 ext as
 refine zhw ?_ ?_
 ext O
 exact zdB
 exact zaZ
 ext w;ext R;ext g
 refine zhq ?_
 ext aa;ext x;ext q
 exact zbm
 exact zcp
 ext aj;ext ay;ext j
theorem sc_12:zao yc yc (zae s_12):=⟨rfl,rfl,rfl,⋯,rfl,⋯,⋯⟩
theorem ok_12 (T:Tx K mg t):zbE P w K mg base CX0 1 t.a_12 t.d_12 yc (zbY K 1 F_12):=by
 refine zbs (k:=0) (G:=G_12) (N:=yc) (ps:=yc) (st:=s_12) T.F_12 sc_12 λcdv A outer s H E hr=> ?_
 ext as
 refine zhw ?_ ?_
 ext O
 exact zoN
 exact zg6
 ext w
 exact T.n_int
 ext g
 refine zhq ?_
 refine ztc ?_
 ext O
 exact zlS
 exact zpA
 ext w
 exact T.n_bool
 ext g
theorem nd_14:(yy:List Str).Nodup:=⋯
theorem sc_14:zao yy yx (zae s_14):=⟨rfl,rfl,rfl,⋯,rfl,⋯,⋯⟩
theorem ok_14 (T:Tx K mg t):zbE P w K mg base CX0 2 t.a_14 t.d_14 yx (zbY K 2 F_14):=by
 have G_12:=ok_12 (P:=P) (w:=w) (base:=base) T
 refine zbs (k:=1) (G:=G_14) (N:=yy) (ps:=yx) (st:=s_14) T.F_14 sc_14 λcdv A outer s H E hr=> ?_
 ext ax;ext aT;ext O
 exact zdB
 exact zaZ
 ext w;ext R;ext g;ext as
 exact zhk
 ext aP;ext K
 exact nd_14
 ext j;ext d;ext W;ext S;ext Z;ext P;ext g
 exact zas 3 nd_14
 ext ax;ext al;ext z;ext aT;ext G
 exact G_12
 ext c
 exact T.m_12
 exact T.F_12.kp
 exact T.b_12
 ext a;ext L;ext h;ext aK
 exact zfn
 ext L;ext u;ext ar;ext f
 exact znG
 ext L;ext m;ext as
 exact zhk
 ext ad;ext i;ext K
 exact nd_14
 ext av;ext L;ext j;ext as
 exact zhk
theorem nd_16:(yaa:List Str).Nodup:=⋯
theorem sc_16:zao yaa yac (zae s_16):=⟨rfl,rfl,rfl,⋯,rfl,⋯,⋯⟩
theorem ok_16 (T:Tx K mg t):zbE P w K mg base CX0 3 t.a_16 t.d_16 yac (zbY K 2 F_16):=by
 have G_13:=ok_13 (P:=P) (w:=w) (base:=base) T
 have G_12:=ok_12 (P:=P) (w:=w) (base:=base) T
 have G_14:=ok_14 (P:=P) (w:=w) (base:=base) T
 refine zbs (k:=2) (G:=G_16) (N:=yaa) (ps:=yac) (st:=s_16) T.F_16 sc_16 λcdv A outer s H E hr=> ?_
 ext ax;ext aT
 refine zar (k:=1) (g:=t.a_13) (fd:=t.d_13) (ps:=yc) ?_ ?_ ?_ ?_ ?_ ?_
 exact G_13
 ext c
 exact T.m_13
 exact T.F_13.kp
 exact T.b_13
 ext ay;ext as
 exact zhk
 ext aP;ext K
 exact nd_16
 ext aQ;ext d;ext ac
 exact nd_16
 ext aQ;ext as
 refine zhw ?_ ?_
 refine zar (k:=2) (g:=t.a_14) (fd:=t.d_14) (ps:=yx) ?_ ?_ ?_ ?_ ?_ ?_
 exact G_14
 ext c
 exact T.m_14
 exact T.F_14.kp
 exact T.b_14
 ext aH;ext aJ
 refine zhw ?_ ?_
 ext aa
 exact zdM
 ext q
 exact zbm
 exact zcp
 ext aj;ext aH;ext h;ext j
 refine zhw ?_ ?_
 ext G
 exact G_12
 ext c
 exact T.m_12
 exact T.F_12.kp
 exact T.b_12
 ext a;ext L;ext h
 refine zhq ?_
 ext aa
 exact zdM
 ext L;ext j
theorem nd_15:(yz:List Str).Nodup:=⋯
theorem zsq:(["offer","many"]:List Str).Nodup:=⋯
theorem sc_15:zao yz yc (zae s_15):=⟨rfl,rfl,rfl,⋯,rfl,⋯,⋯⟩
theorem ok_15 (T:Tx K mg t):zbE P w K mg base CX0 4 t.a_15 t.d_15 yc (zbY K 1 F_15):=by
 have G_13:=ok_13 (P:=P) (w:=w) (base:=base) T
 have G_12:=ok_12 (P:=P) (w:=w) (base:=base) T
 have G_16:=ok_16 (P:=P) (w:=w) (base:=base) T
 refine zbs (k:=3) (G:=G_15) (N:=yz) (ps:=yc) (st:=s_15) T.F_15 sc_15 λcdv A outer s H E hr=> ?_
 ext ax;ext aT
 refine zar (k:=1) (g:=t.a_13) (fd:=t.d_13) (ps:=yc) ?_ ?_ ?_ ?_ ?_ ?_
 exact G_13
 ext c
 exact T.m_13
 exact T.F_13.kp
 exact T.b_13
 ext ay;ext as
 exact zhk
 ext aP;ext Y
 exact nd_15
 ext aQ;ext d;ext K
 exact nd_15
 ext aQ;ext ax;ext al;ext z;ext aT;ext G
 exact G_12
 ext c
 exact T.m_12
 exact T.F_12.kp
 exact T.b_12
 ext aJ;ext aK
 exact zfn
 ext m;ext j;ext ar;ext f
 exact zdM
 ext m
 exact zhz T.c_MOST_THINGS
 ext as
 exact zhk
 ext ad;ext ax;ext al;ext z;ext aT;ext O
 exact zdB
 exact zaZ
 ext w;ext R;ext u;ext ar;ext f
 exact zdM
 ext q
 exact zbm
 exact zcp
 ext aj;ext aH;ext h
 exact zhz T.c_MOST_OFFERS
 ext as
 exact zhk
 ext aS
 refine zaS (id:="all") ?_ ?_ ?_ ?_
 exact (zgh rfl)
 exact zno
 exact T.n_all
 ext a
 refine zbS (N:=["offer","many"]) ?_ ?_ ?_ ?_ ?_ ?_ ?_
 ext S
 exact (BOk.of (Xn:=(zae s_15).names) (XN:=yz) rfl rfl rfl ⋯)
 ext aM;ext u
 intro _ _ _
 exact zas 0 zsq
 intro _ _ _
 exact zbD
 intro _ _ _
 refine zar (k:=3) (g:=t.a_16) (fd:=t.d_16) (ps:=yac) ?_ ?_ ?_ ?_ ?_ ?_
 exact G_16
 ext c
 exact T.m_16
 exact T.F_16.kp
 exact T.b_16
 ext au;ext aJ;ext h
theorem nd_20:(yae:List Str).Nodup:=⋯
theorem zsR:(ya:List Str).Nodup:=⋯
theorem sc_20:zao yae ye (zae s_20):=⟨rfl,rfl,rfl,⋯,rfl,⋯,⋯⟩
theorem ok_20 (T:Tx K mg t):zbE P w K mg base (CXE P w) 5 t.a_20 t.d_20 ye (spE K 1 F_20):=by
 have G_23:=ok_23 (P:=P) (w:=w) (base:=base) T
 have G_26:=ok_26 (P:=P) (w:=w) (base:=base) T
 have G_24:=ok_24 (P:=P) (w:=w) (base:=base) T
 have G_15:=ok_15 (P:=P) (w:=w) (base:=base) T
 refine zfl (k:=4) (G:=G_20) (N:=yae) (ps:=ye) (st:=s_20) T.F_20 sc_20 λcdv A outer s H E hr=> ?_
 ext d
 refine zlB ?_
 refine zcY (k:=1) (g:=t.a_23) (fd:=t.d_23) (ps:=ye) ?_ ?_ ?_ ?_ ?_ ?_ ?_
 exact G_23
 exact zd1
 ext c
 exact T.m_23
 exact T.F_23.kp
 exact T.b_23
 ext ay;ext d;ext Y
 exact nd_20
 refine zdT ?_ ?_
 ext g;ext B;ext ax;ext al;ext aK
 exact zfn
 ext q
 exact zbm
 exact zcp
 ext aj;ext aJ;ext j;ext ar;ext f;ext D;ext k;ext m;ext j;ext B;ext i;ext r;ext aP;ext K
 exact nd_20
 ext aL;ext F
 exact G_26
 exact zd1
 ext c
 exact T.m_26
 exact T.F_26.kp
 exact T.b_26
 ext a;ext k;ext m;ext aw;ext a;ext t
 exact zaP
 exact zaZ
 ext R;ext a
 refine zoV (N:=ya) ?_ ?_ ?_ ?_ ?_ ?_ ?_ ?_
 exact zgN
 exact zic
 exact (BOk.of (Xn:=(zae s_20).names) (XN:=yae) rfl rfl rfl ⋯)
 ext aM
 refine zf8 ?_ ?_ ?_
 ext m;ext ag;ext j
 exact zb9
 intro _ _ _ _
 exact zas 0 zsR
 intro _ _ _ _
 exact zbD
 intro _ _ _ _ hx
 refine zcY (k:=4) (g:=t.a_24) (fd:=t.d_24) (ps:=ya) ?_ ?_ ?_ ?_ ?_ ?_ ?_
 exact G_24
 exact hx
 ext c
 exact T.m_24
 exact T.F_24.kp
 exact T.b_24
 ext ay;ext aR;ext ax;ext aT
 refine zkc (k:=4) (g:=t.a_15) (fd:=t.d_15) (ps:=yc) ?_ ?_ ?_ ?_ ?_ ?_
 exact G_15
 ext c
 exact T.m_15
 exact T.F_15.kp
 exact T.b_15
 ext aH;ext h;ext i;ext r;ext aS;ext u
theorem sc_21:zao ye ye (zae s_21):=⟨rfl,rfl,rfl,⋯,rfl,⋯,⋯⟩
theorem ok_21 (T:Tx K mg t):zbE P w K mg base (CXE P w) 4 t.a_21 t.d_21 ye (spE K 1 F_21):=by
 have G_23:=ok_23 (P:=P) (w:=w) (base:=base) T
 have G_25:=ok_25 (P:=P) (w:=w) (base:=base) T
 refine zfl (k:=3) (G:=G_21) (N:=ye) (ps:=ye) (st:=s_21) T.F_21 sc_21 λcdv A outer s H E hr=> ?_
 ext d
 refine zlB ?_
 refine zcY (k:=1) (g:=t.a_23) (fd:=t.d_23) (ps:=ye) ?_ ?_ ?_ ?_ ?_ ?_ ?_
 exact G_23
 exact zd1
 ext c
 exact T.m_23
 exact T.F_23.kp
 exact T.b_23
 ext ay;ext as
 refine ziZ ?_ ?_ ?_
 ext f;ext x;ext g;ext B;ext J;ext h;ext N
 exact G_25
 exact zd1
 ext c
 exact T.m_25
 exact T.F_25.kp
 exact T.b_25
 ext au;ext aI;ext h
theorem nd_41:(["way","thing","e"]:List Str).Nodup:=⋯
theorem sc_41:zao ["way","thing","e"] yam (zae s_41):=⟨rfl,rfl,rfl,⋯,rfl,⋯,⋯⟩
theorem ok_41 (T:Tx K mg t):zbE P w K mg base CX0 6 t.a_41 t.d_41 yam (zbY K 2 F_41):=by
 have G_32:=ok_32 (P:=P) (w:=w) (base:=base) T
 have G_20:=ok_20 (P:=P) (w:=w) (base:=base) T
 have G_21:=ok_21 (P:=P) (w:=w) (base:=base) T
 refine zbs (k:=5) (G:=G_41) (N:=["way","thing","e"]) (ps:=yam) (st:=s_41) T.F_41 sc_41 λcdv A outer s H E hr=> ?_
 ext i
 refine zqP (CE:=t.a_0) (pe:="e") (k:=1) (fdk:=t.d_32) (fk:=t.a_32) 2 ?_ ?_ ?_ ?_ ?_ ?_ ?_ ?_ ?_ ?_
 exact zpW
 exact nd_41
 exact T.g_0
 ext ak
 exact G_32
 exact T.b_32
 exact T.m_32
 exact T.F_32.kp
 exact (zdH.of (hr.mono (by decide)))
 intro pn xe E' hx
 ext as
 refine zr8 (addrs:=[t.a_20,t.a_21]) (Fs:=[F_20,F_21]) ?_ ?_ ?_ ?_ ?_
 refine zr2 ?_ ?_
 exact T.m_20
 refine zr2 ?_ ?_
 exact T.m_21
 exact zrY
 refine Fns.cons (k:=5) (fd:=t.d_20) (ps:=ye) ?_ ?_ ?_ ?_ ?_
 exact G_20
 ext c
 exact T.F_20.kp
 exact T.b_20
 refine Fns.cons (k:=4) (fd:=t.d_21) (ps:=ye) ?_ ?_ ?_ ?_ ?_
 exact G_21
 ext c
 exact T.F_21.kp
 exact T.b_21
 exact Fns.nil
 exact hx
 ext g;ext aJ
theorem zsw:(["number"]:List Str).Nodup:=⋯
theorem sc_18:zao yq yq (zae s_18):=⟨rfl,rfl,rfl,⋯,rfl,⋯,⋯⟩
theorem ok_18 (T:Tx K mg t):zbE P w K mg base CX0 1 t.a_18 t.d_18 yq (zbY K 1 F_18):=by
 refine zbs (k:=0) (G:=G_18) (N:=yq) (ps:=yq) (st:=s_18) T.F_18 sc_18 λcdv A outer s H E hr=> ?_
 ext as
 refine ziZ ?_ ?_ ?_
 refine zrW ?_
 ext g
 refine zeN ?_ ?_
 ext B
 refine zbS (N:=["number"]) ?_ ?_ ?_ ?_ ?_ ?_ ?_
 ext S
 exact (BOk.of (Xn:=(zae s_18).names) (XN:=yq) rfl rfl rfl ⋯)
 ext aM;ext g
 intro _ _ _
 exact zas 0 zsw
 intro _ _ _
 exact zbD
 intro _ _ _
 ext s
 exact za3
 exact zb2
 ext ae;ext ay;ext B
theorem ztA:(yc:List Str).Nodup:=⋯
theorem sc_22:zao yu yu (zae s_22):=⟨rfl,rfl,rfl,⋯,rfl,⋯,⋯⟩
theorem ok_22 (T:Tx K mg t):zbE P w K mg base CX0 1 t.a_22 t.d_22 yu (zbY K 1 F_22):=by
 refine zbs (k:=0) (G:=G_22) (N:=yu) (ps:=yu) (st:=s_22) T.F_22 sc_22 λcdv A outer s H E hr=> ?_
 ext as;ext av;ext av
 refine zeN ?_ ?_
 ext B
 refine zbS (N:=yc) ?_ ?_ ?_ ?_ ?_ ?_ ?_
 ext S
 exact (BOk.of (Xn:=(zae s_22).names) (XN:=yu) rfl rfl rfl ⋯)
 ext aM;ext aQ
 intro _ _ _
 exact zas 0 ztA
 intro _ _ _
 exact zbD
 intro _ _ _
 ext s
 exact za3
 exact zb2
 ext ae;ext ay;ext B;ext s
 exact za3
 exact zb2
 ext ae;ext a;ext aG;ext aw
theorem ztx:(yu:List Str).Nodup:=⋯
theorem sc_17:zao yk yk (zae s_17):=⟨rfl,rfl,rfl,⋯,rfl,⋯,⋯⟩
theorem ok_17 (T:Tx K mg t):zbE P w K mg base CX0 2 t.a_17 t.d_17 yk (zbY K 1 F_17):=by
 have G_22:=ok_22 (P:=P) (w:=w) (base:=base) T
 refine zbs (k:=1) (G:=G_17) (N:=yk) (ps:=yk) (st:=s_17) T.F_17 sc_17 λcdv A outer s H E hr=> ?_
 ext as
 refine zeN ?_ ?_
 ext B;ext av;ext X;ext a;ext s
 exact za3
 exact zb2
 ext ae;ext a;ext aG;ext aw;ext aI;ext h
 refine zbS (N:=yu) ?_ ?_ ?_ ?_ ?_ ?_ ?_
 ext S
 exact (BOk.of (Xn:=(zae s_17).names) (XN:=yk) rfl rfl rfl ⋯)
 ext aM;ext aQ
 intro _ _ _
 exact zas 0 ztx
 intro _ _ _
 exact zbD
 intro _ _ _
 refine zar (k:=1) (g:=t.a_22) (fd:=t.d_22) (ps:=yu) ?_ ?_ ?_ ?_ ?_ ?_
 exact G_22
 ext c
 exact T.m_22
 exact T.F_22.kp
 exact T.b_22
 ext ay
theorem nd_36:(yai:List Str).Nodup:=⋯
theorem sc_36:zao yai yad (zae s_36):=⟨rfl,rfl,rfl,⋯,rfl,⋯,⋯⟩
theorem ok_36 (T:Tx K mg t):zbE P w K mg base CX0 1 t.a_36 t.d_36 yad (zbY K 2 F_36):=by
 refine zbs (k:=0) (G:=G_36) (N:=yai) (ps:=yad) (st:=s_36) T.F_36 sc_36 λcdv A outer s H E hr=> ?_
 ext d
 refine zrT 2 3 ?_ ?_ ?_
 ext S
 exact nd_36
 ext a
 refine zaS (id:="abs") ?_ ?_ ?_ ?_
 exact zgo
 exact znz
 exact T.n_abs
 ext ay;ext a
 refine zaS (id:="abs") ?_ ?_ ?_ ?_
 exact zgo
 exact znz
 exact T.n_abs
 ext aJ;ext h;ext d
 refine zpa 20000 ?_ ?_ ?_
 ext Z;ext f
 exact zdM
 ext L;ext j;ext i
 refine zrT 2 3 ?_ ?_ ?_
 ext S
 exact nd_36
 ext a;ext L;ext a;ext e
 exact zd5
 ext u;ext L;ext h;ext as;ext aL;ext e
 exact zh7
 ext g;ext u;ext a;ext e
 exact zh7
 ext m;ext u;ext h
theorem nd_19:(["fraction","top"]:List Str).Nodup:=⋯
theorem sc_19:zao ["fraction","top"] yan (zae s_19):=⟨rfl,rfl,rfl,⋯,rfl,⋯,⋯⟩
theorem ok_19 (T:Tx K mg t):zbE P w K mg base CX0 1 t.a_19 t.d_19 yan (zbY K 1 F_19):=by
 refine zbs (k:=0) (G:=G_19) (N:=["fraction","top"]) (ps:=yan) (st:=s_19) T.F_19 sc_19 λcdv A outer s H E hr=> ?_
 ext d;ext Y
 exact nd_19
 ext s
 exact za3
 exact zb2
 ext ae;ext a;ext aG;ext aw;ext as
 refine ziZ ?_ ?_ ?_
 ext f;ext x;ext aQ;ext j;ext m;ext av;ext av;ext m;ext B;ext s
 exact za3
 exact zb2
 ext ae;ext a;ext aG;ext aw
theorem nd_44:(yab:List Str).Nodup:=⋯
theorem sc_44:zao yab yao (zae s_44):=⟨rfl,rfl,rfl,⋯,rfl,⋯,⋯⟩
theorem ok_44 (T:Tx K mg t):zbE P w K mg base CX0 2 t.a_44 t.d_44 yao (zbY K 2 F_44):=by
 have G_30:=ok_30 (P:=P) (w:=w) (base:=base) T
 refine zbs (k:=1) (G:=G_44) (N:=yab) (ps:=yao) (st:=s_44) T.F_44 sc_44 λcdv A outer s H E hr=> ?_
 ext d;ext K
 exact nd_44
 ext aN;ext aO;ext q
 exact zdw
 exact zcp
 ext aj;ext aJ;ext aw;ext d;ext ac
 exact nd_44
 refine zlR ?_ ?_
 ext B;ext aN;ext aA;ext d;ext ap
 exact nd_44
 ext X;ext az;ext aO;ext av;ext ab;ext m
 exact zb9
 ext ag;ext u;ext L;ext ab;ext m;ext ag;ext av;ext u;ext j
 exact zb9
 ext aO;ext ab;ext m
 exact zb9
 ext ag;ext u;ext ab;ext m;ext ag;ext av;ext u;ext j
 exact zb9
 ext aO;ext av;ext ab;ext m
 exact zb9
 ext ag;ext u;ext L;ext ab;ext m;ext ag;ext u
 exact zb9
 ext h;ext d;ext ap
 exact nd_44
 ext av
 exact zac 4
 ext X;ext aO;ext av;ext ab;ext m
 exact zb9
 ext ag;ext u
 refine zp8 ?_
 ext ab;ext m;ext ag;ext u;ext ag;ext av;ext u;ext j;ext ab;ext m;ext ag;ext av;ext u;ext j
 exact zb9
 ext aO;ext B;ext m;ext aO;ext m;ext B;ext h;ext as;ext k
 exact zac 4
 ext aN;ext aA
theorem sc_39:zao ya ya (zae s_39):=⟨rfl,rfl,rfl,⋯,rfl,⋯,⋯⟩
theorem ok_39 (T:Tx K mg t):zbE P w K mg base CX0 1 t.a_39 t.d_39 ya (zbY K 1 F_39):=by
 refine zbs (k:=0) (G:=G_39) (N:=ya) (ps:=ya) (st:=s_39) T.F_39 sc_39 λcdv A outer s H E hr=> ?_
 ext ax;ext al;ext aK;ext x;ext g;ext B;ext aK
 exact zdM
 ext q
 exact zdw
 exact zcp
 ext aj;ext ay;ext j;ext aK;ext D
 refine zpH ?_ ?_
 ext g;ext B;ext B;ext ar;ext al
 refine znN ?_ ?_
 ext f;ext x
 refine zlR ?_ ?_
 ext g;ext j;ext B
 refine zj9 ?_
 ext f;ext D;ext g;ext B;ext as
 exact zeA
 ext aS;ext af
 exact zfi
 exact zg6
 exact T.n_int
 ext ay
theorem nd_40:(yar:List Str).Nodup:=⋯
theorem zqK:(ya:List Str).Nodup:=⋯
theorem sc_40:zao yar yas (zae s_40):=⟨rfl,rfl,rfl,⋯,rfl,⋯,⋯⟩
theorem ok_40 (T:Tx K mg t):zbE P w K mg base CX0 2 t.a_40 t.d_40 yas (zbY K 1 F_40):=by
 have G_39:=ok_39 (P:=P) (w:=w) (base:=base) T
 refine zbs (k:=1) (G:=G_40) (N:=yar) (ps:=yas) (st:=s_40) T.F_40 sc_40 λcdv A outer s H E hr=> ?_
 ext d
 refine zdy 1 (N:=ya) ?_ ?_ ?_ ?_ ?_ ?_ ?_ ?_
 ext S
 exact nd_40
 exact (BOk.of (Xn:=(zae s_40).names) (XN:=yar) rfl rfl rfl ⋯)
 ext aM;ext g
 intro _ _ _
 exact zas 0 zqK
 intro _ _ _
 exact zbD
 intro _ _ _
 ext I
 exact G_39
 ext c
 exact T.m_39
 exact T.F_39.kp
 exact T.b_39
 ext ay;ext ax;ext al;ext aK
 exact (zia (zcF hr))
 exact zeA
 ext m;ext ar;ext f;ext D;ext m
 refine zeT ?_ ?_ ?_ ?_
 ext S
 exact T.n_sorted
 exact T.n_set
 ext m;ext as
 exact zeA
 ext aS;ext t
 exact zaP
 exact zaZ
 ext R;ext aJ
theorem nd_42:(yi:List Str).Nodup:=⋯
theorem sc_42:zao yi yah (zae s_42):=⟨rfl,rfl,rfl,⋯,rfl,⋯,⋯⟩
theorem ok_42 (T:Tx K mg t):zbE P w K mg base CX0 3 t.a_42 t.d_42 yah (zbY K 2 F_42):=by
 have G_40:=ok_40 (P:=P) (w:=w) (base:=base) T
 have G_39:=ok_39 (P:=P) (w:=w) (base:=base) T
 refine zbs (k:=2) (G:=G_42) (N:=yi) (ps:=yah) (st:=s_42) T.F_42 sc_42 λcdv A outer s H E hr=> ?_
 ext d
 refine zjr ?_ ?_
 refine zhh ?_ ?_
 ext m;ext B
 refine zfe ?_ ?_
 ext S;ext V
 exact zas 2 nd_42
 ext V
 exact zas 3 nd_42
 ext V
 exact zas 4 nd_42
 exact zdW
 ext d
 refine zaQ 5 ?_ ?_
 exact nd_42
 ext aL
 refine zar (k:=2) (g:=t.a_40) (fd:=t.d_40) (ps:=yas) ?_ ?_ ?_ ?_ ?_ ?_
 exact G_40
 ext c
 exact T.m_40
 exact T.F_40.kp
 exact T.b_40
 ext a
 refine zdT ?_ ?_
 ext u;ext B;ext h;ext a;ext I
 exact G_39
 ext c
 exact T.m_39
 exact T.F_39.kp
 exact T.b_39
 ext a
 exact zac 4
 ext aR;ext ax;ext al;ext aK;ext x;ext L;ext B;ext aK
 exact (zia (zcF hr))
 exact zeA
 ext ah;ext aK
 exact znG
 ext k;ext k;ext ah;ext j
 refine zqV ?_
 ext j;ext g;ext ar;ext f;ext x;ext k;ext ah;ext j;ext j;ext as
 exact zeA
 ext aS;ext ah
theorem nd_43:(yo:List Str).Nodup:=⋯
theorem zqd:(["word","many"]:List Str).Nodup:=⋯
theorem sc_43:zao yo ye (zae s_43):=⟨rfl,rfl,rfl,⋯,rfl,⋯,⋯⟩
theorem ok_43 (T:Tx K mg t):zbE P w K mg base CX0 4 t.a_43 t.d_43 ye (zbY K 1 F_43):=by
 have G_39:=ok_39 (P:=P) (w:=w) (base:=base) T
 have G_42:=ok_42 (P:=P) (w:=w) (base:=base) T
 refine zbs (k:=3) (G:=G_43) (N:=yo) (ps:=ye) (st:=s_43) T.F_43 sc_43 λcdv A outer s H E hr=> ?_
 ext d;ext Y
 exact nd_43
 refine zdT ?_ ?_
 ext g;ext B;ext d;ext K
 exact nd_43
 ext I
 exact G_39
 ext c
 exact T.m_39
 exact T.F_39.kp
 exact T.b_39
 ext a;ext k;ext m;ext aw;ext ax;ext al;ext aK
 exact zjT
 ext u
 exact zeA
 ext aK
 exact zfn
 ext u;ext j;ext aK
 exact zdM
 ext u;ext j;ext aK;ext D
 refine zf8 ?_ ?_ ?_
 ext m;ext ag;ext j;ext ag;ext j;ext X;ext aI;ext h;ext ar;ext f
 exact zdM
 ext q
 exact zbm
 exact zcp
 ext aj;ext aJ;ext j;ext as
 exact zeA
 ext aP
 refine zdy 3 (N:=["word","many"]) ?_ ?_ ?_ ?_ ?_ ?_ ?_ ?_
 ext S
 exact nd_43
 exact (BOk.of (Xn:=(zae s_43).names) (XN:=yo) rfl rfl rfl ⋯)
 ext aM
 refine zf8 ?_ ?_ ?_
 ext m;ext ag;ext j
 exact zb9
 intro _ _ _
 exact zas 0 zqd
 intro _ _ _
 exact zbD
 intro _ _ _
 refine zar (k:=3) (g:=t.a_42) (fd:=t.d_42) (ps:=yah) ?_ ?_ ?_ ?_ ?_ ?_
 exact G_42
 ext c
 exact T.m_42
 exact T.F_42.kp
 exact T.b_42
 ext az;ext ay;ext as
 refine ziZ ?_ ?_ ?_
 ext f
 exact (zia (zcF hr))
 exact zeA
 ext L
 exact zeA
 ext J;ext aH;ext a;ext t
 exact zaP
 exact zaZ
 ext R;ext a;ext L;ext aR
theorem nd_45:(yal:List Str).Nodup:=⋯
theorem sc_45:zao yal yaj (zae s_45):=⟨rfl,rfl,rfl,⋯,rfl,⋯,⋯⟩
theorem ok_45 (T:Tx K mg t):zbE P w K mg base CX0 7 t.a_45 t.d_45 yaj (zbY K 2 F_45):=by
 have G_43:=ok_43 (P:=P) (w:=w) (base:=base) T
 have G_40:=ok_40 (P:=P) (w:=w) (base:=base) T
 have G_41:=ok_41 (P:=P) (w:=w) (base:=base) T
 refine zbs (k:=6) (G:=G_45) (N:=yal) (ps:=yaj) (st:=s_45) T.F_45 sc_45 λcdv A outer s H E hr=> ?_
 ext d;ext K
 exact nd_45
 refine zar (k:=4) (g:=t.a_43) (fd:=t.d_43) (ps:=ye) ?_ ?_ ?_ ?_ ?_ ?_
 exact G_43
 ext c
 exact T.m_43
 exact T.F_43.kp
 exact T.b_43
 ext aJ;ext ax;ext f;ext x;ext g;ext j;ext i;ext K
 exact nd_45
 refine ziZ ?_ ?_ ?_
 ext f;ext x;ext m;ext B;ext J;ext h
 refine zar (k:=2) (g:=t.a_40) (fd:=t.d_40) (ps:=yas) ?_ ?_ ?_ ?_ ?_ ?_
 exact G_40
 ext c
 exact T.m_40
 exact T.F_40.kp
 exact T.b_40
 ext a
 refine zdT ?_ ?_
 ext m;ext B;ext h;ext aP;ext ac
 exact nd_45
 ext A
 exact G_41
 ext c
 exact T.m_41
 exact T.F_41.kp
 exact T.b_41
 ext au;ext aJ;ext as
 refine ziZ ?_ ?_ ?_
 ext f
 exact zjT
 ext u
 exact zeA
 ext aa;ext x;ext L;ext B
 refine zhw ?_ ?_
 ext O
 exact zdB
 exact zaZ
 ext w;ext R;ext L
 refine zhq ?_
 ext aa;ext x;ext L;ext u
theorem nd_31:(["box","some"]:List Str).Nodup:=⋯
theorem sc_31:zao ["box","some"] ["box"] (zae s_31):=⟨rfl,rfl,rfl,⋯,rfl,⋯,⋯⟩
theorem ok_31 (T:Tx K mg t):zbE P w K mg base CX0 2 t.a_31 t.d_31 ["box"] (zbY K 1 F_31):=by
 have G_30:=ok_30 (P:=P) (w:=w) (base:=base) T
 refine zbs (k:=1) (G:=G_31) (N:=["box","some"]) (ps:=["box"]) (st:=s_31) T.F_31 sc_31 λcdv A outer s H E hr=> ?_
 ext d;ext Y
 exact nd_31
 ext X;ext a
 exact zeA
 ext a
 exact zhk
 ext a;ext j;ext aI;ext aI;ext a;ext J;ext h;ext a;ext X;ext h;ext a
 exact zpb
 ext a;ext aL;ext j;ext aA;ext a;ext J;ext aA;ext a;ext aL;ext j;ext aA;ext a
 refine zqV ?_
 ext j;ext a;ext aL;ext j;ext aA;ext a;ext X;ext a;ext aL;ext j;ext a;ext j;ext aA;ext h;ext a
 exact zhk
 ext a;ext aL;ext aL;ext j;ext aA;ext aR;ext as;ext k;ext m;ext aN;ext aA
theorem nd_46:(yb:List Str).Nodup:=⋯
theorem zqW:(["number","box"]:List Str).Nodup:=⋯
theorem zp3:(["turn","box"]:List Str).Nodup:=⋯
theorem sc_46:zao yb yap (zae s_46):=⟨rfl,rfl,rfl,⋯,rfl,⋯,⋯⟩
theorem ok_46 (T:Tx K mg t):zbE P w K mg base CX0 8 t.a_46 t.d_46 yap (zbY K 1 F_46):=by
 have G_29:=ok_29 (P:=P) (w:=w) (base:=base) T
 have G_34:=ok_34 (P:=P) (w:=w) (base:=base) T
 have G_30:=ok_30 (P:=P) (w:=w) (base:=base) T
 have G_35:=ok_35 (P:=P) (w:=w) (base:=base) T
 have G_37:=ok_37 (P:=P) (w:=w) (base:=base) T
 have G_38:=ok_38 (P:=P) (w:=w) (base:=base) T
 have G_41:=ok_41 (P:=P) (w:=w) (base:=base) T
 have G_18:=ok_18 (P:=P) (w:=w) (base:=base) T
 have G_17:=ok_17 (P:=P) (w:=w) (base:=base) T
 have G_36:=ok_36 (P:=P) (w:=w) (base:=base) T
 have G_19:=ok_19 (P:=P) (w:=w) (base:=base) T
 have G_44:=ok_44 (P:=P) (w:=w) (base:=base) T
 have G_45:=ok_45 (P:=P) (w:=w) (base:=base) T
 have G_31:=ok_31 (P:=P) (w:=w) (base:=base) T
 refine zbs (k:=7) (G:=G_46) (N:=yb) (ps:=yap) (st:=s_46) T.F_46 sc_46 λcdv A outer s H E hr=> ?_
 ext d;ext W;ext S;ext Z;ext am;ext aq;ext a
 refine zaS (id:="max") ?_ ?_ ?_ ?_
 exact (zjm rfl)
 exact zrf
 exact T.n_max
 ext a;ext j;ext a
 refine zaS (id:="min") ?_ ?_ ?_ ?_
 exact (ziT rfl)
 exact zru
 exact T.n_min
 ext a;ext q
 exact zbm
 exact zcp
 ext aj;ext ay;ext aA;ext aR
 exact zas 1 nd_46
 ext d;ext K
 exact nd_46
 refine zar (k:=2) (g:=t.a_29) (fd:=t.d_29) (ps:=yf) ?_ ?_ ?_ ?_ ?_ ?_
 exact G_29
 ext c
 exact T.m_29
 exact T.F_29.kp
 exact T.b_29
 ext au;ext aJ;ext d;ext ac
 exact nd_46
 refine zar (k:=3) (g:=t.a_34) (fd:=t.d_34) (ps:=yp) ?_ ?_ ?_ ?_ ?_ ?_
 exact G_34
 ext c
 exact T.m_34
 exact T.F_34.kp
 exact T.b_34
 ext aH;ext a;ext j;ext aA;ext ax;ext f;ext x;ext aF;ext aH;ext aA;ext j;ext i;ext ac
 exact nd_46
 refine zar (k:=2) (g:=t.a_35) (fd:=t.d_35) (ps:=yaf) ?_ ?_ ?_ ?_ ?_ ?_
 exact G_35
 ext c
 exact T.m_35
 exact T.F_35.kp
 exact T.b_35
 ext aH;ext a;ext L;ext h;ext aP;ext ap
 exact nd_46
 ext t
 exact zaP
 exact zaZ
 ext R;ext a
 refine zbS (N:=["number","box"]) ?_ ?_ ?_ ?_ ?_ ?_ ?_
 ext S;ext v;ext l;ext am;ext aq;ext aA
 intro _ _ _
 exact zas 0 zqW
 intro _ _ _
 refine zgB ?_
 ext f;ext x;ext aF;ext az;ext aA;ext j
 intro _ _ _
 ext g;ext h;ext d
 refine zaQ 5 ?_ ?_
 exact nd_46
 ext X;ext a
 refine zar (k:=1) (g:=t.a_37) (fd:=t.d_37) (ps:=yk) ?_ ?_ ?_ ?_ ?_ ?_
 exact G_37
 ext c
 exact T.m_37
 exact T.F_37.kp
 exact T.b_37
 ext a;ext L;ext h;ext a
 refine zar (k:=1) (g:=t.a_38) (fd:=t.d_38) (ps:=yq) ?_ ?_ ?_ ?_ ?_ ?_
 exact G_38
 ext c
 exact T.m_38
 exact T.F_38.kp
 exact T.b_38
 ext a
 exact zac 4
 ext aR;ext ax;ext al;ext aK;ext D
 refine zar (k:=2) (g:=t.a_17) (fd:=t.d_17) (ps:=yk) ?_ ?_ ?_ ?_ ?_ ?_
 exact G_17
 ext c
 exact T.m_17
 exact T.F_17.kp
 exact T.b_17
 ext a;ext L;ext h;ext k;ext ah;ext j;ext aK;ext D
 refine zar (k:=1) (g:=t.a_18) (fd:=t.d_18) (ps:=yq) ?_ ?_ ?_ ?_ ?_ ?_
 exact G_18
 ext c
 exact T.m_18
 exact T.F_18.kp
 exact T.b_18
 ext a
 exact zac 4
 ext h;ext k;ext ah;ext j;ext ar;ext f;ext D;ext A
 exact G_41
 ext c
 exact T.m_41
 exact T.F_41.kp
 exact T.b_41
 ext a;ext j;ext a;ext k;ext ah;ext aw;ext L;ext as
 exact zhk
 ext aP
 refine zjr ?_ ?_
 refine zar (k:=1) (g:=t.a_36) (fd:=t.d_36) (ps:=yad) ?_ ?_ ?_ ?_ ?_ ?_
 exact G_36
 ext c
 exact T.m_36
 exact T.F_36.kp
 exact T.b_36
 ext a;ext aF;ext aH;ext aA;ext aO;ext j;ext aF;ext aH;ext aA;ext h
 refine zfe ?_ ?_
 ext S;ext V
 exact zas 6 nd_46
 ext V
 exact zas 7 nd_46
 exact zdW
 ext ax;ext f;ext D
 refine zar (k:=1) (g:=t.a_19) (fd:=t.d_19) (ps:=yan) ?_ ?_ ?_ ?_ ?_ ?_
 exact G_19
 ext c
 exact T.m_19
 exact T.F_19.kp
 exact T.b_19
 ext a;ext aL
 exact zac 6
 ext a
 exact zac 7
 ext aR;ext av;ext s
 exact za3
 exact zb2
 ext ae;ext a
 exact zac 6
 ext h;ext k;ext X;ext aO;ext B;ext s
 exact za3
 exact zb2
 ext ae;ext a
 exact zac 7
 ext h;ext aI;ext h;ext af
 exact zfd
 exact zg6
 exact T.n_int
 ext a;ext aa;ext x
 exact zac 7
 ext aw;ext as
 exact zhk
 ext aP
 refine zaQ 8 ?_ ?_
 exact nd_46
 refine zeN ?_ ?_
 ext B
 refine zbS (N:=["turn","box"]) ?_ ?_ ?_ ?_ ?_ ?_ ?_
 ext S;ext v;ext l;ext am;ext aq;ext a;ext aF;ext aH;ext aA;ext h
 intro _ _ _
 exact zas 0 zp3
 intro _ _ _
 exact zbD
 intro _ _ _
 refine zlR ?_ ?_
 ext B;ext aF;ext az;ext aA;ext i;ext W;ext S;ext Z;ext am;ext aq;ext aA
 exact zas 9 nd_46
 ext d;ext W;ext S;ext Z;ext P;ext X;ext a;ext k;ext ah
 exact zac 9
 ext a;ext Q
 exact G_44
 ext c
 exact T.m_44
 exact T.F_44.kp
 exact T.b_44
 ext aH;ext a;ext k;ext ah
 exact zac 9
 ext h;ext a;ext Q
 exact G_44
 ext c
 exact T.m_44
 exact T.F_44.kp
 exact T.b_44
 ext aH;ext a;ext k;ext ah
 exact zac 9
 ext h;ext a;ext k;ext ah;ext e
 exact zhD
 ext j
 exact zac 9
 ext a
 exact zac 8
 ext h
 exact zas 10 nd_46
 ext i;ext o;ext aT
 refine zar (k:=7) (g:=t.a_45) (fd:=t.d_45) (ps:=yaj) ?_ ?_ ?_ ?_ ?_ ?_
 exact G_45
 ext c
 exact T.m_45
 exact T.F_45.kp
 exact T.b_45
 ext a
 exact zac 9
 ext a
 exact zac 10
 ext h;ext as
 exact zhk
 ext aP
 refine zaQ 11 ?_ ?_
 exact nd_46
 refine zar (k:=2) (g:=t.a_31) (fd:=t.d_31) (ps:=["box"]) ?_ ?_ ?_ ?_ ?_ ?_
 exact G_31
 ext c
 exact T.m_31
 exact T.F_31.kp
 exact T.b_31
 ext aH;ext h;ext i;ext o;ext al
 refine znN ?_ ?_
 ext aT;ext O
 exact zjN
 exact zb2
 ext w;ext ae
 exact zac 11
 refine zj9 ?_
 ext f;ext D;ext A
 exact G_41
 ext c
 exact T.m_41
 exact T.F_41.kp
 exact T.b_41
 ext a
 exact zac 9
 ext a
 exact zac 11
 ext h;ext B;ext as
 exact zhk
 ext aS
 exact zhk
end
end K96
set_option exponentiation.threshold 8000
namespace L3
open L2 LT
section
theorem zjS {n:Nat} {tc:FT} {gb:FS} {sd:Sd}:zdo tc gb (n+1) sd=(do let b<-tc sd;if b=true then (do let o<-gb sd;match o with | .nx sd'=>zdo tc gb n sd' | .ct sd'=>zdo tc gb n sd' | .bk sd'=>pure (.nx sd') | .rt d=>pure (.rt d)) else pure (.nx sd)):=rfl
theorem zc1 {α:Type} {g':α->D} {fi:FA} {g:D->Sd->M Sd} {tc:FT} {te:FE} {src:List (Option Nat)} {sd:Sd} {xs:List α} {k:α->Option D} (hi:fi sd=pure (xs.map g')) (hl:xs.length<=1000) (hf: ∀ x∈xs,zbd g tc te (zat src sd) (g' x)=pure (k x)):zaB fi g tc te src sd=pure (.lst (xs.filterMap k)):=by
 unfold zaB
 rw [hi]
 simp only [pure_bind]
 rw [zaA (by rw [qaH];exact hl)]
 simp only [pure_bind]
 have: ∀ {ys:List α},(∀ x∈ys,zbd g tc te (zat src sd) (g' x)=pure (k x))->zbg (zbd g tc te (zat src sd)) (ys.map g')=pure (ys.filterMap k):=by
  intro ys
  induction ys with
  | nil=>intro _;rfl
  | cons x r ih=>
   intro hf
   rw [qaM,zbg,hf x qau,ih λy hy=>hf y (qan _ hy)]
   simp only [pure_bind]
   cases e:k x<;>simp [qat,e]
 rw [this hf]
 simp only [pure_bind]
theorem ziN {x y:D} {a b:PyData} (e1:pd x=some a) (e2:pd y=some b) (h:zel a b=true):dNe x y=pure (.bl (!PyData.eqv a b)):=by
 show ziK true x y=_
 unfold ziK
 rw [e1,e2]
 simp only [h,if_true]
theorem zrz {i j:Nat} {f g:FE} {sd:Sd}:zpK i j (zab f (zab g zaj)) sd=(do let x<-f sd;let y<-g sd;pure (.nx ((sd.set i (some x)).set j (some y)))):=by
 unfold zpK
 simp only [zaK,zaX,bind_assoc,pure_bind]
def bb:Nat:=2^7000
theorem zsM {n:Nat} (h:n<=7000):2^n<=bb:=Nat.pow_le_pow_right (by decide) h
theorem zgn {i:Int} {k:Nat} (h0:0<k) (h1:k<=bb):zgA (.int i) (.int (k:Int))=pure (.int (i / (k:Int))):=by
 have hb:bb<2^8000:=Nat.pow_lt_pow_right (by decide) (by decide)
 have h2:((k:Int):Int)<2^8000:=by
  have:((k:Nat):Int)<((2^8000:Nat):Int):=Int.ofNat_lt.mpr (Nat.lt_of_le_of_lt h1 hb)
  rw [Int.natCast_pow] at this
  exact this
 unfold zgA dII
 simp only
 rw [qa4]
 rw [qaG,qaD,qaD]
 exact ⟨⋯,h2⟩
theorem euc {a b n:Nat} (hb:b≠0) (hab:b<=a) (h:a*b<2^(n+1)):b*(a % b)<2^n:=by
 have hp:0<b:=Nat.pos_of_ne_zero hb
 have h1:=Nat.div_add_mod a b
 have h2:1<=a / b:=(Nat.one_le_div_iff hp).mpr hab
 have h3:=mod_lt a hp
 have h4:b+a % b<=a:=by
  have:b*1<=b*(a / b):=Nat.mul_le_mul_left b h2
  omega
 have h5:(b+a % b)*b<=a*b:=Nat.mul_le_mul_right b h4
 have h6:b*(a % b)+b*(a % b)<=(b+a % b)*b:=by
  rw [Nat.add_mul,Nat.mul_comm (a % b) b]
  have:b*(a % b)<=b*b:=Nat.mul_le_mul_left b (le_of_lt h3)
  omega
 rw [Nat.pow_succ] at h
 omega
def qD (r:Rat):D:= .tup [.int r.num,.int (r.den:Int)]
theorem zik (a b:Nat):gcd a b=gcd b (a % b):=by rw [Nat.gcd_comm a b,Nat.gcd_rec b a,Nat.gcd_comm]
theorem zt0 {a:Int} {b:Nat} (h0:0<b):qD (mkRat a b)= .tup [.int (a / (gcd a.natAbs b:Int)),.int ((b:Int) / (gcd a.natAbs b:Int))]:=by
 unfold qD
 rw [Rat.num_mkRat,Rat.den_mkRat,qa5 ⋯,qa5 ⋯,Nat.gcd_comm b,Int.natCast_ediv]
theorem ztv {b r:Nat} (hb:b<bb) (h:r<=b):b*r<2^14000:=by
 have h1:b*r<=b*b:=Nat.mul_le_mul_left b h
 have h2:b*b<bb*bb:=Nat.mul_lt_mul'' hb hb
 have h3:bb*bb=2^14000:=by
  unfold bb
  rw [<- Nat.pow_add]
 omega
end
section
theorem ztw {F:D->D->M D} {a b:FE} {sd:Sd}:cMt F a b sd=(do let x<-a sd;zob x;let y<-b sd;F x y):=rfl
theorem zsv {x:Str}:zob (.str x)=pure ():=rfl
theorem znW {x:Str}:zi3 [.str x]=(do fits x.length;pure (.int x.length)):=rfl
theorem zqc {f:FE} {sd:Sd}:zq2 f sd=(do let d<-f sd;zhn d):=rfl
def asc (x:Str):Prop:=(∀ c∈tl x,c<128)/\x.length<=900
theorem asc.ok {x:Str} (h:asc x):PyData.strOk x=true:=by
 unfold PyData.strOk
 rw [Array.all_eq_true']
 intro c hc
 have:=h.1 c (by simpa using hc)
 simp
 omega
theorem asc.fit {x:Str} (h:asc x):fits x.length=pure ():=zaA (by have:=h.2;omega)
theorem zfK {x:Str} {l:List Nat} (h:asc x) (s:l.Sublist (tl x)):asc (ofL l):=by
 refine ⟨λc hc=>h.1 c (s.subset (by simpa [zav] using hc)),?_⟩
 rw [za4,zav]
 have:=s.length_le
 have:=h.2
 rw [za4] at this
 omega
theorem zi2 {x:Str} {c:Nat} (h:asc x):(Txt.split x ⟨#[c]⟩).length<1000000/\(Builtin.Str.partsBetween x (Builtin.Str.occurrences x ⟨#[c]⟩ 0 x.length (x.length+1)) (⟨#[c]⟩:Str).length).length<1000000:=by
 have hx:=h.2
 constructor
 ·rw [ziz,qaH,zd8]
  have:=count_le_length (a:=c) (l:=tl x)
  rw [<- za4] at this
  omega
 ·unfold Builtin.Str.partsBetween
  have:=StrLaws.occ_length_le x ⟨#[c]⟩ 0 x.length (x.length+1)
  simp
  omega
theorem zc0 {x:Str} {c:Nat} (h:asc x):zdd (.str x) (.str ⟨#[c]⟩)=pure (.lst ((spl c (tl x)).map λl=>D.str (ofL l))):=by
 obtain ⟨h1,h2⟩:=zi2 (c:=c) h
 have hx:=h.2
 show (if _/\_/\_/\_ then _ else _)=_
 rw [qa4 ⟨rfl,⋯,h1,h2⟩,ziz,qaT]
 rfl
def zby (l:List Nat):Bool:=decide (1<=l.length) && decide (l.length<=40) && l.all (λc=>decide (48<=c) && decide (c<=57)) && (l==[48] || l.head? != some 48)
def val (l:List Nat):Int:=((NumText.digitsVal l:Nat):Int)
theorem zup:tl (Str.ofString "0123456789")=[48,49,50,51,52,53,54,55,56,57]:=by decide +kernel
theorem zkC {c:Nat}:decide (c∈tl (Str.ofString "0123456789"))=(decide (48<=c) && decide (c<=57)):=by
 rw [zup,Bool.eq_iff_iff,qaD,qaG,qaD,qaD]
 simp only [qaP,qaF,or_false]
 omega
theorem zoH {c:Nat}:zsf (.str ⟨#[c]⟩) (.str (Str.ofString "0123456789"))=pure (.bl (decide (48<=c) && decide (c<=57))):=by
 show (pure (D.bl (!(Builtin.Str.occurrences (Str.ofString "0123456789") ⟨#[c]⟩ 0 _ 1).isEmpty)):M D)=_
 rw [StrLaws.found_one,zkC]
theorem zlt {x:Str} (h:asc x):zhn (.str x)=pure ((tl x).map λc=>D.str ⟨#[c]⟩):=by
 show (if x.cps.all (· < 128)=true then _ else _)=_
 rw [qa4]
 rw [Array.all_eq_true']
 intro c hc
 have:=h.1 c (by simpa using hc)
 simpa using this
theorem ziO {x y:Str} (hx:PyData.strOk x=true) (hy:PyData.strOk y=true):dNe (.str x) (.str y)=pure (.bl (!(decide (tl x=tl y)))):=by
 have e: ∀ a b:Str,PyData.eqv (.str a) (.str b)=decide (tl a=tl b):=λa b=>by
  rw [Bool.eq_iff_iff,qaD]
  show (a==b)=true↔_
  rw [beq_iff_eq]
  exact ⟨λz=>by rw [z],zed⟩
 rw [ziN (x:= .str x) (y:= .str y) rfl rfl (by unfold zel;simp [PyData.canLay0,PyData.depth,hx,hy]),e]
theorem zdr {x y:Str} (hx:PyData.strOk x=true) (hy:PyData.strOk y=true):dEq (.str x) (.str y)=pure (.bl (decide (tl x=tl y))):=by
 rw [zot x y hx hy]
 congr 2
 rw [Bool.eq_iff_iff,beq_iff_eq,qaD]
 exact ⟨λz=>by rw [z],zed⟩
theorem ix0 {x:Str} {c:Nat} {r:List Nat} (h:asc x) (e:tl x=c::r):zng (.str x) (.int 0)=pure (.str ⟨#[c]⟩):=by
 show (do fits x.length;let c<-ofO (atI (tl x) 0);pure (.str ⟨#[c]⟩):M D)=_
 have ea:atI (c::r) (0:Int)=some c:=zdS (j:=0) rfl
 rw [h.fit,pure_bind,e,ea,zcM,pure_bind]
theorem zk6 (x y:Str):(tl (Txt.stripChars x y)).Sublist (tl x):=by
 unfold Txt.stripChars Txt.stripBy
 split
 ·exact .refl _
 ·unfold stripped
  rw [zd7]
  exact (List.take_sublist _ _).trans (List.drop_sublist _ _)
theorem zoY {x y:Str} (h:asc x) (s:(tl y).Sublist (tl x)):asc y:=by
 have:=zfK h s
 rwa [zir] at this
theorem zhu {x:Str} (h:zby (tl x)=true):zna [.str x]=pure (.int (val (tl x))):=by
 unfold zby at h
 simp only [qaG,qaD] at h
 obtain ⟨⟨⟨h1,h2⟩,h3⟩,_⟩:=h
 have hd:NumText.AllDigits (tl x):=λc hc=>by
  have:=all_eq_true.mp h3 c hc
  simpa using this
 show (if x.length<=640 then _ else _)=_
 rw [qa4 (by rw [za4];omega),intText_digits hd (λz=>by have z:tl x=[]:=z;rw [z] at h1;simp at h1) (by rw [za4];omega),zcM,pure_bind]
 rfl
end
section
def pdO (o:List Int×Int):PyData:= .tuple [.tuple (o.1.map PyData.int),.int o.2]
theorem zhL: ∀ os:List (List Int×Int),pdL (os.map zcN)=some (os.map pdO)
 | []=>rfl
 | o::r=>by
  rw [qaM,pdL,zhL r]
  simp only [zcN,tI,pd,pdL,zcy,Option.map,pdO,qaM]
theorem zen: ∀ os:List (List Int×Int),PyData.canLayAll0 (os.map pdO)=true
 | []=>rfl
 | o::r=>by simp [PyData.canLayAll0,PyData.canLay0,za8,zen r,pdO]
theorem zgR (os:List (List Int×Int)):PyData.depthAll (os.map pdO)<=2:=by
 induction os with
 | nil=>simp [PyData.depthAll]
 | cons o r ih=>
  rw [qaM]
  simp only [PyData.depthAll,PyData.depth,zbK,pdO]
  omega
theorem zfY: ∀ os:List (List Int×Int),PyData.eqvAll (os.map pdO) (os.map pdO)=true
 | []=>rfl
 | o::r=>by
  rw [qaM]
  simp [PyData.eqvAll,PyData.eqv,pdO,zep,zfY r]
theorem zs7 {ds:List D} {lo hi:Option Int}:dSl (.lst ds) lo hi=pure (.lst (zjf ds lo hi)):=rfl
theorem zub {ds:List D}:zev "tuple" (.tup ds)=pure (.bl true):=rfl
theorem zh6 (m:Int) (os:List (List Int×Int)):pd (zcU m os)=some (.tuple [.int m,.tuple (os.map pdO)]):=by
 simp only [zcU,pd,pdL,zhL,Option.map]
theorem zqA (m:Int) (os:List (List Int×Int)):dEq (zcU m os) (zcU m os)=pure (.bl true):=by
 have hd:=zgR os
 rw [zih (zh6 m os) (zh6 m os) (by unfold zel;simp [PyData.canLay0,PyData.canLayAll0,zen,PyData.depth,PyData.depthAll];omega)]
 simp [PyData.eqvAll,PyData.eqv,zfY]
theorem zqI (m:Int) (os:List (List Int×Int)):dNe (zcU m os) (zcU m os)=pure (.bl false):=by
 have hd:=zgR os
 rw [ziN (zh6 m os) (zh6 m os) (by unfold zel;simp [PyData.canLay0,PyData.canLayAll0,zen,PyData.depth,PyData.depthAll];omega)]
 simp [PyData.eqvAll,PyData.eqv,zfY]
theorem zoQ (ds:List D):zjf ds (some 1) (some 2)=(ds.drop 1).take 1:=by
 match ds with
 | []=>rfl
 | [a]=>rfl
 | a::b::r=>
  unfold zjf HT.sIx
  simp
  try omega
def okO (m:Int) (o:List Int×Int):Bool:=zbt m 0 (o.1.map D.int) && (decide (0<(o.1.length:Int)) && decide (0<o.2))
def okS (m:Int) (os:List (List Int×Int)):Bool:=decide (1<=m) && decide (m<=10) && decide (os.length<=12) && os.all (okO m)
end
section
theorem zk1 (ds:List D):zjf ds (some 2) none=ds.drop 2:=zl4 ds (k:=2) (by decide)
theorem zmI {w:List (List Nat)} (h: ∀ p∈w,asc (ofL p)):dNe (.lst (w.map λl=>D.str (ofL l))) (.lst [.str ":"])=pure (.bl (!decide (w=[[58]]))):=by
 have e1: ∀ {w:List (List Nat)},pdL (w.map λl=>D.str (ofL l))=some (w.map λl=>PyData.str (ofL l)):=by
  intro w
  induction w with
  | nil=>rfl
  | cons p r ih=>
   rw [qaM,pdL,ih]
   rfl
 have e2: ∀ {w:List (List Nat)},(∀ p∈w,asc (ofL p))->PyData.canLayAll0 (w.map λl=>PyData.str (ofL l))=true:=by
  intro w
  induction w with
  | nil=>intro _;rfl
  | cons p r ih=>
   intro h
   rw [qaM]
   unfold PyData.canLayAll0
   rw [ih λq hq=>h q (qan _ hq)]
   simp [PyData.canLay0,(h p (by simp)).ok]
 have ec:(":":Str)=ofL [58]:=by decide +kernel
 have o:PyData.strOk (":":Str)=true:=by decide +kernel
 have ep:pd (.lst (w.map λl=>D.str (ofL l)))=some (.list (w.map λl=>PyData.str (ofL l))):=by
  unfold pd
  rw [e1]
  rfl
 rw [ziN (y:= .lst [.str ":"]) (b:= .list [.str ":"]) ep rfl (by unfold zel;simp [PyData.canLay0,PyData.canLayAll0,e2 h,o,PyData.depth,PyData.depthAll])]
 congr 3
 rw [Bool.eq_iff_iff,qaD]
 match w with
 | []=>simp [PyData.eqv,PyData.eqvAll]
 | [p]=>
  simp only [qaM,map_nil,PyData.eqv,PyData.eqvAll,Bool.and_true,List.cons.injEq,and_true]
  rw [ec,beq_iff_eq]
  exact ⟨λz=>by have:=congrArg tl z;rwa [zav,zav] at this,λz=>by rw [z]⟩
 | p::q::r=>simp [PyData.eqv,PyData.eqvAll]
end
section
theorem znm:PyData.strOk "! text"=true:=by decide +kernel
theorem zm5 {x:Str} (hx:PyData.strOk x=true):dEq (.str x) (.str x)=pure (.bl true):=by
 rw [zih (x:= .str x) (y:= .str x) rfl rfl (by unfold zel;simp [PyData.canLay0,PyData.depth,hx])]
 simp [PyData.eqv]
theorem zes {x:Str} (hx:PyData.strOk x=true):dNe (.str x) (.str x)=pure (.bl false):=by
 rw [ziN (x:= .str x) (y:= .str x) rfl rfl (by unfold zel;simp [PyData.canLay0,PyData.depth,hx])]
 simp [PyData.eqv]
end
section
def nd (n:Nat):List Nat:=(toDigits 10 n).map Char.toNat
theorem zjF: ∀ d:Nat,d<10->(Nat.digitChar d).toNat=48+d:=by decide
theorem zer {n:Nat} (h:n<10):nd n=[48+n]:=by
 unfold nd
 rw [Nat.toDigits_of_lt_base h]
 show [(Nat.digitChar n).toNat]=_
 rw [zjF n h]
theorem zlh {n:Nat} (h:10<=n):nd n=nd (n / 10)++[48+n % 10]:=by
 have hm:n % 10<10:=mod_lt n (by decide)
 have t:toDigits 10 (n / 10)++toDigits 10 (n % 10)=toDigits 10 (10*(n / 10)+n % 10):=Nat.toDigits_append_toDigits (by decide) ⋯ hm
 rw [Nat.div_add_mod] at t
 have e:=zer hm
 unfold nd at e ⊢
 rw [<- t,List.map_append,e]
theorem zgE (n:Nat): ∀ c∈nd n,48<=c/\c<=57:=by
 induction n using Nat.strongRecOn with
 | _ n ih=>
  intro c hc
  by_cases h:n<10
  ·rw [zer h] at hc
   have:=mem_singleton.mp hc
   omega
  ·rw [zlh ⋯] at hc
   rcases qaK.mp hc with hc | hc
   ·exact ih (n / 10) ⋯ c hc
   ·have:=mem_singleton.mp hc
    omega
theorem zjY (n:Nat):nd n≠[]/\(n≠0->(nd n).head? ≠ some 48):=by
 induction n using Nat.strongRecOn with
 | _ n ih=>
  by_cases h:n<10
  ·rw [zer h]
   simp
  ·obtain ⟨h1,h2⟩:=ih (n / 10) ⋯
   have h2:=h2 ⋯
   rw [zlh ⋯]
   cases hn:nd (n / 10) with
   | nil=>exact absurd hn h1
   | cons a r=>
    rw [hn] at h2
    exact ⟨by simp,λ_=>by simpa using h2⟩
theorem zit: ∀ {k n:Nat},n<10^(k+1)->(nd n).length<=k+1
 | k,n,hn=>by
  by_cases h:n<10
  ·rw [zer h]
   simp
  ·cases k with
   | zero=>exact absurd (by simpa using hn) h
   | succ k=>
    have:=zit (k:=k) (n:=n / 10) (by rw [Nat.pow_succ] at hn;omega)
    rw [zlh ⋯,qav]
    simp
    omega
theorem zrV {n:Nat} (h:n<10^20):zby (nd n)=true:=by
 have h1:=zit (k:=19) h
 obtain ⟨h2,h3⟩:=zjY n
 have h4:1<=(nd n).length:=length_pos_iff.mpr h2
 unfold zby
 rw [qaG,qaG,qaG,qaD,qaD]
 refine ⟨⟨⟨h4,⋯⟩,all_eq_true.mpr λc hc=> ?_⟩,?_⟩
 ·have:=zgE n c hc
  simp [this]
 ·by_cases h0:n=0
  ·subst h0
   rfl
  ·rw [Bool.or_eq_true]
   right
   simpa using h3 h0
theorem zqR (n:Nat):val (nd n)=(n:Int):=by
 unfold val nd
 rw [W.KIN.val_back]
theorem zqw (n:Nat):Str.ofString (toString ((n:Nat):Int))=ofL (nd n):=zed (by rw [zav];exact W.KIN.signs_num n)
theorem zs9 {n c:Nat} (h:c<48\/57<c):c∉nd n:=λz=>by have:=zgE n c z;omega
theorem zqq {n:Nat} (h:n<2^64):zb6 [.int (n:Int)]=pure (.str (ofL (nd n))):=by
 show (if (n:Int).natAbs.log2<1920 then (pure (D.str (Str.ofString (toString (n:Int)))):M D) else _)=_
 rw [qa4,zqw]
 rw [Int.natAbs_natCast]
 by_cases h0:n=0
 ·rw [h0];decide
 ·exact (Nat.log2_lt h0).mpr (qaw h (Nat.pow_le_pow_right (by decide) (by decide)))
theorem zgt {c:Nat}: ∀ {ps:List (List Nat)} {x:Nat},x∈jL c ps->x=c\/ ∃ p∈ps,x∈p
 | [],x,h=>by simp [jL] at h
 | [p],x,h=> .inr ⟨p,by simp,h⟩
 | p::q::r,x,h=>by
  have h:x∈p++c::jL c (q::r):=h
  rcases qaK.mp h with h | h
  ·exact .inr ⟨p,by simp,h⟩
  ·rcases qaP.mp h with h | h
   ·exact .inl h
   ·rcases zgt (ps:=q::r) h with h | ⟨p',hp,h⟩
    ·exact .inl h
    ·exact .inr ⟨p',qan _ hp,h⟩
theorem zgY {c k:Nat}: ∀ {ps:List (List Nat)},(∀ p∈ps,p.length<=k)->(jL c ps).length<=ps.length*(k+1)
 | [],_=>by simp [jL]
 | [p],h=>by
  have:=h p (by simp)
  simp [jL]
  omega
 | p::q::r,h=>by
  have h1:=h p (by simp)
  have h2:=zgY (c:=c) (ps:=q::r) λx hx=>h x (qan _ hx)
  show (p++c::jL c (q::r)).length<=((q::r).length+1)*(k+1)
  rw [qav,qaE,Nat.succ_mul]
  omega
theorem zls {c:Nat}: ∀ {ps:List (List Nat)},(∀ p∈ps,c∉p)->(jL c ps).count c<=ps.length
 | [],_=>by simp [jL]
 | [p],h=>by
  show p.count c<=1
  rw [List.count_eq_zero_of_not_mem (h p (by simp))]
  omega
 | p::q::r,h=>by
  have h2:=zls (ps:=q::r) λx hx=>h x (qan _ hx)
  show (p++c::jL c (q::r)).count c<=(q::r).length+1
  rw [List.count_append,List.count_cons_self,List.count_eq_zero_of_not_mem (h p (by simp))]
  omega
def seg (k:Nat):Nat->List Nat->Prop
 | n,[]=>n<=k
 | n,c::r=>n<=k/\(if c=32\/c=61 then seg k 0 r else if c=44 then seg k (n+1) r else seg k n r)
theorem zfX {k:Nat}: ∀ {l:List Nat} {n i:Nat},seg k n l->i<=n->seg k i l
 | [],n,i,h,hi=>qaS hi h
 | c::r,n,i,h,hi=>by
  obtain ⟨h1,h2⟩:=h
  refine ⟨⋯,?_⟩
  split at h2
  ·rename_i c1;rw [qa4 c1];exact h2
  ·rename_i c1
   rw [qa5 c1]
   split at h2
   ·rename_i c2;rw [qa4 c2];exact zfX h2 ⋯
   ·rename_i c2;rw [qa5 c2];exact zfX h2 hi
theorem zgv {k j:Nat}: ∀ {l:List Nat} {n i:Nat},seg k n l->i<=j->seg (j+k) (i+n) l
 | [],n,i,h,hi=>by show i+n<=j+k;have:n<=k:=h;omega
 | c::r,n,i,h,hi=>by
  obtain ⟨h1,h2⟩:=h
  refine ⟨⋯,?_⟩
  split at h2
  ·rename_i c1;rw [qa4 c1];exact zfX (zgv h2 hi) (zero_le _)
  ·rename_i c1
   rw [qa5 c1]
   split at h2
   ·rename_i c2;rw [qa4 c2];exact zgv (n:=n+1) (i:=i) h2 hi
   ·rename_i c2;rw [qa5 c2];exact zgv h2 hi
theorem ze3 {k j:Nat}: ∀ {l b:List Nat} {n:Nat},seg j n l->seg k 0 b->seg (j+k) n (l++b)
 | [],b,n,h,hb=>zgv hb h
 | c::r,b,n,h,hb=>by
  obtain ⟨h1,h2⟩:=h
  refine ⟨⋯,?_⟩
  split at h2
  ·rename_i c1;rw [qa4 c1];exact ze3 h2 hb
  ·rename_i c1
   rw [qa5 c1]
   split at h2
   ·rename_i c2;rw [qa4 c2];exact ze3 h2 hb
   ·rename_i c2;rw [qa5 c2];exact ze3 h2 hb
theorem zeR {k d:Nat} (hd:d=32\/d=61): ∀ {l b:List Nat} {n:Nat},seg k n l->seg k 0 b->seg k n (l++d::b)
 | [],b,n,h,hb=>⟨h,by rw [qa4 hd];exact hb⟩
 | c::r,b,n,h,hb=>by
  obtain ⟨h1,h2⟩:=h
  refine ⟨h1,?_⟩
  split at h2
  ·rename_i c1;rw [qa4 c1];exact zeR hd h2 hb
  ·rename_i c1
   rw [qa5 c1]
   split at h2
   ·rename_i c2;rw [qa4 c2];exact zeR hd h2 hb
   ·rename_i c2;rw [qa5 c2];exact zeR hd h2 hb
theorem zeu {k:Nat}: ∀ {l:List Nat} {n i:Nat},seg k n l->seg k n (l.take i)
 | [],n,i,h=>by simpa using h
 | c::r,n,0,h=>h.1
 | c::r,n,i+1,h=>by
  obtain ⟨h1,h2⟩:=h
  refine ⟨h1,?_⟩
  split at h2
  ·rename_i c1;rw [qa4 c1];exact zeu h2
  ·rename_i c1
   rw [qa5 c1]
   split at h2
   ·rename_i c2;rw [qa4 c2];exact zeu h2
   ·rename_i c2;rw [qa5 c2];exact zeu h2
theorem zem {k:Nat}: ∀ {l:List Nat} {n i:Nat},seg k n l->seg k 0 (l.drop i)
 | [],n,i,h=>by rw [List.drop_nil];exact zero_le _
 | c::r,n,0,h=>zfX h (zero_le _)
 | c::r,n,i+1,h=>by
  obtain ⟨h1,h2⟩:=h
  show seg k 0 (r.drop i)
  split at h2
  ·exact zem h2
  ·split at h2
   ·exact zem h2
   ·exact zem h2
theorem zbT {k:Nat}: ∀ {l:List Nat} {n:Nat},n+l.count 44<=k->seg k n l
 | [],n,h=>by show n<=k;simpa using h
 | c::r,n,h=>by
  refine ⟨⋯,?_⟩
  by_cases c1:c=32\/c=61
  ·rw [qa4 c1]
   refine zbT ?_
   have:=List.count_le_count_cons (a:=44) (b:=c) (l:=r)
   omega
  ·rw [qa5 c1]
   by_cases c2:c=44
   ·rw [qa4 c2]
    subst c2
    rw [List.count_cons_self] at h
    exact zbT ⋯
   ·rw [qa5 c2]
    have:=List.count_le_count_cons (a:=44) (b:=c) (l:=r)
    exact zbT ⋯
theorem zez {k d:Nat} (hd:d=32\/d=61): ∀ {l:List Nat} {n:Nat},seg k n l-> ∃ s t,spl d l=s::t/\seg k n s/\ ∀ p∈t,seg k 0 p
 | [],n,h=>⟨[],[],rfl,h,by simp⟩
 | c::r,n,h=>by
  obtain ⟨h1,h2⟩:=h
  unfold spl
  by_cases e:c=d
  ·rw [qa4 e]
   rw [qa4 (e▸hd)] at h2
   obtain ⟨s,t,es,g1,g2⟩:=zez hd h2
   refine ⟨[],_,rfl,h1,λp hp=> ?_⟩
   rw [es] at hp
   rcases qaP.mp hp with rfl | hp
   ·exact g1
   ·exact g2 p hp
  ·rw [qa5 e]
   have: ∃ s t,spl d r=s::t/\seg k n (c::s)/\ ∀ p∈t,seg k 0 p:=by
    split at h2
    ·rename_i c1
     obtain ⟨s,t,es,g1,g2⟩:=zez hd h2
     exact ⟨s,t,es,⟨h1,by rw [qa4 c1];exact g1⟩,g2⟩
    ·rename_i c1
     split at h2
     ·rename_i c2
      obtain ⟨s,t,es,g1,g2⟩:=zez hd h2
      exact ⟨s,t,es,⟨h1,by rw [qa5 c1,qa4 c2];exact g1⟩,g2⟩
     ·rename_i c2
      obtain ⟨s,t,es,g1,g2⟩:=zez hd h2
      exact ⟨s,t,es,⟨h1,by rw [qa5 c1,qa5 c2];exact g1⟩,g2⟩
   obtain ⟨s,t,es,g1,g2⟩:=this
   rw [es]
   exact ⟨_,_,rfl,g1,g2⟩
theorem zkF {k d:Nat} (hd:d=32\/d=61) {l:List Nat} (h:seg k 0 l): ∀ p∈spl d l,seg k 0 p:=by
 obtain ⟨s,t,e,h1,h2⟩:=zez hd h
 intro p hp
 rw [e] at hp
 rcases qaP.mp hp with rfl | hp
 ·exact h1
 ·exact h2 p hp
theorem zkm {k:Nat}: ∀ {l:List Nat} {n:Nat},seg k n l->32∉l->61∉l->n+l.count 44<=k
 | [],n,h,_,_=>by have h:n<=k:=h;simpa using h
 | c::r,n,h,h3,h6=>by
  obtain ⟨h1,h2⟩:=h
  have a1:c≠32:=λz=>h3 (by simp [z])
  have a2:c≠61:=λz=>h6 (by simp [z])
  rw [qa5 (by rintro (z | z);exact a1 z;exact a2 z)] at h2
  have b1:32∉r:=λz=>h3 (qan _ z)
  have b2:61∉r:=λz=>h6 (qan _ z)
  split at h2
  ·rename_i c2
   have:=zkm h2 b1 b2
   rw [c2,List.count_cons_self]
   omega
  ·rename_i c2
   have:=zkm h2 b1 b2
   rw [List.count_cons_of_ne (by simpa using c2)]
   exact this
theorem znT {k:Nat}: ∀ {ps:List (List Nat)},(∀ p∈ps,seg k 0 p)->seg k 0 (jL 32 ps)
 | [],_=>zero_le _
 | [p],h=>h p (by simp)
 | p::q::r,h=>zeR (.inl rfl) (h p (by simp)) (znT λx hx=>h x (qan _ hx))
end
section
theorem zlp {fo fe:FE} {sd:Sd}:zhx fo fe sd=(fo sd>>=λx=>zfp x>>=λ_=>fe sd>>=λy=>zdp x y):=rfl
theorem zr5 {f:FE} {sd:Sd}:zqz f sd=(f sd>>=λd=>ztF d):=rfl
theorem zo8 {h:Hh} {x y:C}:(h++[x]).set h.length y=h++[y]:=by
 rw [List.set_append_right _ _ (qaV _),Nat.sub_self]
 rfl
theorem zeq: ∀ ls:List (List Nat),zeQ (ls.map λl=>D.str (ofL l))=some (ls.map ofL)
 | []=>rfl
 | l::r=>by
  rw [qaM]
  unfold zeQ
  rw [zeq r]
  rfl
theorem zjz {sep:Str} {ls:List (List Nat)} (h:ls.length<=100) (hl: ∀ l∈ls,l.length<=900) (hs:sep.length<=16):JoinOk sep (ls.map ofL)=true:=by
 have h1:=StrLaws.sumLen_le (B:=900) (ls.map ofL) λy hy=>by
  obtain ⟨l,hl',rfl⟩:=qaU.mp hy
  rw [za4,zav]
  exact hl l hl'
 rw [qaH] at h1
 exact joinOk_of_weight (by rw [qaH];omega) hs
theorem znv (ls:List (List Nat)):(ls.map ofL).map tl=ls:=by
 rw [qaT]
 conv=>rhs;rw [<- map_id ls]
 exact map_congr_left λl _=>zav l
theorem zjV (c:Nat) (ls:List (List Nat)):Txt.join ⟨#[c]⟩ (ls.map ofL)=ofL (jL c ls):=zed (by rw [ziP,zav,znv])
theorem ziv {c:Nat} {ls:List (List Nat)} (h:ls.length<=100) (hl: ∀ l∈ls,l.length<=900):zdY (.str ⟨#[c]⟩) (.lst (ls.map λl=>D.str (ofL l)))=pure (.str (ofL (jL c ls))):=by
 show (do let ds<-pure (ls.map λl=>D.str (ofL l));let zs<-ofO (zeQ ds);if JoinOk (⟨#[c]⟩:Str) zs=true then pure (D.str (Txt.join ⟨#[c]⟩ zs)) else M.bad:M D)=_
 rw [pure_bind,zeq,zcM,pure_bind,qa4 (zjz (sep:=⟨#[c]⟩) h hl (show 1<=16 by decide)),zjV]
theorem zow {c:Nat} {ls:List (List Nat)} (h:ls.length<=100) (hl: ∀ l∈ls,l.length<=900) {hh:Hh} {n:Nat} {P:D->Hh->Prop} (e:hh[n]? = some (.lst (ls.map λl=>D.str (ofL l)))) (q:P (.str (ofL (jL c ls))) hh):wp (zdY (.str ⟨#[c]⟩) (.cel n)) hh P:=by
 show wp (do let ds<-zaq n;let zs<-ofO (zeQ ds);if JoinOk (⟨#[c]⟩:Str) zs=true then pure (D.str (Txt.join ⟨#[c]⟩ zs)) else M.bad:M D) hh P
 rw [zan,zdN e,zeq,zcM,pure_bind,qa4 (zjz (sep:=⟨#[c]⟩) h hl (show 1<=16 by decide)),zjV,zak]
 exact q
theorem zbA {a b:List Nat} (h:a.length+b.length<=1000):zbC (.str (ofL a)) (.str (ofL b))=pure (.str (ofL (a++b))):=by
 show (do fits ((ofL a).length+(ofL b).length);pure (D.str (ofL a++ofL b)):M D)=_
 rw [za4,za4,zav,zav,zaA h,pure_bind]
 congr 2
 exact zed (by rw [zcT,zav,zav,zav])
def tS (i:Int):List Nat:=nd i.toNat
def oT (o:List Int×Int):List Nat:=jL 44 (o.1.map tS)++61::tS o.2
def sT (m:Int) (os:List (List Int×Int)):List Nat:=jL 32 (tS m::[58]::os.map oT)
def lT (ns:List Int):List Nat:=if ns=[] then [110,111,110,101] else jL 32 (ns.map tS)
theorem zdI {i:Int} (h0:0<=i) (h1:i<2^64):zb6 [.int i]=pure (.str (ofL (tS i))):=by
 obtain ⟨n,rfl⟩:=Int.eq_ofNat_of_zero_le h0
 exact zqq ⋯
theorem zcI {i:Int} (h1:i<2^64):(tS i).length<=20:=zit (k:=19) ⋯
theorem zrF {i:Int} (h0:0<=i) (h1:i<10):(tS i).length<=1:=zit (k:=0) ⋯
theorem zf6 {ns:List Int} (h: ∀ x∈ns,0<=x/\x<2^64) (hl:ns.length<=100) {fi:FA} {sd:Sd} (hi:fi sd=pure (ns.map D.int)) (eb:zat [none] sd=[none]):zaB fi (zaR 0) (λ_=>pure true) (zax zb6 (zab (zaf 0) zaj)) [none] sd=pure (.lst ((ns.map tS).map λl=>D.str (ofL l))):=by
 rw [show ((ns.map tS).map λl=>D.str (ofL l))=ns.filterMap λx=>some (D.str (ofL (tS x))) by simp]
 refine zc1 (g':=D.int) hi ⋯ λx hx=> ?_
 rw [eb]
 obtain ⟨h0,h1⟩:=h x hx
 show (do let sd'<-pure [some (D.int x)];let b<-pure true;if b=true then (do let d<-(do let ds<-(do let d<-zaf 0 sd';let r<-pure [];pure (d::r):M (List D));zb6 ds);pure (some d)) else pure none:M (Option D))=_
 simp only [pure_bind,zaD,zdI h0 h1,if_true]
end
section
theorem zrr {f:FE} {lo hi:Sd->M (Option Int)} {sd:Sd}:zkV f lo hi sd=(do let d<-f sd;let l<-lo sd;let u<-hi sd;zpO d l u):=rfl
theorem zum (a b:Nat):sliceRange (a:Int) (b:Int) 1=(List.range (b - a)).map (λk=>a+k):=by
 unfold sliceRange
 simp only [show ((1:Int)>0)=True by simp,if_true]
 by_cases h:(a:Int)<b
 ·have e3:(((b:Int) - a+1 - 1) / 1).toNat=b - a:=by
   rw [Int.ediv_one]
   omega
  simp only [h,if_true,e3]
  refine map_congr_left λk _=> ?_
  omega
 ·have:b - a=0:=by omega
  simp [h,this]
theorem zkj {x:Str} {lo hi:Option Int} {a b:Nat} (e:Builtin.Str.strSliceIndices lo hi 1 x.length=sliceRange (a:Int) (b:Int) 1) (ha:a<=x.length) (hb:b<=x.length):slS x lo hi 1=ofL (((tl x).drop a).take (b - a)):=by
 have hlen:=za4 x
 unfold slS
 rw [e,zum]
 split
 ·rename_i h
  rw [qaG,beq_iff_eq,beq_iff_eq,qaH,List.length_range] at h
  refine zed ?_
  rw [zav]
  by_cases h0:x.length=0
  ·have:tl x=[]:=length_eq_zero_iff.mp ⋯
   rw [this]
   simp
  ·have e1:a=0:=by omega
   have e2:b=x.length:=by omega
   rw [e1,e2,hlen,List.drop_zero,Nat.sub_zero,List.take_length]
 ·by_cases hab:a<=b
  ·have:=StrLaws.sliced_plain x hab hb
   rw [StrLaws.strSliceIndices_plain hab hb] at this
   rw [this]
   rfl
  ·have:b - a=0:=by omega
   rw [this]
   simp
   rfl
theorem zsB {i:Int} {n:Nat} (h:0<=i):Builtin.Str.strSliceIndices none (some i) 1 n=sliceRange ((0:Nat):Int) ((min i.toNat n:Nat):Int) 1:=by
 unfold Builtin.Str.strSliceIndices
 simp only [show ((1:Int)>0)=True by simp,if_true,qa5 (show ¬i<0 by omega)]
 congr 1
 omega
theorem zoh {i:Int} {n:Nat} (h:0<=i):Builtin.Str.strSliceIndices (some i) none 1 n=sliceRange ((min i.toNat n:Nat):Int) ((n:Nat):Int) 1:=by
 unfold Builtin.Str.strSliceIndices
 simp only [show ((1:Int)>0)=True by simp,if_true,qa5 (show ¬i<0 by omega)]
 congr 1
 omega
theorem zrD {i j:Int} {n:Nat} (h:0<=i) (h2:0<=j):Builtin.Str.strSliceIndices (some i) (some j) 1 n=sliceRange ((min i.toNat n:Nat):Int) ((min j.toNat n:Nat):Int) 1:=by
 unfold Builtin.Str.strSliceIndices
 simp only [show ((1:Int)>0)=True by simp,if_true,qa5 (show ¬i<0 by omega),qa5 (show ¬j<0 by omega)]
 congr 1<;>omega
theorem zjU {l:List Nat} (hl:l.length<=1000) (lo hi:Option Int):zpO (.str (ofL l)) lo hi=pure (.str (slS (ofL l) lo hi 1)):=by
 show (do fits (ofL l).length;pure (D.str (slS (ofL l) lo hi 1)):M D)=_
 rw [zaA (by rw [za4,zav];exact hl),pure_bind]
theorem zsz {l:List Nat} (hl:l.length<=1000) {i:Int} (h:0<=i):zpO (.str (ofL l)) none (some i)=pure (.str (ofL (l.take i.toNat))):=by
 have hn:(ofL l).length=l.length:=by rw [za4,zav]
 rw [zjU hl,zkj (zsB h) (zero_le _) (min_le_right _ _),zav,hn]
 congr 3
 rw [List.drop_zero,Nat.sub_zero,List.take_eq_take_iff]
 omega
theorem zhp {l:List Nat} (hl:l.length<=1000) {i:Int} (h:0<=i):zpO (.str (ofL l)) (some i) none=pure (.str (ofL (l.drop i.toNat))):=by
 have hn:(ofL l).length=l.length:=by rw [za4,zav]
 rw [zjU hl,zkj (zoh h) (min_le_right _ _) (qaV _),zav,hn]
 congr 3
 by_cases c:i.toNat<=l.length
 ·rw [Nat.min_eq_left c]
  exact List.take_of_length_le (by simp)
 ·rw [Nat.min_eq_right ⋯,List.drop_of_length_le (qaV _),List.drop_of_length_le ⋯]
  simp
theorem zqB {l:List Nat} (hl:l.length<=1000) {i:Int} (h:0<=i): ∃ w,zpO (.str (ofL l)) (some i) (some (i+2))=pure (.str (ofL w))/\w.length<=2/\ ∀ c∈w,c∈l:=by
 have hn:(ofL l).length=l.length:=by rw [za4,zav]
 rw [zjU hl,zkj (zrD h (show 0<=i+2 by omega)) (min_le_right _ _) (min_le_right _ _),zav,hn]
 refine ⟨_,rfl,?_,λc hc=>List.mem_of_mem_drop (List.mem_of_mem_take hc)⟩
 rw [length_take]
 omega
theorem zpU {w:List Nat} (h:w.length<=2): ∃ v,zpt (.str (ofL w))=pure (.str (ofL v))/\v.length<=2/\ ∀ c∈v,c∈w:=by
 have hn:(ofL w).length=w.length:=by rw [za4,zav]
 have hi:(Builtin.Str.strSliceIndices none none (-1) (ofL w).length).length=w.length:=by rw [picked_rev,qaH,List.length_range,hn]
 refine ⟨(Builtin.Str.strSliceIndices none none (-1) (ofL w).length).filterMap ((ofL w).cps[·]?),?_,?_,λc hc=> ?_⟩
 ·show (if (ofL w).length<1000/\_ then _ else _)=_
  rw [qa4 ⟨⋯,⋯⟩]
  unfold slS
  rw [qa5 (by simp)]
  rfl
 ·exact qaS (List.length_filterMap_le _ _) ⋯
 ·obtain ⟨k,_,hk⟩:=mem_filterMap.mp hc
  have:c∈(ofL w).cps:=Array.mem_of_getElem? hk
  have h2:c∈tl (ofL w):=by simpa using this
  rwa [zav] at h2
theorem zk4 {x:Str} (h: ∀ c∈tl x,c<128) (hl:x.length<=100) {t:Int} (t0:0<=t) (t1:t<x.length): ∃ c:Nat,zng (.str x) (.int t)=pure (.str (ofL [c]))/\c<128:=by
 have hlen:=za4 x
 have ht:t.toNat<(tl x).length:=by omega
 refine ⟨(tl x)[t.toNat],?_,h _ (getElem_mem ht)⟩
 show (do fits x.length;let c<-ofO (atI (tl x) t);pure (.str ⟨#[c]⟩):M D)=_
 have ea:atI (tl x) ((t.toNat:Nat):Int)=some (tl x)[t.toNat]:=zdS (qaf ht)
 rw [Int.toNat_of_nonneg t0] at ea
 rw [zaA ⋯,pure_bind,ea,zcM,pure_bind]
 rfl
theorem ziB: ∀ xs:List Str,tl (Str.join ⟨#[]⟩ xs)=(xs.map tl).flatten
 | []=>rfl
 | [x]=>by simp [Str.join]
 | x::y::r=>by
  show tl (x++⟨#[]⟩++Str.join ⟨#[]⟩ (y::r))=_
  rw [zcT,zcT,ziB (y::r)]
  simp
theorem zpn {ls:List (List Nat)} (h:ls.length<=100) (hl: ∀ l∈ls,l.length<=900):zdY (.str (Str.ofString "")) (.lst (ls.map λl=>D.str (ofL l)))=pure (.str (ofL ls.flatten)):=by
 have e0:Str.ofString ""=(⟨#[]⟩:Str):=rfl
 rw [e0]
 show (do let ds<-pure (ls.map λl=>D.str (ofL l));let zs<-ofO (zeQ ds);if JoinOk (⟨#[]⟩:Str) zs=true then pure (D.str (Txt.join ⟨#[]⟩ zs)) else M.bad:M D)=_
 rw [pure_bind,zeq,zcM,pure_bind,qa4 (zjz (sep:=⟨#[]⟩) h hl (show 0<=16 by decide))]
 congr 2
 refine zed ?_
 unfold Txt.join
 rw [StrLaws.glued_eq_join,ziB,znv,zav]
end
end L3
namespace K96
open L2 L3 LT
set_option hygiene false in
local macro_rules | `(tactic| ac_nf0)=> `(tactic| simp only [zaY,zcG,zhV,zcD,zgj,ziG,zou,zee,zbj,zaK,zaX,zb8,znj,zeL,zaD,zaM,pure_bind,bind_assoc,zgM,zsn,ze8,ztD,List.set,zeb,ziI,ziL,zqu,zoE,znr,ztj,znA,zsL,zgO,zh2,zfH,zcS,zhF,zbx,zo9,zdh,ztb,zlm,zkR,zqs,zcM,zqr,znE,zrS,zoS,zn5,zgQ,zcR,zkx,zhS,zk7,zgw,zqQ,zan,zak,ziw,qaE,qaJ,qaH,Nat.zero_add,Nat.reduceAdd,Nat.reduceLeDiff,zaA,zcN,tI,zjB,zoJ,zmo,zrq,zl0,zfu,zmF,zsN,zn3,zod,zrK,zsE,zs5,zrt,zns,zr9,zqh,zsT,znV,zuo,if_true,Bool.not_true,Bool.not_false,qax,if_false,qav,List.cons_append,List.nil_append,zq8,zq4,ztw,zsv,znW,zc0,zqc,zs7,zlp,zr5,zrr])
variable {m:Int} {os:List (List Int×Int)} {i:Nat}
def zgS (m:Int):D->Bool
 | .tup [.tup ts,.int p]=>zbt m 0 ts && decide (0<(ts.length:Int)) && decide (0<p/\p<2^64)
 | _=>false
theorem zaT {h:Hh} {b:Nat} {m:Int} {P:D->Hh->Prop} (q:Bx b h) (h0:0<m) (h1:m<2^64) (k: ∀ t h',0<=t->t<m->Ext b h h'->P (.int t) h'):wp (F_30 [.cel b,.int m]) h P:=by
 obtain ⟨z,e⟩:=id q
 rw [d_30]
 simp only [G_30,zaY,zcG,zb8,zaD,zaM,pure_bind,bind_assoc,zeL,zmt,zan,zdN e,zkR,zcM,zak,zdV h0,zgM,List.set,zhV,ziy h0 h1,zjQ,znq]
 have e2:ixN ([D.int z]:List D).length 0=some 0:=rfl
 simp only [zan,zdN e,e2,zcM,zak,zk3,zgM,zcD,zaM,zaD,ze8,List.set]
 exact k _ _ (Int.emod_nonneg _ ⋯) (Int.emod_lt_of_pos _ h0) q.set
theorem zoK {ns:List Int} {k:Int} (h0:0<=k): ∃ c:Int,F_28 [.scr (ns.map D.int),.int k]=pure (.int c):=by
 rw [d_28]
 simp only [G_28,zaY,zgj,zeb,zaM,zaD,pure_bind,bind_assoc,zbj,zaK,zaX,znB,zpJ,zcS]
 by_cases hk:k<((ns.map D.int).length:Int)
 ·have hk':k.toNat<ns.length:=by simp at hk;omega
  have ea:atI (ns.map D.int) k=some (.int ns[k.toNat]):=by
   have:=zdS (xs:=ns.map D.int) (j:=k.toNat) (v:= .int ns[k.toNat]) (by simp [hk'])
   rw [<- this]
   congr 1
   omega
  simp only [hk,decide_true,if_true,zcD,zb8,zaD,zaM,pure_bind,zsp,ea,zcM,zsn,ze8]
  exact ⟨_,rfl⟩
 ·simp only [hk,decide_false,qax,if_false,zee,pure_bind,zgM,zcD,zb8,zeL,zaM,zaD,zgK (show (-1000000000000000:Int)<6151 by decide) (show (6151:Int)<1000000000000000 by decide),zdh,ze8]
  exact ⟨_,rfl⟩
theorem zif {s0 s2:Option D} {k:Int} (k0:0<=k) (k5:k<5): ∀ (ds:List D) (n mx:Int) (x5:Option D),(∀ d∈ds, ∃ j:Int,d= .int j/\0<=j/\j<24)->0<=mx->mx<2147483647->
  ∃ (n' mx':Int) (x5':Option D),zbe (λx sd=>do let sd1<-zaR 5 x sd;zcP sd1) ds [s0,some (.int k),s2,some (.int n),some (.int mx),x5]=pure (.nx [s0,some (.int k),s2,some (.int n'),some (.int mx'),x5'])
 | [],n,mx,x5,_,_,_=>⟨n,mx,x5,rfl⟩
 | d::r,n,mx,x5,hd,m0,m1=>by
  obtain ⟨j,rfl,j0,j1⟩:=hd _ qau
  obtain ⟨n',mx',x5',ih⟩:=zif k0 k5 r (n*2147483647+(mx*48271+7*j*j+11*k+1) % 2147483647) ((mx*48271+7*j*j+11*k+1) % 2147483647) (some (.int j)) (λy hy=>hd y (qan _ hy)) (Int.emod_nonneg _ (by decide)) (Int.emod_lt_of_pos _ (by decide))
  refine ⟨n',mx',x5',?_⟩
  rw [zcv, <-ih]
  simp only [zcP,zcR,List.set,pure_bind,bind_assoc,zaY,zcG,zb8,zaM,zaD,zeL,zgK (show -1000000000000000<mx by omega) (show mx<1000000000000000 by omega),zgK (show (-1000000000000000:Int)<7 by decide) (show (7:Int)<1000000000000000 by decide),
    znK (i:=7*j) (show -1000000000000000<j by omega) (show j<1000000000000000 by omega),zgK (show (-1000000000000000:Int)<11 by decide) (show (11:Int)<1000000000000000 by decide),zdh,zdV (show (0:Int)<2147483647 by decide),zgM,znK (i:=n) (show (-1000000000000000:Int)<2147483647 by decide) (show (2147483647:Int)<1000000000000000 by decide)]
theorem zrP {h:Hh} {ns:List Int} {k:Int} {P:D->Hh->Prop} (k0:0<=k) (k5:k<5) (q: ∀ z:Int,P (.cel h.length) (h++[.lst [.int z]])):wp (F_29 [.scr (ns.map D.int),.int k]) h P:=by
 obtain ⟨c,ec⟩:=zoK (ns:=ns) k0
 rw [d_29]
 simp only [G_29,zaY,zcG,zbj,zaK,zaX,zaD,zaM,pure_bind,bind_assoc,zbx,ec,zgM,List.set,zgj,zeb,zb8,zeL,zdV (show (0:Int)<2 by decide),zlE,zcS]
 by_cases hc:(c % 2==0)=true
 ·simp only [hc,if_true,zcD,zfH,zaK,zaX,zb8,zaM,zaD,zeL,pure_bind,bind_assoc,ziy (show (0:Int)<2 by decide) (show (2:Int)<2^64 by decide),qaE,qaJ,zaA (show 0+1<=1000 by decide),zan,ziw,zak,zsn,ze8]
  exact q _
 ·obtain ⟨n',mx',x5',el⟩:=zif (s0:=some (.scr (ns.map D.int))) (s2:=some (.int c)) k0 k5 (ze5 0 24) 0 (c % 2147483647) none (λd hd=>by
    obtain ⟨i,e,i0,i1⟩:=zf1 hd
    exact ⟨i,e,i0,⋯⟩) (Int.emod_nonneg _ (by decide)) (Int.emod_lt_of_pos _ (by decide))
  have er:zj0 [.int 24]=pure (ze5 0 24):=zcB (by decide) (by decide)
  simp only [hc,if_false,zee,pure_bind,zgM,zaY,zcG,zeL,List.set,zb8,zaM,zaD,zdV (show (0:Int)<2147483647 by decide),ziG,zgQ,zaK,zaX,er,bind_assoc,el,zcD,zfH,qaE,qaJ,zaA (show 0+1<=1000 by decide),zan,ziw,zak,ze8,qax]
  exact q _
theorem zgi {a b:Nat} (h:a<=b):(2:Int)^a<=2^b:=by
 have:(2:Nat)^a<=2^b:=Nat.pow_le_pow_right (by decide) h
 exact_mod_cast this
theorem zh8 {bits:Int}: ∀ (m:Nat),0<bits->bits<2^m-> ∃ j:Nat,j<m/\(bits / 2^j) % 2=1
 | 0,h0,h1=>by simp at h1;omega
 | m+1,h0,h1=>by
  by_cases c:bits<2^m
  ·obtain ⟨j,a,b⟩:=zh8 m h0 c
   exact ⟨j,⋯,b⟩
  ·refine ⟨m,⋯,?_⟩
   have hp:(0:Int)<2^m:=Int.pow_pos (by decide)
   have e:bits / 2^m=1:=by
    have h2:(2:Int)^(m+1)=2*2^m:=by rw [Int.pow_succ];omega
    have a1:1<=bits / 2^m:=(Int.le_ediv_iff_mul_le hp).mpr ⋯
    have a2:bits / 2^m<2:=(Int.ediv_lt_iff_lt_mul hp).mpr ⋯
    omega
   rw [e]
   decide
def zpN (bits:Int) (d:D):Option D:=match d with
 | .int j=>if ((bits / 2^j.toNat) % 2==1)=true then some d else none
 | _=>none
theorem zgW (bits:Int): ∀ xs:List Int,(xs.map D.int).filterMap (zpN bits)=(xs.filter λj=>(bits / 2^j.toNat) % 2==1).map D.int
 | []=>rfl
 | x::r=>by
  rw [qaM,qat,List.filter_cons,zgW bits r]
  unfold zpN
  dsimp only
  split<;>simp_all
theorem zlD {bits:Int} {m:Nat} (h0:0<bits) (h1:bits<2^m):zbt m 0 ((ze5 0 m).filterMap (zpN bits))=true/\(ze5 0 m).filterMap (zpN bits)≠[]:=by
 rw [zew,zgW]
 constructor
 ·rw [zbh]
  constructor
  ·refine List.Pairwise.filter _ ?_
   rw [List.pairwise_map]
   exact List.pairwise_lt_range.imp λh=>by omega
  ·intro x hx
   obtain ⟨k,hk,e⟩:=qaU.mp (mem_filter.mp hx).1
   have:=mem_range.mp hk
   omega
 ·obtain ⟨j,a,b⟩:=zh8 m h0 h1
  intro z
  have:((j:Int))∈((List.range m).map λ(k:Nat)=>(k:Int)).filter λj=>(bits / 2^j.toNat) % 2==1:=by
   refine mem_filter.mpr ⟨qaU.mpr ⟨j,mem_range.mpr a,rfl⟩,?_⟩
   rw [qaB,b]
   rfl
  have z':=List.map_eq_nil_iff.mp z
  rw [z'] at this
  cases this
theorem zjH {h:Hh} {b:Nat} {m:Int} {P:D->Hh->Prop} (q:Bx b h) (h0:1<=m) (h1:m<=10) (k: ∀ ts h',zbt m 0 ts=true->ts≠[]->Ext b h h'->P (.tup ts) h'):wp (F_33 [.cel b,.int m]) h P:=by
 rw [d_33]
 simp only [G_33,zaY,zcG,zbj,zaK,zaX,zaD,zaM,pure_bind,bind_assoc,zbx,zeL,zan]
 refine zaT q (by decide) (by decide) λway h2 w0 w1 x2=> ?_
 simp only [zak,zan,zgM,List.set,zaY,zgj,zeb,zaM,zaD,pure_bind,bind_assoc,zeL,zlE,zcS]
 by_cases hw:(way==0)=true
 ·rw [qa4 hw]
  simp only [zaY,zcG,zb8,zeL,zaM,zaD,pure_bind,bind_assoc,zbj,zaK,zaX,zn1 (show 0<=m by omega) (show m<=1000 by omega),znV,zbx,zan]
  have hp:(2:Int)<=2^m.toNat:=by
   have:(2:Int)^1<=2^m.toNat:=zgi ⋯
   simpa using this
  have hp':(2:Int)^m.toNat<=2^10:=zgi ⋯
  refine zaT x2.1 ⋯ ⋯ λt h3 t0 t1 x3=> ?_
  have ed:zaB (zg7 (zab (zaf 1) zaj)) (zaR 0) zbR zbO [none,some 3] [some (.cel b),some (.int m),some (.int way),some (.int (1+t)),none,none]=pure (.lst ((ze5 0 m.toNat).filterMap (zpN (1+t)))):=by
   refine zc4 (by simp [zcB (show 0<=m by omega) (show m<1000 by omega)]) (by rw [zds];omega) λx hx=> ?_
   obtain ⟨i,rfl,i0,i1⟩:=zf1 hx
   have eb:zat [none,some 3] [some (.cel b),some (.int m),some (.int way),some (.int (1+t)),none,none]=[none,some (D.int (1+t))]:=rfl
   rw [eb]
   simp only [zbd,zcR,List.set,pure_bind,zbR,zeb,zb8,zaM,zaD,zeL,zoo i0,ztu,zn7,zlE,zcS,zbO,zpN]
   split<;>rfl
  simp only [zak,zan,zgM,List.set,zdh,pure_bind,zcD,zbj,zaK,zaX,bind_assoc,ed,zgw,zsn,ze8]
  have hm:((m.toNat:Nat):Int)=m:=Int.toNat_of_nonneg ⋯
  have:=zlD (bits:=1+t) (m:=m.toNat) ⋯ ⋯
  rw [hm] at this
  exact k _ _ this.1 this.2 (x2.trans x3)
 ·rw [qa5 hw]
  have hw': ¬way=0:=by simpa using hw
  simp only [zee,zak,zgM,zaY,zhV,zgO,zaK,zaX,zbj,zaD,zaM,pure_bind,bind_assoc,zbx,zan]
  refine zaT x2.1 ⋯ ⋯ λfirst h3 f0 f1 x3=> ?_
  simp only [zb8,zh2,zaK,zaX,zeL,zbj,zaD,zaM,pure_bind,bind_assoc,zbx,zan,zak]
  refine zaT x3.1 (by decide) (by decide) λt h4 t0 t1 x4=> ?_
  simp only [zdh,pure_bind,zak,zan,qaE,qaJ,zaA (show 0+1+1<=1000 by decide),zaM,zaD,znV,zlm,bind_assoc]
  obtain ⟨step,es,s0,s1⟩: ∃ s:Int,atI [D.int 1,D.int (1+t)] (way - 1)=some (.int s)/\1<=s/\s<=3:=by
   by_cases c:way=1
   ·subst c
    exact ⟨1,rfl,by decide,by decide⟩
   ·have c:way=2:=by omega
    subst c
    exact ⟨1+t,rfl,⋯,⋯⟩
  simp only [es,zcM,zak,zan,zkx,zhS,zcR,List.set,pure_bind,zk7,zgM,zcD,zbj,zaK,zaX,znj,bind_assoc]
  unfold zaB
  simp only [zgQ,zaK,zaX,zb8,zeL,zbj,zaD,zaM,pure_bind,bind_assoc,zbx,zan]
  refine zaT x4.1 (by decide) (by decide) λu h5 u0 u1 x5=> ?_
  have eb:zat [none,some 4,some 5,some 1] [some (.cel b),some (.int m),some (.int way),none,some (.int first),some (.int step)]=[none,some (D.int first),some (.int step),some (.int m)]:=rfl
  have hl:zbg (zbd (zaR 0) (λ_=>pure true) zbP [none,some (D.int first),some (.int step),some (.int m)]) (ze5 0 (1+u).toNat)=pure ((((List.range (1+u).toNat).map λ(k:Nat)=>(first+step*(k:Int)) % m)).map D.int):=by
   rw [zew]
   rw [zdX (k:=λd=>match d with | .int j=>some (.int ((first+step*j) % m)) | _=>none)]
   ·congr 1
    rw [List.filterMap_map]
    simp [Function.comp_def]
   ·intro x hx
    obtain ⟨j,_,rfl⟩:=qaU.mp hx
    simp only [zbd,zcR,List.set,pure_bind,if_true,zbP,zb8,zaM,zaD,zgK (show -1000000000000000<step by omega) (show step<1000000000000000 by omega),zdh,zdV (show 0<m by omega)]
  simp only [zdh,pure_bind,zcB (show 0<=1+u by omega) (show 1+u<1000 by omega),zds,zaA (show (1+u).toNat<=1000 by omega),eb,hl,zak,zan]
  generalize hy:((List.range (1+u).toNat).map λ(k:Nat)=>(first+step*(k:Int)) % m)=ys
  have yl:ys.length=(1+u).toNat:=by rw [<- hy];simp
  have ym: ∀ y∈ys,0<=y/\y<m:=λy h=>by
   rw [<- hy] at h
   obtain ⟨k,_,rfl⟩:=qaU.mp h
   exact ⟨Int.emod_nonneg _ ⋯,Int.emod_lt_of_pos _ ⋯⟩
  simp only [zcZ (show ys.length<64 by omega),zak,zgw,ze8,pure_bind,zan]
  refine k _ _ (zbh.mpr ⟨zkO ys,λx hx=>ym x (ziC.mp hx)⟩) (λz=> ?_) (((x2.trans x3).trans x4).trans x5)
  have z':=List.map_eq_nil_iff.mp z
  have hy0: ∃ y,y∈ys:=List.exists_mem_of_length_pos ⋯
  obtain ⟨y,hy0⟩:=hy0
  have:=ziC.mpr hy0
  rw [z'] at this
  cases this
def Row (m:Int) (h:Hh) (d:D):Prop:= ∃ (n:Nat) (xs:List Int) (p:Int),d= .cel n/\h[n]? = some (.lst [.tup (xs.map D.int),.int p])/\zbt m 0 (xs.map D.int)=true/\xs≠[]/\(0<p/\p<2^64)
theorem Row.ext {m:Int} {b:Nat} {h h':Hh} {d:D} (q:Bx b h) (x:Ext b h h') (r:Row m h d):Row m h' d:=by
 obtain ⟨n,ts,p,e,e2,r⟩:=r
 have hn:n≠b:=λz=>by
  subst z
  obtain ⟨y,e3⟩:=q
  rw [e3] at e2
  cases e2
 exact ⟨n,ts,p,e,x.2 n _ hn e2,r⟩
theorem zj8 {b:Nat} {m far:Int} (m0:1<=m) (m1:m<=10) (f0:0<far) (f1:far<2^64): ∀ (ds:List D) {h:Hh} {P:List D->Hh->Prop},Bx b h->(∀ rs h',Ext b h h'->rs.length=ds.length->(∀ r∈rs,Row m h' r)->P rs h')->
  wp (zbg (zbd (zaR 0) (λ_=>pure true) zcx [none,some (.cel b),some (.int m),some (.int far)]) ds) h P
 | [],h,P,q,k=>by
  rw [zbg,zak]
  exact k [] h (Ext.refl q) rfl λr hr=>by cases hr
 | d::r,h,P,q,k=>by
  rw [zbg]
  simp only [zan,zbd,zcR,List.set,pure_bind,if_true,zcx,zfH,zaK,zaX,zbj,zaM,zaD,bind_assoc,zbx]
  refine zjH q m0 m1 λts h2 hr hne x2=> ?_
  simp only [zan,zb8,zeL,zbj,zaK,zaX,zaM,zaD,pure_bind,bind_assoc,zbx]
  refine zaT x2.1 f0 f1 λt h3 t0 t1 x3=> ?_
  simp only [zdh,pure_bind,zak,zan,qaE,qaJ,zaA (show 0+1+1<=1000 by decide),ziw]
  have x4:=x3.1.push (c:= .lst [.tup ts,.int (1+t)])
  obtain ⟨xs,rfl⟩:=zhO (zf5 hr)
  refine zj8 m0 m1 f0 f1 r x4.1 λrs h' x5 hl hr'=> ?_
  refine k (.cel h3.length::rs) h' (((x2.trans x3).trans x4).trans x5) (by simp [hl]) λy hy=> ?_
  rcases qaP.mp hy with rfl | hy
  ·exact Row.ext x4.1 x5 ⟨h3.length,xs,1+t,rfl,by simp,hr,λz=>hne (by rw [z];rfl),⟨⋯,⋯⟩⟩
  ·exact hr' y hy
def znp (h:Hh) (i:Int) (d:D):Bool:=match d with
 | .cel n=>match h[n]? with
  | some (.lst (.tup ts::_))=>match zei ts with
   | some xs=>xs.any (· == i)
   | none=>false
  | _=>false
 | _=>false
def zjj (h:Hh) (d:D):D:=match d with
 | .cel n=>match h[n]? with
  | some (.lst ds)=> .tup ds
  | _=> .non
 | _=> .non
theorem znM {m:Int} {h:Hh}: ∀ {rs:List D},(∀ r∈rs,Row m h r)-> ∃ ps,zjw h rs=some ps/\PyData.canLayAll0 ps=true/\ps.length=rs.length
 | [],_=>⟨[],rfl,rfl,rfl⟩
 | d::r,hr=>by
  obtain ⟨n,xs,p,rfl,e,_⟩:=hr d qau
  obtain ⟨ps,e1,e2,e3⟩:=znM λy hy=>hr y (qan _ hy)
  refine ⟨.list [.tuple (xs.map .int),.int p]::ps,?_,?_,by simp [e3]⟩
  ·simp only [zjw,pdH,e,pdL,pd,zcy,Option.map,e1]
  ·simp [PyData.canLayAll0,PyData.canLay0,za8,e2]
theorem znU {m:Int} {h:Hh} {rs:List D} {P:D->Hh->Prop} (hr: ∀ r∈rs,Row m h r) (q:P (.bl rs.isEmpty) h):wp (zrc (.lst rs) (.lst [])) h P:=by
 obtain ⟨ps,e1,e2,e3⟩:=znM hr
 refine ⟨.bl rs.isEmpty,h,?_,q⟩
 unfold zrc
 have a1:pdH h (.lst rs)=some (.list ps):=by simp only [pdH,e1,Option.map]
 have a2:pdH h (.lst [])=some (.list []):=by simp only [pdH,zjw,Option.map]
 rw [a1,a2]
 have c:zel (.list ps) (.list [])=true:=by
  unfold zel
  simp [PyData.canLay0,PyData.canLayAll0,e2,PyData.depth,PyData.depthAll]
 simp only [c,if_true]
 cases ps with
 | nil=>
  cases rs with
  | nil=>rfl
  | cons _ _=>cases e3
 | cons _ _=>
  cases rs with
  | nil=>cases e3
  | cons _ _=>rfl
def Cov (rows:List D) (h:Hh) (j:Int):Prop:= ∃ r∈rows, ∃ (n:Nat) (xs:List Int) (p:Int),r= .cel n/\h[n]? = some (.lst [.tup (xs.map D.int),.int p])/\j∈xs
theorem Cov.ext {b:Nat} {rows:List D} {h h':Hh} {j:Int} (q:Bx b h) (x:Ext b h h') (r:Cov rows h j):Cov rows h' j:=by
 obtain ⟨d,hd,n,ts,p,e,e2,r⟩:=r
 have hn:n≠b:=λz=>by
  subst z
  obtain ⟨y,e3⟩:=q
  rw [e3] at e2
  cases e2
 exact ⟨d,hd,n,ts,p,e,x.2 n _ hn e2,r⟩
theorem zgp {b:Nat} {m far:Int} {s1 s2:Option D} {rows:List D} (m0:1<=m) (m1:m<=10) (hne:rows≠[]) (hl:rows.length<=12): ∀ (ds:List D) (dn:List Int) {h:Hh} {x6 x7:Option D} {P:Out->Hh->Prop},Bx b h->(∀ d∈ds, ∃ i:Int,d= .int i/\0<=i/\i<m)->(∀ r∈rows,Row m h r)->(∀ j∈dn,Cov rows h j)->
  (∀ x6' x7' h',Bx b h'->(∀ r∈rows,Row m h' r)->(∀ j,j∈dn\/D.int j∈ds->Cov rows h' j)->P (.nx [some (.cel b),s1,s2,some (.int m),some (.int far),some (.lst rows),x6',x7']) h')->
  wp (zbe (λx sd=>do let sd1<-zaR 6 x sd;zbp sd1) ds [some (.cel b),s1,s2,some (.int m),some (.int far),some (.lst rows),x6,x7]) h P
 | [],dn,h,x6,x7,P,q,_,hr,hc,k=>by
  rw [zeo,zak]
  exact k _ _ h q hr λj hj=>hc j (hj.elim id λz=>by cases z)
 | d::r,dn,h,x6,x7,P,q,hd,hr,hc,k=>by
  obtain ⟨i,rfl,i0,i1⟩:=hd _ qau
  have hd':=λy hy=>hd y (qan _ hy)
  have ih: ∀ {h:Hh} {x6 x7:Option D},Bx b h->(∀ r∈rows,Row m h r)->(∀ j∈i::dn,Cov rows h j)->wp (zbe (λx sd=>do let sd1<-zaR 6 x sd;zbp sd1) r [some (.cel b),s1,s2,some (.int m),some (.int far),some (.lst rows),x6,x7]) h P:=λq hr hc=>zgp m0 m1 hne hl r (i::dn) q hd' hr hc λx6' x7' h' q' hr' hc'=>k x6' x7' h' q' hr' λj hj=>hc' j (by
    rcases hj with hj | hj
    · exact .inl (qan _ hj)
    · rcases qaP.mp hj with z | z
      · cases z;exact .inl qau
      · exact .inr z)
  rw [zcv]
  generalize zbe (λx sd=>do let sd1<-zaR 6 x sd;zbp sd1) r=rest at ih ⊢
  simp only [zcR,List.set,pure_bind,zbp,zgj,zeb,zan]
  refine ziR (k:=λd=>if znp h i d=true then some d else none) (ds:=rows) (by simp) ⋯ (λx hx=> ?_) ?_
  ·obtain ⟨n,xs,p,rfl,e,_⟩:=hr x hx
   have eb:zat [none,some 6] [some (.cel b),s1,s2,some (.int m),some (.int far),some (.lst rows),some (.int i),x7]=[none,some (D.int i)]:=rfl
   rw [eb]
   simp only [zbd,zcR,List.set,pure_bind,zdz,zeb,zaM,zaD,zb8,zeL,zmt,bind_assoc,zan,zdN e,zkR,zcM,zak,zm1,zcS,zdF,znp,e,zco]
   rw [zkG]
   split
   ·simp_all [zak,zaD,zan]
   ·simp_all [zak]
  ·simp only [zh2,zaX,pure_bind,qaJ,zaA (show 0<=1000 by decide),zan,zak]
   refine znU (m:=m) (λy hy=> ?_) ?_
   ·obtain ⟨z,hz,ez⟩:=mem_filterMap.mp hy
    split at ez
    ·cases ez;exact hr _ hz
    ·cases ez
   simp only [zcS,zak]
   rw [zkG]
   split
   ·rename_i c
    have none_has: ∀ y∈rows,znp h i y=false:=λy hy=>by
     cases z:znp h i y with
     | false=>rfl
     | true=>
      have:y∈rows.filterMap λd=>if znp h i d=true then some d else none:=mem_filterMap.mpr ⟨y,hy,by rw [z];rfl⟩
      rw [List.isEmpty_iff.mp c] at this
      cases this
    have hpos:0<rows.length:=length_pos_iff.mpr hne
    simp only [zaY,zcG,zb8,zaM,zaD,pure_bind,bind_assoc,zbj,zaK,zaX,znE,zbx,zan]
    refine zaT q ⋯ ⋯ λt h2 t0 t1 x2=> ?_
    have ht:t.toNat<rows.length:=by omega
    have ea:atI rows t=some rows[t.toNat]:=by
     have:=zdS (xs:=rows) (j:=t.toNat) (v:=rows[t.toNat]) (by simp [ht])
     rw [<- this]
     congr 1
     omega
    have hrow:=hr rows[t.toNat] (getElem_mem ht)
    have hno:=none_has rows[t.toNat] (getElem_mem ht)
    have hmem:rows[t.toNat]∈rows:=getElem_mem ht
    generalize rows[t.toNat]=row at ea hrow hno hmem
    obtain ⟨n,xs,p,rfl,e,hrs,hx0,hp0⟩:=hrow
    have hni:i∉xs:=λz=>by
     simp only [znp,e,zco] at hno
     have:xs.any (· == i)=true:=any_eq_true.mpr ⟨i,z,by simp⟩
     rw [this] at hno
     cases hno
    have hnb:n≠b:=λz=>by
     subst z
     obtain ⟨y,e3⟩:=q
     rw [e3] at e
     cases e
    have e2:=x2.2 n _ hnb e
    obtain ⟨hpw,hbd⟩:=zbh.mp hrs
    have hxl:(xs.length:Int)<=m:=by have:=zet hrs ⋯;simpa using this
    have esn:((xs.map D.int)++[D.int i])=(xs++[i]).map D.int:=by simp
    simp only [zlm,ea,zcM,zak,zgM,List.set,zhV,zbj,zaK,zaX,zb8,zaM,zaD,zeL,pure_bind,bind_assoc,zmt,zan,zdN e2,zkR,zgO,qaE,qaJ,zaA (show 0+1<=1000 by decide),zns,qaH,
      zaA (show xs.length+(0+1)<=1000 by omega),esn,zjp (show (xs++[i]).length<64 by simp;omega),zgw,zjQ,znq]
    have e3:ixN (0+1+1) 0=some 0:=rfl
    simp only [zan,zdN e2,qaE,qaJ,e3,zcM,zak,zk3,List.set]
    have hlt:n<h2.length:=(qac.mp e2).1
    refine ih ?_ ?_ ?_
    ·obtain ⟨y,ey⟩:=x2.1
     exact ⟨y,by rw [qao hnb];exact ey⟩
    ·intro y hy
     obtain ⟨n',xs',p',rfl,e',r1,r2,r3⟩:=Row.ext q x2 (hr y hy)
     by_cases hnn:n'=n
     ·subst hnn
      refine ⟨n',zcm (xs++[i]),p,rfl,qai hlt,zbh.mpr ⟨zoi hpw hni,λz hz=> ?_⟩,λz=> ?_,hp0⟩
      ·have:=(zaW (xs++[i])).mem_iff.mp hz
       rcases qaK.mp this with w | w
       ·exact hbd z w
       ·simp at w;omega
      ·have:=(zaW (xs++[i])).length_eq
       rw [z] at this
       simp at this
     ·exact ⟨n',xs',p',rfl,by rw [qao (Ne.symm hnn)];exact e',r1,r2,r3⟩
    ·intro j hj
     rcases qaP.mp hj with rfl | hj
     ·exact ⟨.cel n,hmem,n,zcm (xs++[j]),p,rfl,qai hlt,(zaW (xs++[j])).mem_iff.mpr (by simp)⟩
     ·obtain ⟨y,hy,n',xs',p',rfl,e',hj'⟩:=Cov.ext q x2 (hc j hj)
      by_cases hnn:n'=n
      ·subst hnn
       rw [e2] at e'
       have exs:xs=xs':=by
        have z:xs.map D.int=xs'.map D.int:=by injection (Option.some.inj e') with z;simpa using (List.cons.inj z).1
        exact (List.map_inj_right λa b h=>by injection h).mp z
       subst exs
       exact ⟨_,hy,n',zcm (xs++[i]),p,rfl,qai hlt,(zaW (xs++[i])).mem_iff.mpr (List.mem_append_left _ hj')⟩
      ·exact ⟨_,hy,n',xs',p',rfl,by rw [qao (Ne.symm hnn)];exact e',hj'⟩
   ·rename_i c
    simp only [zee,zak]
    refine ih q hr λj hj=> ?_
    rcases qaP.mp hj with rfl | hj
    ·obtain ⟨y,hy⟩:=List.exists_mem_of_ne_nil (rows.filterMap λd=>if znp h j d=true then some d else none) (λz=>c (by rw [z];rfl))
     obtain ⟨z,hz,ez⟩:=mem_filterMap.mp hy
     split at ez
     ·rename_i c2
      obtain ⟨n,xs,p,rfl,e,_⟩:=hr z hz
      simp only [znp,e,zco] at c2
      obtain ⟨k,hk,ek⟩:=any_eq_true.mp c2
      exact ⟨_,hz,n,xs,p,rfl,e,(show k=j by simpa using ek)▸hk⟩
     ·cases ez
    ·exact hc j hj
theorem zo0 {h:Hh} {b:Nat} {lots:Int} {P:D->Hh->Prop} (z0:1<=lots) (z1:lots<=12) (q:Bx b h) (k: ∀ (m:Int) (os:List D) h',Bx b h'->1<=m->m<=10->1<=os.length->os.length<=12->(∀ o∈os,zgS m o=true)->(∀ i:Int,0<=i->i<m-> ∃ o∈os, ∃ (xs:List Int) (p:Int),o= .tup [.tup (xs.map D.int),.int p]/\i∈xs)->P (.tup [.int m,.tup os]) h'):wp (F_34 [.cel b,.int 10,.int lots]) h P:=by
 rw [d_34]
 simp only [G_34,zaY,zcG,zb8,zeL,zbj,zaK,zaX,zaD,zaM,pure_bind,bind_assoc,zbx,zan]
 refine zaT q (by decide) (by decide) λt h2 t0 t1 x2=> ?_
 simp only [zdh,pure_bind,zak,zgM,List.set,zaY,zcG,zb8,zh2,zaK,zaX,zeL,zoA,bind_assoc,zan,qaE,qaJ,zaA (show 0+1+1+1+1<=1000 by decide),zbj,zaD,zaM,zbx]
 refine zaT x2.1 (by decide) (by decide) λf h3 f0 f1 x3=> ?_
 obtain ⟨far,ef,g0,g1⟩: ∃ far:Int,atI [D.int 3,.int 9,.int 50,.int 1000000000000] f=some (.int far)/\0<far/\far<2^64:=by
  have:f=0\/f=1\/f=2\/f=3:=by omega
  rcases this with rfl | rfl | rfl | rfl
  ·exact ⟨3,rfl,by decide,by decide⟩
  ·exact ⟨9,rfl,by decide,by decide⟩
  ·exact ⟨50,rfl,by decide,by decide⟩
  ·exact ⟨1000000000000,rfl,by decide,by decide⟩
 simp only [zlm,ef,zcM,zak,zgM,List.set,zaY,zcG,zan]
 unfold zaB
 simp only [zgQ,zaK,zaX,zb8,zeL,zbj,zaD,zaM,pure_bind,bind_assoc,zbx,zan]
 refine zaT x3.1 ⋯ ⋯ λu h4 u0 u1 x4=> ?_
 have eb:zat [none,some 0,some 3,some 4] [some (.cel b),some (.int 10),some (.int lots),some (.int (1+t)),some (.int far),none,none,none]=[none,some (D.cel b),some (.int (1+t)),some (.int far)]:=rfl
 simp only [zdh,pure_bind,zcB (show 0<=1+u by omega) (show 1+u<1000 by omega),zds,zaA (show (1+u).toNat<=1000 by omega),eb,zan,zak]
 refine zj8 ⋯ ⋯ g0 g1 _ x4.1 λrows h5 x5 hl hr=> ?_
 rw [zds] at hl
 simp only [zak,zgM,List.set,zaY,ziG,zgQ,zaK,zaX,zaM,zaD,pure_bind,zcB (show 0<=1+t by omega) (show 1+t<1000 by omega),zan]
 refine zgp ⋯ ⋯ (λz=>by rw [z] at hl;simp at hl;omega) ⋯ _ [] x5.1 (λd hd=> ?_) hr (λj hj=>by cases hj) λx6 x7 h6 q6 hr6 hc6=> ?_
 ·obtain ⟨i,e,i0,i1⟩:=zf1 hd
  exact ⟨i,e,i0,⋯⟩
 simp only [zgM,zcD,zgO,zaK,zaX,zaM,zaD,pure_bind,bind_assoc,zbj,zan]
 have eb6:zat [none] [some (.cel b),some (.int 10),some (.int lots),some (.int (1+t)),some (.int far),some (.lst rows),x6,x7]=[none]:=rfl
 simp only [zn5,zaM,zaD,pure_bind,zoS,zak,zaA (show rows.length<=1000 by omega),eb6]
 refine zdU (k:=λd=>some (zjj h6 d)) (λx hx=> ?_) ?_
 ·obtain ⟨n,xs,p,rfl,e,_⟩:=hr6 x hx
  simp only [zbd,zcR,List.set,pure_bind,if_true,zdx,zgO,zaK,zaX,zb8,zaD,zeL,zmt,bind_assoc,zan,zdN e,zkR,zqs,zcM,zak,qaE,qaJ,zaA (show 0+1+1<=1000 by decide),zjj,e]
  exact ⟨trivial,trivial⟩
 ·simp only [zgw,zak,pure_bind,qaE,qaJ,zaA (show 0+1+1<=1000 by decide),ze8,zan]
  have em:(rows.filterMap λd=>some (zjj h6 d))=rows.map (zjj h6):=by simp
  rw [em]
  refine k (1+t) _ h6 q6 ⋯ ⋯ (by simp;omega) (by simp;omega) (λo ho=> ?_) λi i0 i1=> ?_
  rotate_left
  ·obtain ⟨r,hr',n,xs,p,rfl,e,hi⟩:=hc6 i (.inr (by rw [zew,qaU];exact ⟨i,qaU.mpr ⟨i.toNat,mem_range.mpr ⋯,⋯⟩,rfl⟩))
   exact ⟨_,qaU.mpr ⟨_,hr',rfl⟩,xs,p,by simp only [zjj,e],hi⟩
  obtain ⟨r,hr',rfl⟩:=qaU.mp ho
  obtain ⟨n,xs,p,rfl,e,r1,r2,r3⟩:=hr6 r hr'
  have hx:0<(xs.length:Int):=by
   have:=length_pos_iff.mpr r2
   omega
  simp only [zjj,e,zgS,r1,qaH]
  simp [hx,r3]
  exact ⟨length_pos_iff.mpr r2,r3.2⟩
theorem zko {m:Int} {o:D} (h:zgS m o=true): ∃ (xs:List Int) (p:Int),o=zcN (xs,p)/\(xs.Pairwise (· < ·)/\ ∀ x∈xs,0<=x/\x<m)/\xs≠[]/\(0<p/\p<2^64):=by
 unfold zgS at h
 split at h
 ·rename_i ts p
  simp only [qaG,qaD] at h
  obtain ⟨⟨h1,h2⟩,h3⟩:=h
  obtain ⟨xs,rfl⟩:=zhO (zf5 h1)
  exact ⟨xs,p,rfl,zbh.mp h1,λz=>by rw [z] at h2;simp at h2,h3⟩
 ·cases h
theorem znD {m:Int} (m0:1<=m) (m1:m<=10): ∀ {ds:List D},ds.length<=12->(∀ o∈ds,zgS m o=true)-> ∃ os,ds=os.map zcN/\Stk m os/\ ∀ o∈os,o.2<2^64
 | [],_,_=>⟨[],rfl,⟨m0,m1,by simp,by simp,by simp,by simp,by simp⟩,by simp⟩
 | d::r,hl,h=>by
  obtain ⟨os,e,s,hP⟩:=znD m0 m1 (ds:=r) (by simp at hl;omega) λo ho=>h o (qan _ ho)
  obtain ⟨xs,p,e1,⟨h1,h2⟩,h3,h4,h5⟩:=zko (h d qau)
  have hlen:((xs,p)::os).length<=12:=by rw [e] at hl;simpa using hl
  refine ⟨(xs,p)::os,by rw [qaM,e,e1],⟨m0,m1,hlen,?_,?_,?_,?_⟩,λo ho=>by
    rcases qaP.mp ho with rfl | ho
    · exact h5
    · exact hP o ho⟩
  ·intro o ho
   rcases qaP.mp ho with rfl | ho
   ·exact h1
   ·exact s.up o ho
  ·intro o ho
   rcases qaP.mp ho with rfl | ho
   ·exact h2
   ·exact s.bd o ho
  ·intro o ho
   rcases qaP.mp ho with rfl | ho
   ·exact h3
   ·exact s.ne o ho
  ·intro o ho
   rcases qaP.mp ho with rfl | ho
   ·exact h4
   ·exact s.pos o ho
theorem zmk {m:Int} {os:List (List Int×Int)} (s:Stk m os) {h:Hh} {b:Nat} {P:D->Hh->Prop} (q:Bx b h) (k: ∀ os' h',Stk m os'->(∀ o∈os', ∃ o'∈os,o.2=o'.2)->Ext b h h'->P (zcU m os') h'):wp (F_35 [.cel b,zcU m os]) h P:=by
 have m0:=s.m0
 have m1:=s.m1
 have hl:=s.len
 rw [d_35]
 simp only [G_35,zcU]
 ac_nf0
 refine zaT q ⋯ ⋯ λt h2 t0 t1 x2=> ?_
 ac_nf0
 have e1:zaB (iSq (zaf 3)) (zdm 2 (za2 (zaR 0) (za2 (zaR 1) zdG))) (λ_=>pure true) zch [none,none,some 4] [some (.cel b),some (.tup [.int m,.tup (os.map zcN)]),some (.int m),some (.tup (os.map zcN)),some (.int t),none]
   = pure (.lst ((os.map λo=>(o.1.filter λx=> !(x==t),o.2)).map zcN)):=by
  rw [zld (ds:=os.map zcN) (k:=λd=>match d with | .tup [.tup ts,p]=> .tup [.tup (ts.filter λd=>match d with | .int x=> !(x==t) | _=>true),p] | d=>d) (by ac_nf0) (by rw [qaH];omega) ?_]
  ·rw [qaT,qaT]
   congr 2
   refine map_congr_left λo _=> ?_
   simp only [Function.comp,zcN,tI]
   congr 2
   rw [List.filter_map]
   rfl
  ·intro x hx
   obtain ⟨o,ho,rfl⟩:=qaU.mp hx
   have eb:zat [none,none,some 4] [some (.cel b),some (.tup [.int m,.tup (os.map zcN)]),some (.int m),some (.tup (os.map zcN)),some (.int t),none]=[none,none,some (.int t)]:=rfl
   rw [eb]
   simp only [zbd,zch]
   ac_nf0
   have e2:zaB (iSq (zaf 0)) (zaR 0) zci zcf [none,some 2] [some (.tup (o.1.map D.int)),some (.int o.2),some (.int t)]=pure (.lst ((o.1.filter λx=> !(x==t)).map D.int)):=by
    rw [<- zdg (k:=λd=>match d with | .int x=>if (!(x==t))=true then some (.int x) else none | d=>none) λ_=>rfl]
    refine zc4 (by ac_nf0) (by rw [qaH];have:=s.olen o ho;omega) λx hx=> ?_
    obtain ⟨i,_,rfl⟩:=qaU.mp hx
    have eb:zat [none,some 2] [some (.tup (o.1.map D.int)),some (.int o.2),some (.int t)]=[none,some (.int t)]:=rfl
    rw [eb]
    simp only [zbd,zci,zcf]
    ac_nf0
    rw [ztR]
    ac_nf0
    split<;>rfl
   simp only [if_true,e2]
   ac_nf0
   congr 3
   rw [List.filter_map]
   rfl
 rw [e1]
 ac_nf0
 generalize hos:(os.map λo=>(o.1.filter λx=> !(x==t),o.2))=os1
 have e3:zaB (iSq (zaf 5)) (zaR 0) zcb zcc [none] [some (.cel b),some (.tup [.int m,.tup (os.map zcN)]),some (.int m),some (.tup (os.map zcN)),some (.int t),some (.lst (os1.map zcN))]
   = pure (.lst ((os1.filter λo=> !o.1.isEmpty).map zcN)):=by
  have e4:(os1.map zcN).filterMap (λd=>match d with | .tup [.tup ts,p]=>if (!ts.isEmpty)=true then some (.tup [.tup ts,p]) else none | d=>none)=(os1.filter λo=> !o.1.isEmpty).map zcN:=by
   clear hos e1
   induction os1 with
   | nil=>rfl
   | cons o r ih=>
    rw [qaM,qat,ih,List.filter_cons]
    simp only [zcN,tI]
    obtain ⟨ts,p⟩:=o
    cases ts<;>simp [zcN,tI]
  rw [<- e4]
  refine zc4 (by ac_nf0) (by rw [qaH, <-hos,qaH];omega) λx hx=> ?_
  obtain ⟨o,_,rfl⟩:=qaU.mp hx
  have eb: ∀ sd,zat [none] sd=[none]:=λ_=>rfl
  rw [eb]
  simp only [zbd,zcb,zcc]
  ac_nf0
  have e5:=zmA o.1
  unfold tI at e5
  rw [e5]
  ac_nf0
  simp only [List.isEmpty_map]
  split<;>rfl
 rw [e3]
 ac_nf0
 suffices hS:Stk m (os1.filter λo=> !o.1.isEmpty)/\ ∀ o∈os1.filter λo=> !o.1.isEmpty, ∃ o'∈os,o.2=o'.2 from k _ h2 hS.1 hS.2 x2
 have hm: ∀ o∈os1.filter λo=> !o.1.isEmpty, ∃ o'∈os,o=(o'.1.filter λx=> !(x==t),o'.2)/\o.1≠[]:=λo ho=>by
  obtain ⟨h1,h2⟩:=mem_filter.mp ho
  rw [<- hos] at h1
  obtain ⟨o',h3,rfl⟩:=qaU.mp h1
  exact ⟨o',h3,rfl,by intro e;rw [e] at h2;simp at h2⟩
 refine ⟨?_,λo ho=> ?_⟩
 rotate_left
 ·obtain ⟨o',h1,rfl,_⟩:=hm o ho
  exact ⟨o',h1,rfl⟩
 refine ⟨m0,m1,?_,λo ho=> ?_,λo ho=> ?_,λo ho=> ?_,λo ho=> ?_⟩
 ·have:=List.length_filter_le (λo:List Int×Int=> !o.1.isEmpty) os1
  rw [<- hos,qaH] at this
  rw [<- hos]
  omega
 ·obtain ⟨o',h1,rfl,_⟩:=hm o ho
  exact (s.up o' h1).filter _
 ·obtain ⟨o',h1,rfl,_⟩:=hm o ho
  exact λx hx=>s.bd o' h1 x (mem_filter.mp hx).1
 ·exact (hm o ho).choose_spec.2.2
 ·obtain ⟨o',h1,rfl,_⟩:=hm o ho
  exact s.pos o' h1
theorem ztM:dIx (zcU m os) (.int 1)=pure (.tup (os.map zcN)):=rfl
theorem ztY:dIx (zcU m os) (.int 0)=pure (.int m):=rfl
theorem zoF {s0 s1:Option D} {n a:Nat}:zdo zaC zaF (n+1) [s0,s1,some (.int (a:Int)),some (.int ((0:Nat):Int))]=pure (.nx [s0,s1,some (.int (a:Int)),some (.int 0)]):=by
 rw [zjS]
 simp only [zaC]
 ac_nf0
 rfl
theorem zj1 {s0 s1:Option D} {n a b:Nat} (hb:b≠0):zdo zaC zaF (n+1) [s0,s1,some (.int (a:Int)),some (.int (b:Int))]=zdo zaC zaF n [s0,s1,some (.int (b:Int)),some (.int ((a % b:Nat):Int))]:=by
 rw [zjS]
 generalize zdo zaC zaF n=rest
 simp only [zaC,zaF,zpK]
 ac_nf0
 rw [show decide ((0:Int)<(b:Int))=true by rw [qaD];omega]
 ac_nf0
 rw [zdV ⋯]
 ac_nf0
 rfl
theorem zjE {s0 s1:Option D}: ∀ (k n a b:Nat),b<=a->a*b<2^k->k<n->zdo zaC zaF n [s0,s1,some (.int (a:Int)),some (.int (b:Int))]=pure (.nx [s0,s1,some (.int (gcd a b:Int)),some (.int 0)])
 | k,0,a,b,_,_,h=>by omega
 | k,n+1,a,b,hab,hk,h=>by
  by_cases hb:b=0
  ·subst hb
   rw [zoF,Nat.gcd_zero_right]
  ·cases k with
   | zero=>
    have:1<=a*b:=Nat.mul_pos ⋯ (Nat.pos_of_ne_zero hb)
    omega
   | succ k=>
    have ih:=zjE (s0:=s0) (s1:=s1) k n b (a % b) (le_of_lt (mod_lt a (Nat.pos_of_ne_zero hb))) (euc hb hab hk) ⋯
    rw [zj1 hb,ih,zik a b]
theorem zpD {a:Int} {b:Nat} (h0:0<b) (h1:b<bb):F_36 [.int a,.int (b:Int)]=pure (qD (mkRat a b)):=by
 have g0:=Nat.gcd_pos_of_pos_right a.natAbs h0
 have g1:=Nat.gcd_le_right a.natAbs h0
 have hr:=le_of_lt (mod_lt a.natAbs h0)
 have e:zdo zaC zaF 20000 [some (.int a),some (.int (b:Int)),some (.int (a.natAbs:Int)),some (.int (b:Int))]=pure (.nx [some (.int a),some (.int (b:Int)),some (.int (gcd a.natAbs b:Int)),some (.int 0)]):=by
  rw [show (20000:Nat)=19999+1 from rfl,zj1 ⋯,zjE 14000 19999 b (a.natAbs % b) hr (ztv h1 hr) (by decide),zik a.natAbs b]
 have a1: ∀ z:Int,zrb [.int z]=pure (.int (z.natAbs:Int)):=λz=>by
  show pure (D.int (if z<0 then -z else z))=_
  congr 2
  split<;>omega
 rw [zt0 h0,d_36]
 simp only [G_36]
 ac_nf0
 rw [zrz]
 ac_nf0
 rw [a1,a1]
 ac_nf0
 rw [Int.natAbs_natCast]
 rw [show zku 20000 zaC zaF [some (.int a),some (.int (b:Int)),some (.int (a.natAbs:Int)),some (.int (b:Int))]=zdo zaC zaF 20000 [some (.int a),some (.int (b:Int)),some (.int (a.natAbs:Int)),some (.int (b:Int))] from rfl,e]
 ac_nf0
 rw [zgn g0 ⋯,zgn g0 ⋯]
 ac_nf0
theorem zjl {x:Str} (h:asc x):F_27 [.str x]=pure (.bl (zby (tl x))):=by
 have hx:=h.2
 have ec:zaB (zq2 (zaf 0)) (zaR 0) (λ_=>pure true) za5 [none] [some (.str x)]=pure (.lst ((tl x).map λc=>D.bl (decide (48<=c) && decide (c<=57)))):=by
  have:=zc1 (g':=λc=>D.str ⟨#[c]⟩) (fi:=zq2 (zaf 0)) (g:=zaR 0) (tc:=λ_=>pure true) (te:=za5) (src:=[none]) (sd:=[some (.str x)]) (xs:=tl x) (k:=λc=>some (D.bl (decide (48<=c) && decide (c<=57)))) (by ac_nf0;exact zlt h) (by rw [<- za4];omega) λc hc=>by
   have eb:zat [none] [some (D.str x)]=[none]:=rfl
   rw [eb]
   simp only [zbd,za5]
   ac_nf0
   rw [zoH]
   ac_nf0
  rw [this]
  congr 2
  simp
 rw [d_27]
 simp only [G_27]
 ac_nf0
 rw [h.fit,pure_bind,zpJ]
 have hlen:=za4 x
 by_cases h1:(x.length:Int)<1
 ·rw [decide_eq_true h1]
  ac_nf0
  have:zby (tl x)=false:=by unfold zby;rw [decide_eq_false (show ¬1<=(tl x).length by omega)];rfl
  rw [this]
 rw [decide_eq_false h1]
 ac_nf0
 by_cases h2:(40:Int)<(x.length:Int)
 ·rw [decide_eq_true h2]
  ac_nf0
  have:zby (tl x)=false:=by unfold zby;rw [decide_eq_false (show ¬(tl x).length<=40 by omega)];simp
  rw [this]
 rw [decide_eq_false h2]
 ac_nf0
 rw [ec]
 ac_nf0
 obtain ⟨c,r,er⟩: ∃ c r,tl x=c::r:=by
  cases q:tl x with
  | nil=>rw [q] at hlen;simp at hlen;omega
  | cons c r=>exact ⟨c,r,rfl⟩
 have e0:tl (Str.ofString "0")=[48]:=by decide +kernel
 have o0:PyData.strOk (Str.ofString "0")=true:=by decide +kernel
 have oc:PyData.strOk (⟨#[c]⟩:Str)=true:=by
  have:=h.1 c (by rw [er];simp)
  unfold PyData.strOk
  simp
  omega
 have eall:zql [.lst ((tl x).map λc=>D.bl (decide (48<=c) && decide (c<=57)))]=pure (.bl ((tl x).all λc=>decide (48<=c) && decide (c<=57))):=by
  have:=zjA ((tl x).map λc=>decide (48<=c) && decide (c<=57))
  rw [qaT] at this
  rw [show (λc:Nat=>D.bl (decide (48<=c) && decide (c<=57)))=D.bl∘λc=>decide (48<=c) && decide (c<=57) from rfl,this,List.all_map]
  rfl
 rw [eall]
 ac_nf0
 rw [zdr h.ok o0,ix0 h er]
 ac_nf0
 rw [ziO oc o0]
 have en:zby (tl x)=((tl x).all (λc=>decide (48<=c) && decide (c<=57)) && (decide (tl x=[48]) || !decide (c=48))):=by
  unfold zby
  rw [decide_eq_true (show 1<=(tl x).length by omega),decide_eq_true (show (tl x).length<=40 by omega),Bool.true_and,Bool.true_and]
  congr 1
  congr 1
  ·rw [Bool.eq_iff_iff];simp
  ·rw [er,Bool.eq_iff_iff];simp
 have e2:decide (tl (⟨#[c]⟩:Str)=[48])=decide (c=48):=by
  rw [show tl (⟨#[c]⟩:Str)=[c] from rfl]
  simp
 rw [en,e0,e2]
 generalize (tl x).all (λc=>decide (48<=c) && decide (c<=57))=A
 generalize decide (tl x=[48])=B
 cases A<;>cases B<;>simp
theorem zho {x:Str} (h:asc x):F_26 [.str x]=if zby (tl x)=true then pure (.int (val (tl x))) else zbu "NoText":=by
 rw [d_26]
 simp only [G_26]
 ac_nf0
 rw [zjl h]
 ac_nf0
 cases hb:zby (tl x) with
 | true=>
  ac_nf0
  rw [zhu hb]
  ac_nf0
 | false=>
  ac_nf0
theorem zfQ {x:Str} (h:asc x):F_39 [.str x]=pure (if zby (tl x)=true then .int (val (tl x)) else .non):=by
 have hx:=h.2
 have hlen:=za4 x
 have e0:tl (Str.ofString "")=[]:=by decide +kernel
 have o0:PyData.strOk (Str.ofString "")=true:=by decide +kernel
 have e1:tl (Str.ofString "0")=[48]:=by decide +kernel
 have o1:PyData.strOk (Str.ofString "0")=true:=by decide +kernel
 rw [d_39]
 simp only [G_39]
 ac_nf0
 rw [zdr h.ok o0,e0]
 by_cases hn:tl x=[]
 ·rw [decide_eq_true hn]
  ac_nf0
  rw [hn]
  rfl
 rw [decide_eq_false hn]
 ac_nf0
 have h1:1<=(tl x).length:=Nat.one_le_iff_ne_zero.mpr λz=>hn (length_eq_zero_iff.mp z)
 by_cases h2:(40:Int)<(x.length:Int)
 ·rw [decide_eq_true h2]
  ac_nf0
  have:zby (tl x)=false:=by unfold zby;rw [decide_eq_false (show ¬(tl x).length<=40 by omega)];simp
  rw [this,h.fit,pure_bind]
  rfl
 rw [decide_eq_false h2]
 ac_nf0
 have es:zjM (.str x) (.str (Str.ofString "0123456789"))=pure (.str (Txt.stripChars x (Str.ofString "0123456789"))):=by
  show (do fits x.length;pure (.str (Txt.stripChars x (Str.ofString "0123456789"))):M D)=_
  rw [h.fit,pure_bind]
 have os:PyData.strOk (Txt.stripChars x (Str.ofString "0123456789"))=true:=by
  exact (zoY h (zk6 _ _)).ok
 rw [es]
 ac_nf0
 rw [ziO os o0,e0,h.fit,pure_bind]
 ac_nf0
 obtain ⟨c,r,er⟩: ∃ c r,tl x=c::r:=by
  cases q:tl x with
  | nil=>exact absurd q hn
  | cons c r=>exact ⟨c,r,rfl⟩
 have oc:PyData.strOk (⟨#[c]⟩:Str)=true:=by
  have:=h.1 c (by rw [er];simp)
  unfold PyData.strOk
  simp
  omega
 have ed:decide (tl (Txt.stripChars x (Str.ofString "0123456789"))=[])=(tl x).all (λc=>decide (48<=c) && decide (c<=57)):=by
  rw [Bool.eq_iff_iff,qaD,L3.zkn,all_eq_true]
  refine forall_congr' λc=>forall_congr' λ_=> ?_
  rw [<- zkC,qaD]
 have en:zby (tl x)=((tl x).all (λc=>decide (48<=c) && decide (c<=57)) && (decide (tl x=[48]) || !decide (c=48))):=by
  unfold zby
  rw [decide_eq_true h1,decide_eq_true (show (tl x).length<=40 by omega),Bool.true_and,Bool.true_and]
  congr 1
  congr 1
  ·rw [Bool.eq_iff_iff];simp
  ·rw [er,Bool.eq_iff_iff];simp
 have e2:decide (tl (⟨#[c]⟩:Str)=[48])=decide (c=48):=by
  rw [show tl (⟨#[c]⟩:Str)=[c] from rfl]
  simp
 rw [ed]
 cases hA:(tl x).all (λc=>decide (48<=c) && decide (c<=57)) with
 | false=>
  rw [hA] at en
  rw [en]
  ac_nf0
  rfl
 | true=>
  ac_nf0
  rw [ix0 h er]
  ac_nf0
  rw [zdr oc o1,e1,e2]
  ac_nf0
  rw [hA,Bool.true_and] at en
  by_cases hc:c=48
  ·rw [decide_eq_true hc] at en ⊢
   ac_nf0
   rw [ziO h.ok o1,e1]
   ac_nf0
   by_cases hz:tl x=[48]
   ·rw [decide_eq_true hz] at en ⊢
    ac_nf0
    rw [zhu en,en]
    ac_nf0
    try rfl
   ·rw [decide_eq_false hz] at en ⊢
    rw [en]
    ac_nf0
    rfl
  ·rw [decide_eq_false hc] at en ⊢
   have en:zby (tl x)=true:=by rw [en];simp
   ac_nf0
   rw [zhu en,en]
   ac_nf0
   try rfl
def zfC (ps:List (List Nat)):Option (List Int):=if ps.all zby=true then (if (ps.map val==zhc (ps.map val))=true then some (ps.map val) else none) else none
theorem zim: ∀ {ps:List (List Nat)},(∀ p∈ps,asc (ofL p))->zbg (zbd (zaR 0) (λ_=>pure true) zbo [none]) (ps.map λl=>D.str (ofL l))=if ps.all zby=true then pure (ps.map λp=>D.int (val p)) else zbu "NoText"
 | [],_=>rfl
 | p::r,h=>by
  have h1:=zho (h p (by simp))
  rw [zav] at h1
  have ih:=zim (ps:=r) λq hq=>h q (qan _ hq)
  rw [qaM,zbg,ih]
  simp only [zbd,zbo]
  ac_nf0
  rw [h1,all_cons]
  cases hp:zby p with
  | false=>
   ac_nf0
   try rfl
  | true=>
   cases hr:r.all zby with
   | false=>
    ac_nf0
    try rfl
   | true=>
    ac_nf0
    try rfl
theorem zgT: ∀ {ps:List (List Nat)},(∀ p∈ps,asc (ofL p))->zbg (zbd (zaR 0) (λ_=>pure true) zbl [none]) (ps.map λl=>D.str (ofL l))=pure (ps.map λp=>if zby p=true then D.int (val p) else .non)
 | [],_=>rfl
 | p::r,h=>by
  have h1:=zfQ (h p (by simp))
  rw [zav] at h1
  have ih:=zgT (ps:=r) λq hq=>h q (qan _ hq)
  rw [qaM,zbg,ih]
  simp only [zbd,zbl]
  ac_nf0
  rw [h1]
  ac_nf0
  rfl
theorem zdq {x:Str} (h:asc x) {c:Nat}: ∀ p∈spl c (tl x),asc (ofL p):=λp hp=>zfK h (zdj hp).1
theorem zeK {α β:Type} {c:String} {f:α->M β}:((zbu c:M α)>>=f)=zbu c:=zfu
theorem zj7 {x:Str} {c:Nat} {sd:Sd} {fi:FA} (h:asc x) (hl:(spl c (tl x)).length<60) (hi:fi sd=zdd (.str x) (.str ⟨#[c]⟩)>>=zfw) (eb:zat [none] sd=[none]):zaB fi (zaR 0) (λ_=>pure true) zbo [none] sd=if (spl c (tl x)).all zby=true then pure (.lst (((spl c (tl x)).map val).map D.int)) else zbu "NoText":=by
 have el:=zim (zdq h (c:=c))
 have f:=zaA (show (spl c (tl x)).length<=1000 by omega)
 unfold zaB
 rw [hi,zc0 h,pure_bind,zoS,pure_bind,qaH,f,pure_bind,eb,el]
 cases (spl c (tl x)).all zby with
 | true=>
  rw [qa4 rfl,qa4 rfl,pure_bind,qaT]
  rfl
 | false=>rw [qa5 (by simp),qa5 (by simp),zeK]
theorem zjd {ps:List (List Nat)} {sd:Sd} (h: ∀ p∈ps,asc (ofL p)) (hl:ps.length<60) {fi:FA} (hi:fi sd=pure (ps.map λl=>D.str (ofL l))) (eb:zat [none] sd=[none]):zaB fi (zaR 0) (λ_=>pure true) zbl [none] sd=pure (.lst (ps.map λp=>if zby p=true then D.int (val p) else .non)):=by
 have el:=zgT h
 have f:=zaA (show ps.length<=1000 by omega)
 unfold zaB
 rw [hi,pure_bind,qaH,f,pure_bind,eb,el,pure_bind]
theorem zky {x:Str} {c:Nat} (h:asc x) (hl:(spl c (tl x)).length<60):F_25 [.str x,.str ⟨#[c]⟩]=match zfC (spl c (tl x)) with | some ns=>pure (tI ns) | none=>zbu "NoText":=by
 have ec:=zj7 (sd:=[some (D.str x),some (D.str ⟨#[c]⟩),none]) (fi:=iSq (cMt zdd (zaf 0) (zaf 1))) h hl (by ac_nf0) rfl
 generalize spl c (tl x)=ps at*
 rw [d_25]
 simp only [G_25]
 ac_nf0
 rw [ec]
 unfold zfC
 cases hb:ps.all zby with
 | false=>
  ac_nf0
  try rfl
 | true=>
  ac_nf0
  rw [zcZ (by simp;omega)]
  ac_nf0
  rw [zil]
  ac_nf0
  cases hz:(ps.map val==zhc (ps.map val)) with
  | true=>
   ac_nf0
   try rfl
  | false=>
   ac_nf0
   try rfl
theorem znC {ds:List D} {xs:List PyData} (e:pdL ds=some xs) (hi:zjx .none xs=true):dIn .non (.lst ds)=pure (.bl (xs.any λy=>PyData.eqv y .none)):=by
 show zmM false .non (.lst ds)=_
 unfold zmM
 rw [show pd D.non=some .none from rfl]
 simp only [e,hi]
 rfl
def zpe (p:List Nat):D:=if zby p=true then D.int (val p) else .non
def zoq (p:List Nat):PyData:=if zby p=true then PyData.int (val p) else .none
theorem zjI: ∀ ps:List (List Nat),pdL (ps.map zpe)=some (ps.map zoq)/\PyData.canLayAll0 (ps.map zoq)=true/\((ps.map zoq).any λy=>PyData.eqv y .none)= !ps.all zby
 | []=>⟨rfl,rfl,rfl⟩
 | p::r=>by
  obtain ⟨h1,h2,h3⟩:=zjI r
  refine ⟨?_,?_,?_⟩
  ·have hpd:pd (zpe p)=some (zoq p):=by unfold zpe zoq;cases zby p<;>rfl
   rw [qaM,pdL,h1,hpd]
   rfl
  ·rw [qaM]
   unfold PyData.canLayAll0
   rw [h2]
   unfold zoq
   cases zby p<;>rfl
  ·rw [qaM,any_cons,h3,all_cons]
   unfold zoq
   cases zby p<;>simp [PyData.eqv]
theorem zlP (ps:List (List Nat)):dIn .non (.lst (ps.map zpe))=pure (.bl (!ps.all zby)):=by
 obtain ⟨h1,h2,h3⟩:=zjI ps
 rw [znC h1 (by unfold zjx;rw [h2];simp [PyData.canLay0,PyData.depth]),h3]
theorem zl2 {ps:List (List Nat)} (h:ps.all zby=true):ps.map zpe=(ps.map val).map D.int:=by
 rw [qaT]
 refine map_congr_left λp hp=> ?_
 have:=all_eq_true.mp h p hp
 unfold zpe
 rw [qa4 this]
 rfl
theorem zfA {ps:List (List Nat)} (h: ∀ p∈ps,asc (ofL p)) (hl:ps.length<60):F_40 [.lst (ps.map λl=>D.str (ofL l))]=pure (match zfC ps with | some ns=>tI ns | none=> .non):=by
 have ec:_=pure (D.lst (ps.map zpe)):=zjd (sd:=[some (D.lst (ps.map λl=>D.str (ofL l))),none]) (fi:=iSq (zaf 0)) h hl (by ac_nf0) rfl
 rw [d_40]
 simp only [G_40]
 ac_nf0
 rw [ec]
 ac_nf0
 rw [zlP]
 ac_nf0
 unfold zfC
 cases hb:ps.all zby with
 | false=>
  ac_nf0
  try rfl
 | true=>
  ac_nf0
  rw [zl2 hb,zcZ (by simp;omega)]
  ac_nf0
  rw [zil]
  ac_nf0
  cases hz:(ps.map val==zhc (ps.map val)) with
  | true=>
   ac_nf0
   try rfl
  | false=>
   ac_nf0
   try rfl
def zj4:List (List Nat)->Option (List Int×Int)
 | [a,b]=>(match zfC (spl 44 a) with
   | some ns=>if zby b=true then some (ns,val b) else none
   | none=>none)
 | _=>none
theorem zig {ps:List (List Nat)} (h:ps.length≠2):zj4 ps=none:=by
 unfold zj4
 split
 ·exact absurd rfl h
 ·rfl
def zbV (l:List Nat):Option (List Int×Int):=zj4 (spl 61 l)
theorem zmX {x:Str} (h:asc x) (hl: ∀ a∈spl 61 (tl x),(spl 44 a).length<60):F_24 [.str x]=match zbV (tl x) with | some o=>pure (.tup [tI o.1,.int o.2]) | none=>zbu "NoText":=by
 have es:=zc0 (c:=61) h
 have ha:=zdq h (c:=61)
 rw [d_24]
 simp only [G_24]
 ac_nf0
 rw [show (Str.ofString "=")=(⟨#[61]⟩:Str) from rfl,es]
 ac_nf0
 unfold zbV
 rw [ztR]
 ac_nf0
 generalize spl 61 (tl x)=ps at*
 by_cases c:ps.length=2
 ·obtain ⟨a,b,rfl⟩: ∃ a b,ps=[a,b]:=by
   match ps,c with
   | [a,b],_=>exact ⟨a,b,rfl⟩
  have h1:=ha a (by simp)
  have h2:=ha b (by simp)
  have er:=zky (x:=ofL a) (c:=44) h1 (by rw [zav];exact hl a (by simp))
  rw [zav] at er
  have en:=zho h2
  rw [zav] at en
  simp only [tI] at er
  rw [show (([a,b].length:Nat):Int)=2 from rfl,beq_self_eq_true]
  ac_nf0
  simp only [qaM,map_nil]
  ac_nf0
  rw [show (Str.ofString ",")=(⟨#[44]⟩:Str) from rfl,er]
  unfold zj4
  cases hr:zfC (spl 44 a) with
  | none=>
   ac_nf0
   rw [hr]
  | some ns=>
   ac_nf0
   rw [en]
   cases hb:zby b with
   | true=>
    ac_nf0
    rw [hr]
   | false=>
    ac_nf0
    rw [hr]
 ·rw [show (((ps.length:Nat):Int)==2)=false by rw [beq_eq_false_iff_ne];omega,zig c]
  ac_nf0
theorem zis {a b:List Nat} (h:61∉a):zbV (a++61::b)=if 61∈b then none else (match zfC (spl 44 a) with | some ns=>if zby b=true then some (ns,val b) else none | none=>none):=by
 unfold zbV
 rw [zfM h]
 by_cases hb:61∈b
 ·rw [qa4 hb,zig]
  rw [qaE,zd8]
  have:=List.count_pos_iff.mpr hb
  omega
 ·rw [qa5 hb,ze4 hb]
  rfl
theorem zpz {l:List Nat} (h:61∉l):zbV l=none:=by
 unfold zbV
 rw [ze4 h]
 rfl
theorem zo3 {b:List Nat} (h:61∈b):zby b=false:=by
 unfold zby
 have:b.all (λc=>decide (48<=c) && decide (c<=57))=false:=by
  rw [Bool.eq_false_iff]
  intro z
  have:=all_eq_true.mp z 61 h
  simp at this
 rw [this]
 simp
theorem zkX {ps:List (List Nat)} {ns:List Int} (h:zfC ps=some ns) (hp:ps≠[]):ns≠[]/\ns.Pairwise (· < ·)/\ ∀ x∈ns,0<=x:=by
 unfold zfC at h
 split at h
 ·split at h
  ·rename_i hz
   cases h
   refine ⟨λz=>hp (by simpa using z),?_,λx hx=> ?_⟩
   ·rw [eq_of_beq hz]
    exact zkO _
   ·obtain ⟨p,_,rfl⟩:=qaU.mp hx
    unfold val
    omega
  ·cases h
 ·cases h
theorem zfR {x y:D} {a b:PyData} (e1:pd x=some a) (e2:pd y=some b) (h1:a.canLay0=true) (h2:b.canLay0=true):dIn .non (.tup [x,y])=pure (.bl (PyData.eqv a .none || PyData.eqv b .none)):=by
 show zmM false .non (.tup [x,y])=_
 unfold zmM
 rw [show pd D.non=some .none from rfl]
 have e:pdL [x,y]=some [a,b]:=by
  rw [pdL,e1,pdL,e2]
  rfl
 have hi:zjx .none [a,b]=true:=by unfold zjx PyData.canLayAll0 PyData.canLayAll0;rw [h1,h2];simp [PyData.canLay0,PyData.canLayAll0,PyData.depth]
 simp only [e,hi]
 simp
theorem zj5 {gs:List D->Sd->M Sd} {a b c:D} {sd:Sd}:zdm 3 gs (.tup [a,b,c]) sd=gs [a,b,c] sd:=rfl
theorem zjR {ns:List Int} (h:ns≠[]):atI (ns.map D.int) (-1)=some (.int (ns.getLastD 0)):=by
 obtain ⟨i,l,rfl⟩: ∃ i l,ns=i++[l]:=⟨ns.dropLast,ns.getLast h,(List.dropLast_concat_getLast h).symm⟩
 rw [List.map_append]
 show atI (i.map D.int++[D.int l]) (-1)=_
 rw [zhZ]
 simp
def zhd (m:Int) (l:List Nat):D:=match zbV l with
 | some o=>if m<=o.1.getLastD 0\/o.2=0 then .non else .tup [tI o.1,.int o.2]
 | none=> .non
theorem zo7 {x:Str} {m:Int} (h:asc x) (hl: ∀ a∈spl 61 (tl x),(spl 44 a).length<60):F_42 [.int m,.str x]=pure (zhd m (tl x)):=by
 have hx:=h.2
 have e0:tl (Str.ofString "")=[]:=by decide +kernel
 have o0:PyData.strOk (Str.ofString "")=true:=by decide +kernel
 have ep:zle (.str x) (.str ⟨#[61]⟩)=pure (.tup ((ze6 x ⟨#[61]⟩).map D.str)):=by
  show (if _/\_ then _ else _)=_
  rw [qa4 ⟨rfl,⋯⟩]
 rw [d_42]
 simp only [G_42]
 ac_nf0
 rw [show (Str.ofString "=")=(⟨#[61]⟩:Str) from rfl,ep]
 by_cases hm:61∈tl x
 ·obtain ⟨a,b,e1,e2⟩:=zg1 hm
  have ea:asc (ofL a):=zfK h (by rw [e1];exact List.sublist_append_left _ _)
  have eb:asc (ofL b):=zfK h (by rw [e1];exact (List.sublist_cons_self _ _).trans (List.sublist_append_right _ _))
  rw [zkQ e1 e2]
  ac_nf0
  have er:=zfA (ps:=spl 44 a) (by have:=zdq ea (c:=44);rwa [zav] at this) (by
    refine hl a ?_
    rw [e1,zfM e2]
    exact qau)
  have es:=zc0 (c:=44) ea
  rw [zav] at es
  have en:=zfQ eb
  rw [zav] at en
  have o1:PyData.strOk (⟨#[61]⟩:Str)=true:=by decide +kernel
  have on:zhd m (tl x)=(match (if 61∈b then none else (match zfC (spl 44 a) with | some ns=>if zby b=true then some (ns,val b) else none | none=>none):Option (List Int×Int)) with
    | some o=>if m<=o.1.getLastD 0\/o.2=0 then .non else .tup [tI o.1,.int o.2]
    | none=> .non):=by
   unfold zhd
   rw [e1,zis e2]
  rw [on]
  simp only [qaM,map_nil,zj5]
  ac_nf0
  rw [show (Str.ofString ",")=(⟨#[44]⟩:Str) from rfl,es]
  ac_nf0
  rw [er]
  ac_nf0
  rw [en]
  ac_nf0
  rw [zdr o1 o0,e0,show decide (tl (⟨#[61]⟩:Str)=[])=false by decide +kernel]
  ac_nf0
  cases hr:zfC (spl 44 a) with
  | none=>
   have:dIn .non (.tup [D.non,if zby b=true then D.int (val b) else .non])=pure (.bl true):=by
    cases zby b with
    | true=>exact zfR (a:= .none) (b:= .int (val b)) rfl rfl rfl rfl
    | false=>exact zfR (a:= .none) (b:= .none) rfl rfl rfl rfl
   ac_nf0
   rw [this,ite_self]
   ac_nf0
  | some ns=>
   obtain ⟨nn,nu,nz⟩:=zkX hr (zfm _ _)
   have pdt:pd (D.tup (ns.map D.int))=some (.tuple (ns.map PyData.int)):=zmT ns
   have lay:(PyData.tuple (ns.map PyData.int)).canLay0=true:=by simp [PyData.canLay0,za8]
   cases hb:zby b with
   | false=>
    have:dIn .non (.tup [D.tup (ns.map D.int),.non])=pure (.bl true):=by
     rw [zfR pdt rfl lay rfl]
     simp [PyData.eqv]
    ac_nf0
    rw [this,ite_self]
    ac_nf0
   | true=>
    have nb:61∉b:=λz=>by rw [zo3 z] at hb;cases hb
    have:dIn .non (.tup [D.tup (ns.map D.int),.int (val b)])=pure (.bl false):=by
     rw [zfR pdt rfl lay rfl]
     simp [PyData.eqv]
    rw [qa5 nb]
    ac_nf0
    rw [this]
    ac_nf0
    rw [zjR nn]
    ac_nf0
    rw [ztZ]
    by_cases c1:m<=ns.getLastD 0
    ·rw [decide_eq_true c1]
     ac_nf0
     rw [qa4 (.inl c1)]
    ·rw [decide_eq_false c1]
     ac_nf0
     rw [zlE]
     ac_nf0
     by_cases c2:val b=0
     ·have e3:(if m<=ns.getLastD 0\/val b=0 then D.non else D.tup [D.tup (ns.map D.int),.int (val b)])= .non:=qa4 (.inr c2)
      rw [e3,c2]
      ac_nf0
      try rfl
     ·have e3:(if m<=ns.getLastD 0\/val b=0 then D.non else D.tup [D.tup (ns.map D.int),.int (val b)])=D.tup [D.tup (ns.map D.int),.int (val b)]:=qa5 (by rintro (z | z);exact c1 z;exact c2 z)
      rw [e3,show (val b==0)=false by rw [beq_eq_false_iff_ne];exact c2]
      ac_nf0
      try rfl
 ·have oL:zhd m (tl x)= .non:=by
   unfold zhd
   rw [zpz hm]
  have er:=zfA (ps:=spl 44 (tl x)) (zdq h) (by
    refine hl (tl x) ?_
    rw [ze4 hm]
    exact qau)
  have es:=zc0 (c:=44) h
  have en:=zfQ (x:=Str.empty) ⟨by simp [Str.empty],by decide⟩
  rw [zlV hm,oL]
  ac_nf0
  simp only [qaM,map_nil,zj5]
  ac_nf0
  rw [show (Str.ofString ",")=(⟨#[44]⟩:Str) from rfl,es]
  ac_nf0
  rw [er]
  ac_nf0
  rw [en]
  ac_nf0
  rw [zdr ⋯ o0,e0,show decide (tl Str.empty=[])=true by decide +kernel]
  ac_nf0
theorem zek {d:D} (k:kn d=true):F_12 [d]=pure (.bl (isI d)):=by
 rw [d_12]
 simp only [G_12,zcD,znr,znj,zaD,pure_bind,bind_assoc,zpd k,zqD k,zcS,znA]
 cases d<;>simp [isI]
theorem zgV {m:Int} {x0:Option D}: ∀ {ds:List D} {l:Int} {x3:Option D},(∀ d∈ds,kn d=true)->
  (zbt m l ds=true-> ∃ sd',zbe (λx sd=>do let sd1<-zaR 3 x sd;zbb sd1) ds [x0,some (.int m),some (.int l),x3]=pure (.nx sd'))/\
  (zbt m l ds=false->zbe (λx sd=>do let sd1<-zaR 3 x sd;zbb sd1) ds [x0,some (.int m),some (.int l),x3]=pure (.rt (.bl false)))
 | [],l,x3,_=>⟨λ_=>⟨_,rfl⟩,λh=>by simp [zbt] at h⟩
 | d::r,l,x3,hk=>by
  have kd:=hk d qau
  have step: ∀ {i:Int},d= .int i->(do let sd1<-zaR 3 d [x0,some (.int m),some (.int l),x3];zbb sd1)=if (decide (l<=i) && decide (i<m))=true then pure (.nx [x0,some (.int m),some (.int (i+1)),some (.int i)]) else pure (.rt (.bl false)):=by
   intro i e
   subst e
   simp only [zbb,zcR,List.set,pure_bind,bind_assoc,zaY,zgj,zoE,ziL,ziI,zbj,zaK,zaX,zaM,zaD,zhF,zek (show kn (.int i)=true from rfl),zcS,isI,zeb,zpJ,ztZ,zcD,zeL,zee]
   by_cases h1:l<=i
   ·by_cases h2:i<m
    ·have h1': ¬i<l:=by omega
     have h2': ¬m<=i:=by omega
     simp [h1,h2,h1',h2']
    ·have h1': ¬i<l:=by omega
     have h2':m<=i:=by omega
     simp [h1,h2,h1',h2']
   ·have h1':i<l:=by omega
    simp [h1,h1']
  by_cases hi:isI d=true
  ·obtain ⟨i,e⟩: ∃ i,d= .int i:=by cases d<;>simp [isI] at hi;exact ⟨_,rfl⟩
   have s1:=step e
   subst e
   have ih:=zgV (m:=m) (x0:=x0) (ds:=r) (l:=i+1) (x3:=some (.int i)) λy hy=>hk y (qan _ hy)
   rw [zcv,s1]
   by_cases c:(decide (l<=i) && decide (i<m))=true
   ·have er:zbt m l (.int i::r)=zbt m (i+1) r:=by rw [zbt,c];simp
    rw [er]
    simp only [c,if_true,pure_bind]
    exact ih
   ·have er:zbt m l (.int i::r)=false:=by rw [zbt,Bool.eq_false_iff.mpr c];simp
    rw [er]
    simp only [Bool.eq_false_iff.mpr c,if_false,pure_bind,qax]
    simp
  ·have hi':isI d=false:=Bool.eq_false_iff.mpr hi
   have er:zbt m l (d::r)=false:=by cases d<;>simp [isI] at hi'<;>rfl
   rw [er,zcv]
   refine ⟨λh=>(by cases h),λ_=> ?_⟩
   simp only [zbb,zcR,List.set,pure_bind,bind_assoc,zaY,zgj,zoE,ziL,ziI,zbj,zaK,zaX,zaM,zaD,zhF,zek kd,zcS,hi',zcD,zeL,zee]
   simp
theorem zkw {d:D} {m:Int} (k:kn d=true) (hk: ∀ ds,d= .tup ds-> ∀ x∈ds,kn x=true):F_14 [d,.int m]=pure (.bl (match d with | .tup ds=>zbt m 0 ds | _=>false)):=by
 rw [d_14]
 simp only [G_14,zaY,zgj,ziL,ziI,znj,zaD,pure_bind,bind_assoc,znu k,zcS]
 cases d with
 | tup ds=>
  simp only [isT,Bool.not_true,qax,if_false,zee,pure_bind,zgM,zaY,zcG,zeL,List.set,ziG,zn5,zaD,zrS,bind_assoc]
  have:=zgV (m:=m) (x0:=some (.tup ds)) (ds:=ds) (l:=0) (x3:=none) (hk ds rfl)
  cases c:zbt m 0 ds with
  | true=>
   obtain ⟨sd',e⟩:=this.1 c
   rw [e]
   simp
  | false=>
   rw [this.2 c]
   simp
 | _=>simp [isT]
theorem zjG {d:D} (k:kn d=true):F_13 [d]=pure (.bl (match d with | .tup [_,_]=>true | _=>false)):=by
 have et:=znu k
 rw [d_13]
 simp only [G_13]
 ac_nf0
 rw [et]
 cases d with
 | tup ds=>
  simp only [isT]
  ac_nf0
  rw [zlE]
  ac_nf0
  match ds with
  | []=>rfl
  | [x]=>rfl
  | [x,y]=>rfl
  | x::y::z::r=>
   rw [show (((x::y::z::r).length:Int)==2)=false by rw [beq_eq_false_iff_ne];simp;omega]
 | _=>simp only [isT];ac_nf0
theorem zmd {m:Int} {o:List Int×Int}:F_16 [zcN o,.int m]=pure (.bl (okO m o)):=by
 have e1:F_14 [.tup (o.1.map D.int),.int m]=pure (.bl (zbt m 0 (o.1.map D.int))):=zkw (d:= .tup (o.1.map D.int)) (m:=m) rfl λds e x hx=>by
  cases e
  obtain ⟨y,_,rfl⟩:=qaU.mp hx
  rfl
 unfold okO
 rw [d_16]
 simp only [G_16]
 ac_nf0
 rw [zjG (d:= .tup [.tup (o.1.map D.int),.int o.2]) rfl]
 ac_nf0
 rw [e1]
 ac_nf0
 generalize zbt m 0 (o.1.map D.int)=R
 cases R with
 | false=>
  ac_nf0
  try rfl
 | true=>
  ac_nf0
  rw [zek (d:= .int o.2) rfl]
  cases hl:decide ((0:Int)<o.1.length) with
  | false=>
   ac_nf0
   try rfl
  | true=>
   simp only [isI]
   ac_nf0
   try rfl
theorem zmb {m:Int} {os:List (List Int×Int)} (ol:os.length<100):F_15 [zcU m os]=pure (.bl (okS m os)):=by
 have ec:zaB (iSq (zaf 2)) (zaR 0) (λ_=>pure true) zcV [none,some 1] [some (zcU m os),some (.int m),some (.tup (os.map zcN))]=pure (.lst ((os.map (okO m)).map D.bl)):=by
  rw [show (os.map (okO m)).map D.bl=os.filterMap λo=>some (D.bl (okO m o)) by simp]
  refine zc1 (g':=zcN) (xs:=os) rfl ⋯ λo ho=> ?_
  rw [show zat [none,some 1] [some (zcU m os),some (.int m),some (.tup (os.map zcN))]=[none,some (.int m)] from rfl]
  simp only [zbd,zcV]
  have e:=zmd (m:=m) (o:=o)
  generalize zcN o=d at e
  ac_nf0
  rw [e]
  ac_nf0
 unfold okS
 rw [d_15]
 simp only [G_15]
 ac_nf0
 rw [zjG (d:=zcU m os) rfl]
 simp only [zcU] at ec ⊢
 ac_nf0
 rw [zek (d:= .int m) rfl]
 simp only [isI]
 ac_nf0
 simp only [zpJ]
 ac_nf0
 by_cases h1:m<1
 ·rw [decide_eq_true h1,decide_eq_false (show ¬1<=m by omega)]
  ac_nf0
  try rfl
 rw [decide_eq_false h1,decide_eq_true (show 1<=m by omega)]
 ac_nf0
 by_cases h2:(10:Int)<m
 ·rw [decide_eq_true h2,decide_eq_false (show ¬m<=10 by omega)]
  ac_nf0
  try rfl
 rw [decide_eq_false h2,decide_eq_true (show m<=10 by omega)]
 ac_nf0
 rw [zub]
 ac_nf0
 by_cases h3:(12:Int)<os.length
 ·rw [decide_eq_true h3,decide_eq_false (show ¬os.length<=12 by omega)]
  ac_nf0
  try rfl
 rw [decide_eq_false h3,decide_eq_true (show os.length<=12 by omega)]
 ac_nf0
 rw [ec]
 ac_nf0
 rw [zjA]
 ac_nf0
 rw [List.all_map]
 rfl
def zju:List (List Nat)->Option (Int×List (List Int×Int))
 | w0::w1::r=>if (decide (w1=[58]) && (zby w0 && (r.all (λw=>(zbV w).isSome) && okS (val w0) (r.filterMap zbV))))=true then some (val w0,r.filterMap zbV) else none
 | _=>none
theorem zhR {w0 w1:List Nat} {r:List (List Nat)}:zju (w0::w1::r)=if (decide (w1=[58]) && (zby w0 && (r.all (λw=>(zbV w).isSome) && okS (val w0) (r.filterMap zbV))))=true then some (val w0,r.filterMap zbV) else none:=rfl
def few (l:List Nat):Prop:=(spl 32 l).length<60/\ ∀ w∈spl 32 l, ∀ a∈spl 61 w,(spl 44 a).length<60
theorem zin: ∀ {ps:List (List Nat)},(∀ p∈ps,asc (ofL p))->(∀ w∈ps, ∀ a∈spl 61 w,(spl 44 a).length<60)->zbg (zbd (zaR 0) (λ_=>pure true) zbz [none]) (ps.map λl=>D.str (ofL l))=if ps.all (λw=>(zbV w).isSome)=true then pure ((ps.filterMap zbV).map zcN) else zbu "NoText"
 | [],_,_=>rfl
 | p::r,h,hl=>by
  have h1:=zmX (h p (by simp)) (by rw [zav];exact hl p (by simp))
  rw [zav] at h1
  have ih:=zin (ps:=r) (λq hq=>h q (qan _ hq)) λw hw=>hl w (qan _ hw)
  rw [qaM,zbg,ih]
  simp only [zbd,zbz]
  ac_nf0
  rw [h1,all_cons,qat]
  cases hp:zbV p with
  | none=>
   ac_nf0
   try rfl
  | some o=>
   simp only [isSome_some,Bool.true_and,qaM]
   cases hr:r.all (λw=>(zbV w).isSome) with
   | false=>
    ac_nf0
    try rfl
   | true=>
    ac_nf0
    try rfl
theorem zkE {x:Str}:F_23 [.str x]=pure .non:=rfl
theorem zmG {ps:List (List Nat)} {sd:Sd} {fi:FA} (h: ∀ p∈ps,asc (ofL p)) (hn:ps.length<60) (hl: ∀ w∈ps, ∀ a∈spl 61 w,(spl 44 a).length<60) (hi:fi sd=pure (ps.map λl=>D.str (ofL l))) (eb:zat [none] sd=[none]):zaB fi (zaR 0) (λ_=>pure true) zbz [none] sd=if ps.all (λw=>(zbV w).isSome)=true then pure (.lst ((ps.filterMap zbV).map zcN)) else zbu "NoText":=by
 have el:=zin h hl
 have f:=zaA (show ps.length<=1000 by omega)
 unfold zaB
 rw [hi,pure_bind,qaH,f,pure_bind,eb,el]
 cases ps.all (λw=>(zbV w).isSome) with
 | true=>rw [qa4 rfl,qa4 rfl,pure_bind]
 | false=>rw [qa5 (by simp),qa5 (by simp),zeK]
theorem zml {x:Str} (h:asc x) (f:few (tl x)):F_20 [.str x]=match zju (spl 32 (tl x)) with | some s=>pure (zcU s.1 s.2) | none=>zbu "NoText":=by
 have es:=zc0 (c:=32) h
 have ha:=zdq h (c:=32)
 obtain ⟨hn,hl⟩:=f
 have hne:=zfm 32 (tl x)
 generalize spl 32 (tl x)=ps at*
 rw [d_20]
 simp only [G_20]
 ac_nf0
 rw [zkE]
 ac_nf0
 rw [show (Str.ofString " ")=(⟨#[32]⟩:Str) from rfl,es]
 ac_nf0
 rw [zpJ]
 match ps,hne with
 | [w],_=>
  rw [decide_eq_true (show (([w].length:Nat):Int)<2 by simp)]
  ac_nf0
  rfl
 | w0::w1::r,_=>
  have h0:=zho (ha w0 (by simp))
  rw [zav] at h0
  have h1:=ha w1 (by simp)
  have ec:=zmG (ps:=r) (sd:=[some (D.str x),some (D.lst ((w0::w1::r).map λl=>D.str (ofL l))),none]) (fi:=iSq (cSl (zaf 1) (zct (cK (.int 2))) zdk)) (λp hp=>ha p (by simp [hp])) (by simp at hn;omega) (λw hw=>hl w (by simp [hw])) (by
    ac_nf0
    rw [zk1]
    rfl) rfl
  have e58:tl (Str.ofString ":")=[58]:=by decide +kernel
  rw [decide_eq_false (show ¬(((w0::w1::r).length:Nat):Int)<2 by simp;omega)]
  ac_nf0
  simp only [qaM] at ec ⊢
  ac_nf0
  rw [L3.ziO h1.ok ⋯,e58,zav]
  unfold zju
  by_cases c1:w1=[58]
  ·rw [decide_eq_true c1]
   ac_nf0
   rw [h0]
   cases hb:zby w0 with
   | false=>
    ac_nf0
    try simp [c1,zcU]
   | true=>
    ac_nf0
    rw [ec]
    cases hr:r.all (λw=>(zbV w).isSome) with
    | false=>
     ac_nf0
     try simp [c1,zcU]
    | true=>
     have eo:=zmb (m:=val w0) (os:=r.filterMap zbV) (by
       have:=List.length_filterMap_le zbV r
       simp at hn
       omega)
     simp only [zcU] at eo
     ac_nf0
     rw [eo]
     cases ho:okS (val w0) (r.filterMap zbV) with
     | false=>
      ac_nf0
      try simp [c1,zcU]
     | true=>
      ac_nf0
      try simp [c1,zcU]
  ·rw [decide_eq_false c1]
   ac_nf0
   try simp [c1,zcU]
def zlJ (m:Int) (l:List Nat):PyData:=match zbV l with
 | some o=>if m<=o.1.getLastD 0\/o.2=0 then .none else pdO o
 | none=> .none
theorem zlW {m:Int} {l:List Nat} {o:List Int×Int} (h:zbV l=some o):(m<=o.1.getLastD 0\/o.2=0)↔okO m o=false:=by
 have: ∃ a b,spl 61 l=[a,b]/\zfC (spl 44 a)=some o.1/\zby b=true/\o.2=val b:=by
  unfold zbV at h
  generalize spl 61 l=ps at h
  unfold zj4 at h
  split at h
  ·rename_i a b
   cases hr:zfC (spl 44 a) with
   | none=>simp only [hr] at h;cases h
   | some ns=>
    simp only [hr] at h
    cases hb:zby b with
    | false=>rw [hb] at h;cases h
    | true=>
     rw [hb] at h
     cases h
     exact ⟨a,b,rfl,hr,hb,rfl⟩
  ·cases h
 obtain ⟨a,b,_,hr,_,hv⟩:=this
 obtain ⟨n1,n2,n3⟩:=zkX hr (zfm _ _)
 have v0:0<=o.2:=by rw [hv];unfold val;omega
 have hl:0<o.1.length:=length_pos_iff.mpr n1
 have key:okO m o=true↔o.1.getLastD 0<m/\0<o.2:=by
  unfold okO
  rw [qaG,qaG,qaD,qaD,zbh]
  constructor
  ·rintro ⟨⟨_,hb⟩,_,hp⟩
   refine ⟨?_,hp⟩
   have:=hb (o.1.getLast n1) (List.getLast_mem n1)
   rw [List.getLastD_eq_getLast?, List.getLast?_eq_some_getLast n1]
   exact this.2
  ·rintro ⟨h1,hp⟩
   refine ⟨⟨n2,λx hx=>⟨n3 x hx,?_⟩⟩,⋯,hp⟩
   rw [List.getLastD_eq_getLast?, List.getLast?_eq_some_getLast n1] at h1
   have h1:o.1.getLast n1<m:=h1
   have:x<=o.1.getLast n1:=by
    obtain ⟨i,l,e⟩: ∃ i l,o.1=i++[l]:=⟨o.1.dropLast,o.1.getLast n1,(List.dropLast_concat_getLast n1).symm⟩
    have el:o.1.getLast n1=l:=by simp [e]
    rw [el]
    rw [e] at hx n2
    rcases qaK.mp hx with hx | hx
    ·exact Int.le_of_lt ((List.pairwise_append.mp n2).2.2 x hx l (by simp))
    ·rw [mem_singleton.mp hx];exact Int.le_refl _
   omega
 rw [Bool.eq_false_iff,Ne,key]
 omega
theorem zhC {m:Int}: ∀ ps:List (List Nat),pdL (ps.map (zhd m))=some (ps.map (zlJ m))/\PyData.canLayAll0 (ps.map (zlJ m))=true/\((ps.map (zlJ m)).any λy=>PyData.eqv y .none)= !(ps.all (λw=>(zbV w).isSome) && (ps.filterMap zbV).all (okO m))/\((ps.all (λw=>(zbV w).isSome) && (ps.filterMap zbV).all (okO m))=true->ps.map (zhd m)=(ps.filterMap zbV).map zcN)
 | []=>⟨rfl,rfl,rfl,λ_=>rfl⟩
 | p::r=>by
  obtain ⟨h1,h2,h3,h4⟩:=zhC (m:=m) r
  simp only [qaM,pdL,h1,any_cons,h3,all_cons,qat]
  unfold PyData.canLayAll0
  rw [h2]
  cases hp:zbV p with
  | none=>
   have e1:zhd m p= .non:=by unfold zhd;rw [hp]
   have e2:zlJ m p= .none:=by unfold zlJ;rw [hp]
   rw [e1,e2]
   exact ⟨rfl,rfl,by simp [PyData.eqv],λh=>by simp at h⟩
  | some o=>
   have hf:=zlW (m:=m) hp
   cases ho:okO m o with
   | false=>
    have c:=hf.mpr ho
    have e1:zhd m p= .non:=by unfold zhd;rw [hp];exact qa4 c
    have e2:zlJ m p= .none:=by unfold zlJ;rw [hp];exact qa4 c
    rw [e1,e2]
    simp only [all_cons,ho]
    exact ⟨rfl,rfl,by simp [PyData.eqv],λh=>by simp at h⟩
   | true=>
    have c: ¬(m<=o.1.getLastD 0\/o.2=0):=λz=>by have:=hf.mp z;rw [ho] at this;cases this
    have e1:zhd m p=zcN o:=by unfold zhd;rw [hp];exact qa5 c
    have e2:zlJ m p=pdO o:=by unfold zlJ;rw [hp];exact qa5 c
    rw [e1,e2]
    simp only [all_cons,ho,qaM,isSome_some,Bool.true_and]
    refine ⟨?_,?_,?_,λh=>by rw [h4 h]⟩
    ·have:=zhL [o]
     simp only [qaM,map_nil,pdL] at this
     cases hd:pd (zcN o) with
     | none=>rw [hd] at this;simp at this
     | some y=>rw [hd] at this;simp at this;rw [this]
    ·have:=zen [o]
     simp only [qaM,map_nil,PyData.canLayAll0,Bool.and_true] at this
     rw [this]
     rfl
    ·simp [PyData.eqv,pdO]
theorem zmZ {m:Int} (ps:List (List Nat)):dIn .non (.lst (ps.map (zhd m)))=pure (.bl (!(ps.all (λw=>(zbV w).isSome) && (ps.filterMap zbV).all (okO m)))):=by
 obtain ⟨h1,h2,h3,_⟩:=zhC (m:=m) ps
 rw [znC h1 (by unfold zjx;rw [h2];simp [PyData.canLay0,PyData.depth]),h3]
theorem zhT {r:List (List Nat)} (h:r.all (λw=>(zbV w).isSome)=true):(r.filterMap zbV).length=r.length:=by
 induction r with
 | nil=>rfl
 | cons p r ih=>
  rw [all_cons,qaG] at h
  obtain ⟨o,ho⟩:=isSome_iff_exists.mp h.1
  rw [qat,ho]
  simp [ih h.2]
theorem zpq {x:Str} (h:asc x) (f:few (tl x)):F_43 [.str x]=pure (match zju (spl 32 (tl x)) with | some s=>zcU s.1 s.2 | none=> .non):=by
 have es:=zc0 (c:=32) h
 have ha:=zdq h (c:=32)
 obtain ⟨hn,hl⟩:=f
 have hne:=zfm 32 (tl x)
 generalize spl 32 (tl x)=ps at*
 obtain ⟨w0,t,rfl⟩: ∃ w0 t,ps=w0::t:=by
  match ps,hne with
  | a::b,_=>exact ⟨a,b,rfl⟩
 have h0:=zfQ (ha w0 (by simp))
 rw [zav] at h0
 rw [d_43]
 simp only [G_43]
 ac_nf0
 rw [show (Str.ofString " ")=(⟨#[32]⟩:Str) from rfl,es]
 ac_nf0
 rw [qaM]
 ac_nf0
 rw [h0]
 have sk: ∀ (e:zby w0=true->okS (val w0) ((t.drop 1).filterMap zbV)=true->t.take 1=[[58]]->(t.drop 1).all (λw=>(zbV w).isSome)=true->False),zju (w0::t)=none:=by
  intro e
  unfold zju
  split
  ·rename_i a w1 r ea
   cases ea
   rw [qa5]
   intro z
   simp only [qaG,qaD] at z
   exact e z.2.1 z.2.2.2 (by simp [z.1]) z.2.2.1
  ·rfl
 cases hb:zby w0 with
 | false=>
  rw [sk λz=>by rw [hb] at z;cases z]
  simp only [qax,if_false]
  ac_nf0
  rw [show znS .non .non=pure (.bl true) from rfl]
  ac_nf0
 | true=>
  simp only [if_true]
  ac_nf0
  rw [show znS (.int (val w0)) .non=pure (.bl false) from rfl]
  ac_nf0
  rw [zpJ]
  by_cases c1:val w0<1
  ·rw [decide_eq_true c1,sk λ_ z=>by unfold okS at z;rw [decide_eq_false (show ¬1<=val w0 by omega)] at z;cases z]
   ac_nf0
  rw [decide_eq_false c1]
  ac_nf0
  by_cases c2:10<val w0
  ·rw [decide_eq_true c2,sk λ_ z=>by unfold okS at z;rw [decide_eq_false (show ¬val w0<=10 by omega)] at z;simp at z]
   ac_nf0
  rw [decide_eq_false c2]
  ac_nf0
  rw [zoQ, <-qaM (f:=λl=>D.str (ofL l)), <-List.map_drop, <-List.map_take,zmI (λp hp=>ha p (List.mem_of_mem_drop (List.mem_of_mem_take hp)))]
  by_cases c3:t.take 1=[[58]]
  ·rw [decide_eq_true (show ((w0::t).drop 1).take 1=[[58]] from c3)]
   ac_nf0
   obtain ⟨r,rfl⟩: ∃ r,t=[58]::r:=by
    match t,c3 with
    | a::b,c3=>simp at c3;exact ⟨b,by rw [c3]⟩
   by_cases c4:(14:Int)<((([58]::r).length+1:Nat):Int)
   ·rw [sk λ_ z _ z2=>by
      unfold okS at z
      rw [zhT z2,decide_eq_false (show ¬(([58]::r).drop 1).length<=12 by simp at c4 ⊢; omega)] at z
      simp at z]
    rw [decide_eq_true c4]
    ac_nf0
   ·have ec:zaB (iSq (cSl (zaf 1) (zct (cK (.int 2))) zdk)) (zaR 0) (λ_=>pure true) zba [none,some 2] [some (D.str x),some (D.lst ((w0::[58]::r).map λl=>D.str (ofL l))),some (.int (val w0)),none]=pure (.lst (r.map (zhd (val w0)))):=by
     have:=zc1 (g':=λl=>D.str (ofL l)) (fi:=iSq (cSl (zaf 1) (zct (cK (.int 2))) zdk)) (g:=zaR 0) (tc:=λ_=>pure true) (te:=zba) (src:=[none,some 2]) (sd:=[some (D.str x),some (D.lst ((w0::[58]::r).map λl=>D.str (ofL l))),some (.int (val w0)),none]) (xs:=r) (k:=λl=>some (zhd (val w0) l)) (by
       ac_nf0
       rw [zk1]
       rfl) (by simp at c4;omega) λp hp=>by
      have eb: ∀ d:Option D,zat [none,some 2] [some (D.str x),d,some (.int (val w0)),none]=[none,some (.int (val w0))]:=λd=>rfl
      have e1:=zo7 (m:=val w0) (ha p (by simp [hp])) (by rw [zav];exact hl p (by simp [hp]))
      rw [zav] at e1
      rw [eb]
      simp only [zbd,zba]
      ac_nf0
      rw [e1]
      ac_nf0
     rw [this]
     simp
    rw [decide_eq_false c4]
    ac_nf0
    rw [ec]
    ac_nf0
    rw [zmZ]
    have e5:zju (w0::[58]::r)=if (r.all (λw=>(zbV w).isSome) && (r.filterMap zbV).all (okO (val w0)))=true then some (val w0,r.filterMap zbV) else none:=by
     rw [zhR]
     cases ha:r.all (λw=>(zbV w).isSome) with
     | false=>simp
     | true=>
      unfold okS
      rw [hb,zhT ha,decide_eq_true (show 1<=val w0 by omega),decide_eq_true (show val w0<=10 by omega),decide_eq_true (show r.length<=12 by simp at c4;omega)]
      simp
    have h4:=(zhC (m:=val w0) r).2.2.2
    rw [e5]
    cases hz:(r.all (λw=>(zbV w).isSome) && (r.filterMap zbV).all (okO (val w0))) with
    | true=>
     rw [h4 hz]
     ac_nf0
     try rfl
    | false=>
     ac_nf0
     try rfl
  ·rw [decide_eq_false (show ¬((w0::t).drop 1).take 1=[[58]] from c3),sk λ_ _ z=>absurd z c3]
   ac_nf0
def zpI (l:List Nat):Option (List Int):=if l=[110,111,110,101] then some [] else zfC (spl 32 l)
theorem zmf {x:Str} (h:asc x) (f:few (tl x)):F_21 [.str x]=match zpI (tl x) with | some ns=>pure (tI ns) | none=>zbu "NoText":=by
 have e0:tl (Str.ofString "none")=[110,111,110,101]:=by decide +kernel
 have er:=zky h f.1
 rw [d_21]
 simp only [G_21]
 ac_nf0
 rw [zkE]
 ac_nf0
 rw [zdr h.ok ⋯,e0]
 unfold zpI
 by_cases c:tl x=[110,111,110,101]
 ·rw [decide_eq_true c,qa4 c]
  ac_nf0
  try rfl
 ·rw [decide_eq_false c,qa5 c]
  ac_nf0
  rw [show (Str.ofString " ")=(⟨#[32]⟩:Str) from rfl,er]
  cases hr:zfC (spl 32 (tl x)) with
  | none=>
   ac_nf0
   try rfl
  | some ns=>
   ac_nf0
   try rfl
theorem zqG:F_32 [.exn "NoText"]=pure (.str "! text"):=by
 funext h
 rfl
def zhy (w:Nat) (l:List Nat):Option D:=match w with
 | 0=>(match zju (spl 32 l) with | some s=>some (zcU s.1 s.2) | none=>none)
 | _=>(match zpI l with | some ns=>some (tI ns) | none=>none)
theorem zoe {w:Nat} (hw:w<2):zhG [F_20,F_21] (.int (w:Int))=pure (if w=0 then F_20 else F_21):=by
 match w,hw with
 | 0,_=>rfl
 | 1,_=>rfl
theorem zh1 {x:Str} {w:Nat} (hw:w<2) (h:asc x) (f:few (tl x)):F_41 [.int (w:Int),.str x]=pure (match zhy w (tl x) with | some d=>d | none=> .str "! text"):=by
 have e1:(if w=0 then F_20 else F_21) [.str x]=match zhy w (tl x) with | some d=>pure d | none=>zbu "NoText":=by
  match w,hw with
  | 0,_=>
   rw [qa4 rfl,zml h f]
   unfold zhy
   cases zju (spl 32 (tl x))<;>rfl
  | 1,_=>
   rw [qa5 (by decide),zmf h f]
   unfold zhy
   cases zpI (tl x)<;>rfl
 rw [d_41]
 simp only [G_41]
 cases ht:zhy w (tl x) with
 | none=>
  rw [ht] at e1
  rw [zfv (c:="NoText") (d:= .str "! text") ?_ ⋯ zqG]
  ·ac_nf0
  ·ac_nf0
   rw [zoe hw]
   ac_nf0
   rw [e1]
   rfl
 | some d=>
  rw [ht] at e1
  rw [zkt (o:= .rt d)]
  ·ac_nf0
  ·ac_nf0
   rw [zoe hw]
   ac_nf0
   rw [e1]
   ac_nf0
theorem zmO {d:D} {w:Nat} (hw:w<2) (h:zev "str" d=pure (.bl false)):F_41 [.int (w:Int),d]=pure (.str "! text"):=by
 have en:F_23 [d]=zbu "NoText":=by
  rw [d_23]
  simp only [G_23]
  ac_nf0
  rw [h]
  ac_nf0
 have e1:(if w=0 then F_20 else F_21) [d]=zbu "NoText":=by
  match w,hw with
  | 0,_=>
   rw [qa4 rfl,d_20]
   simp only [G_20]
   ac_nf0
   rw [en]
   rfl
  | 1,_=>
   rw [qa5 (by decide),d_21]
   simp only [G_21]
   ac_nf0
   rw [en]
   rfl
 rw [d_41]
 simp only [G_41]
 rw [zfv (c:="NoText") (d:= .str "! text") ?_ ⋯ zqG]
 ·ac_nf0
 ·ac_nf0
  rw [zoe hw]
  ac_nf0
  rw [e1]
  rfl
theorem zm0 {w:Nat} {l:List Nat} {d:D} (h:zhy w l=some d):dEq d d=pure (.bl true)/\zev "tuple" d=pure (.bl true)/\znS d .non=pure (.bl false):=by
 unfold zhy at h
 split at h
 ·split at h
  ·cases h
   exact ⟨zqA _ _,rfl,rfl⟩
  ·cases h
 ·split at h
  ·cases h
   rw [zra,beq_self_eq_true]
   exact ⟨rfl,rfl,rfl⟩
  ·cases h
theorem zne {x:Str} {w:Nat} (hw:w<2) (h:asc x) (f:few (tl x)):F_45 [.int (w:Int),.str x]=pure (.bl true):=by
 have ea:=zh1 hw h f
 have es:=zpq h f
 have e0:tl (Str.ofString "none")=[110,111,110,101]:=by decide +kernel
 have ed:=zm5 znm
 have esp:=zc0 (c:=32) h
 have er:=zfA (ps:=spl 32 (tl x)) (zdq h) f.1
 have fin: ∀ own t:D,own=(match zhy w (tl x) with | some d=>d | none=> .non)->t=(match zhy w (tl x) with | some d=>d | none=> .str "! text")->(do let x1<-znS own .non;let x2<-zcr x1;let x<-(if x2=true then dEq t (.str (Str.ofString "! text")) else do let x3<-zev "tuple" t;let c<-zcr x3;if c=true then dEq t own else pure (.bl false));pure x:M D)=pure (.bl true):=by
  intro own t ho ht0
  subst ho ht0
  cases ht:zhy w (tl x) with
  | none=>
   simp only
   rw [show znS .non .non=pure (.bl true) from rfl]
   ac_nf0
   exact ed
  | some d=>
   obtain ⟨t1,t2,t3⟩:=zm0 ht
   simp only
   rw [t3]
   ac_nf0
   rw [t2]
   ac_nf0
   exact t1
 rw [d_45]
 simp only [G_45]
 ac_nf0
 rw [es]
 ac_nf0
 rw [zlE]
 ac_nf0
 match w,hw with
 | 0,_=>
  rw [show (((0:Nat):Int)==1)=false from rfl]
  ac_nf0
  rw [ea]
  ac_nf0
  simp only [bind_pure]
  exact fin (match zju (spl 32 (tl x)) with | some s=>zcU s.1 s.2 | none=> .non) _ (by unfold zhy;cases zju (spl 32 (tl x))<;>rfl) rfl
 | 1,_=>
  rw [show (((1:Nat):Int)==1)=true from rfl]
  ac_nf0
  rw [zdr h.ok ⋯,e0]
  by_cases c:tl x=[110,111,110,101]
  ·rw [decide_eq_true c]
   ac_nf0
   rw [ea]
   ac_nf0
   simp only [bind_pure]
   exact fin (.tup []) _ (by unfold zhy zpI;rw [qa4 c];rfl) rfl
  ·rw [decide_eq_false c]
   ac_nf0
   rw [show (Str.ofString " ")=(⟨#[32]⟩:Str) from rfl,esp]
   ac_nf0
   rw [er]
   ac_nf0
   rw [ea]
   ac_nf0
   simp only [bind_pure]
   exact fin (match zfC (spl 32 (tl x)) with | some ns=>tI ns | none=> .non) _ (by unfold zhy zpI;rw [qa5 c];cases zfC (spl 32 (tl x))<;>rfl) rfl
theorem zqt {l:List Nat} (h:l.count 32<=50) (hs:seg 50 0 l):few l:=by
 refine ⟨by rw [zd8];omega,λw hw a ha=> ?_⟩
 have h1:=zkF (.inr rfl) (zkF (.inl rfl) hs w hw) a ha
 have h2:=(zdj ha).2
 have h3:32∉a:=λz=>(zdj hw).2 ((zdj ha).1.subset z)
 have:=zkm h1 h3 h2
 rw [zd8]
 omega
theorem zlr (s:Stk m os) (hp: ∀ o∈os,o.2<2^64) {o:List Int×Int} (ho:o∈os):(jL 44 (o.1.map tS)).length<=20/\(oT o).length<=41:=by
 have h1:=zgY (c:=44) (k:=1) (ps:=o.1.map tS) λp hp'=>by
  obtain ⟨x,hx,rfl⟩:=qaU.mp hp'
  have:=s.bd o ho x hx
  have:=s.m1
  exact zrF ⋯ ⋯
 have h2:=zhY (m:=m) (by have:=s.m0;omega) (s.up o ho) (s.bd o ho)
 have h3:=zcI (hp o ho)
 have h4:=s.m1
 rw [qaH] at h1
 unfold oT
 rw [qav,qaE]
 omega
theorem znd (s:Stk m os) (hp: ∀ o∈os,o.2<2^64) {o:List Int×Int} (ho:o∈os):F_22 [zcN o]=pure (.str (ofL (oT o))):=by
 have hl:=zhY (m:=m) (by have:=s.m0;omega) (s.up o ho) (s.bd o ho)
 have m1:=s.m1
 obtain ⟨l1,l2⟩:=zlr s hp ho
 have hp1:=hp o ho
 have l3:=zcI hp1
 have ec:=zf6 (ns:=o.1) (λx hx=>by have:=s.bd o ho x hx;omega) ⋯ (fi:=iSq (cOp dIx (zaf 0) (cK (.int 0)))) (sd:=[some (.tup [.tup (o.1.map D.int),.int o.2])]) (by ac_nf0) rfl
 have ej:=ziv (c:=44) (ls:=o.1.map tS) (by rw [qaH];omega) λl hl=>by
  obtain ⟨x,hx,rfl⟩:=qaU.mp hl
  have:=s.bd o ho x hx
  have:=zcI (i:=x) ⋯
  omega
 have es:=zdI (i:=o.2) (by have:=s.pos o ho;omega) hp1
 have e61:(Str.ofString "=")=ofL [61]:=rfl
 have a1:=zbA (a:=jL 44 (o.1.map tS)) (b:=[61]) (by simp;omega)
 have a2:=zbA (a:=jL 44 (o.1.map tS)++[61]) (b:=tS o.2) (by simp;omega)
 rw [d_22]
 simp only [G_22,zdc]
 ac_nf0
 rw [ec]
 ac_nf0
 rw [show (Str.ofString ",")=(⟨#[44]⟩:Str) from rfl,ej]
 ac_nf0
 rw [e61,a1]
 ac_nf0
 rw [es]
 ac_nf0
 rw [a2,List.append_assoc]
 rfl
theorem zfW (s:Stk m os) (hp: ∀ o∈os,o.2<2^64):(tS m::[58]::os.map oT).length<=14/\ ∀ l∈(tS m::[58]::os.map oT),l.length<=41:=by
 have ol:=s.len
 refine ⟨by simp;omega,λl hl=> ?_⟩
 rcases qaP.mp hl with rfl | hl
 ·have:=zcI (i:=m) (by have:=s.m1;omega)
  omega
 ·rcases qaP.mp hl with rfl | hl
  ·decide
  ·obtain ⟨o,ho,rfl⟩:=qaU.mp hl
   exact (zlr s hp ho).2
theorem zlX (s:Stk m os) (hp: ∀ o∈os,o.2<2^64):F_17 [zcU m os]=pure (.str (ofL (sT m os))):=by
 have ol:=s.len
 have m0:=s.m0
 have m1:=s.m1
 obtain ⟨w1,w2⟩:=zfW s hp
 have ec:zaB (iSq (cOp dIx (zaf 0) (cK (.int 1)))) (zaR 0) (λ_=>pure true) zcg [none] [some (zcU m os)]=pure (.lst ((os.map oT).map λl=>D.str (ofL l))):=by
  rw [show ((os.map oT).map λl=>D.str (ofL l))=os.filterMap λo=>some (D.str (ofL (oT o))) by simp]
  refine zc1 (g':=zcN) (xs:=os) (by ac_nf0;rw [ztM];ac_nf0) ⋯ λo ho=> ?_
  have e:=znd s hp ho
  rw [show zat [none] [some (zcU m os)]=[none] from rfl]
  simp only [zbd,zcg]
  generalize zcN o=d at e
  ac_nf0
  rw [e]
  ac_nf0
 have ej:=ziv (c:=32) ⋯ λl hl=>qaS (w2 l hl) (by decide)
 have es:=zdI (i:=m) ⋯ ⋯
 have e58:(Str.ofString ":")=ofL [58]:=rfl
 have f:=zaA (show 1+1+os.length<=1000 by omega)
 rw [d_17]
 simp only [G_17]
 ac_nf0
 rw [ztY]
 ac_nf0
 rw [es]
 ac_nf0
 rw [ec]
 ac_nf0
 rw [f]
 ac_nf0
 rw [show (Str.ofString " ")=(⟨#[32]⟩:Str) from rfl,e58]
 simp only [qaM] at ej
 rw [ej]
 ac_nf0
 rfl
theorem zfg (s:Stk m os) (hp: ∀ o∈os,o.2<2^64) {h0:Hh} {s0:Option D}: ∀ (rs:List (List Int×Int)) (ls:List (List Nat)) {x2 x3:Option D} {P:Out->Hh->Prop},(∀ o∈rs,o∈os)->ls.length+rs.length<=500->
  (∀ y2 y3,P (.nx [s0,some (.cel h0.length),y2,y3]) (h0++[.lst ((ls++rs.map oT).map λl=>D.str (ofL l))]))->
  wp (zbe (λx sd=>do let sd1<-zdm 2 (za2 (zaR 2) (za2 (zaR 3) zdG)) x sd;za0 sd1) (rs.map zcN) [s0,some (.cel h0.length),x2,x3]) (h0++[.lst (ls.map λl=>D.str (ofL l))]) P
 | [],ls,x2,x3,P,_,_,q=>by
  rw [map_nil,zeo,zak]
  have:=q x2 x3
  rwa [map_nil,append_nil] at this
 | o::r,ls,x2,x3,P,hm,hl,q=>by
  have ho:=hm o qau
  have hl':ls.length+(r.length+1)<=500:=hl
  have ih:=λ(x2 x3:Option D)=>zfg s hp (s0:=s0) (h0:=h0) r (ls++[oT o]) (x2:=x2) (x3:=x3) (P:=P) (λy hy=>hm y (qan _ hy)) (by rw [qav,List.length_singleton];omega) (by rw [List.append_assoc];exact q)
  rw [qaM,zcv]
  generalize zbe (λx sd=>do let sd1<-zdm 2 (za2 (zaR 2) (za2 (zaR 3) zdG)) x sd;za0 sd1) (r.map zcN)=rest at ih ⊢
  have hl:=zhY (m:=m) (by have:=s.m0;omega) (s.up o ho) (s.bd o ho)
  have m1:=s.m1
  obtain ⟨l1,l2⟩:=zlr s hp ho
  have hp1:=hp o ho
  have l3:=zcI hp1
  have ec:=λs0 s1 s3=>zf6 (ns:=o.1) (λx hx=>by have:=s.bd o ho x hx;omega) ⋯ (fi:=iSq (zaf 2)) (sd:=[s0,s1,some (.tup (o.1.map D.int)),s3]) (by ac_nf0) rfl
  have ej:=ziv (c:=44) (ls:=o.1.map tS) (by rw [qaH];omega) λl hl=>by
   obtain ⟨x,hx,rfl⟩:=qaU.mp hl
   have:=s.bd o ho x hx
   have:=zcI (i:=x) ⋯
   omega
  have es:=zdI (i:=o.2) (by have:=s.pos o ho;omega) hp1
  have e61:(Str.ofString "=")=ofL [61]:=rfl
  have a1:=zbA (a:=jL 44 (o.1.map tS)) (b:=[61]) (by simp;omega)
  have a2:=zbA (a:=jL 44 (o.1.map tS)++[61]) (b:=tS o.2) (by simp;omega)
  have eg:(h0++[C.lst (ls.map λl=>D.str (ofL l))])[h0.length]? = some (.lst (ls.map λl=>D.str (ofL l))):=by simp
  have f:=zaA (show ls.length+1<=1000 by omega)
  have eo:jL 44 (o.1.map tS)++[61]++tS o.2=oT o:=by rw [List.append_assoc];rfl
  simp only [za0,zbX]
  ac_nf0
  try rw [zdN eg]
  rw [ec]
  ac_nf0
  rw [show (Str.ofString ",")=(⟨#[44]⟩:Str) from rfl,ej]
  ac_nf0
  rw [e61,a1]
  ac_nf0
  rw [es]
  ac_nf0
  rw [a2,eo]
  ac_nf0
  unfold zdp
  ac_nf0
  rw [zdN eg]
  ac_nf0
  rw [f]
  ac_nf0
  rw [zk3,zo8]
  have:=ih (some (.tup (o.1.map D.int))) (some (.int o.2))
  rw [List.map_append] at this
  exact this
theorem zmn (s:Stk m os) (hp: ∀ o∈os,o.2<2^64) {h:Hh} {b:Nat} {P:D->Hh->Prop} (q:Bx b h) (k: ∀ h',Bx b h'->P (.str (ofL (sT m os))) h'):wp (F_37 [zcU m os]) h P:=by
 have ol:=s.len
 have m0:=s.m0
 have m1:=s.m1
 obtain ⟨w1,w2⟩:=zfW s hp
 have es:=zdI (i:=m) ⋯ ⋯
 have e58:(Str.ofString ":")=ofL [58]:=rfl
 have f:=zaA (show 1+1<=1000 by omega)
 rw [d_37]
 simp only [G_37]
 ac_nf0
 rw [ztY]
 ac_nf0
 rw [es]
 ac_nf0
 rw [ztM]
 ac_nf0
 have:=zfg s hp (h0:=h) (s0:=some (zcU m os)) os [tS m,[58]] (x2:=none) (x3:=none) (P:=λo h'=>wp (andThen o (zbr (cMt zdY (cK (.str " ")) (zaf 1)))) h' λo h'=>wp (zcC o) h' P) (λo ho=>ho) (by simp;omega) λy2 y3=>by
  ac_nf0
  rw [show (Str.ofString " ")=(⟨#[32]⟩:Str) from rfl]
  refine zow (ls:=tS m::[58]::os.map oT) ⋯ (λl hl=>qaS (w2 l hl) (by decide)) (by simp) ?_
  exact k _ q.push.1
 exact this
theorem zqi {fa fb:FE} {sd:Sd} {l:List Nat} (h:fa sd=pure (.str (ofL l))) (hl:l.length<1000):zsi fa fb sd=if l=[] then fb sd else pure (.str (ofL l)):=by
 unfold zsi
 rw [h,pure_bind]
 show (if (ofL l).length<1000000 then (if ((ofL l).length:Int) != 0 then pure (.str (ofL l)) else fb sd) else M.bad)=_
 rw [za4,zav,qa4 ⋯]
 cases l with
 | nil=>rfl
 | cons a r=>
  rw [qa4,qa5 (by simp)]
  rw [bne_iff_ne]
  simp
  omega
theorem znI {c:Nat} {ns:List Int}:jL c (ns.map tS)=[]↔ns=[]:=by
 match ns with
 | []=>simp [jL]
 | [x]=>simp [jL,tS,(zjY x.toNat).1]
 | x::y::r=>
  have:jL c ((x::y::r).map tS)=tS x++c::jL c ((y::r).map tS):=rfl
  rw [this]
  simp
theorem zpm {ns:List Int} (h: ∀ x∈ns,0<=x/\x<2^64) (hl:ns.length<=20):F_38 [tI ns]=pure (.str (ofL (lT ns)))/\F_18 [tI ns]=pure (.str (ofL (lT ns))):=by
 have ec:=zf6 h ⋯ (fi:=iSq (zaf 0)) (sd:=[some (.tup (ns.map D.int))]) (by ac_nf0) rfl
 have hw: ∀ l∈ns.map tS,l.length<=20:=λl hl=>by
  obtain ⟨x,hx,rfl⟩:=qaU.mp hl
  exact zcI (h x hx).2
 have ej:=ziv (c:=32) (ls:=ns.map tS) (by rw [qaH];omega) λl hl=>qaS (hw l hl) (by decide)
 have jl:=zgY (c:=32) hw
 rw [qaH] at jl
 have e32:(Str.ofString " ")=(⟨#[32]⟩:Str):=rfl
 have e4:(Str.ofString "none")=ofL [110,111,110,101]:=by decide +kernel
 constructor
 ·rw [d_38]
  simp only [G_38,zcl]
  ac_nf0
  rw [zqi (l:=jL 32 (ns.map tS)) (by
    ac_nf0
    rw [ec]
    ac_nf0
    rw [e32,ej]) ⋯]
  unfold lT
  by_cases c:ns=[]
  ·rw [qa4 c,qa4 (znI.mpr c)]
   ac_nf0
   rw [e4]
  ·rw [qa5 c,qa5 (λz=>c (znI.mp z))]
   ac_nf0
 ·rw [d_18]
  simp only [G_18,zea]
  ac_nf0
  unfold lT
  by_cases c:ns=[]
  ·rw [qa4 c]
   subst c
   rw [e4]
   rfl
  ·rw [qa5 c,show ztF (.tup (ns.map D.int))=pure true by cases ns with | nil=>exact absurd rfl c | cons a r=>rfl]
   ac_nf0
   rw [ec]
   ac_nf0
   rw [e32,ej]
   ac_nf0
theorem zks {i:Int} (h1:i<2^64):zby (tS i)=true:=zrV ⋯
theorem zkd {i:Int} (h0:0<=i):val (tS i)=i:=by
 unfold tS
 rw [zqR]
 omega
theorem zfU {i:Int} {c:Nat} (h:c<48\/57<c):c∉tS i:=zs9 h
theorem zoO {d:Nat} {ns:List Int} {c:Nat} (h:c<48\/57<c) (hd:c≠d):c∉jL d (ns.map tS):=λz=>by
 rcases zgt z with z | ⟨p,hp,z⟩
 ·exact hd z
 ·obtain ⟨x,_,rfl⟩:=qaU.mp hp
  exact zfU h z
theorem zk8 (s:Stk m os) (hp: ∀ o∈os,o.2<2^64) {o:List Int×Int} (ho:o∈os):zbV (oT o)=some o:=by
 have m1:=s.m1
 have hb:=s.bd o ho
 have e1:spl 44 (jL 44 (o.1.map tS))=o.1.map tS:=ziE (by simpa using s.ne o ho) λp hp=>by
  obtain ⟨x,_,rfl⟩:=qaU.mp hp
  exact zfU (.inl (by decide))
 have e2:(o.1.map tS).map val=o.1:=by
  rw [qaT]
  conv=>rhs;rw [<- map_id o.1]
  exact map_congr_left λx hx=>zkd (hb x hx).1
 have e3:zfC (o.1.map tS)=some o.1:=by
  unfold zfC
  rw [qa4,e2,qa4]
  ·rw [zjC (s.up o ho),beq_self_eq_true]
  ·refine all_eq_true.mpr λp hp=> ?_
   obtain ⟨x,hx,rfl⟩:=qaU.mp hp
   have:=hb x hx
   exact zks ⋯
 unfold oT
 rw [zis (zoO (.inr (by decide)) (by decide)),qa5 (zfU (.inr (by decide))),e1,e3]
 simp only
 rw [qa4 (zks (hp o ho)),zkd (by have:=s.pos o ho;omega)]
theorem zij (s:Stk m os):spl 32 (sT m os)=tS m::[58]::os.map oT:=ziE (by simp) λp hp=>by
 rcases qaP.mp hp with rfl | hp
 ·exact zfU (.inl (by decide))
 ·rcases qaP.mp hp with rfl | hp
  ·decide
  ·obtain ⟨o,_,rfl⟩:=qaU.mp hp
   intro z
   rcases qaK.mp z with z | z
   ·exact zoO (.inl (by decide)) (by decide) z
   ·rcases qaP.mp z with z | z
    ·cases z
    ·exact zfU (.inl (by decide)) z
theorem zpj (s:Stk m os) (hp: ∀ o∈os,o.2<2^64):zju (spl 32 (sT m os))=some (m,os):=by
 have m0:=s.m0
 have m1:=s.m1
 have e1: ∀ rs:List (List Int×Int),(∀ o∈rs,o∈os)->(rs.map oT).filterMap zbV=rs:=by
  intro rs
  induction rs with
  | nil=>intro _;rfl
  | cons o r ih=>
   intro h
   rw [qaM,qat,zk8 s hp (h o (by simp)),ih λy hy=>h y (qan _ hy)]
 have e1:=e1 os λo ho=>ho
 rw [zij s,zhR,e1,zkd ⋯,qa4]
 rw [zks ⋯]
 simp only [decide_true,Bool.true_and,qaG]
 refine ⟨all_eq_true.mpr λw hw=> ?_,?_⟩
 ·obtain ⟨o,ho,rfl⟩:=qaU.mp hw
  rw [zk8 s hp ho]
  rfl
 ·unfold okS
  have ol:=s.len
  rw [decide_eq_true (show 1<=m by omega),decide_eq_true (show m<=10 by omega),decide_eq_true (show os.length<=12 by omega)]
  simp only [Bool.true_and]
  refine all_eq_true.mpr λo ho=> ?_
  have hl:0<o.1.length:=length_pos_iff.mpr (s.ne o ho)
  unfold okO
  rw [zbh.mpr ⟨s.up o ho,s.bd o ho⟩,decide_eq_true (show (0:Int)<o.1.length by omega),decide_eq_true (s.pos o ho)]
  rfl
def Gd (l:List Nat):Prop:=(∀ c∈l,c<128)/\l.length<=700/\l.count 32<=20/\seg 20 0 l
theorem Gd.cut {l w:List Nat} {i j:Nat} (g:Gd l) (hij:i<=j) (hw:w.length<=2) (h1: ∀ c∈w,c<128):asc (ofL (l.take i++w++l.drop j))/\few (l.take i++w++l.drop j):=by
 obtain ⟨g1,g2,g3,g4⟩:=g
 refine ⟨⟨λc hc=> ?_,?_⟩,zqt ?_ ?_⟩
 ·rw [zav] at hc
  rcases qaK.mp hc with hc | hc
  ·rcases qaK.mp hc with hc | hc
   ·exact g1 c (List.mem_of_mem_take hc)
   ·exact h1 c hc
  ·exact g1 c (List.mem_of_mem_drop hc)
 ·rw [za4,zav]
  simp
  omega
 ·rw [List.count_append,List.count_append]
  have a1:=(List.take_sublist i l).count_le 32
  have a2:=(List.drop_sublist j l).count_le 32
  have a3:=count_le_length (a:=32) (l:=w)
  omega
 ·have b1:seg 2 0 w:=zbT (by have:=count_le_length (a:=44) (l:=w);omega)
  have:=ze3 (ze3 (zeu (i:=i) g4) b1) (zem (i:=j) g4)
  have e:=zgv (j:=8) (i:=0) this ⋯
  exact e
theorem Gd.self {l:List Nat} (g:Gd l):asc (ofL l)/\few l:=by
 have:=g.cut (i:=0) (j:=0) (w:=[]) (qaV _) (by simp) (by simp)
 simpa using this
theorem zsX (s:Stk m os) (hp: ∀ o∈os,o.2<2^64):Gd (sT m os):=by
 have m1:=s.m1
 obtain ⟨w1,w2⟩:=zfW s hp
 have dl: ∀ {i:Int}, ∀ c∈tS i,c<128:=λc hc=>by have:=zgE _ c hc;omega
 have lo: ∀ {d:Nat} {ns:List Int},d<128-> ∀ c∈jL d (ns.map tS),c<128:=λhd c hc=>by
  rcases zgt hc with rfl | ⟨p,hp,z⟩
  ·exact hd
  ·obtain ⟨x,_,rfl⟩:=qaU.mp hp
   exact dl c z
 refine ⟨λc hc=> ?_,?_,?_,?_⟩
 ·rcases zgt hc with rfl | ⟨p,hp,z⟩
  ·decide
  ·rcases qaP.mp hp with rfl | hp
   ·exact dl c z
   ·rcases qaP.mp hp with rfl | hp
    ·rw [mem_singleton.mp z];decide
    ·obtain ⟨o,_,rfl⟩:=qaU.mp hp
     rcases qaK.mp z with z | z
     ·exact lo (by decide) c z
     ·rcases qaP.mp z with rfl | z
      ·decide
      ·exact dl c z
 ·have:=zgY (c:=32) w2
  unfold sT
  have h2:(tS m::[58]::os.map oT).length*42<=14*42:=Nat.mul_le_mul_right _ w1
  omega
 ·have:=zd8 32 (sT m os)
  rw [zij s] at this
  omega
 ·refine znT λp hp=> ?_
  rcases qaP.mp hp with rfl | hp
  ·exact zbT (by rw [List.count_eq_zero_of_not_mem (zfU (.inl (by decide)))];omega)
  ·rcases qaP.mp hp with rfl | hp
   ·exact zbT (by decide)
   ·obtain ⟨o,ho,rfl⟩:=qaU.mp hp
    refine zeR (.inr rfl) (zbT ?_) (zbT (by rw [List.count_eq_zero_of_not_mem (zfU (.inl (by decide)))];omega))
    have:=zls (c:=44) (ps:=o.1.map tS) λp hp=>by
     obtain ⟨x,_,rfl⟩:=qaU.mp hp
     exact zfU (.inl (by decide))
    have h2:=zhY (m:=m) (by have:=s.m0;omega) (s.up o ho) (s.bd o ho)
    rw [qaH] at this
    omega
theorem zsy {ns:List Int} (h: ∀ x∈ns,0<=x/\x<2^64) (hl:ns.length<=20):Gd (lT ns):=by
 unfold lT
 by_cases c:ns=[]
 ·rw [qa4 c]
  exact ⟨by decide,by decide,by decide,zbT (by decide)⟩
 rw [qa5 c]
 have hw: ∀ l∈ns.map tS,l.length<=20:=λl hl=>by
  obtain ⟨x,hx,rfl⟩:=qaU.mp hl
  exact zcI (h x hx).2
 have jl:=zgY (c:=32) hw
 rw [qaH] at jl
 refine ⟨λc hc=> ?_,⋯,?_,zbT ?_⟩
 ·rcases zgt hc with rfl | ⟨p,hp,z⟩
  ·decide
  ·obtain ⟨x,_,rfl⟩:=qaU.mp hp
   have:=zgE _ c z
   omega
 ·have:=zls (c:=32) (ps:=ns.map tS) λp hp=>by
   obtain ⟨x,_,rfl⟩:=qaU.mp hp
   exact zfU (.inl (by decide))
  rw [qaH] at this
  omega
 ·rw [List.count_eq_zero_of_not_mem (zoO (.inl (by decide)) (by decide))]
  omega
theorem zgD {l:List Nat} (g:Gd l) {h:Hh} {b:Nat} {P:D->Hh->Prop} (q:Bx b h) (k: ∀ l' h',asc (ofL l')->few l'->Bx b h'->P (.str (ofL l')) h'):wp (F_44 [.cel b,.str (ofL l)]) h P:=by
 have gl:=g.2.1
 have g1:=g.1
 rw [d_44]
 simp only [G_44]
 ac_nf0
 rw [show (ofL l).length=l.length by rw [za4,zav],zaA (show l.length<=1000 by omega)]
 ac_nf0
 refine zaT q ⋯ ⋯ λt h2 t0 t1 x2=> ?_
 ac_nf0
 refine zaT x2.1 (by decide) (by decide) λu h3 u0 u1 x3=> ?_
 have n18:(Str.ofString "0123456789 :,=none").length=18:=by decide +kernel
 obtain ⟨c,ec,hc⟩:=zk4 (x:=Str.ofString "0123456789 :,=none") ⋯ ⋯ u0 (by rw [n18];exact u1)
 obtain ⟨w,s4,w1,w2⟩:=zqB (l:=l) ⋯ t0
 obtain ⟨v,s5,v1,v2⟩:=zpU w1
 have s1:=zsz (l:=l) ⋯ t0
 have s2:=zhp (l:=l) ⋯ (show 0<=t+1 by omega)
 have s3:=zhp (l:=l) ⋯ t0
 have s6:=zhp (l:=l) ⋯ (show 0<=t+2 by omega)
 have e1:(t+1).toNat=t.toNat+1:=by omega
 have e2:(t+2).toNat=t.toNat+2:=by omega
 rw [e1] at s2
 rw [e2] at s6
 generalize t.toNat=i at*
 have b1:(l.take i).length<=700:=by rw [length_take];omega
 have b2: ∀ j,(l.take i).length+(l.drop (i+j)).length<=700:=λj=>by rw [length_take,length_drop];omega
 have b3:=b2 0
 have b4:=b2 1
 have b5:=b2 2
 rw [Nat.add_zero] at b3
 have a1:=zbA (a:=l.take i) (b:=[c]) (by simp only [qaE,qaJ];omega)
 have a2:=zbA (a:=l.take i++[c]) (b:=l.drop (i+1)) (by simp only [qav,qaE,qaJ];omega)
 have a3:=zbA (a:=l.take i) (b:=l.drop (i+1)) ⋯
 have a4:=zbA (a:=l.take i++[c]) (b:=l.drop i) (by simp only [qav,qaE,qaJ];omega)
 have a5:=zbA (a:=l.take i) (b:=v) ⋯
 have a6:=zbA (a:=l.take i++v) (b:=l.drop (i+2)) (by simp only [qav];omega)
 have a7:=zbA (a:=[32]) (b:=l) (by simp only [qaE,qaJ];omega)
 have a8:=zbA (a:=l) (b:=[32]) (by simp only [qaE,qaJ];omega)
 have e32:Str.ofString " "=ofL [32]:=rfl
 simp only [e32]
 ac_nf0
 rw [ec]
 simp only [zak,s1,s2,s3,s4,s5,s6,a1,a2,a3,a4,a5,a6,a7,a8]
 refine zaT x3.1 (by decide) (by decide) λz h4 z0 z1 x4=> ?_
 ac_nf0
 refine zpi z0 (by show z<7;exact z1) λd hd=> ?_
 have fin: ∀ l',(∃ (j:Nat) (m:List Nat) (i':Nat),i'<=j/\m.length<=2/\(∀ c∈m,c<128)/\l'=l.take i'++m++l.drop j)->P (.str (ofL l')) h4:=by
  rintro l' ⟨j,m,i',hj,hm,hc,rfl⟩
  obtain ⟨f1,f2⟩:=g.cut hj hm hc
  exact k _ _ f1 f2 x4.1
 have hc1: ∀ x∈[c],x<128:=λx hx=>by rw [mem_singleton.mp hx];exact hc
 simp only [qaP,qaF,or_false] at hd
 rcases hd with rfl | rfl | rfl | rfl | rfl | rfl | rfl
 ·exact fin _ ⟨0,[],0,⋯,by simp,by simp,by simp⟩
 ·exact fin _ ⟨i+1,[c],i,⋯,by simp,hc1,rfl⟩
 ·exact fin _ ⟨i+1,[],i,⋯,by simp,by simp,by simp⟩
 ·exact fin _ ⟨i,[c],i,⋯,by simp,hc1,rfl⟩
 ·exact fin _ ⟨i+2,v,i,⋯,v1,λx hx=>g1 x (w2 x (v2 x hx)),rfl⟩
 ·exact fin _ ⟨0,[32],0,⋯,by simp,by simp,by simp⟩
 ·exact fin _ ⟨l.length,[32],l.length,⋯,by simp,by simp,by simp⟩
def zsm:List D:=[.non,.bl true,.int 7,.str "",.str "0",.tup [],.lst [],.dct,.tup [.int 1,.int 2],.tup [.int 0],.tup [.int 1,.int 0],.int (-1),.tup [.int 0,.int 1],.lst [.tup [.int 1,.int 0,.int 1]],.bl false,.tup [.tup [.int 0,.int 1]]]
theorem zqO {h:Hh} {b:Nat} {P:D->Hh->Prop} (q:Bx b h) (k: ∀ d h',(zev "str" d=pure (.bl true)\/zev "str" d=pure (.bl false))->Bx b h'->P d h'):wp (F_31 [.cel b]) h P:=by
 have ok: ∀ d∈zsm,zev "str" d=pure (.bl true)\/zev "str" d=pure (.bl false):=by
  intro d hd
  unfold zsm at hd
  simp only [qaP,qaF,or_false] at hd
  rcases hd with rfl | rfl | rfl | rfl | rfl | rfl | rfl | rfl | rfl | rfl | rfl | rfl | rfl | rfl | rfl | rfl<;>first | exact .inl rfl | exact .inr rfl
 rw [d_31]
 have e:G_31 [some (.cel b),none]=(do let t<-F_30 [.cel b,.int 16];let d<-dIx (.lst zsm) t;pure (.rt d)):=by
  simp only [G_31]
  ac_nf0
  try simp only [zrt]
  try ac_nf0
  rfl
 rw [e]
 simp only [bind_assoc,zan]
 refine zaT q (by decide) (by decide) λt h2 t0 t1 x2=> ?_
 obtain ⟨d,ed,hd⟩:=zlo t0 (show t<(zsm.length:Int) from t1)
 simp only [zlm,ed,zcM,zak,ze8]
 exact k _ _ (ok d hd) x2.1
def fT (p q:Int):List Nat:=if q=1 then tS p else tS p++47::tS q
theorem zlZ {p q:Int} (p0:0<=p) (p1:p<2^64) (q0:0<=q) (q1:q<2^64):F_19 [.tup [.int p,.int q]]=pure (.str (ofL (fT p q))):=by
 have lp:=zcI p1
 have lq:=zcI q1
 have ep:=zdI p0 p1
 have eq:=zdI q0 q1
 have e47:Str.ofString "/"=ofL [47]:=rfl
 have a1:=zbA (a:=tS p) (b:=[47]) (by simp;omega)
 have a2:=zbA (a:=tS p++[47]) (b:=tS q) (by simp;omega)
 rw [d_19]
 simp only [G_19]
 ac_nf0
 rw [ep]
 ac_nf0
 rw [zlE]
 ac_nf0
 unfold fT
 by_cases c:q=1
 ·rw [qa4 c,c]
  ac_nf0
  rfl
 ·rw [qa5 c,show (q==1)=false by rw [beq_eq_false_iff_ne];exact c]
  ac_nf0
  rw [e47,a1]
  ac_nf0
  rw [eq]
  ac_nf0
  rw [a2,List.append_assoc]
  rfl
theorem zk5 {p q:Int} (p0:0<=p) (p1:p<2^64) (q0:0<=q) (q1:q<2^64):zb6 [.int p]=pure (.str (ofL (tS p)))/\zb6 [.int q]=pure (.str (ofL (tS q)))/\zbC (.str (Str.ofString "/")) (.str (ofL (tS q)))=pure (.str (ofL (47::tS q)))/\(∀ c∈fT p q,c<128)/\(fT p q).length<=900/\ ∃ (j:Int) (e:List Nat),zjg [.bl (q==1)]=pure (.int j)/\atI [D.str (ofL (47::tS q)),.str (Str.ofString "")] j=some (.str (ofL e))/\zbC (.str (ofL (tS p))) (.str (ofL e))=pure (.str (ofL (fT p q))):=by
 have lp:=zcI p1
 have lq:=zcI q1
 have a3:=zbA (a:=[47]) (b:=tS q) (by simp;omega)
 have dl: ∀ {i:Int}, ∀ c∈tS i,c<128:=λc hc=>by have:=zgE _ c hc;omega
 have d1:(∀ c∈fT p q,c<128)/\(fT p q).length<=900:=by
  unfold fT
  split
  ·exact ⟨dl,⋯⟩
  ·refine ⟨λc hc=> ?_,by simp;omega⟩
   rcases qaK.mp hc with hc | hc
   ·exact dl c hc
   ·rcases qaP.mp hc with rfl | hc
    ·decide
    ·exact dl c hc
 refine ⟨zdI p0 p1,zdI q0 q1,a3,d1.1,d1.2,?_⟩
 unfold fT
 by_cases c:q=1
 ·rw [qa4 c]
  refine ⟨1,[],by rw [c];rfl,rfl,?_⟩
  rw [zbA (a:=tS p) (b:=[]) (by simp;omega),append_nil]
 ·rw [qa5 c]
  refine ⟨0,47::tS q,by rw [show (q==1)=false by rw [beq_eq_false_iff_ne];exact c];rfl,rfl,?_⟩
  exact zbA (a:=tS p) (b:=47::tS q) (by simp;omega)
def R4:FS:=zam (zbk 4 (zax zbM (zab (zaB (zg7 (zab (cK (.int 12)) zaj)) (zaR 0) zeF zeB [none,some 2]) zaj))) (zam (zbk 5 (zfa (zab (zax (zal 1 F_37) (zab (zaf 3) zaj)) (zab (zax (zal 1 F_38) (zab (zaf 4) zaj)) zaj)))) (zam (sIf (tOr (zbq dNe (zax (zal 1 F_17) (zab (zaf 3) zaj)) (cOp dIx (zaf 5) (cK (.int 0)))) (tOr (zbq dNe (zax (zal 1 F_18) (zab (zaf 4) zaj)) (cOp dIx (zaf 5) (cK (.int 1)))) (zbq dNe (zax (zal 2 F_41) (zab (cK (.int 0)) (zab (cOp dIx (zaf 5) (cK (.int 0))) zaj))) (zaf 3)))) (zbr (cK (.bl false))) zdb) (zam (zmV (zax (zal 2 F_36) (zab (zax (zal 2 F_30) (zab (zaf 2) (zab (cK (.int 99)) zaj))) (zab (cOp zbC (cK (.int 1)) (zax (zal 2 F_30) (zab (zaf 2) (zab (cK (.int 9)) zaj)))) zaj))) (zdm 2 (za2 (zaR 6) (za2 (zaR 7) zdG)))) (zam (sIf (zbq dNe (zax (zal 1 F_19) (zab (zec (zab (zaf 6) (zab (zaf 7) zaj))) zaj)) (cOp zbC (zax zb6 (zab (zaf 6) zaj)) (cOp dIx (zfa (zab (cOp zbC (cK (.str "/")) (zax zb6 (zab (zaf 7) zaj))) (zab (cK (.str "")) zaj))) (zax zjg (zab (cOp dEq (zaf 7) (cK (.int 1))) zaj))))) (zbr (cK (.bl false))) zdb) (zam (zbk 8 (cMt zdY (cK (.str "")) (zaB (zg7 (zab (zax (zal 2 F_30) (zab (zaf 2) (zab (cK (.int 9)) zaj))) zaj)) (zaR 0) (λ_=>pure true) zfF [none,some 2]))) (zlH (zg7 (zab (cK (.int 2)) zaj)) (zaR 9) zd6))))))
theorem zsP:zeM=zam (zbk 2 (zax (zal 2 F_29) (zab (zaf 0) (zab (zaf 1) zaj)))) (zam (zbk 3 (zax (zal 3 F_34) (zab (zaf 2) (zab (cK (.int 10)) (zab (cK (.int 12)) zaj))))) (zam (sIf (zbq dEq (zax (zal 2 F_30) (zab (zaf 2) (zab (cK (.int 4)) zaj))) (cK (.int 0))) (zbk 3 (zax (zal 2 F_35) (zab (zaf 2) (zab (zaf 3) zaj)))) zdb) R4)):=rfl
theorem znQ {w:Nat} (hw:w<2) {s0 s1 s2 s3 s4 s5 s6 s7 s8 s11:Option D}: ∀ (ls:List (List Nat)) {x10:Option D},(∀ l∈ls,asc (ofL l)/\few l)-> ∃ y10,zbe (λx sd=>do let sd1<-zaR 10 x sd;zeX sd1) (ls.map λl=>D.str (ofL l)) [s0,s1,s2,s3,s4,s5,s6,s7,s8,some (.int (w:Int)),x10,s11]=pure (.nx [s0,s1,s2,s3,s4,s5,s6,s7,s8,some (.int (w:Int)),y10,s11])
 | [],x10,_=>⟨x10,rfl⟩
 | l::r,x10,h=>by
  obtain ⟨h1,h2⟩:=h l qau
  obtain ⟨y,e⟩:=znQ hw (s0:=s0) (s1:=s1) (s2:=s2) (s3:=s3) (s4:=s4) (s5:=s5) (s6:=s6) (s7:=s7) (s8:=s8) (s11:=s11) r (x10:=some (.str (ofL l))) λy hy=>h y (qan _ hy)
  have er:=zne (x:=ofL l) hw h1 (by rw [zav];exact h2)
  refine ⟨y,?_⟩
  rw [qaM,zcv]
  generalize zbe (λx sd=>do let sd1<-zaR 10 x sd;zeX sd1) (r.map λl=>D.str (ofL l))=rest at e ⊢
  simp only [zeX]
  ac_nf0
  rw [er]
  ac_nf0
  exact e
theorem ziu {w:Nat} (hw:w<2) {a c t:List Nat} (ga:Gd a) (gc:Gd c) (gt:Gd t) {h:Hh} {b:Nat} {s0 s1 s3 s4 s6 s7 x10 x11:Option D} {P:Out->Hh->Prop} (q:Bx b h)
  (k: ∀ y10 y11 h',Bx b h'->P (.nx [s0,s1,some (.cel b),s3,s4,some (.lst [.str (ofL a),.str (ofL c)]),s6,s7,some (.str (ofL t)),some (.int (w:Int)),y10,y11]) h'):
  wp (zd6 [s0,s1,some (.cel b),s3,s4,some (.lst [.str (ofL a),.str (ofL c)]),s6,s7,some (.str (ofL t)),some (.int (w:Int)),x10,x11]) h P:=by
 obtain ⟨a',c',ga',gc',ea,ec⟩: ∃ a' c',Gd a'/\Gd c'/\atI [D.str (ofL a),.str (ofL c)] (w:Int)=some (.str (ofL a'))/\atI [D.str (ofL a),.str (ofL c)] (1 - (w:Int))=some (.str (ofL c')):=by
  match w,hw with
  | 0,_=>exact ⟨a,c,ga,gc,rfl,rfl⟩
  | 1,_=>exact ⟨c,a,gc,ga,rfl,rfl⟩
 simp only [zd6]
 ac_nf0
 rw [ea]
 ac_nf0
 refine zgD ga' q λl1 h1 f1 f2 q1=> ?_
 ac_nf0
 refine zgD ga' q1 λl2 h2 f3 f4 q2=> ?_
 rw [ec]
 ac_nf0
 obtain ⟨y10,er⟩:=znQ hw (s0:=s0) (s1:=s1) (s2:=some (.cel b)) (s3:=s3) (s4:=s4) (s5:=some (.lst [.str (ofL a),.str (ofL c)])) (s6:=s6) (s7:=s7) (s8:=some (.str (ofL t))) (s11:=x11) [a',l1,l2,c',t] (x10:=x10) λl hl=>by
  simp only [qaP,qaF,or_false] at hl
  rcases hl with rfl | rfl | rfl | rfl | rfl
  ·exact ga'.self
  ·exact ⟨f1,f2⟩
  ·exact ⟨f3,f4⟩
  ·exact gc'.self
  ·exact gt.self
 simp only [qaM,map_nil] at er
 have er':zbe (λx sd=>zeX (List.set sd 10 (some x))) [.str (ofL a'),.str (ofL l1),.str (ofL l2),.str (ofL c'),.str (ofL t)] [s0,s1,some (.cel b),s3,s4,some (.lst [.str (ofL a),.str (ofL c)]),s6,s7,some (.str (ofL t)),some (.int (w:Int)),x10,x11]=_:=er
 rw [er']
 ac_nf0
 refine zqO q2 λd h3 hd q3=> ?_
 ac_nf0
 rcases hd with hd | hd
 ·rw [hd]
  ac_nf0
  exact k _ _ _ q3
 ·have ek:=zmO hw hd
  rw [hd]
  ac_nf0
  rw [ek]
  ac_nf0
  rw [zes znm]
  ac_nf0
  exact k _ _ _ q3
theorem znh {b:Nat} (i:Int) {h:Hh} {Q:Option D->Hh->Prop} (q:Bx b h) (k: ∀ o h',Ext b h h'->(o=none\/o=some (.int i))->Q o h'):
  wp (zbd (zaR 0) zeF zeB [none,some (.cel b)] (.int i)) h Q:=by
 simp only [zbd,zeF,zeB]
 ac_nf0
 refine zaT q (by decide) (by decide) λt h2 t0 t1 x2=> ?_
 rw [zlE]
 ac_nf0
 rw [zkG]
 split
 ·ac_nf0
  exact k _ _ x2 (.inr rfl)
 ·rw [zak]
  exact k _ _ x2 (.inl rfl)
theorem zm9 {b:Nat} {h:Hh} {s0 s1:Option D} {r:Sd} {P:D->Hh->Prop} (q:Bx b h) (k: ∀ (ys:List Int) h',(∀ x∈ys,0<=x/\x<2^64)->ys.length<=20->Bx b h'->P (.lst (ys.map D.int)) h'):
  wp (zaB (zg7 (zab (cK (.int 12)) zaj)) (zaR 0) zeF zeB [none,some 2] (s0::s1::some (.cel b)::r)) h P:=by
 have eb:zat [none,some 2] (s0::s1::some (.cel b)::r)=[none,some (D.cel b)]:=rfl
 unfold zaB
 ac_nf0
 rw [zcB (by decide) (by decide)]
 ac_nf0
 rw [zds,zaA (show (12:Int).toNat<=1000 by decide),zak,zew,eb]
 refine zly (λi {h Q} q k=>znh i q k) _ q λys h3 x3 hs=> ?_
 ac_nf0
 refine k ys h3 (λx hx=> ?_) ?_ x3.1
 ·have:=zj6 x (hs.subset hx)
  have e:((12:Int).toNat:Int)=12:=rfl
  omega
 ·have:=hs.length_le
  rw [qaH,List.length_range] at this
  have e:(12:Int).toNat=12:=rfl
  omega
theorem zjs {b:Nat} {h:Hh} {s0 s1:Option D} {r:Sd} {P:D->Hh->Prop} (q:Bx b h) (k: ∀ (ls:List (List Nat)) h',ls.length<=8->(∀ l∈ls, ∃ c:Nat,c<128/\l=[c])->Bx b h'->P (.lst (ls.map λl=>D.str (ofL l))) h'):
  wp (zaB (zg7 (zab (zax (zal 2 F_30) (zab (zaf 2) (zab (cK (.int 9)) zaj))) zaj)) (zaR 0) (λ_=>pure true) zfF [none,some 2] (s0::s1::some (.cel b)::r)) h P:=by
 have eb:zat [none,some 2] (s0::s1::some (.cel b)::r)=[none,some (D.cel b)]:=rfl
 unfold zaB
 ac_nf0
 refine zaT q (by decide) (by decide) λt h2 t0 t1 x2=> ?_
 rw [zcB t0 ⋯]
 ac_nf0
 rw [zds,zaA (show t.toNat<=1000 by omega),zak,eb]
 refine ziJ (G:=λd=> ∃ c:Nat,c<128/\d= .str (ofL [c])) (λx {h Q} q k=> ?_) _ x2.1 λrs h3 x3 hl hr=> ?_
 ·simp only [zbd,zfF]
  ac_nf0
  refine zaT q (by decide) (by decide) λu h4 u0 u1 x4=> ?_
  have n8:(Str.ofString "012 :,=n").length=8:=by decide +kernel
  obtain ⟨c,ec,hc⟩:=zk4 (x:=Str.ofString "012 :,=n") ⋯ ⋯ u0 (by rw [n8];exact u1)
  rw [ec]
  ac_nf0
  exact k _ _ x4 ⟨c,hc,rfl⟩
 ·have: ∀ {rs:List D},(∀ r∈rs, ∃ c:Nat,c<128/\r= .str (ofL [c]))-> ∃ ls:List (List Nat),rs=ls.map (λl=>D.str (ofL l))/\ ∀ l∈ls, ∃ c:Nat,c<128/\l=[c]:=by
   intro rs
   induction rs with
   | nil=>intro _;exact ⟨[],rfl,by simp⟩
   | cons d r ih=>
    intro h
    obtain ⟨ls,e,hs⟩:=ih λy hy=>h y (qan _ hy)
    obtain ⟨c,hc,ed⟩:=h d qau
    refine ⟨[c]::ls,by rw [qaM,e,ed],λl hl=> ?_⟩
    rcases qaP.mp hl with rfl | hl
    ·exact ⟨c,hc,rfl⟩
    ·exact hs l hl
  obtain ⟨ls,e,hs⟩:=this hr
  rw [zds,e,qaH] at hl
  rw [e]
  ac_nf0
  exact k ls h3 ⋯ hs x3.1
theorem zl5 {ls:List (List Nat)} (h:ls.length<=8) (hs: ∀ l∈ls, ∃ c:Nat,c<128/\l=[c]):Gd ls.flatten:=by
 have hl: ∀ {ls:List (List Nat)},(∀ l∈ls, ∃ c:Nat,c<128/\l=[c])->ls.flatten.length=ls.length:=by
  intro ls
  induction ls with
  | nil=>intro _;rfl
  | cons l r ih=>
   intro h
   obtain ⟨c,_,e⟩:=h l qau
   rw [flatten_cons,qav,ih λy hy=>h y (qan _ hy),e]
   simp
   omega
 have h1:=hl hs
 refine ⟨λc hc=> ?_,⋯,?_,zbT ?_⟩
 ·obtain ⟨l,hl,hc⟩:=List.mem_flatten.mp hc
  obtain ⟨x,hx,e⟩:=hs l hl
  rw [e] at hc
  rw [mem_singleton.mp hc]
  exact hx
 ·have:=count_le_length (a:=32) (l:=ls.flatten)
  omega
 ·have:=count_le_length (a:=44) (l:=ls.flatten)
  omega
theorem zjX (s:Stk m os) (hp: ∀ o∈os,o.2<2^64) {h:Hh} {b:Nat} {s0 s1 x4 x5 x6 x7 x8 x9 x10 x11:Option D} {P:Out->Hh->Prop} (q:Bx b h)
  (k: ∀ y4 y5 y6 y7 y8 y9 y10 y11 h',P (.nx [s0,s1,some (.cel b),some (zcU m os),y4,y5,y6,y7,y8,y9,y10,y11]) h'):
  wp (R4 [s0,s1,some (.cel b),some (zcU m os),x4,x5,x6,x7,x8,x9,x10,x11]) h P:=by
 have gs:=zsX s hp
 obtain ⟨as,fs⟩:=gs.self
 have et:=zlX s hp
 have ek:=zh1 (x:=ofL (sT m os)) (w:=0) (by decide) as (by rw [zav];exact fs)
 rw [zav,show zhy 0 (sT m os)=some (zcU m os) by unfold zhy;rw [zpj s hp];rfl] at ek
 simp only [R4]
 ac_nf0
 refine zm9 q λys h1 hy hl q1=> ?_
 ac_nf0
 refine zmn s hp q1 λh2 q2=> ?_
 obtain ⟨e1,e2⟩:=zpm hy hl
 have gl:=zsy hy hl
 obtain ⟨al,fl⟩:=gl.self
 simp only [tI] at e1 e2
 ac_nf0
 rw [e1]
 ac_nf0
 rw [et]
 ac_nf0
 rw [zes as.ok]
 ac_nf0
 rw [e2]
 ac_nf0
 rw [zes al.ok]
 ac_nf0
 have ek':F_41 [.int 0,.str (ofL (sT m os))]=pure (zcU m os):=ek
 rw [ek']
 ac_nf0
 rw [zqI]
 ac_nf0
 refine zaT q2 (by decide) (by decide) λp h3 p0 p1 x3=> ?_
 ac_nf0
 refine zaT x3.1 (by decide) (by decide) λu h4 u0 u1 x4=> ?_
 have ef:=zpD (a:=p) (b:=(1+u).toNat) ⋯ (qaw (show (1+u).toNat<2^10 by omega) (zsM (by decide)))
 rw [show (((1+u).toNat:Nat):Int)=1+u by omega] at ef
 rw [zt0 ⋯] at ef
 ac_nf0
 rw [ef]
 generalize hg:gcd p.natAbs (1+u).toNat=g
 have g0:0<g:=by rw [<- hg];exact Nat.gcd_pos_of_pos_right _ ⋯
 have gi:(0:Int)<(g:Int):=by omega
 have r1:0<=p / (g:Int):=Int.ediv_nonneg p0 ⋯
 have r2:p / (g:Int)<=p:=Int.ediv_le_self _ p0
 have r3:0<=((1+u).toNat:Int) / (g:Int):=Int.ediv_nonneg ⋯ ⋯
 have r4:((1+u).toNat:Int) / (g:Int)<=((1+u).toNat:Int):=Int.ediv_le_self _ ⋯
 have t1:=zlZ (p:=p / (g:Int)) (q:=((1+u).toNat:Int) / (g:Int)) r1 ⋯ r3 ⋯
 obtain ⟨f1,f2,f3,f4,f5,j,e,f6,f7,f8⟩:=zk5 (p:=p / (g:Int)) (q:=((1+u).toNat:Int) / (g:Int)) r1 ⋯ r3 ⋯
 generalize p / (g:Int)=p' at*
 generalize ((1+u).toNat:Int) / (g:Int)=q' at*
 ac_nf0
 rw [t1]
 ac_nf0
 rw [f1]
 ac_nf0
 rw [f2]
 ac_nf0
 rw [f3]
 ac_nf0
 rw [zlE]
 ac_nf0
 rw [f6]
 ac_nf0
 rw [f7]
 ac_nf0
 rw [f8]
 ac_nf0
 rw [zes (asc.ok ⟨by rw [zav];exact f4,by rw [za4,zav];exact f5⟩)]
 ac_nf0
 refine zjs x4.1 λls h5 hl5 hs q5=> ?_
 ac_nf0
 rw [zpn ⋯ λl hl=>by obtain ⟨c,_,e⟩:=hs l hl;rw [e];simp]
 have gt:=zl5 hl5 hs
 ac_nf0
 rw [zcB (by decide) (by decide)]
 ac_nf0
 rw [show ze5 0 (2:Int).toNat=[.int ((0:Nat):Int),.int ((1:Nat):Int)] from rfl,zcv,zan]
 refine ziu (w:=0) (by decide) gs gl gt q5 λy10 y11 h6 q6=> ?_
 show wp (zbe (λx sd=>zd6 (List.set sd 9 (some x))) [.int ((1:Nat):Int)] _) h6 _
 rw [zcv,zan]
 refine ziu (w:=1) (by decide) gs gl gt q6 λy10 y11 h7 q7=> ?_
 show wp (zbe (λx sd=>zd6 (List.set sd 9 (some x))) [] _) h7 _
 rw [zeo,zak]
 exact k _ _ _ _ _ _ _ _ _
theorem ziF {ns:List Int}: ∀ (ds:List D) {h:Hh} {x1 x2 x3 x4 x5 x6 x7 x8 x9 x10 x11:Option D},(∀ d∈ds, ∃ i:Int,d= .int i/\0<=i/\i<5)->
  wp (zbe (λx sd=>do let sd1<-zaR 1 x sd;zeM sd1) ds [some (.scr (ns.map D.int)),x1,x2,x3,x4,x5,x6,x7,x8,x9,x10,x11]) h λo _=> ∃ sd,o= .nx sd
 | [],h,x1,x2,x3,x4,x5,x6,x7,x8,x9,x10,x11,_=>by rw [zeo,zak];exact ⟨_,rfl⟩
 | d::r,h,x1,x2,x3,x4,x5,x6,x7,x8,x9,x10,x11,hd=>by
  obtain ⟨i,rfl,i0,i1⟩:=hd _ qau
  have ih: ∀ {h:Hh} {x1 x2 x3 x4 x5 x6 x7 x8 x9 x10 x11:Option D},wp (zbe (λx sd=>do let sd1<-zaR 1 x sd;zeM sd1) r [some (.scr (ns.map D.int)),x1,x2,x3,x4,x5,x6,x7,x8,x9,x10,x11]) h λo _=> ∃ sd,o= .nx sd:=ziF r λy hy=>hd y (qan _ hy)
  rw [zcv]
  generalize zbe (λx sd=>do let sd1<-zaR 1 x sd;zeM sd1) r=rest at ih ⊢
  rw [zsP]
  ac_nf0
  refine zrP i0 i1 λz=> ?_
  have qb:Bx h.length (h++[.lst [.int z]]):=⟨z,by simp⟩
  generalize h.length=b at qb ⊢
  generalize h++[.lst [.int z]]=h1 at qb ⊢
  ac_nf0
  refine zo0 (by decide) (by decide) qb λm ods h2 q2 m0 m1 l0 l1 ho _=> ?_
  obtain ⟨os,rfl,s,hp⟩:=znD m0 m1 l1 ho
  ac_nf0
  refine zaT q2 (by decide) (by decide) λt h3 t0 t1 x3'=> ?_
  rw [zlE]
  ac_nf0
  by_cases c:t=0
  ·rw [show (t==0)=true by rw [beq_iff_eq];exact c]
   ac_nf0
   refine zmk s x3'.1 λos' h4 s' hp' x4'=> ?_
   ac_nf0
   exact zjX s' (λo ho=>by obtain ⟨o',h1,e⟩:=hp' o ho;rw [e];exact hp o' h1) x4'.1 λy4 y5 y6 y7 y8 y9 y10 y11 h5=>ih
  ·rw [show (t==0)=false by rw [beq_eq_false_iff_ne];exact c]
   ac_nf0
   exact zjX s hp x3'.1 λy4 y5 y6 y7 y8 y9 y10 y11 h5=>ih
theorem zl3: ∀ ns:List Int,ns.length<=63-> ∃ h',F_46 [.scr (ns.map D.int)] []= .ok (.bl true) h':=by
 intro ns _
 have key:wp (F_46 [.scr (ns.map D.int)]) [] λd _=>d= .bl true:=by
  rw [d_46]
  simp only [G_46]
  ac_nf0
  simp only [znB]
  ac_nf0
  simp only [ztq]
  ac_nf0
  generalize hn:(if (if (4:Int)<(ns.length:Int) then (4:Int) else (ns.length:Int))>1 then (if (4:Int)<(ns.length:Int) then (4:Int) else (ns.length:Int)) else (1:Int))=n
  have n0:0<=n/\n<=5:=by
   rw [<- hn]
   split<;>split<;>omega
  rw [zcB n0.1 ⋯]
  ac_nf0
  refine zkU (ziF _ λd hd=> ?_) ?_
  ·obtain ⟨i,e,i0,i1⟩:=zf1 hd
   exact ⟨i,e,i0,⋯⟩
  ·rintro o h' ⟨sd,rfl⟩
   ac_nf0
 obtain ⟨d,h',e,rfl⟩:=key
 exact ⟨h',e⟩
end K96
namespace K96
open L2 L3
theorem zp5 {l:W.OpenLaw} {w:World} {K:W.Frag} {h:Heap} {mg:Str->Option Value} {fa a_0 a_1 a_2 a_3 a_4 a_5 a_6 a_7 a_8 a_9 a_10 a_11 a_28 a_29 a_30 a_33 a_34 a_35 a_37 a_38 a_32 a_23 a_27 a_26 a_25 a_24 a_13 a_12 a_14 a_16 a_15 a_20 a_21 a_41 a_18 a_22 a_17 a_36 a_19 a_44 a_39 a_40 a_42 a_43 a_45 a_31 a_46:Addr} (X:K.In h) (G:h.Ns mainGlobals mg) (hfa:mg "law"=some (.ref fa))
  {od_46 an_46:Option Addr} {sl_46:Array (Option Value)} {oc_46 kV_46 dc_46 pm_46 cd_46 ct_46:Value}
  {d_28 d_29 d_30 d_33 d_34 d_35 d_37 d_38 d_32 d_23 d_27 d_26 d_25 d_24 d_13 d_12 d_14 d_16 d_15 d_20 d_21 d_41 d_18 d_22 d_17 d_36 d_19 d_44 d_39 d_40 d_42 d_43 d_45 d_31:FuncData}
  {tk_FIGURES tk_MOST_FIGURES tk_MOST_OFFERS tk_MOST_THINGS:Tok}
  (f_28:Fd K "_law_cell" s_28 a_28 d_28)
  (f_29:Fd K "_law_box" s_29 a_29 d_29)
  (f_30:Fd K "_law_take" s_30 a_30 d_30)
  (f_33:Fd K "_law_things" s_33 a_33 d_33)
  (f_34:Fd K "_law_full" s_34 a_34 d_34)
  (f_35:Fd K "_law_holed" s_35 a_35 d_35)
  (f_37:Fd K "_law_stock_text" s_37 a_37 d_37)
  (f_38:Fd K "_law_lot_text" s_38 a_38 d_38)
  (f_32:Fd K "_law_kind" s_32 a_32 d_32)
  (f_23:Fd K "need_text" s_23 a_23 d_23)
  (f_27:Fd K "is_number_text" s_27 a_27 d_27)
  (f_26:Fd K "number_read" s_26 a_26 d_26)
  (f_25:Fd K "rising_read" s_25 a_25 d_25)
  (f_24:Fd K "offer_read" s_24 a_24 d_24)
  (f_13:Fd K "is_pair" s_13 a_13 d_13)
  (f_12:Fd K "is_whole" s_12 a_12 d_12)
  (f_14:Fd K "is_rising" s_14 a_14 d_14)
  (f_16:Fd K "is_offer" s_16 a_16 d_16)
  (f_15:Fd K "is_stock" s_15 a_15 d_15)
  (f_20:Fd K "stock_read" s_20 a_20 d_20)
  (f_21:Fd K "lot_read" s_21 a_21 d_21)
  (f_41:Fd K "_law_asked" s_41 a_41 d_41)
  (f_18:Fd K "lot_text" s_18 a_18 d_18)
  (f_22:Fd K "offer_text" s_22 a_22 d_22)
  (f_17:Fd K "stock_text" s_17 a_17 d_17)
  (f_36:Fd K "_law_frac" s_36 a_36 d_36)
  (f_19:Fd K "fraction_text" s_19 a_19 d_19)
  (f_44:Fd K "_law_spoilt" s_44 a_44 d_44)
  (f_39:Fd K "_law_number" s_39 a_39 d_39)
  (f_40:Fd K "_law_rising" s_40 a_40 d_40)
  (f_42:Fd K "_law_offer_in" s_42 a_42 d_42)
  (f_43:Fd K "_law_stock_in" s_43 a_43 d_43)
  (f_45:Fd K "_law_right" s_45 a_45 d_45)
  (f_31:Fd K "_law_odd" s_31 a_31 d_31)
  (e_46:W.nsIn K mainGlobals "law"=some (some (.ref a_46))) (l_46:K.lookup a_46=some ⟨oc_46,od_46,.func (W.fnOf "law" "law" (zd2 s_46) (zce s_46) (zae s_46) .none kV_46 dc_46 pm_46 an_46 cd_46 ct_46),sl_46⟩) (c_46:W.codeIn K cd_46 "law"=true) (k_46:W.keepIn K (.ref a_46)=true)
  (e_0:W.nsIn K mainGlobals "CoverError"=some (some (.ref a_0)))
  (e_1:W.nsIn K mainGlobals "NoStock"=some (some (.ref a_1)))
  (e_2:W.nsIn K mainGlobals "NoOffer"=some (some (.ref a_2)))
  (e_3:W.nsIn K mainGlobals "NoThing"=some (some (.ref a_3)))
  (e_4:W.nsIn K mainGlobals "NoCover"=some (some (.ref a_4)))
  (e_5:W.nsIn K mainGlobals "NoPaper"=some (some (.ref a_5)))
  (e_6:W.nsIn K mainGlobals "NoNumber"=some (some (.ref a_6)))
  (e_7:W.nsIn K mainGlobals "NotFull"=some (some (.ref a_7)))
  (e_8:W.nsIn K mainGlobals "NotInRow"=some (some (.ref a_8)))
  (e_9:W.nsIn K mainGlobals "NoText"=some (some (.ref a_9)))
  (e_10:W.nsIn K mainGlobals "NoRow"=some (some (.ref a_10)))
  (e_11:W.nsIn K mainGlobals "TooMany"=some (some (.ref a_11)))
  (z_ValueError:W.nsIn K mainGlobals "ValueError"=some none)
  (z_abs:W.nsIn K mainGlobals "abs"=some none)
  (z_all:W.nsIn K mainGlobals "all"=some none)
  (z_bool:W.nsIn K mainGlobals "bool"=some none)
  (z_int:W.nsIn K mainGlobals "int"=some none)
  (z_isinstance:W.nsIn K mainGlobals "isinstance"=some none)
  (z_len:W.nsIn K mainGlobals "len"=some none)
  (z_max:W.nsIn K mainGlobals "max"=some none)
  (z_min:W.nsIn K mainGlobals "min"=some none)
  (z_range:W.nsIn K mainGlobals "range"=some none)
  (z_set:W.nsIn K mainGlobals "set"=some none)
  (z_sorted:W.nsIn K mainGlobals "sorted"=some none)
  (z_str:W.nsIn K mainGlobals "str"=some none)
  (z_sum:W.nsIn K mainGlobals "sum"=some none)
  (z_tuple:W.nsIn K mainGlobals "tuple"=some none)
  (y_FIGURES:W.nsIn K mainGlobals "FIGURES"=some (some (.str "0123456789" tk_FIGURES)))
  (y_MOST_FIGURES:W.nsIn K mainGlobals "MOST_FIGURES"=some (some (.int 40 tk_MOST_FIGURES)))
  (y_MOST_OFFERS:W.nsIn K mainGlobals "MOST_OFFERS"=some (some (.int 12 tk_MOST_OFFERS)))
  (y_MOST_THINGS:W.nsIn K mainGlobals "MOST_THINGS"=some (some (.int 10 tk_MOST_THINGS)))
  (x_tab:zla K a_0 [("NoStock",a_1),("NoOffer",a_2),("NoThing",a_3),("NoCover",a_4),("NoPaper",a_5),("NoNumber",a_6),("NotFull",a_7),("NotInRow",a_8),("NoText",a_9),("NoRow",a_10),("TooMany",a_11)]=true)
  : ∃ fd:FuncData,(∀ (s:Shared) (v:Value),BindsTo s fd ⟨[v],[]⟩ [("script",v)])/\ ∀ base:Heap,K.In base->base.Ns mainGlobals mg->zbE l.prog w K mg base CX0 8 fa fd yap (zbY K 1 F_46):=by
 have e:=hfa.symm.trans (W.mg_of X G e_46)
 cases e
 have F_46:=zaG (st:=s_46) l_46 c_46 k_46
 have b_46:=F_46.binds (ps:=yap) λ_ _ _ _ _ _ us hl=>match us,hl with | [_],_=>rfl
 have T:Tx K mg ⟨a_0,a_1,a_2,a_3,a_4,a_5,a_6,a_7,a_8,a_9,a_10,a_11,a_28,_,a_29,_,a_30,_,a_33,_,a_34,_,a_35,_,a_37,_,a_38,_,a_32,_,a_23,_,a_27,_,a_26,_,a_25,_,a_24,_,a_13,_,a_12,_,a_14,_,a_16,_,a_15,_,a_20,_,a_21,_,a_41,_,a_18,_,a_22,_,a_17,_,a_36,_,a_19,_,a_44,_,a_39,_,a_40,_,a_42,_,a_43,_,a_45,_,a_31,_,fa,_⟩:=
  {g_0:=W.mg_of X G e_0,
    g_1:=W.mg_of X G e_1,
    g_2:=W.mg_of X G e_2,
    g_3:=W.mg_of X G e_3,
    g_4:=W.mg_of X G e_4,
    g_5:=W.mg_of X G e_5,
    g_6:=W.mg_of X G e_6,
    g_7:=W.mg_of X G e_7,
    g_8:=W.mg_of X G e_8,
    g_9:=W.mg_of X G e_9,
    g_10:=W.mg_of X G e_10,
    g_11:=W.mg_of X G e_11,
    k_1:=e_1,
    k_2:=e_2,
    k_3:=e_3,
    k_4:=e_4,
    k_5:=e_5,
    k_6:=e_6,
    k_7:=e_7,
    k_8:=e_8,
    k_9:=e_9,
    k_10:=e_10,
    k_11:=e_11,
    x_exc:=zlF.of x_tab,
    n_ValueError:=W.mg_none_of X G z_ValueError,
    n_abs:=W.mg_none_of X G z_abs,
    n_all:=W.mg_none_of X G z_all,
    n_bool:=W.mg_none_of X G z_bool,
    n_int:=W.mg_none_of X G z_int,
    n_isinstance:=W.mg_none_of X G z_isinstance,
    n_len:=W.mg_none_of X G z_len,
    n_max:=W.mg_none_of X G z_max,
    n_min:=W.mg_none_of X G z_min,
    n_range:=W.mg_none_of X G z_range,
    n_set:=W.mg_none_of X G z_set,
    n_sorted:=W.mg_none_of X G z_sorted,
    n_str:=W.mg_none_of X G z_str,
    n_sum:=W.mg_none_of X G z_sum,
    n_tuple:=W.mg_none_of X G z_tuple,
    c_FIGURES:=⟨tk_FIGURES,W.mg_of X G y_FIGURES⟩,
    c_MOST_FIGURES:=⟨tk_MOST_FIGURES,W.mg_of X G y_MOST_FIGURES⟩,
    c_MOST_OFFERS:=⟨tk_MOST_OFFERS,W.mg_of X G y_MOST_OFFERS⟩,
    c_MOST_THINGS:=⟨tk_MOST_THINGS,W.mg_of X G y_MOST_THINGS⟩,
    m_28:=W.mg_of X G f_28.e,
    F_28:=f_28.F,
    b_28:=f_28.F.binds (ps:=yf) λ_ _ _ _ _ _ us hl=>match us,hl with | [_,_],_=>rfl,
    m_29:=W.mg_of X G f_29.e,
    F_29:=f_29.F,
    b_29:=f_29.F.binds (ps:=yf) λ_ _ _ _ _ _ us hl=>match us,hl with | [_,_],_=>rfl,
    m_30:=W.mg_of X G f_30.e,
    F_30:=f_30.F,
    b_30:=f_30.F.binds (ps:=yh) λ_ _ _ _ _ _ us hl=>match us,hl with | [_,_],_=>rfl,
    m_33:=W.mg_of X G f_33.e,
    F_33:=f_33.F,
    b_33:=f_33.F.binds (ps:=yh) λ_ _ _ _ _ _ us hl=>match us,hl with | [_,_],_=>rfl,
    m_34:=W.mg_of X G f_34.e,
    F_34:=f_34.F,
    b_34:=f_34.F.binds (ps:=yp) λ_ _ _ _ _ _ us hl=>match us,hl with | [_,_,_],_=>rfl,
    m_35:=W.mg_of X G f_35.e,
    F_35:=f_35.F,
    b_35:=f_35.F.binds (ps:=yaf) λ_ _ _ _ _ _ us hl=>match us,hl with | [_,_],_=>rfl,
    m_37:=W.mg_of X G f_37.e,
    F_37:=f_37.F,
    b_37:=f_37.F.binds (ps:=yk) λ_ _ _ _ _ _ us hl=>match us,hl with | [_],_=>rfl,
    m_38:=W.mg_of X G f_38.e,
    F_38:=f_38.F,
    b_38:=f_38.F.binds (ps:=yq) λ_ _ _ _ _ _ us hl=>match us,hl with | [_],_=>rfl,
    m_32:=W.mg_of X G f_32.e,
    F_32:=f_32.F,
    b_32:=f_32.F.binds (ps:=["e"]) λ_ _ _ _ _ _ us hl=>match us,hl with | [_],_=>rfl,
    m_23:=W.mg_of X G f_23.e,
    F_23:=f_23.F,
    b_23:=f_23.F.binds (ps:=ye) λ_ _ _ _ _ _ us hl=>match us,hl with | [_],_=>rfl,
    m_27:=W.mg_of X G f_27.e,
    F_27:=f_27.F,
    b_27:=f_27.F.binds (ps:=ya) λ_ _ _ _ _ _ us hl=>match us,hl with | [_],_=>rfl,
    m_26:=W.mg_of X G f_26.e,
    F_26:=f_26.F,
    b_26:=f_26.F.binds (ps:=ya) λ_ _ _ _ _ _ us hl=>match us,hl with | [_],_=>rfl,
    m_25:=W.mg_of X G f_25.e,
    F_25:=f_25.F,
    b_25:=f_25.F.binds (ps:=yag) λ_ _ _ _ _ _ us hl=>match us,hl with | [_,_],_=>rfl,
    m_24:=W.mg_of X G f_24.e,
    F_24:=f_24.F,
    b_24:=f_24.F.binds (ps:=ya) λ_ _ _ _ _ _ us hl=>match us,hl with | [_],_=>rfl,
    m_13:=W.mg_of X G f_13.e,
    F_13:=f_13.F,
    b_13:=f_13.F.binds (ps:=yc) λ_ _ _ _ _ _ us hl=>match us,hl with | [_],_=>rfl,
    m_12:=W.mg_of X G f_12.e,
    F_12:=f_12.F,
    b_12:=f_12.F.binds (ps:=yc) λ_ _ _ _ _ _ us hl=>match us,hl with | [_],_=>rfl,
    m_14:=W.mg_of X G f_14.e,
    F_14:=f_14.F,
    b_14:=f_14.F.binds (ps:=yx) λ_ _ _ _ _ _ us hl=>match us,hl with | [_,_],_=>rfl,
    m_16:=W.mg_of X G f_16.e,
    F_16:=f_16.F,
    b_16:=f_16.F.binds (ps:=yac) λ_ _ _ _ _ _ us hl=>match us,hl with | [_,_],_=>rfl,
    m_15:=W.mg_of X G f_15.e,
    F_15:=f_15.F,
    b_15:=f_15.F.binds (ps:=yc) λ_ _ _ _ _ _ us hl=>match us,hl with | [_],_=>rfl,
    m_20:=W.mg_of X G f_20.e,
    F_20:=f_20.F,
    b_20:=f_20.F.binds (ps:=ye) λ_ _ _ _ _ _ us hl=>match us,hl with | [_],_=>rfl,
    m_21:=W.mg_of X G f_21.e,
    F_21:=f_21.F,
    b_21:=f_21.F.binds (ps:=ye) λ_ _ _ _ _ _ us hl=>match us,hl with | [_],_=>rfl,
    m_41:=W.mg_of X G f_41.e,
    F_41:=f_41.F,
    b_41:=f_41.F.binds (ps:=yam) λ_ _ _ _ _ _ us hl=>match us,hl with | [_,_],_=>rfl,
    m_18:=W.mg_of X G f_18.e,
    F_18:=f_18.F,
    b_18:=f_18.F.binds (ps:=yq) λ_ _ _ _ _ _ us hl=>match us,hl with | [_],_=>rfl,
    m_22:=W.mg_of X G f_22.e,
    F_22:=f_22.F,
    b_22:=f_22.F.binds (ps:=yu) λ_ _ _ _ _ _ us hl=>match us,hl with | [_],_=>rfl,
    m_17:=W.mg_of X G f_17.e,
    F_17:=f_17.F,
    b_17:=f_17.F.binds (ps:=yk) λ_ _ _ _ _ _ us hl=>match us,hl with | [_],_=>rfl,
    m_36:=W.mg_of X G f_36.e,
    F_36:=f_36.F,
    b_36:=f_36.F.binds (ps:=yad) λ_ _ _ _ _ _ us hl=>match us,hl with | [_,_],_=>rfl,
    m_19:=W.mg_of X G f_19.e,
    F_19:=f_19.F,
    b_19:=f_19.F.binds (ps:=yan) λ_ _ _ _ _ _ us hl=>match us,hl with | [_],_=>rfl,
    m_44:=W.mg_of X G f_44.e,
    F_44:=f_44.F,
    b_44:=f_44.F.binds (ps:=yao) λ_ _ _ _ _ _ us hl=>match us,hl with | [_,_],_=>rfl,
    m_39:=W.mg_of X G f_39.e,
    F_39:=f_39.F,
    b_39:=f_39.F.binds (ps:=ya) λ_ _ _ _ _ _ us hl=>match us,hl with | [_],_=>rfl,
    m_40:=W.mg_of X G f_40.e,
    F_40:=f_40.F,
    b_40:=f_40.F.binds (ps:=yas) λ_ _ _ _ _ _ us hl=>match us,hl with | [_],_=>rfl,
    m_42:=W.mg_of X G f_42.e,
    F_42:=f_42.F,
    b_42:=f_42.F.binds (ps:=yah) λ_ _ _ _ _ _ us hl=>match us,hl with | [_,_],_=>rfl,
    m_43:=W.mg_of X G f_43.e,
    F_43:=f_43.F,
    b_43:=f_43.F.binds (ps:=ye) λ_ _ _ _ _ _ us hl=>match us,hl with | [_],_=>rfl,
    m_45:=W.mg_of X G f_45.e,
    F_45:=f_45.F,
    b_45:=f_45.F.binds (ps:=yaj) λ_ _ _ _ _ _ us hl=>match us,hl with | [_,_],_=>rfl,
    m_31:=W.mg_of X G f_31.e,
    F_31:=f_31.F,
    b_31:=f_31.F.binds (ps:=["box"]) λ_ _ _ _ _ _ us hl=>match us,hl with | [_],_=>rfl,
    m_46:=W.mg_of X G e_46,
    F_46:=F_46,
    b_46:=b_46}
 exact ⟨W.fnOf "law" "law" (zd2 s_46) (zce s_46) (zae s_46) .none kV_46 dc_46 pm_46 an_46 cd_46 ct_46,λs v=> .of_eq rfl,λbase _ _=>ok_46 T⟩
theorem zuB {l:W.OpenLaw} {q:Program} {loose:List Str} {XP:(Str->Option Value)->Heap->Prop} {YP:World->Heap->Prop} {d:DefRec} {K:Params->W.Frag} (hn:l.most=some 63) (hdf:d.params.defaults=[])
  (hY: ∀ (w:World) (h:Heap),YP w h->(K w.params).In h)
  (F: ∀ (w:World) (mg:Str->Option Value) (fa:Addr) (h:Heap),(K w.params).In h->h.Ns mainGlobals mg->mg d.name=some (.ref fa)->
    ∃ fd:FuncData,(∀ (s:Shared) (u:Value),BindsTo s fd ⟨[u],[]⟩ [("script",u)])/\ ∀ base:Heap,(K w.params).In base->base.Ns mainGlobals mg->zbE l.prog w (K w.params) mg base CX0 8 fa fd yap (zbY (K w.params) 1 F_46))
  (hm: ∀ ns:List Int,ns.length<=63-> ∃ h',F_46 [.scr (ns.map D.int)] []= .ok (.bl true) h'):
  W.WalkO q loose XP YP l.row.toRowW d [] (λf vs=>PySem.call f vs):=
 L2.zoZ (n:=63) (k:=8) (x:="script") (CX:=λ_=>CX0) (sp:=λw=>zbY (K w.params) 1 F_46) hn (by decide) hdf ⟨rfl,by decide,by decide⟩ hY F (λw H a ns hl _ hS=>ztH hS (hm ns hl)) λ_ _ _ _ _ z=>z
end K96
open PySem.W
set_option maxRecDepth 100000 in
set_option maxHeartbeats 0 in
theorem PySem.Challenge.cw_cheapcovers_k96_texts_of_stocks_and_lots_holds : PySem.Challenge.rw_cheapcovers_k96_texts_of_stocks_and_lots.Holds := by
 w_on; o_law; k_head; (case hw => w_witness2)
 k_fill
 refine K96.zuB (l := PySem.Challenge.rw_cheapcovers_k96_texts_of_stocks_and_lots) rfl rfl (fun w h Y => W.kIn_of Y) ?F K96.zl3
 case F =>
  intro w mg fa h KX G hmg
  refine' K96.zp5 KX G hmg (L3.Fd.mk ?_ (L2.zaG ?_ ?_ ?_)) (L3.Fd.mk ?_ (L2.zaG ?_ ?_ ?_)) (L3.Fd.mk ?_ (L2.zaG ?_ ?_ ?_)) (L3.Fd.mk ?_ (L2.zaG ?_ ?_ ?_)) (L3.Fd.mk ?_ (L2.zaG ?_ ?_ ?_)) (L3.Fd.mk ?_ (L2.zaG ?_ ?_ ?_)) (L3.Fd.mk ?_ (L2.zaG ?_ ?_ ?_)) (L3.Fd.mk ?_ (L2.zaG ?_ ?_ ?_)) (L3.Fd.mk ?_ (L2.zaG ?_ ?_ ?_)) (L3.Fd.mk ?_ (L2.zaG ?_ ?_ ?_)) (L3.Fd.mk ?_ (L2.zaG ?_ ?_ ?_)) (L3.Fd.mk ?_ (L2.zaG ?_ ?_ ?_)) (L3.Fd.mk ?_ (L2.zaG ?_ ?_ ?_)) (L3.Fd.mk ?_ (L2.zaG ?_ ?_ ?_)) (L3.Fd.mk ?_ (L2.zaG ?_ ?_ ?_)) (L3.Fd.mk ?_ (L2.zaG ?_ ?_ ?_)) (L3.Fd.mk ?_ (L2.zaG ?_ ?_ ?_)) (L3.Fd.mk ?_ (L2.zaG ?_ ?_ ?_)) (L3.Fd.mk ?_ (L2.zaG ?_ ?_ ?_)) (L3.Fd.mk ?_ (L2.zaG ?_ ?_ ?_)) (L3.Fd.mk ?_ (L2.zaG ?_ ?_ ?_)) (L3.Fd.mk ?_ (L2.zaG ?_ ?_ ?_)) (L3.Fd.mk ?_ (L2.zaG ?_ ?_ ?_)) (L3.Fd.mk ?_ (L2.zaG ?_ ?_ ?_)) (L3.Fd.mk ?_ (L2.zaG ?_ ?_ ?_)) (L3.Fd.mk ?_ (L2.zaG ?_ ?_ ?_)) (L3.Fd.mk ?_ (L2.zaG ?_ ?_ ?_)) (L3.Fd.mk ?_ (L2.zaG ?_ ?_ ?_)) (L3.Fd.mk ?_ (L2.zaG ?_ ?_ ?_)) (L3.Fd.mk ?_ (L2.zaG ?_ ?_ ?_)) (L3.Fd.mk ?_ (L2.zaG ?_ ?_ ?_)) (L3.Fd.mk ?_ (L2.zaG ?_ ?_ ?_)) (L3.Fd.mk ?_ (L2.zaG ?_ ?_ ?_)) (L3.Fd.mk ?_ (L2.zaG ?_ ?_ ?_)) ?_ ?_ ?_ ?_ ?_ ?_ ?_ ?_ ?_ ?_ ?_ ?_ ?_ ?_ ?_ ?_ ?_ ?_ ?_ ?_ ?_ ?_ ?_ ?_ ?_ ?_ ?_ ?_ ?_ ?_ ?_ ?_ ?_ ?_ ?_ ?_
  all_goals try first | k_is | kernel_rfl
