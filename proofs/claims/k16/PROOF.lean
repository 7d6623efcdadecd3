import PyProof.Rows.All
import Wide.All
import OpenK.AllK
import Wide.FinOn
import PyProof.EqAt
import PyProof.EqKinds
import PyProof.TupleCall
import PyProof.StationsW
import PyProof.ExcArgs
import PyProof.Seq
import PyProof.TupleIter
import PyProof.RangeIter
import PyProof.WalkInts
import PyProof.SumWalkG
import PyProof.ListRange
import PyProof.Rows.Range3
import OpenK.KDescr
import PyProof.ExcAttrAll.ValueError
import PyProof.Draws
import PyProof.EnumFor
import PyProof.EnumMake
import PyProof.LayNew
import PyProof.Rows.EnumRows
import PyProof.MinMaxWalk
import Lean
import PySem.Challenge.RW_cheapcovers_k16_whole_covers_in_order
set_option Elab.async false
set_option linter.all false
set_option maxRecDepth 100000
set_option maxHeartbeats 8000000
set_option compiler.extract_closed false
set_option bootstrap.genMatcherCode false
set_option genSizeOfSpec false
open PySem PySem.Spec PyProof.Rows
open List (all_eq_true any_eq_true append_nil drop_sublist filter_eq_nil_iff flatten_cons foldl_cons forIn_cons forIn_nil getElem_mem getElem_of_mem isEmpty_iff length_drop length_range length_take lookup_cons map_append map_map map_nil mem_filter mem_flatMap mem_range mem_singleton nil_append nodup_cons pairwise_map range_succ replicate_succ)
open Nat (add_zero le_succ log2_lt lt_succ_of_lt lt_trans mod_lt ne_of_gt not_lt_zero succ_pos zero_add zero_le)
noncomputable section
local macro_rules | `(term| ⋯) => `(term| by first | decide +kernel | omega)
section
open PyProof
abbrev qaa := @List.getElem?_append_right
abbrev qab := @Array.getElem?_eq_some_iff
abbrev qac := @List.getElem?_eq_some_iff
abbrev qad := @List.getElem?_append_left
abbrev qae := @List.drop_eq_getElem_cons
abbrev qaf := @List.getElem?_eq_getElem
abbrev qag := @Heap.get?_push_of_some
abbrev qah := @Heap.get?_update_other
abbrev qai := @List.getElem?_set_self
abbrev qaj := @Array.getElem?_toList
abbrev qak := @List.mem_append_right
abbrev qal := @Heap.get?_update_self
abbrev qam := @List.take_append_drop
abbrev qan := @List.mem_cons_of_mem
abbrev qao := @List.getElem?_set_ne
abbrev qap := @Around.under_plainId
abbrev qaq := @List.pairwise_append
abbrev qar := @Heap.get?_push_size
abbrev qas := @Array.length_toList
abbrev qat := @List.filterMap_cons
abbrev qau := @List.mem_cons_self
abbrev qav := @List.length_append
abbrev qaw := @Nat.lt_of_lt_of_le
abbrev qax := @Bool.false_eq_true
abbrev qay := @List.pairwise_cons
abbrev qaz := @Array.size_extract
abbrev qaA := @List.size_toArray
abbrev qaB := @Int.toNat_natCast
abbrev qaC := @wpAny_newObj_type
abbrev qaD := @decide_eq_true_eq
abbrev qaE := @List.length_cons
abbrev qaF := @List.not_mem_nil
abbrev qaG := @Bool.and_eq_true
abbrev qaH := @List.length_map
abbrev qaI := @List.length_set
abbrev qaJ := @List.length_nil
abbrev qaK := @List.mem_append
abbrev qaL := @Heap.size_push
abbrev qaM := @List.map_cons
abbrev qaN := @Nat.lt_irrefl
abbrev qaO := @wpAny_holding
abbrev qaP := @List.mem_cons
abbrev qaQ := @Heap.lt_size
abbrev qaR := @Nat.ne_of_lt
abbrev qaS := @Nat.le_trans
abbrev qaU := @List.mem_map
abbrev qaV := @Nat.le_refl
abbrev qaW := @wpAny_bind
abbrev qaX := @wpAny_pure
abbrev qaZ := @wpAny_mono
abbrev qa0 := @False.elim
abbrev qa2 := @wpS_bind
abbrev qa3 := @wpS_pure
abbrev qa4 := @if_pos
abbrev qa5 := @if_neg
end
def PySem.W.Fast.tw287031467899168376:Nat:=0
def PySem.W.Fast.tw10395119783202761270:Nat:=0
def PySem.W.Fast.tw17529304366489286679:Nat:=0
def PySem.W.Fast.tw2531712474654571035:Nat:=0
def PySem.W.Fast.tw5154310562394956389:Nat:=0
def PySem.W.Fast.tw17324375580261301121:Nat:=0
def PySem.W.Fast.tw15338065949569713036:Nat:=0
def PySem.W.Fast.tw3327513682584117523:Nat:=0
def PySem.W.Fast.tw13361248226556974577:Nat:=0
def PySem.W.Fast.tw9093213212586388605:Nat:=0
def PySem.W.Fast.tw6554531448983026109:Nat:=0
def PySem.W.Fast.tw9831058204276630530:Nat:=0
def PySem.W.Fast.tw815613092927954878:Nat:=0
def PySem.W.Fast.tw12883779623982396367:Nat:=0
def PySem.W.Fast.tw15492841533802717331:Nat:=0
def PySem.W.Fast.tw16741159099764674347:Nat:=0
def PySem.W.Fast.tw12098565495064851733:Nat:=0
def PySem.W.Fast.tw17132785131593256221:Nat:=0
def PySem.W.Fast.tw5001645454227033994:Nat:=0
def PySem.W.Fast.tw5321909770681711222:Nat:=0
def PySem.W.Fast.tw10574419302713861542:Nat:=0
def PySem.W.Fast.tw5568514631462781073:Nat:=0
def PySem.W.Fast.tw3469075337998133161:Nat:=0
def PySem.W.Fast.tw15674114149250265655:Nat:=0
namespace L3
def zlX (h:Heap) (e:Addr) (cls head:Value):Prop:= ∃ ob vs,h.get? e=some ob/\ob.cls=cls/\ob.dict=none/\ob.data= .fields vs/\vs[2]? = some .none/\vs[1]? = some head
def zui (h B:Heap) (e:Addr) (head fl:Value):Prop:= ∃ T ot ts,head= .ref T/\B.get? T=none/\T≠e/\h.get? T=some ot/\ot.data= .fields ts/\ts[3]? = some fl
structure Fly (B:Heap) (l:List Env) (e:Addr) (cls fl:Value) (h:Heap):Prop where
 stays:B.StaysIn h
 new:B.get? e=none
 frames:h.FunFrames B l
 exc: ∃ head,zlX h e cls head/\zui h B e head fl
section
variable {M:Model} {A:Around} {E:Value->Shared->Prop} {s:Shared} {B:Heap} {env:Env} {outer l:List Env} {L e:Addr} {cls head fl:Value}
end
theorem zfz:entryFor table "proto.unchain"=some Builtin.«proto.unchain» := entryFor_of_tree (by kernel_rfl)
section
variable {prog:Program} {w:World} {A:Around} {E:Value->Shared->Prop} {s:Shared}
theorem zdE {α:Type} {a h:Addr} {o:Obj} {us:Array Value} {cls head:Value} {Q:α->Shared->Prop} (hh:A.handled=some (.ref h)) (hx:zlX s.heap h cls head) (ho:s.heap.get? a=some o) (hd:o.data= .fields us) (hz:2<us.size) (hne:h≠a)
  (q:E (.ref a) {s with heap:=s.heap.update a (Obj.mapFields (·.setIfInBounds 2 (.ref h)))}):wpAny (model prog w) A (raiseNew (.ref a):Sem α) Q E s:=by
 obtain ⟨ob,vs,h1,h2,h3,h4,h5,h6⟩:=hx
 unfold raiseNew
 refine qaW (wpAny_handled ?_)
 rw [hh]
 dsimp only
 rw [qa4 (show (Value.ref h != Value.ref a)=true by simp [hne])]
 refine qaW (qaO (wpAny_runValue (codeAny_builtin zfz ?_)))
 unfold Builtin.«proto.unchain»
 refine qaW (wpAny_field h1 h4 h5 ?_)
 rw [qa4 (show (Value.none==Value.none)=true from rfl)]
 refine qaW (qaX (qaX ?_))
 refine qaW ?_
 obtain ⟨c,d,dt,sl⟩:=o
 dsimp only at hd
 subst hd
 unfold updateField
 refine qaW (wpAny_load ho ?_)
 dsimp only
 rw [qa4 hz]
 exact wpAny_update ho (wpAny_throw q)
def zpq (A:Around) (h:Heap):Prop:=A.handled=none\/ ∃ a cls head,A.handled=some (.ref a)/\zlX h a cls head
theorem zik {it l:Addr} {i:Nat} {items:Array Value} {Q:Option Value->Shared->Prop} (hh:zpq A s.heap) (hit:s.heap.IsListIter it l i) (hl:s.heap.IsList l items) (hx:items[i]? = none)
  (k: ∀ h',Heap.ExtBut it s.heap h'->Q none {s with heap:=h'}):wpAny (model prog w) A (pyNext (.ref it)) Q E s:=by
 rcases hh with hh | ⟨ha,cls,head,hh,hX⟩
 ·exact wpAny_pyNext_list_end hh hit hl hx k
 obtain ⟨o,h1,h2,h3⟩:=id hit
 obtain ⟨ol,l1,_,nl,l2⟩:=hl
 unfold pyNext
 refine qaW (wpAny_attempt (wpAny_callSpecial?_slot (name:=Str.ofString "__next__") hit.typeIs slot_listiter_next (wpAny_call_entry slot_listiter_next hit.typeIs entry_listiter_next ?_ (args_listiter_next _))))
 show wpAny _ _ (field (.ref it) 0>>=_) _ _ s
 refine qaW (wpAny_field h1 h3 (x:= .ref l) rfl ?_)
 show wpAny _ _ (if (Value.ref l==Value.none)=true then _ else _) _ _ s
 rw [qa5 (show ¬(Value.ref l==Value.none)=true from nofun)]
 show wpAny _ _ (field (.ref it) 1>>=_) _ _ s
 refine qaW (wpAny_field h1 h3 (x:= .int i 0) rfl ?_)
 show wpAny _ _ (seqItems? (.ref l)>>=_) _ _ s
 refine qaW (wpAny_seqItems l1 l2 ?_)
 simp only [qaB,hx]
 refine qaW (wpAny_rule (qaW (wpAny_setField h1 h3 (by simp) ?_)))
 have nit:ha≠it:=λz=>by
  subst z
  obtain ⟨ob,vs,x1,_,_,x4,x5,x6⟩:=hX
  rw [h1] at x1
  cases x1
  rw [h3] at x4
  cases x4
  simp at x5
 have hX1:zlX (s.heap.update it (Obj.mapFields (·.setIfInBounds 0 Value.none))) ha cls head:=by
  obtain ⟨ob,vs,x1,x2⟩:=hX
  exact ⟨ob,vs,(qah _ _ (Ne.symm nit)).trans x1,x2⟩
 show wpAny _ _ (newExc (.type "StopIteration") []>>=_) _ _ _
 refine qaW ?_
 simp only [newExc,newTuple]
 refine qaW (qaC ?_ (by size_fits))
 refine qaW (m:=firstArgMember _ _) (wpAny_of_eq (a:=Value.none) (by first | rfl | (simp only [firstArgMember];rfl)) ?_)
 refine qaC ?_ (by size_fits)
 obtain ⟨ob,vs,x1,x2⟩:=hX1
 have y1:=qag {cls:= .type "tuple",dict:=none,data:= .seq [].toArray} x1
 refine zdE (h:=ha) (cls:=cls) (head:=head) hh ⟨ob,vs,qag _ y1,x2⟩ (qar _ rfl) rfl (by simp;omega) (qaR (qaQ y1)) ?_
 refine qaW (wpAny_isInstance (T:="StopIteration") (b:=true) ⟨_,qal _ (qar _ rfl) rfl,rfl⟩ isSubtype_stop ?_)
 refine qaX (k _ λb o hb z=> ?_)
 have z1:(s.heap.update it (Obj.mapFields (·.setIfInBounds 0 Value.none))).get? b=some o:=(qah _ _ (Ne.symm hb)).trans z
 have z2:=qag {cls:= .type "tuple",dict:=none,data:= .seq [].toArray} z1
 rw [qah _ _ (ne_of_gt (qaQ z2))]
 exact qag _ z2
theorem zjO {it l:Addr} {i:Nat} {items:Array Value} {Q:Option Value->Shared->Prop} (hh:zpq A s.heap) (hit:s.heap.IsTupleIter it l i) (hl:s.heap.IsTuple l items) (hx:items[i]? = none)
  (k: ∀ h',Heap.ExtBut it s.heap h'->Q none {s with heap:=h'}):wpAny (model prog w) A (pyNext (.ref it)) Q E s:=by
 rcases hh with hh | ⟨ha,cls,head,hh,hX⟩
 ·exact wpAny_pyNext_tuple_end hh hit hl hx k
 obtain ⟨o,h1,h2,h3⟩:=id hit
 obtain ⟨ol,l1,_,nl,l2⟩:=hl
 unfold pyNext
 refine qaW (wpAny_attempt (wpAny_callSpecial?_slot (name:=Str.ofString "__next__") hit.typeIs F.slot_tuple_iterator_next (wpAny_call_entry F.slot_tuple_iterator_next hit.typeIs F.entry_tuple_iterator_next ?_ (F.args_tuple_iterator_next_1 _))))
 show wpAny _ _ (field (.ref it) 0>>=_) _ _ s
 refine qaW (wpAny_field h1 h3 (x:= .ref l) rfl ?_)
 show wpAny _ _ (if (Value.ref l==Value.none)=true then _ else _) _ _ s
 rw [qa5 (show ¬(Value.ref l==Value.none)=true from nofun)]
 show wpAny _ _ (field (.ref it) 1>>=_) _ _ s
 refine qaW (wpAny_field h1 h3 (x:= .int i 0) rfl ?_)
 show wpAny _ _ (seqItems? (.ref l)>>=_) _ _ s
 refine qaW (wpAny_seqItems l1 l2 ?_)
 simp only [qaB,hx]
 refine qaW (wpAny_rule (qaW (wpAny_setField h1 h3 (by simp) ?_)))
 have nit:ha≠it:=λz=>by
  subst z
  obtain ⟨ob,vs,x1,_,_,x4,x5,x6⟩:=hX
  rw [h1] at x1
  cases x1
  rw [h3] at x4
  cases x4
  simp at x5
 have hX1:zlX (s.heap.update it (Obj.mapFields (·.setIfInBounds 0 Value.none))) ha cls head:=by
  obtain ⟨ob,vs,x1,x2⟩:=hX
  exact ⟨ob,vs,(qah _ _ (Ne.symm nit)).trans x1,x2⟩
 show wpAny _ _ (newExc (.type "StopIteration") []>>=_) _ _ _
 refine qaW ?_
 simp only [newExc,newTuple]
 refine qaW (qaC ?_ (by size_fits))
 refine qaW (m:=firstArgMember _ _) (wpAny_of_eq (a:=Value.none) (by first | rfl | (simp only [firstArgMember];rfl)) ?_)
 refine qaC ?_ (by size_fits)
 obtain ⟨ob,vs,x1,x2⟩:=hX1
 have y1:=qag {cls:= .type "tuple",dict:=none,data:= .seq [].toArray} x1
 refine zdE (h:=ha) (cls:=cls) (head:=head) hh ⟨ob,vs,qag _ y1,x2⟩ (qar _ rfl) rfl (by simp;omega) (qaR (qaQ y1)) ?_
 refine qaW (wpAny_isInstance (T:="StopIteration") (b:=true) ⟨_,qal _ (qar _ rfl) rfl,rfl⟩ isSubtype_stop ?_)
 refine qaX (k _ λb o hb z=> ?_)
 have z1:(s.heap.update it (Obj.mapFields (·.setIfInBounds 0 Value.none))).get? b=some o:=(qah _ _ (Ne.symm hb)).trans z
 have z2:=qag {cls:= .type "tuple",dict:=none,data:= .seq [].toArray} z1
 rw [qah _ _ (ne_of_gt (qaQ z2))]
 exact qag _ z2
theorem zgo {it:Addr} {x left step:Int} {Q:Option Value->Shared->Prop} (hh:zpq A s.heap) (hit:IsRangeIter s.heap it x left step) (hleft:left<=0)
  (k: ∀ h',Heap.ExtBut it s.heap h'->Q none {s with heap:=h'}):wpAny (model prog w) A (pyNext (.ref it)) Q E s:=by
 rcases hh with hh | ⟨ha,cls,head,hh,hX⟩
 ·exact wpAny_pyNext_range_end hh hit hleft k
 have hT:s.TypeIs (.ref it) "range_iterator":=⟨_,hit,rfl⟩
 unfold pyNext
 refine qaW (wpAny_attempt (wpAny_callSpecial?_slot (name:=Str.ofString "__next__") hT F.slot_range_iterator_next (wpAny_call_entry F.slot_range_iterator_next hT F.entry_range_iterator_next ?_ (F.args_range_iterator_next_1 _))))
 show wpAny _ _ (field (.ref it) 0>>=_) _ _ s
 refine qaW (wpAny_field hit rfl (x:=rawInt x) rfl ?_)
 show wpAny _ _ (field (.ref it) 1>>=_) _ _ s
 refine qaW (wpAny_field hit rfl (x:=rawInt left) rfl ?_)
 show wpAny _ _ (field (.ref it) 2>>=_) _ _ s
 refine qaW (wpAny_field hit rfl (x:=rawInt step) rfl ?_)
 show wpAny _ _ (if left<=0 then _ else _) _ _ s
 rw [qa4 hleft]
 refine qaW (wpAny_rule (qaW ?_))
 show wpAny _ _ (newExc (.type "StopIteration") []>>=_) _ _ _
 refine qaW ?_
 simp only [newExc,newTuple]
 refine qaW (qaC ?_ (by size_fits))
 refine qaW (m:=firstArgMember _ _) (wpAny_of_eq (a:=Value.none) (by first | rfl | (simp only [firstArgMember];rfl)) ?_)
 refine qaC ?_ (by size_fits)
 obtain ⟨ob,vs,x1,x2⟩:=hX
 have y1:=qag {cls:= .type "tuple",dict:=none,data:= .seq [].toArray} x1
 refine zdE (h:=ha) (cls:=cls) (head:=head) hh ⟨ob,vs,qag _ y1,x2⟩ (qar _ rfl) rfl (by simp;omega) (qaR (qaQ y1)) ?_
 refine qaW (wpAny_isInstance (T:="StopIteration") (b:=true) ⟨_,qal _ (qar _ rfl) rfl,rfl⟩ isSubtype_stop ?_)
 refine qaX (k _ λb o hb z=> ?_)
 have z2:=qag {cls:= .type "tuple",dict:=none,data:= .seq [].toArray} z
 rw [qah _ _ (ne_of_gt (qaQ z2))]
 exact qag _ z2
theorem zlX.keep {h h':Heap} {a:Addr} {cls head:Value} (x:zlX h a cls head) (k: ∀ o,h.get? a=some o->h'.get? a=some o):zlX h' a cls head:=by
 obtain ⟨ob,vs,x1,x2⟩:=x
 exact ⟨ob,vs,k _ x1,x2⟩
theorem ziV {ha:Addr} {cls head:Value} (hh:A.handled=some (.ref ha)) (I ax:Addr) (hne:ax≠I) (hn2:ha≠I) (items:Array Value):
  Walks prog w A I [I,ax,ha] [I] items.size (λi v=>items[i]? = some v) (λi h=>h.IsListIter I ax i/\h.IsList ax items/\zlX h ha cls head) where
 sub:=λb hb=>by simp at hb;simp [hb]
 frame:=λ_ _ _ st hk=>⟨st.1.at λo e=>hk I (by simp) o e,st.2.1.at λo e=>hk ax (by simp) o e,st.2.2.keep λo e=>hk ha (by simp) o e⟩
 item:=λi s Q E hi st hQ=>by
  refine wpAny_pyNext_list_item st.1 st.2.1 (x:=items[i]) (by simp [hi]) λh' hit' hs'=> ?_
  exact hQ _ h' s.toks (by simp [hi]) ⟨hit',st.2.1.extBut hs'.extBut hne,st.2.2.keep λo e=>hs'.extBut ha o hn2 e⟩ λb o hb e=>hs'.extBut b o (λh=>hb (by simp [h])) e
 done:=λs Q E st hQ=>zik (.inr ⟨ha,cls,head,hh,st.2.2⟩) st.1 st.2.1 (by simp) λh' he'=>hQ h' s.toks λb o hb e=>he' b o (λh=>hb (by simp [h])) e
 self:=λ_ _ _ _ st hQ=>wpAny_pyIter_listiter st.1 hQ
end
end L3
namespace L2
abbrev Key:=Sum Int Str
def zq9:Key->Value->Bool
 | .inl k,v=>Value.isInt k v
 | .inr x,v=>Value.isStrOf x v
def ztS (w:World):Key->Int
 | .inl k=>hashInt k
 | .inr x=>hashStr w x
theorem zaM: ∀ {k:Key} {v:Value},zq9 k v=true->(∃ i t,k=Sum.inl i/\v=Value.int i t)\/(∃ x t,k=Sum.inr x/\v=Value.str x t)
 | .inl i,v,h=>by
  obtain ⟨t,e⟩:=Value.isInt_shape (k:=i) (v:=v) h
  exact .inl ⟨i,t,rfl,e⟩
 | .inr x,v,h=>by
  obtain ⟨t,e⟩:=Value.isStrOf_shape (x:=x) (v:=v) h
  exact .inr ⟨x,t,rfl,e⟩
theorem zq0 (a b:Int):decide ((Sum.inl a:Key)=Sum.inl b)=(a==b):=by
 by_cases e:a=b
 ·subst e;simp
 ·have h: ¬(Sum.inl a:Key)=Sum.inl b:=λq=>e (Sum.inl.inj q)
  rw [decide_eq_false h]
  exact (beq_eq_false_iff_ne.mpr e).symm
theorem zqe (a b:Str):decide ((Sum.inr a:Key)=Sum.inr b)=decide (a=b):=by
 by_cases e:a=b
 ·subst e;simp
 ·have h: ¬(Sum.inr a:Key)=Sum.inr b:=λq=>e (Sum.inr.inj q)
  rw [decide_eq_false h,decide_eq_false e]
theorem zpG (a:Int) (b:Str):decide ((Sum.inl a:Key)=Sum.inr b)=false:=decide_eq_false (λq=>nomatch q)
theorem zqQ (a:Str) (b:Int):decide ((Sum.inr a:Key)=Sum.inl b)=false:=decide_eq_false (λq=>nomatch q)
def zhk (prog:Program) (w:World):PySem.KeyKind prog w Key where
 is:=zq9
 hash:=ztS w
 inj:=λv a b ha hb=>by
  rcases zaM ha with ⟨i,t,rfl,rfl⟩ | ⟨x,t,rfl,rfl⟩
  ·rcases zaM hb with ⟨j,u,rfl,e⟩ | ⟨y,u,rfl,e⟩
   ·injection e with e1 _;rw [e1]
   ·exact nomatch e
  ·rcases zaM hb with ⟨j,u,rfl,e⟩ | ⟨y,u,rfl,e⟩
   ·exact nomatch e
   ·injection e with e1 _;rw [e1]
 byValue:=λk v h=>by
  rcases zaM h with ⟨i,t,rfl,rfl⟩ | ⟨x,t,rfl,rfl⟩<;>rfl
 pyHash:=λhv h=>by
  rcases zaM hv with ⟨i,t,rfl,rfl⟩ | ⟨x,t,rfl,rfl⟩
  ·exact wpAny_pyHash_int h
  ·exact wpAny_pyHash_str h
 eqBool:=λhu hv h=>by
  rcases zaM hu with ⟨i,t,rfl,rfl⟩ | ⟨x,t,rfl,rfl⟩
  ·rcases zaM hv with ⟨j,u,rfl,rfl⟩ | ⟨y,u,rfl,rfl⟩
   ·rw [zq0] at h;exact wpAny_eqBool_int h
   ·rw [zpG] at h;exact SeqAt.EqAt.int_str i t y u _ _ _ _ h
  ·rcases zaM hv with ⟨j,u,rfl,rfl⟩ | ⟨y,u,rfl,rfl⟩
   ·rw [zqQ] at h;exact SeqAt.EqAt.str_int x t j u _ _ _ _ h
   ·rw [zqe] at h;exact wpAny_eqBool_str h
 «strs» := λk x t v h=>by
  rcases zaM h with ⟨i,u,rfl,e⟩ | ⟨y,u,rfl,e⟩
  ·exact nomatch e
  ·injection e with e1 _
   subst e1
   cases v<;>rfl
inductive V where
 | non | bl (b:Bool) | int (i:Int) | str (x:Str) | byt (b:Array UInt8) | flt (b:UInt64) | ref (a:Addr) | ty (n:String)
 deriving DecidableEq
def zbp:V->Value->Prop
 | .non,u=>u=Value.none
 | .bl b,u=>u=Value.bool b
 | .int i,u=> ∃ t,u=Value.int i t
 | .str x,u=> ∃ t,u=Value.str x t
 | .byt b,u=> ∃ t,u=Value.bytes b t
 | .flt b,u=> ∃ t,u=Value.float b t
 | .ref a,u=>u=Value.ref a
 | .ty n,u=>u=Value.type n
abbrev zaS:List V->List Value->Prop:=Paired zbp
theorem zaS.length {xs:List V} {us:List Value} (r:zaS xs us):xs.length=us.length:=Paired.length r
theorem zaS.get: ∀ {xs:List V} {us:List Value} {i:Nat} {x:V},zaS xs us->xs[i]? = some x-> ∃ u,us[i]? = some u/\zbp x u
 | _,_,_,_,.nil,e=>by simp at e
 | _,_,0,_,.cons r _,e=>by simp at e;subst e;exact ⟨_,rfl,r⟩
 | _,_,i+1,x,.cons _ t,e=>by
  obtain ⟨u,h1,h2⟩:=zaS.get (i:=i) (x:=x) t (by simpa using e)
  exact ⟨u,by simpa using h1,h2⟩
theorem zaS.set {x:V} {u:Value} (r:zbp x u): ∀ {xs:List V} {us:List Value} (i:Nat),zaS xs us->zaS (xs.set i x) (us.set i u)
 | _,_,_,.nil=> .nil
 | _,_,0,.cons _ t=> .cons r t
 | _,_,i+1,.cons q t=> .cons q (zaS.set r i t)
theorem zaS.append: ∀ {xs ys:List V} {us ws:List Value},zaS xs us->zaS ys ws->zaS (xs++ys) (us++ws)
 | _,_,_,_,.nil,s=>s
 | _,_,_,_,.cons r t,s=> .cons r (zaS.append t s)
theorem zaS.take: ∀ {xs:List V} {us:List Value} (n:Nat),zaS xs us->zaS (xs.take n) (us.take n)
 | _,_,0,_=> .nil
 | _,_,_+1,.nil=> .nil
 | _,_,n+1,.cons r t=> .cons r (zaS.take n t)
theorem zaS.drop: ∀ {xs:List V} {us:List Value} (n:Nat),zaS xs us->zaS (xs.drop n) (us.drop n)
 | _,_,0,r=>r
 | _,_,_+1,.nil=> .nil
 | _,_,n+1,.cons _ t=>zaS.drop n t
def ztC:Option V->Option Value->Prop
 | some v,some u=>zbp v u
 | none,none=>True
 | _,_=>False
def KV {κ:Type}:List (κ×V)->List (κ×Value)->Prop:=Paired λ(p:κ×V) (q:κ×Value)=>p.1=q.1/\zbp p.2 q.2
def kV:Key->V
 | .inl i=> .int i
 | .inr x=> .str x
inductive HO where
 | lst (xs:List V)
 | tup (xs:List V)
 | dK (kvs:List (Key×V)) | dT (kvs:List (List Key×V))
 | set (S:Int->Bool) (n:Nat)
 | ins (C dx:Addr) (fs:List (Str×V))
 | own (x:Addr)
 | xd (fs:List (Str×V))
 | met (f x:Addr)
 | rng (lo hi:Int)
 | frz (o:Obj) (u:HO)
 | tbl (ps:Array Value)
 | ext (φ:Heap->Prop)
abbrev Hp:=Addr->Option HO
def upd (H:Hp) (a:Addr) (o:HO):Hp:=λb=>if b=a then some o else H b
theorem zaY {H:Hp} {a:Addr} {o:HO}:upd H a o a=some o:=by unfold upd;rw [qa4 rfl]
theorem zau {H:Hp} {a b:Addr} {o:HO} (h:b≠a):upd H a o b=H b:=by unfold upd;rw [qa5 h]
theorem zaF {H:Hp} {a b:Addr} {o:HO} (h:H a=some o) (h':H b=none):a≠b:=by
 intro e;subst e;rw [h] at h';cases h'
def zjL (h:Heap) (a:Addr) (items:Array Value):Prop:= ∃ o,h.get? a=some o/\o.cls= .type "tuple"/\ ∃ n,o.data= .seq items n/\o.dict=none
theorem zjL.is {h:Heap} {a:Addr} {items:Array Value} (x:zjL h a items):IsTup h a items:=by
 obtain ⟨o,h1,h2,n,h3,_⟩:=x
 exact ⟨o,h1,h2,n,h3⟩
theorem zjL.new (h:Heap) (items:Array Value):zjL (h.push {cls:= .type "tuple",data:= .seq items}) h.objs.size items:=⟨_,qar _ rfl,rfl,_,rfl,rfl⟩
section
variable (P:Program) (w:World)
def zbB (H:Hp) (h:Heap) (a:Addr):HO->Prop
 | .lst xs=>xs.length<=sizeLine/\ ∃ (its:List Value) (n:Nat),zaS xs its/\h.get? a=some {cls:= .type "list",data:= .seq its.toArray n}
 | .tup xs=>xs.length<=sizeLine/\ ∃ its:List Value,zaS xs its/\zjL h a its.toArray
 | .dK kvs=>kvs.length<=sizeLine/\(a==sysModules)=false/\ ∃ vs,KV kvs vs/\h.DictOf (zhk P w) a vs
 | .dT kvs=>kvs.length<=sizeLine/\(a==sysModules)=false/\ ∃ xs:List (List Key×Addr×Value),
   Paired (λ(p:List Key×V) (q:List Key×Addr×Value)=>p.1=q.1/\H q.2.1=some (.tup (p.1.map kV))/\zbp p.2 q.2.2) kvs xs/\
   ∃ o es ep,h.get? a=some o/\o.ExactDict/\o.data= .dict es ep/\es.toList=xs.map (entryOfKey (tupleKind (zhk P w)))/\(xs.map (·.1)).Nodup
 | .set S n=>h.SetOf (intKind P w) a S n
 | .ins C dx fs=>H dx=some (.own a)/\fs.length<=1000/\dx≠a/\h.get? a=some (W.instObj C dx)/\
   ∃ mA,h.Ns1 dx mA/\(∀ f,ztC (fs.lookup f) (mA f))/\PySem.Within mA (fs.map (·.1))
 | .own _=> ∃ o,h.get? a=some o
 | .xd fs=> ∃ mA,h.Ns1 a mA/\ ∀ f,ztC (fs.lookup f) (mA f)
 | .rng lo hi=> ∃ t u v,h.get? a=some {cls:= .type "range",data:= .fields #[.int lo t,.int hi u,.int 1 v]}
 | .frz o u=>h.get? a=some o/\zbB H h a u
 | .tbl ps=>h.get? a=some {cls:= .none,data:= .fields ps}
 | .met f x=>h.get? a=some (W.methodObj (.ref f) (.ref x))
 | .ext φ=>φ h/\(∃ o,h.get? a=some o)/\ ∀ h1 h2:Heap,φ h1->(∀ o,h1.get? a=some o->h2.get? a=some o)->φ h2
def HOk (H:Hp) (h:Heap):Prop:= ∀ a o,H a=some o->zbB P w H h a o
end
section
variable {P:Program} {w:World} {H H':Hp} {h h':Heap} {a:Addr} {o:HO}
theorem zbB.lt (x:zbB P w H h a o):a<h.objs.size:=by
 cases o with
 | lst xs=>obtain ⟨_,_,_,_,e⟩:=x;exact qaQ e
 | tup xs=>obtain ⟨_,_,_,p⟩:=x;exact p.is.lt
 | dK kvs=>obtain ⟨_,_,_,_,o,_,_,e,_⟩:=x;exact qaQ e
 | dT kvs=>obtain ⟨_,_,_,_,o,_,_,e,_⟩:=x;exact qaQ e
 | set S n=>obtain ⟨o,_,_,_,e,_⟩:=x;exact qaQ e
 | ins C dx fs=>obtain ⟨_,_,_,e,_⟩:=x;exact qaQ e
 | own y=>obtain ⟨_,e⟩:=x;exact qaQ e
 | xd fs=>obtain ⟨_,⟨_,_,_,e,_⟩,_⟩:=x;exact qaQ e
 | rng lo hi=>obtain ⟨_,_,_,e⟩:=x;exact qaQ e
 | frz ob u=>obtain ⟨e,_⟩:=x;exact qaQ e
 | tbl ps=>exact qaQ (show h.get? a=some _ from x)
 | met f y=>exact qaQ (show h.get? a=some _ from x)
 | ext φ=>obtain ⟨_,⟨_,e⟩,_⟩:=x;exact qaQ e
theorem Paired.mapP {α β:Type} {F G:α->β->Prop}: ∀ {l₁:List α} {l₂:List β},Paired F l₁ l₂->(∀ a b,F a b->G a b)->Paired G l₁ l₂
 | _,_,.nil,_=> .nil
 | _,_,.cons r t,f=> .cons (f _ _ r) (Paired.mapP t f)
theorem zbB.stay (x:zbB P w H h a o) (k: ∀ b u,(b=a\/H b=some (.own a))->h.get? b=some u->h'.get? b=some u)
  (ho: ∀ b,H b=some (.own a)->H' b=some (.own a)) (ht: ∀ b xs,H b=some (.tup xs)->H' b=some (.tup xs)):zbB P w H' h' a o:=by
 induction o with
 | lst xs=>obtain ⟨z,its,n,r,e⟩:=x;exact ⟨z,its,n,r,k _ _ (.inl rfl) e⟩
 | tup xs=>obtain ⟨z,its,r,ob,e,c⟩:=x;exact ⟨z,its,r,ob,k _ _ (.inl rfl) e,c⟩
 | dK kvs=>obtain ⟨z,y,vs,r,ob,es,ep,e,c⟩:=x;exact ⟨z,y,vs,r,ob,es,ep,k _ _ (.inl rfl) e,c⟩
 | dT kvs=>
  obtain ⟨z,y,xs,r,ob,es,ep,e,c⟩:=x
  exact ⟨z,y,xs,Paired.mapP r λp q z=>⟨z.1,ht _ _ z.2.1,z.2.2⟩,ob,es,ep,k _ _ (.inl rfl) e,c⟩
 | set S n=>obtain ⟨ob,es,ep,t,e,c⟩:=x;exact ⟨ob,es,ep,t,k _ _ (.inl rfl) e,c⟩
 | ins C dx fs=>
  obtain ⟨d,z,ne,e,mA,⟨od,es,ep,e2,c⟩,r⟩:=x
  exact ⟨ho _ d,z,ne,k _ _ (.inl rfl) e,mA,⟨od,es,ep,k _ _ (.inr d) e2,c⟩,r⟩
 | own y=>obtain ⟨ob,e⟩:=x;exact ⟨ob,k _ _ (.inl rfl) e⟩
 | xd fs=>obtain ⟨mA,⟨od,es,ep,e,c⟩,r⟩:=x;exact ⟨mA,⟨od,es,ep,k _ _ (.inl rfl) e,c⟩,r⟩
 | rng lo hi=>obtain ⟨t,u,v,e⟩:=x;exact ⟨t,u,v,k _ _ (.inl rfl) e⟩
 | frz ob u ih=>obtain ⟨e,q⟩:=x;exact ⟨k _ _ (.inl rfl) e,ih q⟩
 | tbl ps=>
  have e:h.get? a=some {cls:= .none,data:= .fields ps}:=x
  show h'.get? a=some {cls:= .none,data:= .fields ps}
  exact k a _ (.inl rfl) e
 | met f y=>
  have e:h.get? a=some (W.methodObj (.ref f) (.ref y)):=x
  show h'.get? a=some (W.methodObj (.ref f) (.ref y))
  exact k a _ (.inl rfl) e
 | ext φ=>obtain ⟨p,⟨o,e⟩,st⟩:=x;exact ⟨st _ _ p λo q=>k _ _ (.inl rfl) q,⟨o,k _ _ (.inl rfl) e⟩,st⟩
theorem HOk.lt (x:HOk P w H h) (e:H a=some o):a<h.objs.size:=(x a o e).lt
theorem HOk.fresh (x:HOk P w H h) (e:h.objs.size<=a):H a=none:=by
 cases q:H a with
 | none=>rfl
 | some u=>exact absurd (qaw (x.lt q) e) (qaN _)
theorem HOk.kept (x:HOk P w H h) (k: ∀ b u,h.get? b=some u->h'.get? b=some u):HOk P w H h':=λa o e=>
 (x a o e).stay (λb u _ q=>k b u q) (λ_ q=>q) λ_ _ q=>q
theorem HOk.laid (x:HOk P w H h) (k: ∀ b u,h.get? b=some u->h'.get? b=some u) (hp:h.objs.size<=a) (new:zbB P w (upd H a o) h' a o):HOk P w (upd H a o) h':=λb u e=>by
 have hn:=x.fresh hp
 by_cases hb:b=a
 ·subst hb;rw [zaY] at e;cases e;exact new
 ·rw [zau hb] at e
  exact (x b u e).stay (λc v _ q=>k c v q) (λc q=>by rw [zau (zaF q hn)];exact q) λc xs q=>by rw [zau (zaF q hn)];exact q
end
def Rd (H:Hp) (a:Addr) (u:HO):Prop:=H a=some u\/ ∃ o,H a=some (.frz o u)
theorem Rd.ok {P:Program} {w:World} {H:Hp} {h:Heap} {a:Addr} {u:HO} (r:Rd H a u) (x:HOk P w H h):zbB P w H h a u:=by
 rcases r with r | ⟨o,r⟩
 ·exact x a u r
 ·obtain ⟨_,q⟩:=x a _ r
  exact q
def Mut:Option HO->Prop
 | some (.lst _)=>True
 | some (.dK _)=>True
 | some (.dT _)=>True
 | some (.set _ _)=>True
 | some (.ins _ _ _)=>True
 | some (.ext _)=>True
 | _=>False
section
variable {P:Program} {w:World} {H:Hp} {h h':Heap} {x e:Addr} {o':HO}
theorem HOk.write (ok:HOk P w H h) (mu:Mut (H x)) (he:e=x\/H e=some (.own x)) (k: ∀ b u,b≠e->h.get? b=some u->h'.get? b=some u) (heo: ∃ u,h'.get? e=some u)
  (new:zbB P w (upd H x o') h' x o'):HOk P w (upd H x o') h':=λb u q=>by
 have nown: ∀ c y,H c=some (.own y)->c≠x:=λc y r z=>by subst z;rw [r] at mu;exact mu
 have ntup: ∀ c xs,H c=some (.tup xs)->c≠x:=λc xs r z=>by subst z;rw [r] at mu;exact mu
 by_cases hb:b=x
 ·subst hb;rw [zaY] at q;cases q;exact new
 ·rw [zau hb] at q
  by_cases hbe:b=e
  ·have q':H b=some (.own x):=by
    rcases he with z | z
    ·exact absurd (hbe.trans z) hb
    ·rw [hbe];exact z
   rw [q] at q';cases q'
   obtain ⟨v,hv⟩:=heo
   exact ⟨v,by rw [hbe];exact hv⟩
  ·refine (ok b u q).stay (λc v hc r=>k c v ?_ r) (λc r=>by rw [zau (nown c b r)];exact r) λc xs r=>by rw [zau (ntup c xs r)];exact r
   rcases hc with rfl | hc
   ·exact hbe
   ·rintro rfl
    rcases he with z | z
    ·exact nown c b hc z
    ·rw [hc] at z;cases z;exact hb rfl
end
structure Un (fs ex:List Addr) (H H':Hp) (h h':Heap):Prop where
 keep: ∀ b o,h.get? b=some o->H b=none->b∉fs->b∉ex->h'.get? b=some o
 slot: ∀ b o,h.get? b=some o->H b=none->b∈fs->b∉ex-> ∃ sl,h'.get? b=some {o with slots:=sl}
 free: ∀ b o,h.get? b=some o->H b=none->b∉ex->H' b=none
 there: ∀ b o,h.get? b=some o->b∉ex-> ∃ o',h'.get? b=some o'
 tups: ∀ b xs,H b=some (.tup xs)->H' b=some (.tup xs)
 frzs: ∀ b o u,H b=some (.frz o u)->H' b=some (.frz o u)
 tbls: ∀ b ps,H b=some (.tbl ps)-> ∃ more,H' b=some (.tbl (ps++more))
section
variable {fs fs' ex ex':List Addr} {H H1 H2:Hp} {h h1 h2 h':Heap} {a x e:Addr} {o:HO}
theorem Un.any (u:Un fs ex H H1 h h1) {b:Addr} {ob:Obj} (q:h.get? b=some ob) (n:H b=none) (hx:b∉ex): ∃ sl,h1.get? b=some {ob with slots:=sl}:=by
 by_cases hb:b∈fs
 ·exact u.slot b ob q n hb hx
 ·exact ⟨ob.slots,u.keep b ob q n hb hx⟩
theorem Un.trans (a:Un fs ex H H1 h h1) (b:Un fs ex H1 H2 h1 h2):Un fs ex H H2 h h2 where
 keep:=λc ob q n hc hx=>b.keep c ob (a.keep c ob q n hc hx) (a.free c ob q n hx) hc hx
 slot:=λc ob q n hc hx=>by
  obtain ⟨sl,e1⟩:=a.slot c ob q n hc hx
  obtain ⟨sl',e2⟩:=b.slot c _ e1 (a.free c ob q n hx) hc hx
  exact ⟨sl',e2⟩
 free:=λc ob q n hx=>by
  obtain ⟨o',e1⟩:=a.there c ob q hx
  exact b.free c o' e1 (a.free c ob q n hx) hx
 there:=λc ob q hx=>by
  obtain ⟨o',e1⟩:=a.there c ob q hx
  exact b.there c o' e1 hx
 tups:=λc xs q=>b.tups c xs (a.tups c xs q)
 frzs:=λc ob xs q=>b.frzs c ob xs (a.frzs c ob xs q)
 tbls:=λc ps q=>by
  obtain ⟨m1,e1⟩:=a.tbls c ps q
  obtain ⟨m2,e2⟩:=b.tbls c _ e1
  exact ⟨m1++m2,by rw [e2,Array.append_assoc]⟩
theorem Un.kept (k: ∀ b u,h.get? b=some u->h'.get? b=some u):Un fs ex H H h h':=
 ⟨λb ob q _ _ _=>k b ob q,λb ob q _ _ _=>⟨ob.slots,k b ob q⟩,λ_ _ _ n _=>n,λb ob q _=>⟨ob,k b ob q⟩,λ_ _ q=>q,λ_ _ _ q=>q,λ_ ps q=>⟨#[],by rw [q];simp⟩⟩
theorem Un.refl:Un fs ex H H h h:=Un.kept λ_ _ q=>q
theorem Un.laid (k: ∀ b u,h.get? b=some u->h'.get? b=some u) (hp:h.objs.size<=a) (hn:H a=none):Un fs ex H (upd H a o) h h' where
 keep:=λb u q _ _ _=>k b u q
 slot:=λb u q _ _ _=>⟨u.slots,k b u q⟩
 free:=λb u q n _=>by rw [zau (qaR (qaw (qaQ q) hp))];exact n
 there:=λb u q _=>⟨u,k b u q⟩
 tups:=λb xs q=>by rw [zau (zaF q hn)];exact q
 frzs:=λb u xs q=>by rw [zau (zaF q hn)];exact q
 tbls:=λb ps q=>⟨#[],by rw [zau (zaF q hn),q];simp⟩
theorem Un.write (mu:Mut (H x)) (he:e=x\/H e=some (.own x)) (k: ∀ b u,b≠e->h.get? b=some u->h'.get? b=some u) (heo: ∃ u,h'.get? e=some u):Un fs ex H (upd H x o) h h':=by
 have hx: ∀ b,H b=none->b≠x:=λb n z=>by subst z;rw [n] at mu;exact mu
 have hb: ∀ b,H b=none->b≠e:=λb n z=>by
  subst z
  rcases he with r | r
  ·exact hx b n r
  ·rw [n] at r;cases r
 have hm: ∀ b u,H b=some u-> ¬Mut (some u)->b≠x:=λb u q nm z=>by subst z;rw [q] at mu;exact nm mu
 refine ⟨λb u q n _ _=>k b u (hb b n) q,λb u q n _ _=>⟨u.slots,k b u (hb b n) q⟩,λb u q n _=>by rw [zau (hx b n)];exact n,λb u q _=> ?_,
   λb xs q=>by rw [zau (hm b _ q λz=>z)];exact q,λb u xs q=>by rw [zau (hm b _ q λz=>z)];exact q,λb ps q=>⟨#[],by rw [zau (hm b _ q λz=>z),q];simp⟩⟩
 by_cases hbe:b=e
 ·subst hbe;exact heo
 ·exact ⟨u,k b u hbe q⟩
end
def trk (h:Heap) (H:Hp):List Addr:=(List.range h.objs.size).filter λa=>(H a).isSome
def zlK (h:Heap) (H:Hp):Heap:=W.hideAll h (trk h H)
theorem zjv (h:Heap) (H:Hp):(zlK h H).objs.size=h.objs.size:=W.hideAll_size _ _
theorem zmE {h:Heap} {H:Hp} {b:Addr} {o:Obj} (e:h.get? b=some o) (n:H b=none):(zlK h H).get? b=some o:=
 W.hideAll_get _ e λhm=>by
  have q:(H b).isSome=true:=(mem_filter.mp hm).2
  rw [n] at q;simp at q
theorem zoC {h:Heap} {H:Hp} {b:Addr} {o:Obj} (e:(zlK h H).get? b=some o):h.get? b=some o/\H b=none:=by
 have e':h.get? b=some o:=W.of_hideAll (trk h H) e
 refine ⟨e',?_⟩
 cases q:H b with
 | none=>rfl
 | some x=>
  have hm:b∈trk h H:=mem_filter.mpr ⟨mem_range.mpr (qaQ e'),by simp [q]⟩
  have z:(zlK h H).get? b=none:=W.hideAll_none (trk h H) hm
  rw [z] at e;cases e
def zn0 (g h:Heap) (L:Addr):List (Addr×Obj):=(List.range h.objs.size).filterMap λa=>if a=L\/(g.get? a).isSome=true then none else (h.get? a).map λo=>(a,o)
def zaT (g h:Heap) (L d:Addr):List (Addr×Obj):=(zn0 g h L).filter λp=>decide (p.1≠d)
structure Mod (K:W.Frag) (mg:Str->Option Value) (base:Heap):Prop where
 kin:K.In base
 glob:base.Ns mainGlobals mg
 blt: ∃ mb,base.Ns builtinsNs mb/\ ∀ x:Str,x≠"__name__"->mb x=bootBuiltins x
 nolimit:base.NoLimit
structure Cx where
 prog:Program
 w:World
 K:W.Frag
 mg:Str->Option Value
 base:Heap
 A:Around
 N:List Str
 s₀:Shared
 H₀:Hp
 env:Env
 outer:List Env
 stack:List Env
 ex:List Addr
 fn:Str->Bool
 calm:Bool
 pn:List (Addr×Obj)
 xe:Value->Shared->Prop
def frs (l:List Env):List Addr:=l.filterMap (·.frame)
abbrev Cx.fs (X:Cx):List Addr:=frs X.outer
def Vis (sc:Scope) (x:Str):Prop:=sc.names.lookup x=some .local\/sc.names.lookup x=some .cell\/sc.names.lookup x=some .free
def Loc (sc:Scope) (x:Str):Prop:=sc.names.lookup x=some .local\/sc.names.lookup x=some .cell
def ztV (env:Env) (h:Heap) (m:Str->Option Value) (x:Str) (u:Value):Prop:=
 (env.kindOf x=some .local/\m x=some u)\/((env.kindOf x=some .cell\/env.kindOf x=some .free)/\ ∃ c,env.cells.lookup x=some c/\h.IsCell c (some u))
def zgq (A:Around) (H:Hp):Prop:=A.handled=none\/ ∃ a o cls head vs,A.handled=some (.ref a)/\H a=some (.frz o (.own 0))/\o.cls=cls/\o.dict=none/\o.data= .fields vs/\vs[2]? = some .none/\vs[1]? = some head
structure Cx.Ok (X:Cx):Prop where
 mod:Mod X.K X.mg X.base
 kind:X.env.scope.kind= .function
 glob:X.env.globals=mainGlobals
 blt:X.env.builtins=builtinsNs
 above:X.s₀.heap.objs.size<=X.env.locals
 inj: ∀ x y c,X.env.cells.lookup x=some c->X.env.cells.lookup y=some c->x=y
 has: ∀ x,(X.env.kindOf x=some .cell\/X.env.kindOf x=some .free)-> ∃ c,X.env.cells.lookup x=some c
 cab: ∀ x c,X.fn x=true->X.env.cells.lookup x=some c->X.s₀.heap.objs.size<=c
 hd:X.calm=true->X.A.handled=none
 hx:zgq X.A X.H₀
 frames:X.A.frames=some X.stack
 stk:X.stack=X.outer\/(X.stack=X.env::X.outer/\X.env.frame=some X.env.locals)
 exf: ∀ b∈X.ex,b≠X.env.locals/\ ∀ x c,X.env.cells.lookup x=some c->c≠b
 bs: ∀ b o,X.base.get? b=some o->X.s₀.heap.get? b=some o/\X.H₀ b=none
 bsz:X.base.objs.size<=X.s₀.heap.objs.size
 noex: ∀ b o,X.base.get? b=some o->b∉X.ex
 exfs: ∀ b∈X.ex,b∉X.fs
 funs:X.s₀.heap.FunFrames X.base X.outer
 frf: ∀ b∈X.fs,X.H₀ b=none
structure Inv (X:Cx) (pins:List (Addr×Obj)) (σ:List (Option V)) (H:Hp) (s:Shared):Prop where
 ok:X.Ok
 os:s.os=X.s₀.os
 bare:AllBare s.gens
 base:Un X.fs X.ex X.H₀ H X.s₀.heap s.heap
 loc: ∃ m,s.heap.Ns X.env.locals m/\ ∀ (i:Nat) (x:Str) (v:V),X.N[i]? = some x->σ[i]? = some (some v)->Vis X.env.scope x-> ∃ u,zbp v u/\ztV X.env s.heap m x u
 cell: ∀ x c,X.env.cells.lookup x=some c-> ∃ v,s.heap.IsCell c v
 free:H X.env.locals=none
 freeC: ∀ x c,X.env.cells.lookup x=some c->H c=none
 pin: ∀ p∈X.pn++pins,s.heap.get? p.1=some p.2/\H p.1=none/\p.1≠X.env.locals/\p.1∉X.fs/\ ∀ v,p.2.data≠ .cell v
 hok:HOk X.prog X.w H s.heap
 len:σ.length=X.N.length
section
variable {X:Cx} {pins:List (Addr×Obj)} {σ:List (Option V)} {H H':Hp} {s:Shared} {h':Heap}
theorem Cx.Ok.nofr (ok:X.Ok) {b:Addr} {o:Obj} (e:X.base.get? b=some o):b∉X.fs:=λhb=>by
 have:=(ok.funs.mem hb).1
 rw [e] at this;cases this
theorem Inv.bs (I:Inv X pins σ H s): ∀ b o,X.base.get? b=some o->s.heap.get? b=some o/\H b=none:=λb o e=>
 ⟨I.base.keep b o (I.ok.bs b o e).1 (I.ok.bs b o e).2 (I.ok.nofr e) (I.ok.noex b o e),I.base.free b o (I.ok.bs b o e).1 (I.ok.bs b o e).2 (I.ok.noex b o e)⟩
theorem Inv.bk (I:Inv X pins σ H s): ∀ b o,X.base.get? b=some o->s.heap.get? b=some o:=λb o e=>(I.bs b o e).1
theorem Inv.mod (I:Inv X pins σ H s):Mod X.K X.mg X.base:=I.ok.mod
theorem Inv.kIn (I:Inv X pins σ H s):X.K.In s.heap:=I.ok.mod.kin.keeps I.bk
theorem Inv.lt (I:Inv X pins σ H s):X.env.locals<s.heap.objs.size:=let ⟨_,hn,_⟩:=I.loc;hn.lt
theorem Inv.sz (I:Inv X pins σ H s):X.s₀.heap.objs.size<=s.heap.objs.size:=qaS I.ok.above (Nat.le_of_lt I.lt)
theorem Inv.nofs (I:Inv X pins σ H s) {a:Addr} (h:s.heap.objs.size<=a):a∉X.fs:=λhb=>by
 obtain ⟨_,o,ho,_⟩:=I.ok.funs.mem hb
 exact absurd (qaw (qaQ ho) (qaS I.sz h)) (qaN _)
theorem Inv.cne (I:Inv X pins σ H s): ∀ x c,X.env.cells.lookup x=some c->c≠X.env.locals:=λx c e z=>by
 obtain ⟨v,o,ho,hd⟩:=I.cell x c e
 obtain ⟨m,⟨o',es,ep,ho',hd',_⟩,_⟩:=I.loc
 rw [z,ho'] at ho;cases ho;rw [hd'] at hd;cases hd
theorem Inv.funs (I:Inv X pins σ H s):s.heap.FunFrames X.base X.outer:=by
 have all: ∀ (l:List Env),(∀ b∈frs l,b∈X.fs)->X.s₀.heap.FunFrames X.base l->s.heap.FunFrames X.base l:=by
  intro l
  induction l with
  | nil=>intro _ _;trivial
  | cons env r ih=>
   intro hs hl
   obtain ⟨hk,⟨L,o,hf,hn,ho,hd⟩,hr⟩:=hl
   have hL:L∈X.fs:=hs L (by unfold frs;rw [qat,hf];exact qau)
   obtain ⟨sl,e⟩:=I.base.slot L o ho (I.ok.frf L hL) hL λz=>I.ok.exfs L z hL
   exact ⟨hk,⟨L,_,hf,hn,e,hd⟩,ih (λb hb=>hs b (by unfold frs;rw [qat,hf];exact qan _ hb)) hr⟩
 exact all X.outer (λ_ hb=>hb) I.ok.funs
theorem Inv.stack (I:Inv X pins σ H s):s.heap.FunFrames X.base X.stack:=by
 rcases I.ok.stk with e | ⟨e,hf⟩
 ·rw [e];exact I.funs
 ·rw [e]
  obtain ⟨m,hn,_⟩:=I.loc
  refine .cons (by rw [I.ok.kind];decide) hf hn ?_ I.funs
  exact Heap.get?_none_of_le (qaS I.ok.bsz I.ok.above)
theorem Inv.stkSub (I:Inv X pins σ H s): ∀ b∈frs X.stack,b∈X.env.locals::X.fs:=λb hb=>by
 rcases I.ok.stk with e | ⟨e,hf⟩
 ·rw [e] at hb;exact qan _ hb
 ·rw [e] at hb
  unfold frs at hb
  rw [qat,hf] at hb
  exact hb
theorem Inv.stkFree (I:Inv X pins σ H s): ∀ b∈frs X.stack,H b=none:=λb hb=>by
 rcases qaP.mp (I.stkSub b hb) with e | hb
 ·rw [e];exact I.free
 ·obtain ⟨_,o,ho,_⟩:=I.ok.funs.mem hb
  exact I.base.free b o ho (I.ok.frf b hb) λz=>I.ok.exfs b z hb
theorem Inv.step {g':Array GenState} {t':Nat} {d':Drawn} {ch:List Addr} (I:Inv X pins σ H s)
  (hch: ∀ b∈ch,(b∈X.ex\/X.s₀.heap.objs.size<=b)/\b≠X.env.locals/\(∀ x c,X.env.cells.lookup x=some c->c≠b)/\ ∀ p∈X.pn++pins,p.1≠b)
  (keep: ∀ b o,b≠X.env.locals->b∉X.fs->b∉ch->s.heap.get? b=some o->H b=none->h'.get? b=some o)
  (slot: ∀ b o,b≠X.env.locals->b∈X.fs->b∉ch->s.heap.get? b=some o->H b=none-> ∃ sl,h'.get? b=some {o with slots:=sl}) (free: ∀ b o,b∉ch->s.heap.get? b=some o->H b=none->H' b=none)
  (there: ∀ b o,b∉ch->s.heap.get? b=some o-> ∃ o',h'.get? b=some o')
  (tups: ∀ b xs,H b=some (.tup xs)->H' b=some (.tup xs)) (frzs: ∀ b o u,H b=some (.frz o u)->H' b=some (.frz o u)) (tbls: ∀ b ps,H b=some (.tbl ps)-> ∃ more,H' b=some (.tbl (ps++more)))
  (ns: ∀ m,s.heap.Ns X.env.locals m->h'.Ns X.env.locals m) (hok:HOk X.prog X.w H' h') (hg:AllBare g'):
  Inv X pins σ H' {s with heap:=h',gens:=g',drawn:=d',toks:=t'}:=by
 have neL: ∀ b o,X.s₀.heap.get? b=some o->b≠X.env.locals:=λb o e=>qaR (qaw (qaQ e) I.ok.above)
 have neC: ∀ b o,X.s₀.heap.get? b=some o->b∉X.ex->b∉ch:=λb o e hx hb=>by
  rcases (hch b hb).1 with z | z
  ·exact hx z
  ·exact absurd (qaw (qaQ e) z) (qaN _)
 have cellK: ∀ x c,X.env.cells.lookup x=some c-> ∀ v,s.heap.IsCell c v->h'.IsCell c v:=λx c e v ⟨o,ho,hd⟩=>by
  have nch:c∉ch:=λz=>(hch c z).2.2.1 x c e rfl
  by_cases hc:c∈X.fs
  ·obtain ⟨sl,q⟩:=slot c o (I.cne x c e) hc nch ho (I.freeC x c e)
   exact ⟨_,q,hd⟩
  ·exact ⟨o,keep c o (I.cne x c e) hc nch ho (I.freeC x c e),hd⟩
 refine ⟨I.ok,I.os,hg,⟨λb o e n hb hx=> ?_,λb o e n hb hx=> ?_,λb o e n hx=> ?_,λb o e hx=> ?_,λb xs e=>tups b xs (I.base.tups b xs e),λb o xs e=>frzs b o xs (I.base.frzs b o xs e),λb ps e=> ?_⟩,?_,λx c e=> ?_,?_,λx c e=> ?_,λp hp=> ?_,hok,I.len⟩
 ·exact keep b o (neL b o e) hb (neC b o e hx) (I.base.keep b o e n hb hx) (I.base.free b o e n hx)
 ·obtain ⟨sl,e1⟩:=I.base.slot b o e n hb hx
  obtain ⟨sl',e2⟩:=slot b _ (neL b o e) hb (neC b o e hx) e1 (I.base.free b o e n hx)
  exact ⟨sl',e2⟩
 ·obtain ⟨o',e1⟩:=I.base.there b o e hx
  exact free b o' (neC b o e hx) e1 (I.base.free b o e n hx)
 ·obtain ⟨o',e1⟩:=I.base.there b o e hx
  exact there b o' (neC b o e hx) e1
 ·obtain ⟨m1,e1⟩:=I.base.tbls b ps e
  obtain ⟨m2,e2⟩:=tbls b _ e1
  exact ⟨m1++m2,by rw [e2,Array.append_assoc]⟩
 ·obtain ⟨m,hn,hl⟩:=I.loc
  refine ⟨m,ns m hn,λi x v e1 e2 e3=> ?_⟩
  obtain ⟨u,r,l⟩:=hl i x v e1 e2 e3
  refine ⟨u,r,?_⟩
  rcases l with l | ⟨k,c,e,z⟩
  ·exact .inl l
  ·exact .inr ⟨k,c,e,cellK x c e _ z⟩
 ·obtain ⟨v,z⟩:=I.cell x c e
  exact ⟨v,cellK x c e v z⟩
 ·obtain ⟨m,⟨o,_,_,ho,_⟩,_⟩:=I.loc
  exact free _ o (λz=>(hch _ z).2.1 rfl) ho I.free
 ·obtain ⟨v,o,ho,hd⟩:=I.cell x c e
  exact free c o (λz=>(hch c z).2.2.1 x c e rfl) ho (I.freeC x c e)
 ·obtain ⟨e,n,ne,nf,d⟩:=I.pin p hp
  have nch:p.1∉ch:=λz=>(hch p.1 z).2.2.2 p hp rfl
  exact ⟨keep p.1 p.2 ne nf nch e n,free p.1 p.2 nch e n,ne,nf,d⟩
theorem Inv.un {t':Nat} (I:Inv X pins σ H s) (u:Un X.fs [] H H' s.heap h') (hok:HOk X.prog X.w H' h'):Inv X pins σ H' {s with heap:=h',toks:=t'}:=by
 obtain ⟨m,⟨o,es,ep,ho,r⟩,_⟩:=id I.loc
 obtain ⟨sl,hL⟩:=u.any ho I.free (by simp)
 exact I.step (g':=s.gens) (d':=s.drawn) (ch:=[]) (λ_ z=>nomatch z) (λb o _ hb _ e n=>u.keep b o e n hb (by simp)) (λb o _ hb _ e n=>u.slot b o e n hb (by simp)) (λb o _ e n=>u.free b o e n (by simp)) (λb o _ e=>u.there b o e (by simp)) u.tups u.frzs u.tbls (λm' hm=>by
   obtain ⟨o',es',ep',ho',r'⟩:=hm
   rw [ho] at ho';cases ho'
   exact ⟨_,es',ep',hL,r'⟩) hok I.bare
theorem Inv.call {g':Array GenState} {t':Nat} {d':Drawn} {ch:List Addr} (I:Inv X pins σ H s) (u:Un (frs X.stack) ch H H' s.heap h') (hok:HOk X.prog X.w H' h') (hg:AllBare g')
  (hch: ∀ b∈ch,(b∈X.ex\/X.s₀.heap.objs.size<=b)/\b≠X.env.locals/\(∀ x c,X.env.cells.lookup x=some c->c≠b)/\ ∀ p∈X.pn++pins,p.1≠b):
  Inv X pins σ H' {s with heap:=h',gens:=g',drawn:=d',toks:=t'}:=by
 obtain ⟨m,⟨o,es,ep,ho,r⟩,_⟩:=id I.loc
 obtain ⟨sl,hL⟩:=u.any ho I.free λz=>(hch _ z).2.1 rfl
 exact I.step (ch:=ch) hch (λb o hL hb hc e n=>u.keep b o e n (λz=>(qaP.mp (I.stkSub b z)).elim hL hb) hc) (λb o _ _ hc e n=>u.any e n hc) (λb o hc e n=>u.free b o e n hc) (λb o hc e=>u.there b o e hc) u.tups u.frzs u.tbls (λm' hm=>by
   obtain ⟨o',es',ep',ho',r'⟩:=hm
   rw [ho] at ho';cases ho'
   exact ⟨_,es',ep',hL,r'⟩) hok hg
theorem Inv.turned {t':Nat} {it:Addr} (I:Inv X pins σ H s) (k: ∀ b o,b≠it->s.heap.get? b=some o->h'.get? b=some o) (hn:H it=none) (hL:it≠X.env.locals)
  (h1:it∈X.ex\/X.s₀.heap.objs.size<=it) (h2: ∀ x c,X.env.cells.lookup x=some c->c≠it) (h3: ∀ p∈X.pn++pins,p.1≠it):Inv X pins σ H {s with heap:=h',toks:=t'}:=by
 have nit: ∀ b u,H b=some u->b≠it:=λb u e z=>by rw [z,hn] at e;cases e
 refine I.step (g':=s.gens) (d':=s.drawn) (ch:=[it]) (λb hb=> ?_) (λb o _ _ hc e _=>k b o (λz=>hc (by simp [z])) e) (λb o _ _ hc e _=>⟨o.slots,k b o (λz=>hc (by simp [z])) e⟩) (λ_ _ _ _ n=>n)
  (λb o hc e=>⟨o,k b o (λz=>hc (by simp [z])) e⟩) (λ_ _ e=>e) (λ_ _ _ e=>e) (λb ps e=>⟨#[],by rw [e];simp⟩) (λm hm=> ?_) (λb u e=> ?_) I.bare
 ·have e:b=it:=by simpa using hb
  subst e
  exact ⟨h1,hL,h2,h3⟩
 ·obtain ⟨o,es,ep,ho,r⟩:=hm
  exact ⟨o,es,ep,k _ o (Ne.symm hL) ho,r⟩
 ·refine (I.hok b u e).stay (λc v hc q=>k c v ?_ q) (λ_ q=>q) λ_ _ q=>q
  rcases hc with z | z
  ·rw [z];exact nit b u e
  ·exact nit c _ z
theorem Inv.tok (I:Inv X pins σ H s) (t:Nat):Inv X pins σ H {s with toks:=t}:=I.un (h':=s.heap) (t':=t) Un.refl I.hok
theorem Inv.kept {t':Nat} (I:Inv X pins σ H s) (k: ∀ b u,s.heap.get? b=some u->h'.get? b=some u):Inv X pins σ H {s with heap:=h',toks:=t'}:=I.un (Un.kept k) (I.hok.kept k)
theorem Inv.laid {a:Addr} {o:HO} {t':Nat} (I:Inv X pins σ H s) (k: ∀ b u,s.heap.get? b=some u->h'.get? b=some u) (hp:s.heap.objs.size<=a) (new:zbB X.prog X.w (upd H a o) h' a o):
  Inv X pins σ (upd H a o) {s with heap:=h',toks:=t'}:=I.un (Un.laid k hp (I.hok.fresh hp)) (I.hok.laid k hp new)
theorem Inv.write {x e:Addr} {o:HO} {t':Nat} (I:Inv X pins σ H s) (mu:Mut (H x)) (he:e=x\/H e=some (.own x)) (k: ∀ b u,b≠e->s.heap.get? b=some u->h'.get? b=some u) (heo: ∃ u,h'.get? e=some u)
  (new:zbB X.prog X.w (upd H x o) h' x o):Inv X pins σ (upd H x o) {s with heap:=h',toks:=t'}:=I.un (Un.write mu he k heo) (I.hok.write mu he k heo new)
theorem Inv.pins_of {pins':List (Addr×Obj)} (I:Inv X pins σ H s) (h: ∀ p∈pins',s.heap.get? p.1=some p.2/\H p.1=none/\p.1≠X.env.locals/\p.1∉X.fs/\ ∀ v,p.2.data≠ .cell v):Inv X pins' σ H s:=
 ⟨I.ok,I.os,I.bare,I.base,I.loc,I.cell,I.free,I.freeC,λp hp=>(qaK.mp hp).elim (λz=>I.pin p (List.mem_append_left _ z)) (h p),I.hok,I.len⟩
theorem zh0 {N:List Str} (hN:N.Nodup) {i j:Nat} {x:Str} (a:N[i]? = some x) (b:N[j]? = some x):i=j:=by
 obtain ⟨h1,e1⟩:=qac.mp a
 obtain ⟨h2,e2⟩:=qac.mp b
 exact (List.getElem_inj hN).mp (e1.trans e2.symm)
theorem zkT {M:Model} {A:Around} {E:Value->Shared->Prop} {i:Nat} {x:Str} {v:V} {u:Value} {Q:Unit->Shared->Prop} (I:Inv X pins σ H s) (hN:X.N.Nodup) (hi:X.N[i]? = some x) (hx:Loc X.env.scope x) (r:zbp v u)
  (h: ∀ s',Inv X pins (σ.set i (some v)) H s'->(∃ a,Heap.SameBut a s.heap s'.heap/\(a=X.env.locals\/X.env.cells.lookup x=some a))->Q () s') (hf:X.fn x=true\/X.env.scope.names.lookup x=some .local:=by first | exact .inl rfl | exact .inr rfl | assumption):wpAny M A (storeName X.env x u) Q E s:=by
 obtain ⟨m,hn,hl⟩:=id I.loc
 have hcls:(X.env.scope.kind== .class || (X.env.scope.kind== .module && X.env.locals != X.env.globals))=false:=by rw [I.ok.kind];rfl
 have hiσ:i<σ.length:=by rw [I.len];exact (qac.mp hi).1
 have cne:=I.cne
 have tracked: ∀ {a:Addr} {h':Heap},(∃ o,s.heap.get? a=some o/\H a=none)->Heap.SameBut a s.heap h'->HOk X.prog X.w H h':=λ{a h'} ha hs b ob e=>by
  obtain ⟨_,_,hfree⟩:=ha
  refine (I.hok b ob e).stay (λc w' hc q=>(hs.2 c ?_).trans q) (λ_ q=>q) λ_ _ q=>q
  rintro rfl
  rcases hc with rfl | hc
  ·rw [hfree] at e;cases e
  ·rw [hfree] at hc;cases hc
 rcases hx with hk | hk
 ·refine wpAny_storeName_local hk hn (λh' hn' hs=> ?_) hcls
  obtain ⟨oL,_,_,hoL,_⟩:=id hn
  refine h _ ⟨I.ok,I.os,I.bare,⟨λb o e n hb hx=> ?_,λb o e n hb hx=> ?_,I.base.free,λb o e hx=> ?_,I.base.tups,I.base.frzs,I.base.tbls⟩,⟨_,hn',λj y v' e1 e2 e3=> ?_⟩,λy c e=> ?_,I.free,I.freeC,λp hp=> ?_,tracked ⟨oL,hoL,I.free⟩ hs,by simpa using I.len⟩ ⟨_,hs,.inl rfl⟩
  ·exact (hs.2 b (qaR (qaw (qaQ e) I.ok.above))).trans (I.base.keep b o e n hb hx)
  ·obtain ⟨sl,e1⟩:=I.base.slot b o e n hb hx
   exact ⟨sl,(hs.2 b (qaR (qaw (qaQ e) I.ok.above))).trans e1⟩
  ·obtain ⟨o',e1⟩:=I.base.there b o e hx
   exact ⟨o',(hs.2 b (qaR (qaw (qaQ e) I.ok.above))).trans e1⟩
  ·by_cases hj:j=i
   ·subst hj
    rw [hi] at e1;cases e1
    rw [qai hiσ] at e2
    cases e2
    exact ⟨u,r,.inl ⟨hk,by simp⟩⟩
   ·rw [qao (Ne.symm hj)] at e2
    obtain ⟨u',r',q⟩:=hl j y v' e1 e2 e3
    refine ⟨u',r',?_⟩
    rcases q with ⟨k,e⟩ | ⟨k,c,e,z⟩
    ·refine .inl ⟨k,?_⟩
     have:y≠x:=λe=>hj (zh0 hN e1 (e▸hi))
     simp [this,e]
    ·exact .inr ⟨k,c,e,z.sameBut hs (cne y c e)⟩
  ·obtain ⟨w',z⟩:=I.cell y c e
   exact ⟨w',z.sameBut hs (cne y c e)⟩
  ·obtain ⟨e,n,ne,nf,d⟩:=I.pin p hp
   exact ⟨(hs.2 p.1 ne).trans e,n,ne,nf,d⟩
 ·have hfn:X.fn x=true:=by
   rcases hf with z | z
   ·exact z
   ·rw [z] at hk;cases hk
  obtain ⟨c,hc⟩:=I.ok.has x (.inl hk)
  obtain ⟨w',z⟩:=I.cell x c hc
  refine wpAny_storeName_cell I.ok.kind hk hc z (λh' hc' hs=> ?_)
  obtain ⟨oc,hoc,hocd⟩:=id z
  refine h {s with heap:=h'} ⟨I.ok,I.os,I.bare,⟨λb o e n hb hx=> ?_,λb o e n hb hx=> ?_,I.base.free,λb o e hx=> ?_,I.base.tups,I.base.frzs,I.base.tbls⟩,⟨m,hn.sameBut hs (Ne.symm (cne x c hc)),λj y v' e1 e2 e3=> ?_⟩,λy c' e=> ?_,I.free,I.freeC,λp hp=> ?_,tracked ⟨oc,hoc,I.freeC x c hc⟩ hs,by simpa using I.len⟩ ⟨c,hs,.inr hc⟩
  ·exact (hs.2 b (qaR (qaw (qaQ e) (I.ok.cab x c hfn hc)))).trans (I.base.keep b o e n hb hx)
  ·obtain ⟨sl,e1⟩:=I.base.slot b o e n hb hx
   exact ⟨sl,(hs.2 b (qaR (qaw (qaQ e) (I.ok.cab x c hfn hc)))).trans e1⟩
  ·obtain ⟨o',e1⟩:=I.base.there b o e hx
   exact ⟨o',(hs.2 b (qaR (qaw (qaQ e) (I.ok.cab x c hfn hc)))).trans e1⟩
  ·by_cases hj:j=i
   ·subst hj
    rw [hi] at e1;cases e1
    rw [qai hiσ] at e2
    cases e2
    exact ⟨u,r,.inr ⟨.inl hk,c,hc,hc'⟩⟩
   ·rw [qao (Ne.symm hj)] at e2
    obtain ⟨u',r',q⟩:=hl j y v' e1 e2 e3
    refine ⟨u',r',?_⟩
    rcases q with q | ⟨k,c',e,z'⟩
    ·exact .inl q
    ·refine .inr ⟨k,c',e,z'.sameBut hs ?_⟩
     rintro rfl
     exact hj (zh0 hN e1 (I.ok.inj _ _ _ e hc▸hi))
  ·by_cases hcc:c'=c
   ·subst hcc;exact ⟨_,hc'⟩
   ·obtain ⟨w2,z2⟩:=I.cell y c' e
    exact ⟨w2,z2.sameBut hs hcc⟩
  ·obtain ⟨e,n,ne,nf,d⟩:=I.pin p hp
   refine ⟨(hs.2 p.1 ?_).trans e,n,ne,nf,d⟩
   intro q
   rw [q,hoc] at e
   have q':oc=p.2:=Option.some.inj e
   exact d w' (by rw [<- q'];exact hocd)
theorem zfH {M:Model} {A:Around} {E:Value->Shared->Prop} {i:Nat} {x:Str} {v:V} {u:Value} {Q:Unit->Shared->Prop} (I:Inv X pins σ H s) (hN:X.N.Nodup) (hi:X.N[i]? = some x) (hx:Loc X.env.scope x) (r:zbp v u)
  (h: ∀ s',Inv X pins (σ.set i (some v)) H s'->Q () s') (hf:X.fn x=true\/X.env.scope.names.lookup x=some .local:=by first | exact .inl rfl | exact .inr rfl | assumption):wpAny M A (storeName X.env x u) Q E s:=
 zkT I hN hi hx r (λs' I' _=>h s' I') hf
theorem Inv.call' {s':Shared} {ch:List Addr} (I:Inv X pins σ H s) (ho:s'.os=s.os) (u:Un (frs X.stack) ch H H' s.heap s'.heap) (hok:HOk X.prog X.w H' s'.heap) (hg:AllBare s'.gens)
  (hch: ∀ b∈ch,(b∈X.ex\/X.s₀.heap.objs.size<=b)/\b≠X.env.locals/\(∀ x c,X.env.cells.lookup x=some c->c≠b)/\ ∀ p∈X.pn++pins,p.1≠b):Inv X pins σ H' s':=by
 obtain ⟨h',g',d',t',o'⟩:=s'
 have e:o'=s.os:=ho
 subst e
 exact I.call (g':=g') (t':=t') (d':=d') u hok hg hch
end
abbrev XK:=Value->Option Addr->Hp->Prop
abbrev St:=List (Option V)
abbrev VK:=V->Hp->Prop
abbrev TE:=St->Hp->VK->Prop
abbrev TT:=St->Hp->(Bool->Hp->Prop)->Prop
abbrev TA:=St->Hp->(List V->Hp->Prop)->Prop
structure zpv where
 nx:St->Hp->Prop
 rt:VK
 bk:St->Hp->Prop:=λ_ _=>False
 ct:St->Hp->Prop:=λ_ _=>False
abbrev TS:=zpv->St->Hp->Prop
def EP (X:Cx) (pins:List (Addr×Obj)) (σ:St) (Q:VK) (u:Value) (s':Shared):Prop:= ∃ v H',Inv X pins σ H' s'/\zbp v u/\Q v H'
def TP (X:Cx) (pins:List (Addr×Obj)) (σ:St) (Q:Bool->Hp->Prop) (b:Bool) (s':Shared):Prop:= ∃ H',Inv X pins σ H' s'/\Q b H'
def AP (X:Cx) (pins:List (Addr×Obj)) (σ:St) (Q:List V->Hp->Prop) (us:List Value) (s':Shared):Prop:= ∃ vs H',Inv X pins σ H' s'/\zaS vs us/\Q vs H'
def SP (X:Cx) (pins:List (Addr×Obj)) (D:zpv) (f:Flow) (s':Shared):Prop:=
 match f with
 | .next=> ∃ σ' H',Inv X pins σ' H' s'/\D.nx σ' H'
 | .brk=> ∃ σ' H',Inv X pins σ' H' s'/\D.bk σ' H'
 | .cont=> ∃ σ' H',Inv X pins σ' H' s'/\D.ct σ' H'
 | .ret u=> ∃ v σ' H',Inv X pins σ' H' s'/\zbp v u/\D.rt v H'
def PE (X:Cx) (e:Expr) (t:TE):Prop:=
 ∀ (pins:List (Addr×Obj)) (s:Shared) (σ:St) (H:Hp) (Q:VK),Inv X pins σ H s->t σ H Q->wpAny (model X.prog X.w) X.A (eval e X.env) (EP X pins σ Q) X.xe s
def PT (X:Cx) (e:Expr) (t:TT):Prop:=
 ∀ (pins:List (Addr×Obj)) (s:Shared) (σ:St) (H:Hp) (Q:Bool->Hp->Prop),Inv X pins σ H s->t σ H Q->wpAny (model X.prog X.w) X.A (isTrue e X.env (eval e X.env)) (TP X pins σ Q) X.xe s
def PW (X:Cx) (e:Expr) (t:TT):Prop:=
 ∀ (whole:Sem Value) (pins:List (Addr×Obj)) (s:Shared) (σ:St) (H:Hp) (Q:Bool->Hp->Prop),Inv X pins σ H s->t σ H Q->wpAny (model X.prog X.w) X.A (isTrue e X.env whole) (TP X pins σ Q) X.xe s
theorem PW.pt {X:Cx} {e:Expr} {t:TT} (h:PW X e t):PT X e t:=h _
def PA (X:Cx) (es:List Expr) (t:TA):Prop:=
 ∀ (pos:Pos) (pins:List (Addr×Obj)) (s:Shared) (σ:St) (H:Hp) (Q:List V->Hp->Prop),Inv X pins σ H s->t σ H Q->wpAny (model X.prog X.w) X.A (spliced (backTo pos (starEach es X.env))) (AP X pins σ Q) X.xe s
def PS (X:Cx) (st:Stmt) (t:TS):Prop:=
 ∀ (pins:List (Addr×Obj)) (s:Shared) (σ:St) (H:Hp) (D:zpv),Inv X pins σ H s->t D σ H->wpAny (model X.prog X.w) X.A (exec st X.env) (SP X pins D) X.xe s
def PSs (X:Cx) (st:List Stmt) (t:TS):Prop:=
 ∀ (pins:List (Addr×Obj)) (s:Shared) (σ:St) (H:Hp) (D:zpv),Inv X pins σ H s->t D σ H->wpAny (model X.prog X.w) X.A (execs st X.env) (SP X pins D) X.xe s
theorem thn {α:Type} {t:Sem α} {Q Q':α->Shared->Prop} {M:Model} {A:Around} {E:Value->Shared->Prop} {s:Shared} (h:wpAny M A t Q E s) (hQ: ∀ a s,Q a s->Q' a s):wpAny M A t Q' E s:=qaZ h hQ λ_ _ x=>x
section
variable {X:Cx}
def ztJ (i:Nat):TE:=λσ H Q=> ∃ v,σ[i]? = some (some v)/\Q v H
def tC (v:V):TE:=λ_ H Q=>Q v H
theorem znm {i:Nat} {x:Str} {pos:Pos} (hN:X.N[i]? = some x) (hv:Vis X.env.scope x) (hd:(x==("__debug__":Str))=false:=by decide) (hcd:(x==("__classdict__":Str))=false:=by decide):PE X (.Name x pos) (ztJ i):=by
 intro pins s σ H Q I h
 obtain ⟨v,e,h⟩:=h
 obtain ⟨m,hn,hl⟩:=I.loc
 obtain ⟨u,r,l⟩:=hl i x v hN e hv
 have fin:EP X pins σ Q u s:=⟨v,H,I,r,h⟩
 rcases l with ⟨hk,hm⟩ | ⟨hk,c,hc,hcell⟩
 ·exact wpAny_Name (wpAny_loadName_local I.ok.kind hk hn hm fin) hd
 ·rcases hk with hk | hk
  ·exact wpAny_Name (wpAny_loadName_cell I.ok.kind hk hc hcell fin) hd
  ·exact wpAny_Name (wpAny_loadName_free I.ok.kind hk hc hcell fin hcd) hd
theorem zrk {i j pos}:PE X (.Constant (.int i) j pos) (tC (.int i)):=λ_ _ _ H _ I h=>wpAny_Constant_int ⟨.int i,H,I.tok _,⟨_,rfl⟩,h⟩
theorem zsH {b j pos}:PE X (.Constant (.bool b) j pos) (tC (.bl b)):=λ_ _ _ H _ I h=>Constant_bool ⟨.bl b,H,I,rfl,h⟩
theorem zp1 {j pos}:PE X (.Constant .none j pos) (tC .non):=λ_ _ _ H _ I h=>Constant_none ⟨.non,H,I,rfl,h⟩
def Gl (X:Cx) (x:Str):Prop:=X.env.kindOf x=some .globalImplicit
theorem znL {E:Value->Shared->Prop} {pins:List (Addr×Obj)} {s:Shared} {σ:St} {H:Hp} {x:Str} {u:Value} {pos:Pos} {Q:Value->Shared->Prop} (I:Inv X pins σ H s) (hg:Gl X x) (hm:X.mg x=some u) (h:Q u s)
  (hd:(x==("__debug__":Str))=false:=by decide):wpAny (model X.prog X.w) X.A (eval (.Name x pos) X.env) Q E s:=
 Calls.Name_function_global I.ok.kind hg (Calls.loadGlobal_global (by rw [I.ok.glob];exact I.mod.glob.keeps I.bk) hm h) hd
theorem zg4 {E:Value->Shared->Prop} {pins:List (Addr×Obj)} {s:Shared} {σ:St} {H:Hp} {x:Str} {u:Value} {pos:Pos} {Q:Value->Shared->Prop} (I:Inv X pins σ H s) (hg:Gl X x) (hm:X.mg x=none) (hv:bootBuiltins x=some u) (h:Q u s)
  (hn:x≠"__name__":=by decide) (hd:(x==("__debug__":Str))=false:=by decide):wpAny (model X.prog X.w) X.A (eval (.Name x pos) X.env) Q E s:=by
 obtain ⟨mb,h1,h2⟩:=I.mod.blt
 exact Calls.Name_function_global I.ok.kind hg (Calls.loadGlobal_builtin (by rw [I.ok.glob];exact I.mod.glob.keeps I.bk) hm (by rw [I.ok.blt];exact h1.keeps I.bk) ((h2 x hn).trans hv) h) hd
theorem zoF {x:Str} {v:V} {u:Value} {pos:Pos} (hg:Gl X x) (hm:X.mg x=none) (hv:bootBuiltins x=some u) (r:zbp v u) (hn:x≠"__name__":=by decide) (hd:(x==("__debug__":Str))=false:=by decide):PE X (.Name x pos) (tC v):=
 λ_ _ _ H _ I h=>zg4 I hg hm hv ⟨v,H,I,r,h⟩ hn hd
def t2I (ta tb:TE) (k:Int->Int->Hp->Prop):St->Hp->Prop:=λσ H=>ta σ H λx H1=>tb σ H1 λy H2=> ∃ i j,x= .int i/\y= .int j/\k i j H2
variable {a b:Expr} {ta tb:TE} {pos:Pos}
def zcm (p:Int->Int->Bool) (ta tb:TE):TE:=λσ H Q=>t2I ta tb (λi j H2=>Q (.bl (p i j)) H2) σ H
def tB (t:TE):TT:=λσ H Q=>t σ H λx H1=> ∃ c,x= .bl c/\Q c H1
theorem zpT {e:Expr} {t:TE} (h:PE X e t) (he: ∀ whole,isTrue e X.env whole=(do let v<-whole;standAt e.pos;holding [v] (truthy v)):=by intro _;rfl):PT X e (tB t):=by
 intro pins s σ H Q I hw
 refine isTrue_plain (thn (h pins s σ H _ I hw) λv s1 ⟨x,H1,I1,r1,q1⟩=> ?_) (he _)
 obtain ⟨d,rfl,q⟩:=q1
 cases r1
 exact wpAny_truthy_bool ⟨H1,I1,q⟩
variable {tA tB':TT} {zaT:List Expr}
def zok (t u:TT):TT:=λσ H Q=>t σ H λc H1=>if c=true then u σ H1 Q else Q false H1
def tOr (t u:TT):TT:=λσ H Q=>t σ H λc H1=>if c=true then Q true H1 else u σ H1 Q
def ziu (t:TT):TT:=λσ H Q=>t σ H λc H1=>Q (!c) H1
theorem pw_and1 (ha:PT X a tA):PW X (.BoolOp .And [a] pos) tA:=by
 intro wh pins s σ H Q I h
 refine isTrue_and (thn (ha pins s σ H Q I h) λc s1 e=> ?_)
 cases c with
 | true=>exact isTrue_and_nil e
 | false=>exact e
theorem pw_or1 (ha:PT X a tA):PW X (.BoolOp .Or [a] pos) tA:=by
 intro wh pins s σ H Q I h
 refine isTrue_or (thn (ha pins s σ H Q I h) λc s1 e=> ?_)
 cases c with
 | false=>exact isTrue_or_nil e
 | true=>exact e
theorem pw_and (ha:PT X a tA) (hb:PW X (.BoolOp .And (b::zaT) pos) tB'):PW X (.BoolOp .And (a::b::zaT) pos) (zok tA tB'):=by
 intro wh pins s σ H Q I h
 refine isTrue_and (thn (ha pins s σ H _ I h) λc s1 ⟨H1,I1,q1⟩=> ?_)
 cases c with
 | true=>exact hb wh pins s1 σ H1 Q I1 q1
 | false=>exact ⟨H1,I1,q1⟩
theorem pw_or (ha:PT X a tA) (hb:PW X (.BoolOp .Or (b::zaT) pos) tB'):PW X (.BoolOp .Or (a::b::zaT) pos) (tOr tA tB'):=by
 intro wh pins s σ H Q I h
 refine isTrue_or (thn (ha pins s σ H _ I h) λc s1 ⟨H1,I1,q1⟩=> ?_)
 cases c with
 | true=>exact ⟨H1,I1,q1⟩
 | false=>exact hb wh pins s1 σ H1 Q I1 q1
theorem zpJ (ha:PT X a tA):PT X (.UnaryOp .Not a pos) (ziu tA):=by
 intro pins s σ H Q I h
 exact isTrue_not (ha pins s σ H (λc H1=>Q (!c) H1) I h)
def zsN (ta tb:TE):TE:=λσ H Q=>ta σ H λx H1=> ∃ c,x= .bl c/\if c=true then tb σ H1 Q else Q (.bl false) H1
def zti (ta:TE):TE:=λσ H Q=>ta σ H λx H1=> ∃ c,x= .bl c/\Q (.bl (!c)) H1
theorem zp0 {op} {t:TE} (h:PE X a t):PE X (.BoolOp op [a] pos) t:=λpins s σ H Q I hw=>BoolOp_one (h pins s σ H Q I hw)
theorem zrH (ha:PE X a ta) (hb:PE X (.BoolOp .And (b::zaT) pos) tb):PE X (.BoolOp .And (a::b::zaT) pos) (zsN ta tb):=by
 intro pins s σ H Q I h
 refine BoolOp_and (thn (ha pins s σ H _ I h) λv s1 ⟨x,H1,I1,r1,q1⟩=> ?_)
 obtain ⟨c,rfl,q1⟩:=q1
 cases r1
 refine wpAny_truthy_bool ?_
 cases c with
 | true=>exact hb pins s1 σ H1 Q I1 q1
 | false=>exact ⟨.bl false,H1,I1,rfl,q1⟩
theorem zrG (ha:PE X a ta):PE X (.UnaryOp .Not a pos) (zti ta):=by
 intro pins s σ H Q I h
 refine UnaryOp_ (thn (ha pins s σ H _ I h) λv s1 ⟨x,H1,I1,r1,q1⟩=> ?_)
 obtain ⟨c,rfl,q1⟩:=q1
 cases r1
 exact not_of (wpAny_truthy_bool ⟨.bl (!c),H1,I1,rfl,q1⟩)
def tIf (t:TT) (ta tb:TE):TE:=λσ H Q=>t σ H λc H1=>if c=true then ta σ H1 Q else tb σ H1 Q
theorem zmx {c:Expr} (hc:PT X c tA) (ha:PE X a ta) (hb:PE X b tb):PE X (.IfExp c a b pos) (tIf tA ta tb):=by
 intro pins s σ H Q I h
 refine wpAny_IfExp (thn (hc pins s σ H _ I h) λd s1 ⟨H1,I1,q1⟩=> ?_)
 cases d with
 | true=>exact ha pins s1 σ H1 Q I1 q1
 | false=>exact hb pins s1 σ H1 Q I1 q1
end
def SqL (K:W.Frag) (H:Hp) (a:Addr) (xs:List V):Prop:=
 Rd H a (.lst xs)\/
  ∃ (o:Obj) (its:Array Value) (n:Nat),K.lookup a=some o/\o.cls= .type "list"/\o.dict=none/\o.data= .seq its n/\its.size<=sizeLine/\zaS xs its.toList
def SqT (K:W.Frag) (H:Hp) (a:Addr) (xs:List V):Prop:=
 Rd H a (.tup xs)\/
  ∃ (o:Obj) (its:Array Value) (n:Nat),K.lookup a=some o/\o.cls= .type "tuple"/\o.dict=none/\o.data= .seq its n/\its.size<=sizeLine/\zaS xs its.toList
def zug:Value->Option V
 | .none=>some .non
 | .bool b=>some (.bl b)
 | .int i _=>some (.int i)
 | .str x _=>some (.str x)
 | .bytes b _=>some (.byt b)
 | .float b _=>some (.flt b)
 | .ref a=>some (.ref a)
 | .type n=>some (.ty n)
 | _=>none
theorem zbp.abs {x:V} {u:Value} (r:zbp x u):zug u=some x:=by
 cases x with
 | non=>cases r;rfl
 | bl _=>cases r;rfl
 | int _=>obtain ⟨t,rfl⟩:=r;rfl
 | str _=>obtain ⟨t,rfl⟩:=r;rfl
 | byt _=>obtain ⟨t,rfl⟩:=r;rfl
 | flt _=>obtain ⟨t,rfl⟩:=r;rfl
 | ref _=>cases r;rfl
 | ty _=>cases r;rfl
theorem zbp.inj {x y:V} {u:Value} (r:zbp x u) (q:zbp y u):x=y:=Option.some.inj (r.abs.symm.trans q.abs)
theorem zaS.inj: ∀ {xs ys:List V} {us:List Value},zaS xs us->zaS ys us->xs=ys
 | _,_,_,.nil,.nil=>rfl
 | _,_,_,.cons r t,.cons r' t'=>by rw [r.inj r',zaS.inj t t']
section
variable {X:Cx} {pins:List (Addr×Obj)} {σ:St} {H:Hp} {s:Shared} {a:Addr} {xs ys:List V}
theorem SqL.of {K:W.Frag} (h:H a=some (.lst xs)):SqL K H a xs:= .inl (.inl h)
theorem Inv.list (I:Inv X pins σ H s) (h:SqL X.K H a xs): ∃ its:List Value,zaS xs its/\PlainL s.heap a its.toArray/\xs.length<=sizeLine:=by
 rcases h with h | ⟨o,its,n,hk,hc,hd,hs,hz,r⟩
 ·obtain ⟨z,its,n,r,e⟩:=h.ok I.hok
  exact ⟨its,r,⟨_,n,e,rfl,rfl,rfl⟩,z⟩
 ·refine ⟨its.toList,r,⟨o,n,I.kIn a o hk,hc,hd,by simpa using hs⟩,?_⟩
  have e:=r.length
  simp only [qas] at e
  omega
theorem Inv.tupleD (I:Inv X pins σ H s) (h:SqT X.K H a xs): ∃ its:List Value,zaS xs its/\zjL s.heap a its.toArray/\xs.length<=sizeLine:=by
 rcases h with h | ⟨o,its,n,hk,hc,hd,hs,hz,r⟩
 ·obtain ⟨z,its,r,p⟩:=h.ok I.hok
  exact ⟨its,r,p,z⟩
 ·refine ⟨its.toList,r,⟨o,I.kIn a o hk,hc,n,by simpa using hs,hd⟩,?_⟩
  have e:=r.length
  simp only [qas] at e
  omega
theorem Inv.tuple (I:Inv X pins σ H s) (h:SqT X.K H a xs): ∃ its:List Value,zaS xs its/\IsTup s.heap a its.toArray/\xs.length<=sizeLine:=by
 obtain ⟨its,r,p,z⟩:=I.tupleD h
 exact ⟨its,r,p.is,z⟩
theorem Inv.list_inj (I:Inv X pins σ H s) (h:SqL X.K H a xs) (h':SqL X.K H a ys):xs=ys:=by
 obtain ⟨its,r,⟨o,n,e,_,_,d⟩,_⟩:=I.list h
 obtain ⟨its',r',⟨o',n',e',_,_,d'⟩,_⟩:=I.list h'
 rw [e] at e';cases e'
 rw [d] at d'
 injection d' with d1 _
 have:its=its':=by simpa using congrArg Array.toList d1
 subst this
 exact r.inj r'
theorem Inv.tuple_inj (I:Inv X pins σ H s) (h:SqT X.K H a xs) (h':SqT X.K H a ys):xs=ys:=by
 obtain ⟨its,r,⟨o,e,_,n,d⟩,_⟩:=I.tuple h
 obtain ⟨its',r',⟨o',e',_,n',d'⟩,_⟩:=I.tuple h'
 rw [e] at e';cases e'
 rw [d] at d'
 injection d' with d1 _
 have:its=its':=by simpa using congrArg Array.toList d1
 subst this
 exact r.inj r'
end
abbrev Cx.wish (X:Cx) (E:Value->Shared->Prop):Cx:={X with xe:=E}
abbrev Cx.nox (X:Cx):Cx:=X.wish λ_ _=>False
theorem Cx.Ok.wish {X:Cx} (ok:X.Ok) (E:Value->Shared->Prop):(X.wish E).Ok:=
 ⟨ok.mod,ok.kind,ok.glob,ok.blt,ok.above,ok.inj,ok.has,ok.cab,ok.hd,ok.hx,ok.frames,ok.stk,ok.exf,ok.bs,ok.bsz,ok.noex,ok.exfs,ok.funs,ok.frf⟩
theorem Cx.Ok.unwish {X:Cx} {E:Value->Shared->Prop} (ok:(X.wish E).Ok):X.Ok:=
 ⟨ok.mod,ok.kind,ok.glob,ok.blt,ok.above,ok.inj,ok.has,ok.cab,ok.hd,ok.hx,ok.frames,ok.stk,ok.exf,ok.bs,ok.bsz,ok.noex,ok.exfs,ok.funs,ok.frf⟩
section
variable {X:Cx} {pins:List (Addr×Obj)} {σ:St} {H:Hp} {s:Shared} {E:Value->Shared->Prop}
theorem Inv.wish (I:Inv X pins σ H s) (E:Value->Shared->Prop):Inv (X.wish E) pins σ H s:=⟨I.ok.wish E,I.os,I.bare,I.base,I.loc,I.cell,I.free,I.freeC,I.pin,I.hok,I.len⟩
theorem Inv.unwish (I:Inv (X.wish E) pins σ H s):Inv X pins σ H s:=⟨I.ok.unwish,I.os,I.bare,I.base,I.loc,I.cell,I.free,I.freeC,I.pin,I.hok,I.len⟩
theorem SP.unwish {D:zpv} {f:Flow} {s':Shared} (h:SP (X.wish E) pins D f s'):SP X pins D f s':=by
 cases f with
 | next=>obtain ⟨σ',H',I,q⟩:=h;exact ⟨σ',H',I.unwish,q⟩
 | brk=>obtain ⟨σ',H',I,q⟩:=h;exact ⟨σ',H',I.unwish,q⟩
 | cont=>obtain ⟨σ',H',I,q⟩:=h;exact ⟨σ',H',I.unwish,q⟩
 | ret u=>obtain ⟨v,σ',H',I,r,q⟩:=h;exact ⟨v,σ',H',I.unwish,r,q⟩
theorem PSs.nox {st:List Stmt} {t:TS} (h:PSs X.nox st t):PSs X st t:=λpins s σ H D I hw=>
 qaZ (h pins s σ H D (I.wish _) hw) (λ_ _ q=>q.unwish) λ_ _ z=>qa0 z
end
section
variable {X:Cx} {st:Stmt} {zaT:List Stmt} {t u:TS} {e:Expr} {te:TE} {pos:Pos}
def zsC:TS:=λD σ H=>D.nx σ H
def zt9 (t u:TS):TS:=λD σ H=>t {D with nx:=u D} σ H
theorem zpe:PSs X [] zsC:=λ_ _ σ H _ I h=>wpAny_execs_nil ⟨σ,H,I,h⟩
theorem zlO (h1:PS X st t) (h2:PSs X zaT u):PSs X (st::zaT) (zt9 t u):=by
 intro pins s σ H D I h
 refine wpAny_execs_cons (thn (h1 pins s σ H {D with nx:=u D} I h) λf s1 q=> ?_)
 cases f with
 | next=>
  obtain ⟨σ',H',I',q⟩:=q
  exact h2 pins s1 σ' H' D I' q
 | ret v=>exact q
 | brk=>exact q
 | cont=>exact q
theorem zop (h1:PS X st t):PSs X [st] t:=by
 intro pins s σ H D I h
 refine wpAny_execs_cons (thn (h1 pins s σ H D I h) λf s1 q=> ?_)
 cases f with
 | next=>exact wpAny_execs_nil q
 | ret v=>exact q
 | brk=>exact q
 | cont=>exact q
theorem Inv.quiet {pins:List (Addr×Obj)} {σ:St} {H:Hp} {s:Shared} (I:Inv X pins σ H s):interactive X.env=false:=by simp [interactive,I.ok.kind]
def zr8 (te:TE):TS:=λD σ H=>te σ H λ_ H1=>D.nx σ H1
theorem zoN (he:PE X e te) (hs:swapsWith e none pos.line X.env=pure false:=by rfl):PS X (.Expr e pos) (zr8 te):=by
 intro pins s σ H D I h
 exact wpAny_Expr_any (thn (he pins s σ H _ I h) λv s1 ⟨x,H1,I1,r1,q1⟩=>⟨σ,H1,I1,q1⟩) I.quiet hs
def zuc (te:TE):TS:=λD σ H=>te σ H D.rt
theorem zrN (he:PE X e te):PS X (.Return (some e) pos) (zuc te):=by
 intro pins s σ H D I h
 exact wpAny_Return_some (thn (he pins s σ H _ I h) λv s1 ⟨x,H1,I1,r1,q1⟩=>⟨x,σ,H1,I1,r1,q1⟩)
def ztR (c:TT) (t u:TS):TS:=λD σ H=>c σ H λb H1=>if b=true then t D σ H1 else u D σ H1
theorem zsw {c:Expr} {a b:List Stmt} {tc:TT} (hc:PT X c tc) (ha:PSs X a t) (hb:PSs X b u):PS X (.If c a b pos) (ztR tc t u):=by
 intro pins s σ H D I h
 refine wpAny_If (thn (hc pins s σ H _ I h) λd s1 ⟨H1,I1,q1⟩=> ?_)
 cases d with
 | true=>exact ha pins s1 σ H1 D I1 q1
 | false=>exact hb pins s1 σ H1 D I1 q1
end
abbrev TG:=V->St->Hp->(St->Hp->Prop)->Prop
abbrev TGs:=List V->St->Hp->(St->Hp->Prop)->Prop
def PG (X:Cx) (target:Expr) (t:TG):Prop:=
 ∀ (pins:List (Addr×Obj)) (s:Shared) (σ:St) (H:Hp) (v:V) (u:Value) (Q:St->Hp->Prop),Inv X pins σ H s->zbp v u->t v σ H Q->
  wpAny (model X.prog X.w) X.A (assign target X.env u) (λ_ s'=> ∃ σ' H',Inv X pins σ' H' s'/\Q σ' H') X.xe s
def PGs (X:Cx) (ts:List Expr) (t:TGs):Prop:=
 ∀ (pins:List (Addr×Obj)) (s:Shared) (σ:St) (H:Hp) (vs:List V) (us:List Value) (Q:St->Hp->Prop),Inv X pins σ H s->zaS vs us->t vs σ H Q->
  wpAny (model X.prog X.w) X.A (assignInOrder ((assignEach ts X.env).map (·.2)) us) (λ_ s'=> ∃ σ' H',Inv X pins σ' H' s'/\Q σ' H') X.xe s
abbrev zrV:=V->V->V->Hp->(Hp->Prop)->Prop
def zsj (X:Cx) (t:zrV):Prop:=
 ∀ (pins:List (Addr×Obj)) (s:Shared) (σ:St) (H:Hp) (o i v:V) (ov iv u:Value) (Q:Hp->Prop),Inv X pins σ H s->zbp o ov->zbp i iv->zbp v u->t o i v H Q->
  wpAny (model X.prog X.w) X.A (setItem ov iv u) (λ_ s'=> ∃ H',Inv X pins σ H' s'/\Q H') X.xe s
section
variable {X:Cx} {pos:Pos}
def znC (i:Nat):TG:=λv σ H Q=>Q (σ.set i (some v)) H
theorem znR {i:Nat} {x:Str} (hN:X.N.Nodup) (hi:X.N[i]? = some x) (hx:Loc X.env.scope x) (hf:X.fn x=true\/X.env.scope.names.lookup x=some .local:=by first | exact .inl rfl | exact .inr rfl | assumption):PG X (.Name x pos) (znC i):=by
 intro pins s σ H v u Q I r h
 exact wpAny_assign_Name (zfH I hN hi hx r (λs' I'=>⟨_,H,I',h⟩) hf)
def zul:TGs:=λvs σ H Q=>vs=[]/\Q σ H
def zsy (t:TG) (u:TGs):TGs:=λvs σ H Q=> ∃ v r,vs=v::r/\t v σ H λσ' H'=>u r σ' H' Q
theorem zn3:PGs X [] zul:=by
 intro pins s σ H vs us Q I r h
 obtain ⟨e,h⟩:=h
 subst e
 cases r
 exact assignInOrder_nil ⟨σ,H,I,h⟩
theorem zl6 {e:Expr} {es:List Expr} {t:TG} {u:TGs} (h1:PG X e t) (h2:PGs X es u)
  (hs:(assignEach (e::es) X.env).map (·.2)=assign e X.env::(assignEach es X.env).map (·.2):=by rfl):PGs X (e::es) (zsy t u):=by
 intro pins s σ H vs us Q I r h
 obtain ⟨v,vr,e1,h⟩:=h
 subst e1
 cases r with
 | cons r rr=>
  rw [hs]
  refine assignInOrder_cons (thn (h1 pins s σ H _ _ _ I r h) λ_ s1 ⟨σ1,H1,I1,q1⟩=> ?_)
  exact h2 pins s1 σ1 H1 _ _ Q I1 rr q1
def zt2 (K:W.Frag) (n:Nat) (t:TGs):TG:=λv σ H Q=> ∃ a xs,v= .ref a/\SqT K H a xs/\xs.length=n/\t xs σ H Q
theorem zpY {es:List Expr} {k:Nat} {t:TGs} {n:Nat} (hc:X.calm=true) (h:PGs X es t)
  (hn:(assignEach es X.env).length=n:=by rfl) (hst:(assignEach es X.env).findIdx? (·.1)=none:=by rfl):PG X (.Tuple es k pos) (zt2 X.K n t):=by
 intro pins s σ H v u Q I r hw
 obtain ⟨a,xs,e1,hq,hl,hw⟩:=hw
 subst e1
 cases r
 obtain ⟨its,rv,ht,hz⟩:=I.tuple hq
 refine assign_Tuple_tuple (I.ok.hd hc) ht (by simp [hn, <-hl,rv.length]) hst λh' hx=> ?_
 have I1:Inv X pins σ H {s with heap:=h'}:=I.kept (t':=s.toks) λb o e=>hx b o (qaR (qaQ e)) e
 exact h pins _ σ H xs _ Q I1 (by simpa using rv) hw
def ztM (to ti:TE) (t:zrV):TG:=λv σ H Q=>to σ H λo H1=>ti σ H1 λi H2=>t o i v H2 λH3=>Q σ H3
theorem zrn {o i:Expr} {to ti:TE} {t:zrV} (ho:PE X o to) (hi:PE X i ti) (hs:zsj X t)
  (ha: ∀ v,assign (.Subscript o i pos) X.env v=(do
    let ov<-holding [v] (eval o X.env)
    let iv<-holding [v,ov] (eval i X.env)
    standAt pos
    holding [v,ov,iv] (setItem ov iv v)
    release [v,ov,iv] []):=by intro _;rfl):PG X (.Subscript o i pos) (ztM to ti t):=by
 intro pins s σ H v u Q I r h
 rw [ha]
 refine qaW (qaO (thn (ho pins s σ H _ I h) λov s1 ⟨x,H1,I1,r1,q1⟩=> ?_))
 refine qaW (qaO (thn (hi pins s1 σ H1 _ I1 q1) λiv s2 ⟨y,H2,I2,r2,q2⟩=> ?_))
 refine qaW (wpAny_standAt (qaW (qaO (thn (hs pins s2 σ H2 x y v ov iv u _ I2 r1 r2 r q2) λ_ s3 ⟨H3,I3,q3⟩=> ?_))))
 exact wpAny_release ⟨σ,H3,I3,q3⟩
def zsx (te:TE) (g:TG):TS:=λD σ H=>te σ H λx H1=>g x σ H1 D.nx
theorem zqI {tg e:Expr} {te:TE} {g:TG} (he:PE X e te) (hg:PG X tg g) (hs:swapsWithSole [tg] e pos.line X.env=pure false:=by rfl) (hw:swappedStores [tg] e X.env=pure none:=by rfl)
  (h1:(assignEach [tg] X.env).map (·.2)=[assign tg X.env]:=by rfl):PS X (.Assign [tg] e pos) (zsx te g):=by
 intro pins s σ H D I h
 refine wpAny_Assign_stores (thn (he pins s σ H _ I h) λv s1 ⟨x,H1,I1,r1,q1⟩=> ?_) hs hw
 rw [h1]
 exact thn (hg pins s1 σ H1 x v _ I1 r1 q1) λ_ s2 q=>q
theorem zrI {i:Nat} {x:Str} {e:Expr} {te:TE} {pos':Pos} (hN:X.N.Nodup) (hi:X.N[i]? = some x) (hx:Loc X.env.scope x) (he:PE X e te) (hs:swapsWith e (some (.Name x pos')) pos.line X.env=pure false:=by rfl) (hf:X.fn x=true\/X.env.scope.names.lookup x=some .local:=by first | exact .inl rfl | exact .inr rfl | assumption):
  PS X (.Assign [.Name x pos'] e pos) (zsx te (znC i)):=by
 intro pins s σ H D I h
 refine wpAny_Assign_Name (thn (he pins s σ H _ I h) λv s1 ⟨y,H1,I1,r1,q1⟩=> ?_) hs
 exact zfH I1 hN hi hx r1 (λs2 I2=>⟨_,H1,I2,q1⟩) hf
end
section
variable {X:Cx} {pos:Pos}
def zrP (c:TT) (tb:TS):TS:=λD σ H=> ∃ W:Nat->St->Hp->Prop,(∃ m,W m σ H)/\ ∀ m σ H,W m σ H->
 c σ H λb H1=>if b=true then ∃ N:St->Hp->Prop,(∀ σ' H',N σ' H'-> ∃ m',m'<m/\W m' σ' H')/\tb {D with nx:=N,ct:=N,bk:=D.nx} σ H1 else D.nx σ H1
theorem zlC {c:Expr} {body:List Stmt} {tc:TT} {tb:TS} (hp:PassesOwn (model X.prog X.w) X.A X.env X.xe) (hc:PT X c tc) (hb:PSs X body tb):PS X (.While c body [] pos) (zrP tc tb):=by
 intro pins s σ H D I h
 obtain ⟨W,⟨m0,w0⟩,turn⟩:=h
 refine wpAny_While (codeAny_whileLoop (λn s'=> ∃ σ' H',Inv X pins σ' H' s'/\W n σ' H') ?_ m0 ⟨σ,H,I,w0⟩)
 rintro n s1 ⟨σ1,H1,I1,w1⟩
 refine wpAny_passesOwn hp (thn (hc pins s1 σ1 H1 _ I1 (turn n σ1 H1 w1)) λb s2 ⟨H2,I2,q2⟩=> ?_)
 cases b with
 | true=>
  obtain ⟨N,hN,q2⟩:=q2
  rw [qa4 rfl]
  refine wpAny_passesOwn hp (thn (hb pins s2 σ1 H2 _ I2 q2) λf s3 q3=> ?_)
  cases f with
  | next=>
   obtain ⟨σ3,H3,I3,n3⟩:=q3
   obtain ⟨m',hm,w3⟩:=hN σ3 H3 n3
   exact ⟨m',hm,σ3,H3,I3,w3⟩
  | cont=>
   obtain ⟨σ3,H3,I3,n3⟩:=q3
   obtain ⟨m',hm,w3⟩:=hN σ3 H3 n3
   exact ⟨m',hm,σ3,H3,I3,w3⟩
  | brk=>exact q3
  | ret v=>exact q3
 | false=>
  rw [qa5 Bool.false_ne_true]
  exact wpAny_execs_nil ⟨σ1,H2,I2,q2⟩
end
structure It where
 go:Nat->Hp->Prop
 yld:Nat->Hp->V->Hp->Prop
 stop:Nat->Hp->Prop
def zls (X:Cx) (pins:List (Addr×Obj)) (H:Hp) (b:Addr):Prop:=
 H b=none/\b≠X.env.locals/\b∉X.fs/\(b∈X.ex\/X.s₀.heap.objs.size<=b)/\(∀ x c,X.env.cells.lookup x=some c->c≠b)/\ ∀ p∈X.pn++pins,p.1≠b
theorem Inv.fpOk {X:Cx} {pins:List (Addr×Obj)} {σ:St} {H H':Hp} {s:Shared} {b:Addr} (I:Inv X pins σ H s) (hb:s.heap.objs.size<=b) (hn:H' b=none):zls X pins H' b:=by
 refine ⟨hn,ne_of_gt (qaw I.lt hb),I.nofs hb,.inr (qaS I.sz hb),λx c e z=> ?_,λp hp z=> ?_⟩
 ·obtain ⟨v,q⟩:=I.cell x c e
  exact absurd (qaw q.lt (by rw [z];exact hb)) (qaN _)
 ·exact absurd (qaw (qaQ (I.pin p hp).1) (by rw [z];exact hb)) (qaN _)
structure zpo (P:Program) (w:World) (K:W.Frag) (tg:Expr) (J:It) (fp:List Addr) (it:Addr) (tn:Nat->Heap->Prop):Prop where
 mem:it∈fp
 obj: ∀ i h,tn i h-> ∀ b∈fp, ∃ o,h.get? b=some o/\ ∀ v,o.data≠ .cell v
 keep: ∀ i h h',tn i h->(∀ b∈fp, ∀ o,h.get? b=some o->h'.get? b=some o)->tn i h'
 item: ∀ (X:Cx),X.prog=P->X.w=w->X.K=K-> ∀ (i:Nat) (pins:List (Addr×Obj)) (s:Shared) (σ:St) (H:Hp) (E:Value->Shared->Prop),Inv X pins σ H s->(∀ b∈fp,zls X pins H b)->tn i s.heap->J.go i H->
  wpAny (model P w) X.A (pyNext (.ref it)) (λr s1=> ∃ u,r=some u/\
    wpAny (model P w) X.A (letOwnedTupleGo tg (.ref it) u) (λ_ s2=> ∃ x H',Inv X pins σ H' s2/\zbp x u/\J.yld i H x H'/\tn (i+1) s2.heap/\ ∀ b∈fp,H' b=none) E s1) E s
 done: ∀ (X:Cx),X.prog=P->X.w=w->X.K=K-> ∀ (i:Nat) (pins:List (Addr×Obj)) (s:Shared) (σ:St) (H:Hp) (E:Value->Shared->Prop),Inv X pins σ H s->(∀ b∈fp,zls X pins H b)->tn i s.heap->J.stop i H->
  wpAny (model P w) X.A (pyNext (.ref it)) (λr s1=>r=none/\Inv X pins σ H s1) E s
 self: ∀ (A:Around) (i:Nat) (s:Shared) (Q:Value->Shared->Prop) (E:Value->Shared->Prop),tn i s.heap->Q (.ref it) s->wpAny (model P w) A (pyIter (.ref it)) Q E s
abbrev TI:=St->Hp->(It->Hp->Prop)->Prop
def PIE (X:Cx) (pins:List (Addr×Obj)) (σ:St) (tg:Expr) (R:It->Hp->Prop) (itv:Value) (s2:Shared):Prop:=
 ∃ (it:Addr) (fp:List Addr) (tn:Nat->Heap->Prop) (J:It) (H':Hp),itv= .ref it/\Inv X pins σ H' s2/\zpo X.prog X.w X.K tg J fp it tn/\tn 0 s2.heap/\(∀ b∈fp,zls X pins H' b)/\R J H'
def PI (X:Cx) (tg iter:Expr) (wi:TI):Prop:=
 ∀ (pins:List (Addr×Obj)) (s:Shared) (σ:St) (H:Hp) (R:It->Hp->Prop),Inv X pins σ H s->wi σ H R->
  wpAny (model X.prog X.w) X.A (eval iter X.env) (λv s1=>wpAny (model X.prog X.w) X.A (pyIter v) (PIE X pins σ tg R) X.xe s1) X.xe s
theorem zl5 {M:Model} {A:Around} {E:Value->Shared->Prop} {s:Shared} {tg:Expr} {it:Addr} {u:Value} {o:Obj} {n:String} {vs:Array Value} {Q:Unit->Shared->Prop} (ho:s.heap.get? it=some o) (hc:o.cls= .type n) (hd:o.data= .fields vs)
  (hn:["enumerate","zip","dict_itemiterator","dict_reverseitemiterator","odict_iterator","itertools.zip_longest","itertools.pairwise"].contains n=false) (hQ:Q () s):wpAny M A (letOwnedTupleGo tg (.ref it) u) Q E s:=by
 unfold letOwnedTupleGo
 cases tg<;>first
  | exact qaX hQ
  | (cases u<;>first
      | exact qaX hQ
      | (refine qaW (wpAny_load ho ?_)
         rw [hc,hd]
         show wpAny M A (if (["enumerate","zip","dict_itemiterator","dict_reverseitemiterator","odict_iterator","itertools.zip_longest","itertools.pairwise"].contains n && vs[0]? == some (rawInt _))=true then _ else _) Q E s
         rw [qa5 (by intro h;rw [hn,Bool.false_and] at h;cases h)]
         exact qaX hQ))
def Itl (K:W.Frag) (a:Addr):It:=
 ⟨λi H=> ∃ xs x,SqL K H a xs/\xs[i]? = some x,λi H x H'=>H'=H/\ ∀ xs,SqL K H a xs->xs[i]? = some x,λi H=> ∃ xs,SqL K H a xs/\xs.length<=i⟩
def Itt (K:W.Frag) (a:Addr):It:=
 ⟨λi H=> ∃ xs x,SqT K H a xs/\xs[i]? = some x,λi H x H'=>H'=H/\ ∀ xs,SqT K H a xs->xs[i]? = some x,λi H=> ∃ xs,SqT K H a xs/\xs.length<=i⟩
def Itr (lo:Int) (n:Nat):It:=⟨λi _=>i<n,λi H x H'=>H'=H/\x= .int (lo+i),λi _=>n<=i⟩
theorem zgq.keep {A:Around} {H H':Hp} (x:zgq A H) (k: ∀ b o u,H b=some (.frz o u)->H' b=some (.frz o u)):zgq A H':=by
 rcases x with x | ⟨a,o,cls,head,vs,x1,x2,x3⟩
 ·exact .inl x
 ·exact .inr ⟨a,o,cls,head,vs,x1,k _ _ _ x2,x3⟩
theorem zgq.at_ {A:Around} {P:Program} {w:World} {H:Hp} {h:Heap} (x:zgq A H) (ok:HOk P w H h):L3.zpq A h:=by
 rcases x with x | ⟨a,o,cls,head,vs,x1,x2,x3⟩
 ·exact .inl x
 ·exact .inr ⟨a,cls,head,x1,o,vs,(ok a _ x2).1,x3⟩
theorem Inv.handA {X:Cx} {pins:List (Addr×Obj)} {σ:St} {H:Hp} {s:Shared} (I:Inv X pins σ H s):zgq X.A H:=I.ok.hx.keep I.base.frzs
theorem Inv.hand {X:Cx} {pins:List (Addr×Obj)} {σ:St} {H:Hp} {s:Shared} (I:Inv X pins σ H s):L3.zpq X.A s.heap:=I.handA.at_ I.hok
theorem zkX {P:Program} {w:World} {K:W.Frag} {tg:Expr} (a it:Addr):zpo P w K tg (Itl K a) [it] it (λi h=>h.IsListIter it a i) where
 mem:=by simp
 obj:=λi h st b hb=>by
  have e:b=it:=by simpa using hb
  subst e
  obtain ⟨o,e,c,d⟩:=st
  exact ⟨o,e,λv z=>by rw [d] at z;cases z⟩
 keep:=λi h h' st k=>st.at λo e=>k it (by simp) o e
 item:=by
  intro X hP hw hK i pins s σ H E I hf st hg
  subst hP hw hK
  obtain ⟨xs,x,hq,hx⟩:=hg
  obtain ⟨its,rv,p,hz⟩:=I.list hq
  obtain ⟨u,hu,ru⟩:=rv.get hx
  obtain ⟨f0,f1,f2,f3,f4,f5⟩:=hf it (by simp)
  refine wpAny_pyNext_list_item st p.isList (x:=u) (by simpa using hu) λh' st' sb=> ?_
  have I1:Inv X pins σ H {s with heap:=h'}:=I.turned (t':=s.toks) (λb o hb e=>(sb.2 b hb).trans e) f0 f1 f3 f4 f5
  obtain ⟨o,e,c,d⟩:=id st'
  exact ⟨u,rfl,zl5 (s:={s with heap:=h'}) e c d (by decide) ⟨x,H,I1,ru,⟨rfl,λys hy=>by rw [I.list_inj hy hq];exact hx⟩,st',λb hb=>(hf b hb).1⟩⟩
 done:=by
  intro X hP hw hK i pins s σ H E I hf st hg
  subst hP hw hK
  obtain ⟨xs,hq,hx⟩:=hg
  obtain ⟨its,rv,p,hz⟩:=I.list hq
  obtain ⟨f0,f1,f2,f3,f4,f5⟩:=hf it (by simp)
  have hl:=rv.length
  exact L3.zik I.hand st p.isList (by simp;omega) λh' eb=>⟨rfl,I.turned (t':=s.toks) (λb o hb e=>eb b o hb e) f0 f1 f3 f4 f5⟩
 self:=λ_ _ _ _ _ st h=>wpAny_pyIter_listiter st h
theorem zjb {P:Program} {w:World} {K:W.Frag} {tg:Expr} (a it:Addr):zpo P w K tg (Itt K a) [it] it (λi h=>h.IsTupleIter it a i) where
 mem:=by simp
 obj:=λi h st b hb=>by
  have e:b=it:=by simpa using hb
  subst e
  obtain ⟨o,e,c,d⟩:=st
  exact ⟨o,e,λv z=>by rw [d] at z;cases z⟩
 keep:=λi h h' st k=>st.at λo e=>k it (by simp) o e
 item:=by
  intro X hP hw hK i pins s σ H E I hf st hg
  subst hP hw hK
  obtain ⟨xs,x,hq,hx⟩:=hg
  obtain ⟨its,rv,p,hz⟩:=I.tuple hq
  obtain ⟨u,hu,ru⟩:=rv.get hx
  obtain ⟨f0,f1,f2,f3,f4,f5⟩:=hf it (by simp)
  refine wpAny_pyNext_tuple_item st (show s.heap.IsTuple a its.toArray from p) (x:=u) (by simpa using hu) λh' st' sb=> ?_
  have I1:Inv X pins σ H {s with heap:=h'}:=I.turned (t':=s.toks) (λb o hb e=>(sb.2 b hb).trans e) f0 f1 f3 f4 f5
  obtain ⟨o,e,c,d⟩:=id st'
  exact ⟨u,rfl,zl5 (s:={s with heap:=h'}) e c d (by decide) ⟨x,H,I1,ru,⟨rfl,λys hy=>by rw [I.tuple_inj hy hq];exact hx⟩,st',λb hb=>(hf b hb).1⟩⟩
 done:=by
  intro X hP hw hK i pins s σ H E I hf st hg
  subst hP hw hK
  obtain ⟨xs,hq,hx⟩:=hg
  obtain ⟨its,rv,p,hz⟩:=I.tuple hq
  obtain ⟨f0,f1,f2,f3,f4,f5⟩:=hf it (by simp)
  have hl:=rv.length
  exact L3.zjO I.hand st (show s.heap.IsTuple a its.toArray from p) (by simp;omega) λh' eb=>⟨rfl,I.turned (t':=s.toks) (λb o hb e=>eb b o hb e) f0 f1 f3 f4 f5⟩
 self:=λ_ _ _ _ _ st h=>wpAny_pyIter_tupleiter st h
theorem zji {P:Program} {w:World} {K:W.Frag} {tg:Expr} (it:Addr) (lo:Int) (n:Nat):zpo P w K tg (Itr lo n) [it] it (λi h=>IsRangeIter h it (lo+(i:Nat)*1) ((n:Int) - (i:Nat)) 1) where
 mem:=by simp
 obj:=λi h st b hb=>by
  have e:b=it:=by simpa using hb
  subst e
  exact ⟨_,st,λv z=>by
    have z':Data.fields _=Data.cell v:=z
    cases z'⟩
 keep:=λi h h' st k=>k it (by simp) _ st
 item:=by
  intro X hP hw hK i pins s σ H E I hf st hg
  subst hP hw hK
  obtain ⟨f0,f1,f2,f3,f4,f5⟩:=hf it (by simp)
  refine wpAny_pyNext_range_item st (by have:i<n:=hg;omega) λh' st' kk=> ?_
  have e1:lo+(i:Nat)*1+1=lo+((i+1:Nat):Int)*1:=by omega
  have e2:(n:Int) - (i:Nat) - 1=(n:Int) - ((i+1:Nat):Int):=by omega
  rw [e1,e2] at st'
  have I1:Inv X pins σ H {s with heap:=h',toks:=s.toks+1}:=I.turned (λb o hb e=>(kk.2 b hb).trans e) f0 f1 f3 f4 f5
  refine ⟨_,rfl,zl5 (s:={s with heap:=h',toks:=s.toks+1}) (n:="range_iterator") st' rfl rfl (by decide) ⟨.int (lo+i),H,I1,⟨s.toks,?_⟩,⟨rfl,rfl⟩,st',λb hb=>(hf b hb).1⟩⟩
  rw [Int.mul_one]
 done:=by
  intro X hP hw hK i pins s σ H E I hf st hg
  subst hP hw hK
  obtain ⟨f0,f1,f2,f3,f4,f5⟩:=hf it (by simp)
  exact L3.zgo I.hand st (by have:n<=i:=hg;omega) λh' eb=>⟨rfl,I.turned (t':=s.toks) (λb o hb e=>eb b o hb e) f0 f1 f3 f4 f5⟩
 self:=λ_ _ _ _ _ st h=>wpAny_pyIter_rangeiter st h
section
variable {X:Cx} {tg:Expr}
theorem zlJ {pins:List (Addr×Obj)} {σ:St} {H:Hp} {s:Shared} {R:It->Hp->Prop} {E:Value->Shared->Prop} {lo hi:Int} {t u v:Tok} {tk:Nat} (I:Inv X pins σ H s) (h1: -(2^62)<=lo) (h2:lo<2^62) (h3: -(2^62)<=hi) (h4:hi<2^62)
  (q:R (Itr lo (hi - lo).toNat) H):wpAny (model X.prog X.w) X.A (pyIter (.ref s.heap.objs.size)) (PIE X pins σ tg R) E {s with heap:=s.heap.push {cls:= .type "range",data:= .fields #[.int lo t,.int hi u,.int 1 v]},toks:=tk}:=by
 refine wpAny_pyIter_range (IsRange.new ..) (small_one h1 h2 h3 h4) ?_
 have I1:Inv X pins σ H {s with heap:=s.heap.push {cls:= .type "range",data:= .fields #[.int lo t,.int hi u,.int 1 v]},toks:=tk}:=I.kept λb o e=>qag _ e
 refine ⟨(s.heap.push {cls:= .type "range",data:= .fields #[.int lo t,.int hi u,.int 1 v]}).objs.size,[(s.heap.push {cls:= .type "range",data:= .fields #[.int lo t,.int hi u,.int 1 v]}).objs.size],_,_,H,rfl,
   I1.kept (t':=tk) λb o e=>qag _ e,zji _ lo (hi - lo).toNat,?_,λb hb=> ?_,q⟩
 ·have e1:lo+((0:Nat):Int)*1=lo:=by simp
  have e2:(((hi - lo).toNat:Nat):Int) - ((0:Nat):Int)=Builtin.Range.rangeSize lo hi 1:=by rw [rangeSize_one];split<;>omega
  show IsRangeIter _ _ (lo+((0:Nat):Int)*1) ((((hi - lo).toNat:Nat):Int) - ((0:Nat):Int)) 1
  rw [e1,e2]
  exact qar _ rfl
 ·have e:b=(s.heap.push {cls:= .type "range",data:= .fields #[.int lo t,.int hi u,.int 1 v]}).objs.size:=by simpa using hb
  subst e
  exact I1.fpOk (qaV _) (I1.hok.fresh (qaV _))
def zs1 (ta:TA):TI:=λσ H R=>ta σ H λvs H1=> ∃ j:Int,vs=[.int j]/\ -(2^62)<=j/\j<2^62/\R (Itr 0 j.toNat) H1
theorem zk2 {a:Expr} {ta:TA} {p pos:Pos} (hg:Gl X "range") (hm:X.mg "range"=none) (ha:PA X [a] ta) (hs:starEach [a] X.env=[(false,eval a X.env)]:=by rfl):PI X tg (.Call (.Name "range" p) [a] [] pos) (zs1 ta):=by
 intro pins s σ H R I h
 refine Call_ (zg4 I hg hm boot_range (PyProof.Rows.callWith_type1 (thn (ha pos pins s σ H _ I h) λus s1 ⟨vs,H1,I1,r1,q1⟩=> ?_) hs rfl))
 obtain ⟨j,e,q1,q2,q⟩:=q1
 subst e
 cases r1 with
 | cons r rr=>
  cases rr
  obtain ⟨t,rfl⟩:=r
  exact call_range_1 (zlJ I1 ⋯ ⋯ q1 q2 (by simpa using q))
def zt7 (wi:TI) (g:TG) (tb:TS):TS:=λD σ H=>wi σ H λJ H1=> ∃ W:Nat->Nat->St->Hp->Prop,(∃ m,W 0 m σ H1)/\ ∀ i m σ H,W i m σ H->
 (J.stop i H/\D.nx σ H)\/(J.go i H/\ ∃ N:St->Hp->Prop,(∀ σ' H',N σ' H'-> ∃ m',m'<m/\W (i+1) m' σ' H')/\ ∀ x H',J.yld i H x H'->g x σ H' λσ2 H2=>tb {D with nx:=N,ct:=N,bk:=D.nx} σ2 H2)
def zgw (fp:List Addr) (h:Heap):List (Addr×Obj):=fp.filterMap λb=>(h.get? b).map λo=>(b,o)
theorem zcD {fp:List Addr} {h:Heap} {b:Addr} {o:Obj} (hb:b∈fp) (e:h.get? b=some o):(b,o)∈zgw fp h:=List.mem_filterMap.mpr ⟨b,hb,by rw [e];rfl⟩
theorem zlj {fp:List Addr} {h:Heap} {p:Addr×Obj} (hp:p∈zgw fp h):p.1∈fp/\h.get? p.1=some p.2:=by
 obtain ⟨b,hb,e⟩:=List.mem_filterMap.mp hp
 cases q:h.get? b with
 | none=>rw [q] at e;cases e
 | some o=>
  rw [q] at e
  have e':(b,o)=p:=Option.some.inj e
  subst e'
  exact ⟨hb,q⟩
theorem Inv.pinned {pins:List (Addr×Obj)} {σ:St} {H:Hp} {s:Shared} {fp:List Addr} (I:Inv X pins σ H s) (hf: ∀ b∈fp,zls X pins H b) (ho: ∀ b∈fp, ∃ o,s.heap.get? b=some o/\ ∀ v,o.data≠ .cell v):Inv X (pins++zgw fp s.heap) σ H s:=
 I.pins_of λp hp=>(qaK.mp hp).elim (λz=>I.pin p (qak _ z)) λz=>by
  obtain ⟨hb,e⟩:=zlj z
  obtain ⟨f0,f1,f2,_⟩:=hf p.1 hb
  obtain ⟨o,e',d⟩:=ho p.1 hb
  rw [e] at e';cases e'
  exact ⟨e,f0,f1,f2,d⟩
theorem Inv.unpinned {pins pl:List (Addr×Obj)} {σ:St} {H:Hp} {s:Shared} (I:Inv X (pins++pl) σ H s):Inv X pins σ H s:=I.pins_of λp hp=>I.pin p (qak _ (List.mem_append_left _ hp))
theorem zpN {iter:Expr} {body:List Stmt} {wi:TI} {g:TG} {tb:TS} {pos:Pos} (hp:PassesOwn (model X.prog X.w) X.A X.env X.xe) (hc:X.calm=true) (hi:PI X tg iter wi) (hg:PG X tg g) (hb:PSs X body tb)
  (hs: ∀ x,foldedSetIterable iter X.env x=pure x:=by intro _;rfl):PS X (.For tg iter body [] pos) (zt7 wi g tb):=by
 intro pins s σ H D I h
 refine wpAny_For (thn (hi pins s σ H _ I h) λv s1 h1=>thn h1 λitv s2 h2=> ?_) hs
 obtain ⟨it,fp,tn,J,H2,e,I2,T,st2,f2,W,⟨m0,w0⟩,turn⟩:=h2
 subst e
 have stat: ∀ {H':Hp},(∀ b∈fp,H' b=none)-> ∀ b∈fp,zls X pins H' b:=λhn b hb=>⟨hn b hb,(f2 b hb).2⟩
 refine codeAny_forLoop_any (λn s'=> ∃ i σ' H',Inv X pins σ' H' s'/\tn i s'.heap/\(∀ b∈fp,H' b=none)/\W i n σ' H') ?_ m0 ⟨0,σ,H2,I2,st2,λb hb=>(f2 b hb).1,w0⟩
 rintro n s3 ⟨i,σ3,H3,I3,st3,fr3,w3⟩
 rcases turn i n σ3 H3 w3 with ⟨stop,qn⟩ | ⟨go,N,hN,step⟩
 ·refine wpAny_passesOwn hp (thn (T.done X rfl rfl rfl i pins s3 σ3 H3 X.xe I3 (stat fr3) st3 stop) λr s4 ⟨hr,I4⟩=> ?_)
  subst hr
  exact wpAny_execs_nil ⟨σ3,H3,I4,qn⟩
 ·refine wpAny_passesOwn hp (thn (T.item X rfl rfl rfl i pins s3 σ3 H3 X.xe I3 (stat fr3) st3 go) λr s4 ⟨u,hr,h4⟩=> ?_)
  subst hr
  refine wpAny_passesOwn hp (thn h4 λ_ s5 ⟨x,H5,I5,r5,y5,st5,fr5⟩=> ?_)
  have I5':=I5.pinned (stat fr5) (T.obj _ _ st5)
  refine wpAny_passesOwn hp (thn (hg _ s5 σ3 H5 x u _ I5' r5 (step x H5 y5)) λ_ s6 ⟨σ6,H6,I6,q6⟩=> ?_)
  refine wpAny_passesOwn hp (thn (hb _ s6 σ6 H6 _ I6 q6) λf s7 q7=> ?_)
  have again: ∀ {σ7:St} {H7:Hp},Inv X (pins++zgw fp s5.heap) σ7 H7 s7->N σ7 H7-> ∃ m,m<n/\ ∃ i σ' H',Inv X pins σ' H' s7/\tn i s7.heap/\(∀ b∈fp,H' b=none)/\W i m σ' H':=λ{σ7 H7} I7 n7=>by
   obtain ⟨m',hm,w7⟩:=hN σ7 H7 n7
   refine ⟨m',hm,i+1,σ7,H7,I7.unpinned,T.keep _ _ _ st5 λb hb o e=>(I7.pin (b,o) (qak _ (qak _ (zcD hb e)))).1,λb hb=> ?_,w7⟩
   obtain ⟨o,e,d⟩:=T.obj _ _ st5 b hb
   exact (I7.pin (b,o) (qak _ (qak _ (zcD hb e)))).2.1
  cases f with
  | next=>obtain ⟨σ7,H7,I7,n7⟩:=q7;exact again I7 n7
  | cont=>obtain ⟨σ7,H7,I7,n7⟩:=q7;exact again I7 n7
  | brk=>obtain ⟨σ7,H7,I7,q7⟩:=q7;exact ⟨σ7,H7,I7.unpinned,q7⟩
  | ret v=>obtain ⟨x7,σ7,H7,I7,r7,q7⟩:=q7;exact ⟨x7,σ7,H7,I7.unpinned,r7,q7⟩
end
abbrev R2:=V->V->Hp->VK->Prop
def OpR (X:Cx) (f:Value->Value->Sem Value) (r:R2):Prop:=
 ∀ (pins:List (Addr×Obj)) (s:Shared) (σ:St) (H:Hp) (x y:V) (v u:Value) (Q:VK),Inv X pins σ H s->zbp x v->zbp y u->r x y H Q->
  wpAny (model X.prog X.w) X.A (f v u) (EP X pins σ Q) X.xe s
def UnR (X:Cx) (f:Value->Sem Value) (r:V->Hp->VK->Prop):Prop:=
 ∀ (pins:List (Addr×Obj)) (s:Shared) (σ:St) (H:Hp) (x:V) (v:Value) (Q:VK),Inv X pins σ H s->zbp x v->r x H Q->
  wpAny (model X.prog X.w) X.A (f v) (EP X pins σ Q) X.xe s
def zaH (X:Cx) (f:Value) (r:List V->Hp->VK->Prop):Prop:=
 ∀ (pins:List (Addr×Obj)) (s:Shared) (σ:St) (H:Hp) (xs:List V) (us:List Value) (Q:VK),Inv X pins σ H s->zaS xs us->r xs H Q->
  wpAny (model X.prog X.w) X.A (call f us) (EP X pins σ Q) X.xe s
def zup (X:Cx) (r:V->Hp->(Bool->Hp->Prop)->Prop):Prop:=
 ∀ (pins:List (Addr×Obj)) (s:Shared) (σ:St) (H:Hp) (x:V) (v:Value) (Q:Bool->Hp->Prop),Inv X pins σ H s->zbp x v->r x H Q->
  wpAny (model X.prog X.w) X.A (truthy v) (TP X pins σ Q) X.xe s
def tOp (r:R2) (ta tb:TE):TE:=λσ H Q=>ta σ H λx H1=>tb σ H1 λy H2=>r x y H2 Q
def tUn (r:V->Hp->VK->Prop) (ta:TE):TE:=λσ H Q=>ta σ H λx H1=>r x H1 Q
def rI (C:Int->Int->Prop) (g:Int->Int->V):R2:=λx y H Q=> ∃ i j,x= .int i/\y= .int j/\C i j/\Q (g i j) H
def rI0 (g:Int->Int->V):R2:=λx y H Q=> ∃ i j,x= .int i/\y= .int j/\Q (g i j) H
def rU (g:Int->V):V->Hp->VK->Prop:=λx H Q=> ∃ i,x= .int i/\Q (g i) H
section
variable {X:Cx} {a b c:Expr} {ta tb tc:TE} {pos:Pos}
theorem zsq (ha:PE X a ta) (hb:PE X b tb) {pins:List (Addr×Obj)} {s:Shared} {σ:St} {H:Hp} {R:V->V->Hp->Prop} (I:Inv X pins σ H s)
  (h:ta σ H λx H1=>tb σ H1 λy H2=>R x y H2) {Q:Value->Shared->Prop} {f:Value->Value->Sem Value}
  (hf: ∀ v u s2 x y H2,Inv X pins σ H2 s2->zbp x v->zbp y u->R x y H2->wpAny (model X.prog X.w) X.A (f v u) Q X.xe s2):
  wpAny (model X.prog X.w) X.A (eval a X.env) (λv s₁=>wpAny (model X.prog X.w) X.A (eval b X.env) (λu s₂=>wpAny (model X.prog X.w) X.A (f v u) Q X.xe s₂) X.xe s₁) X.xe s:=by
 refine thn (ha pins s σ H _ I h) λv s1 ⟨x,H1,I1,r1,q1⟩=> ?_
 refine thn (hb pins s1 σ H1 _ I1 q1) λu s2 ⟨y,H2,I2,r2,q2⟩=> ?_
 exact hf v u s2 x y H2 I2 r1 r2 q2
theorem zsK {op:Operator} {r:R2} (ho:OpR X (binaryOp op) r) (ha:PE X a ta) (hb:PE X b tb):PE X (.BinOp a op b pos) (tOp r ta tb):=by
 intro pins s σ H Q I h
 exact wpAny_BinOp (zsq ha hb I h λv u s2 x y H2 I2 rx ry q=>ho pins s2 σ H2 x y v u Q I2 rx ry q)
theorem zsc {op:UnaryOp} {r:V->Hp->VK->Prop} (ho:UnR X (unaryOp op) r) (ha:PE X a ta):PE X (.UnaryOp op a pos) (tUn r ta):=by
 intro pins s σ H Q I h
 exact UnaryOp_ (thn (ha pins s σ H _ I h) λv s1 ⟨x,H1,I1,r1,q1⟩=>ho pins s1 σ H1 x v Q I1 r1 q1)
theorem opI {f:Value->Value->Sem Value} {C:Int->Int->Prop} {g:Int->Int->Int}
  (rule: ∀ (i j:Int) (t u:Tok) (s:Shared) (Q:Value->Shared->Prop) (E:Value->Shared->Prop),C i j->Q (.int (g i j) s.toks) {s with toks:=s.toks+1}->wpAny (model X.prog X.w) X.A (f (.int i t) (.int j u)) Q E s):
  OpR X f (rI C λi j=> .int (g i j)):=by
 intro pins s σ H x y v u Q I rx ry h
 obtain ⟨i,j,rfl,rfl,hc,q⟩:=h
 obtain ⟨t,rfl⟩:=rx
 obtain ⟨t',rfl⟩:=ry
 exact rule i j t t' s _ _ hc ⟨.int (g i j),H,I.tok _,⟨_,rfl⟩,q⟩
theorem zte {f:Value->Value->Sem Value} {g:Int->Int->Int}
  (rule: ∀ (i j:Int) (t u:Tok) (s:Shared) (Q:Value->Shared->Prop) (E:Value->Shared->Prop),Q (.int (g i j) s.toks) {s with toks:=s.toks+1}->wpAny (model X.prog X.w) X.A (f (.int i t) (.int j u)) Q E s):
  OpR X f (rI0 λi j=> .int (g i j)):=by
 intro pins s σ H x y v u Q I rx ry h
 obtain ⟨i,j,rfl,rfl,q⟩:=h
 obtain ⟨t,rfl⟩:=rx
 obtain ⟨t',rfl⟩:=ry
 exact rule i j t t' s _ _ ⟨.int (g i j),H,I.tok _,⟨_,rfl⟩,q⟩
theorem zr0 {f:Value->Value->Sem Value} {g:Int->Int->Bool}
  (rule: ∀ (i j:Int) (t u:Tok) (s:Shared) (Q:Value->Shared->Prop) (E:Value->Shared->Prop),Q (.bool (g i j)) s->wpAny (model X.prog X.w) X.A (f (.int i t) (.int j u)) Q E s):
  OpR X f (rI0 λi j=> .bl (g i j)):=by
 intro pins s σ H x y v u Q I rx ry h
 obtain ⟨i,j,rfl,rfl,q⟩:=h
 obtain ⟨t,rfl⟩:=rx
 obtain ⟨t',rfl⟩:=ry
 exact rule i j t t' s _ _ ⟨.bl (g i j),H,I,rfl,q⟩
def zsg (i j:Int):Prop:=0<=j/\j<=1000000/\i.natAbs<2^64
def zsR (i j:Int):Prop:=(-(2^64)<i/\i<2^64)\/(-(2^64)<j/\j<2^64)
theorem zsR.ok {i j:Int} (h:zsR i j):IntMulOk i j:=by
 rcases h with ⟨h1,h2⟩ | ⟨h1,h2⟩
 ·exact .of_left (intBits_le_64 h1 h2)
 ·exact .of_right (intBits_le_64 h1 h2)
theorem zpS:OpR X (binaryOp .Add) (rI0 λi j=> .int (i+j)):=zte λ_ _ _ _ _ _ _ q=>add_int q
theorem zpU:OpR X (binaryOp .Sub) (rI0 λi j=> .int (i - j)):=zte λ_ _ _ _ _ _ _ q=>sub_int q
theorem zrM:OpR X (binaryOp .Mult) (rI zsR λi j=> .int (i*j)):=opI λ_ _ _ _ _ _ _ hc q=>mul_int q hc.ok
theorem zq5:OpR X (binaryOp .Mod) (rI (λ_ j=>0<j) λi j=> .int (i % j)):=opI λi j _ _ _ _ _ hc q=>by
 have h1:(0:Int)<j:=hc
 exact mod_int' ⋯ (by rw [Int.fmod_eq_emod_of_nonneg i ⋯];exact q)
theorem zqt:OpR X (binaryOp .Pow) (rI zsg λi j=> .int (i^j.toNat)):=opI λ_ _ _ _ _ _ _ hc q=>pow_int_small hc.1 hc.2.1 hc.2.2 q
theorem zs8:OpR X (binaryOp .BitOr) (rI0 λi j=> .int (Builtin.bitOr i j)):=zte λ_ _ _ _ _ _ _ q=>or_int q
theorem unI {f:Value->Sem Value} {g:Int->Int}
  (rule: ∀ (i:Int) (t:Tok) (s:Shared) (Q:Value->Shared->Prop) (E:Value->Shared->Prop),Q (.int (g i) s.toks) {s with toks:=s.toks+1}->wpAny (model X.prog X.w) X.A (f (.int i t)) Q E s):
  UnR X f (rU λi=> .int (g i)):=by
 intro pins s σ H x v Q I rx h
 obtain ⟨i,rfl,q⟩:=h
 obtain ⟨t,rfl⟩:=rx
 exact rule i t s _ _ ⟨.int (g i),H,I.tok _,⟨_,rfl⟩,q⟩
theorem zqb:UnR X (unaryOp .USub) (rU λi=> .int (-i)):=unI λ_ _ _ _ _ q=>neg_int q
end
section
variable {X:Cx} {a b c:Expr} {ta tb tc:TE} {pos:Pos}
theorem ze3 {pins:List (Addr×Obj)} {σ:St} {H:Hp} {s:Shared} {Q:VK} {k k':Bool} (I:Inv X pins σ H s) (q:Q (.bl k) H) (e:k=k'):EP X pins σ Q (.bool k') s:=by
 subst e
 exact ⟨.bl k,H,I,rfl,q⟩
theorem ztl:OpR X (compareOp .Lt) (rI0 λi j=> .bl (decide (i<j))):=zr0 λ_ _ _ _ _ _ _ q=>lt_int q
theorem ztk:OpR X (compareOp .LtE) (rI0 λi j=> .bl (decide (i<=j))):=zr0 λ_ _ _ _ _ _ _ q=>le_int q
theorem zsO:OpR X (compareOp .Gt) (rI0 λi j=> .bl (decide (j<i))):=zr0 λ_ _ _ _ _ _ _ q=>gt_int q
theorem zss:OpR X (compareOp .GtE) (rI0 λi j=> .bl (decide (j<=i))):=zr0 λ_ _ _ _ _ _ _ q=>ge_int q
theorem znw:OpR X (compareOp .Is) (λx y H Q=>y= .non/\Q (.bl (decide (x= .non))) H):=by
 intro pins s σ H x y v u Q I rx ry h
 obtain ⟨rfl,q⟩:=h
 cases ry
 refine is_none_gen (ze3 I q ?_)
 cases x<;>first
  | (cases rx;rfl)
  | (obtain ⟨t,rfl⟩:=rx;rfl)
theorem OpR.or {f:Value->Value->Sem Value} {r r':R2} (h:OpR X f r) (h':OpR X f r'):OpR X f (λx y H Q=>r x y H Q\/r' x y H Q):=by
 intro pins s σ H x y v u Q I rx ry q
 rcases q with q | q
 ·exact h pins s σ H x y v u Q I rx ry q
 ·exact h' pins s σ H x y v u Q I rx ry q
theorem znS {op:CmpOp} {r:R2} (ho:OpR X (compareOp op) r) (ha:PE X a ta) (hb:PE X b tb) (hm:behindInMarks op b=false):PE X (.Compare a [op] [b] pos) (tOp r ta tb):=by
 intro pins s σ H Q I h
 exact wpAny_Compare1 (zsq ha hb I h λv u s2 x y H2 I2 rx ry q=>ho pins s2 σ H2 x y v u Q I2 rx ry q) hm
def zrJ (t:TE):TT:=λσ H Q=>t σ H λx H'=> ∃ k,x= .bl k/\Q k H'
theorem znU {op:CmpOp} {r:R2} (ho:OpR X (compareOp op) r) (ha:PE X a ta) (hb:PE X b tb) (hm:behindInMarks op b=false):PT X (.Compare a [op] [b] pos) (zrJ (tOp r ta tb)):=by
 intro pins s σ H Q I h
 refine wpAny_isTrue_Compare1 (thn (ha pins s σ H _ I h) λv s1 ⟨x,H1,I1,r1,q1⟩=>thn (hb pins s1 σ H1 _ I1 q1) λu s2 ⟨y,H2,I2,r2,q2⟩=>
   thn (ho pins s2 σ H2 x y v u _ I2 r1 r2 q2) λc s3 ⟨z,H3,I3,r3,k,e,q3⟩=> ?_) hm
 subst e
 cases r3
 exact wpAny_truthy_bool ⟨H3,I3,q3⟩
def znn (r r':R2) (ta tb tc:TE):TE:=λσ H Q=>ta σ H λx H1=>tb σ H1 λy H2=>r x y H2 λz H3=> ∃ k,z= .bl k/\
 (if k=true then tc σ H3 λw' H4=>r' y w' H4 Q else Q (.bl false) H3)
theorem zlZ {op op':CmpOp} {r r':R2} (ho:OpR X (compareOp op) r) (ho':OpR X (compareOp op') r') (ha:PE X a ta) (hb:PE X b tb) (hc:PE X c tc)
  (hm:lastMarks [op,op'] [b,c]=false:=by with_unfolding_all rfl):PT X (.Compare a [op,op'] [b,c] pos) (zrJ (znn r r' ta tb tc)):=by
 intro pins s σ H Q I h
 refine isTrue_chain (thn (ha pins s σ H _ I h) λv s1 ⟨x,H1,I1,r1,q1⟩=>test_link (thn (hb pins s1 σ H1 _ I1 q1) λu s2 ⟨y,H2,I2,r2,q2⟩=>
   thn (ho pins s2 σ H2 x y v u _ I2 r1 r2 q2) λd s3 ⟨z,H3,I3,r3,k,e,q3⟩=> ?_)) hm
 subst e
 cases r3
 refine wpAny_truthy_bool ?_
 cases k with
 | false=>
  obtain ⟨k',e',q'⟩:=q3
  cases e'
  exact ite_ff ⟨H3,I3,q'⟩
 | true=>
  refine ite_tt (test_last (thn (hc pins s3 σ H3 _ I3 q3) λw' s4 ⟨z',H4,I4,r4,q4⟩=>thn (ho' pins s4 σ H4 y z' u w' _ I4 r2 r4 q4) λd' s5 ⟨z2,H5,I5,r5,k2,e2,q5⟩=> ?_))
  subst e2
  cases r5
  exact wpAny_truthy_bool ⟨H5,I5,q5⟩
def ztK (K:W.Frag) (x:V) (H:Hp) (k:Bool):Prop:=
 match x with
 | .non=>k=false
 | .bl b=>k=b
 | .int i=>k=(i != 0)
 | .str y=>y.length<=sizeLine/\k=((y.length:Int) != 0)
 | .byt y=>y.size<=sizeLine/\k=((y.size:Int) != 0)
 | .ref p=>(∃ xs,SqL K H p xs/\k= !xs.isEmpty)\/(∃ xs,SqT K H p xs/\k= !xs.isEmpty)\/ ∃ kvs,H p=some (.dK kvs)/\k= !kvs.isEmpty
 | _=>False
theorem zi1 {κ:Type} {kvs:List (κ×V)} {vs:List (κ×Value)} (r:KV kvs vs):(!vs.isEmpty)= !kvs.isEmpty:=by
 cases r<;>rfl
theorem ze8 {xs:List V} {its:List Value} (r:zaS xs its):(!its.toArray.isEmpty)= !xs.isEmpty:=by
 cases r<;>simp
theorem zgV:(sizeLine:Nat)<2^63:=by rw [sizeLine_eq];decide
theorem zrL:zup X (λx H Q=> ∃ k,ztK X.K x H k/\Q k H):=by
 intro pins s σ H x v Q I rx h
 obtain ⟨k,e,q⟩:=h
 have hl:=zgV
 have hs:sizeLine=16777216:=sizeLine_eq
 cases x with
 | non=>
  cases rx
  have e':k=false:=e
  subst e'
  exact truthy_none ⟨H,I,q⟩
 | bl b=>
  cases rx
  have e':k=b:=e
  subst e'
  exact wpAny_truthy_bool ⟨H,I,q⟩
 | int i=>
  obtain ⟨t,rfl⟩:=rx
  have e':k=(i != 0):=e
  subst e'
  exact PySem.P.truthy_int ⟨H,I,q⟩
 | str y=>
  obtain ⟨t,rfl⟩:=rx
  obtain ⟨hy,e'⟩:y.length<=sizeLine/\k=((y.length:Int) != 0):=e
  subst e'
  exact PySem.P.truthy_str ⋯ ⟨H,I.tok _,q⟩
 | byt y=>
  obtain ⟨t,rfl⟩:=rx
  obtain ⟨hy,e'⟩:y.size<=sizeLine/\k=((y.size:Int) != 0):=e
  subst e'
  exact W.truthy_bytes ⋯ ⟨H,I.tok _,q⟩
 | ref p=>
  cases rx
  have e':(∃ xs,SqL X.K H p xs/\k= !xs.isEmpty)\/(∃ xs,SqT X.K H p xs/\k= !xs.isEmpty)\/ ∃ kvs,H p=some (.dK kvs)/\k= !kvs.isEmpty:=e
  rcases e' with ⟨xs,hx,e'⟩ | ⟨xs,hx,e'⟩ | ⟨kvs,hx,e'⟩
  ·subst e'
   obtain ⟨its,r,pl,hz⟩:=I.list hx
   have hlen:=r.length
   exact wpAny_truthy_list pl.isList (by simp only [qaA];omega) ⟨H,I.tok _,by rw [ze8 r];exact q⟩
  ·subst e'
   obtain ⟨its,r,pl,hz⟩:=I.tuple hx
   have hlen:=r.length
   exact truthy_tuple pl (by simp only [qaA];omega) ⟨H,I.tok _,by rw [ze8 r];exact q⟩
  ·subst e'
   obtain ⟨hz,hS,vs,r,m⟩:kvs.length<=sizeLine/\(p==sysModules)=false/\ ∃ vs,KV kvs vs/\s.heap.DictOf (zhk X.prog X.w) p vs:=I.hok p _ hx
   have hlen:kvs.length=vs.length:=Paired.length r
   exact wpAny_truthy_dict hS m ⋯ ⟨H,I.tok _,by rw [zi1 r];exact q⟩
 | _=>exact (show False from e).elim
theorem zmo (ha:PE X a ta) (he: ∀ whole,isTrue a X.env whole=(do let v<-whole;standAt a.pos;holding [v] (truthy v))):
  PT X a (λσ H Q=>ta σ H λx H'=> ∃ k,ztK X.K x H' k/\Q k H'):=by
 intro pins s σ H Q I h
 exact isTrue_plain (thn (ha pins s σ H _ I h) λv s1 ⟨x,H1,I1,r1,q1⟩=>zrL pins s1 σ H1 x v Q I1 r1 q1) (he _)
theorem zi6:OpR X (binaryOp .Add) (λx y H Q=> ∃ i j,x= .str i/\y= .str j/\i.length+j.length<=sizeLine/\Q (.str (i++j)) H):=by
 intro pins s σ H x y v u Q I rx ry h
 obtain ⟨i,j,rfl,rfl,hz,q⟩:=h
 obtain ⟨t,rfl⟩:=rx
 obtain ⟨t',rfl⟩:=ry
 exact add_str (λt' tk=>⟨.str (i++j),H,I.tok _,⟨_,rfl⟩,q⟩) hz
theorem zdM {x:V} {us:List Value} (r:zaS [x] us): ∃ u,us=[u]/\zbp x u:=by
 cases r with
 | cons r1 r2=>cases r2;exact ⟨_,rfl,r1⟩
theorem zoZ {x y:V} {us:List Value} (r:zaS [x,y] us): ∃ u w',us=[u,w']/\zbp x u/\zbp y w':=by
 cases r with
 | cons r1 r2=>
  cases r2 with
  | cons r3 r4=>cases r4;exact ⟨_,_,rfl,r1,r3⟩
theorem zku (hc:X.calm=true):zaH X (.builtin "max") (λxs H Q=> ∃ i j,xs=[.int i,.int j]/\Q (.int (if j>i then j else i)) H):=by
 intro pins s σ H xs us Q I r h
 obtain ⟨i,j,rfl,q⟩:=h
 obtain ⟨u,w',rfl,⟨t,rfl⟩,⟨t',rfl⟩⟩:=zoZ r
 refine max_two_ints (I.ok.hd hc) λh' tk k=>⟨_,H,I.kept k,?_,q⟩
 by_cases hj:j>i
 ·rw [qa4 hj,qa4 hj];exact ⟨_,rfl⟩
 ·rw [qa5 hj,qa5 hj];exact ⟨_,rfl⟩
theorem zkA (hc:X.calm=true):zaH X (.builtin "min") (λxs H Q=> ∃ i j,xs=[.int i,.int j]/\Q (.int (if j<i then j else i)) H):=by
 intro pins s σ H xs us Q I r h
 obtain ⟨i,j,rfl,q⟩:=h
 obtain ⟨u,w',rfl,⟨t,rfl⟩,⟨t',rfl⟩⟩:=zoZ r
 refine min_two_ints (I.ok.hd hc) λh' tk k=>⟨_,H,I.kept k,?_,q⟩
 by_cases hj:j<i
 ·rw [qa4 hj,qa4 hj];exact ⟨_,rfl⟩
 ·rw [qa5 hj,qa5 hj];exact ⟨_,rfl⟩
end
structure zsF (h:Heap) (x dx C:Addr) (mA:Str->Option Value):Prop where
 obj:h.get? x=some (W.instObj C dx)
 ns:h.Ns1 dx mA
 ne:dx≠x
theorem zkb {h:Heap} {dx:Addr} {mA:Str->Option Value} (n:h.Ns1 dx mA): ∃ od,h.get? dx=some od/\ ∀ name,W.lookIn name od=some (mA name):=by
 obtain ⟨o,es,ep,ho,hd,hk,_,hm⟩:=n
 refine ⟨o,ho,λname=> ?_⟩
 have e:=hm name
 unfold nsFind findBy at e
 rw [<- Array.find?_toList] at e
 unfold W.lookIn
 rw [hd]
 dsimp only
 split
 ·rename_i y q
  rw [q] at e
  exact congrArg some e
 ·rename_i q
  rw [q] at e
  have a:es.toList.any (·.refKey)=false:=by
   rw [List.any_eq_false]
   intro y hy
   obtain ⟨z,t,hkey⟩:=hk y (Array.mem_toList_iff.mp hy)
   simp [DictEntry.refKey,hkey]
  have a': ¬es.toList.any (·.refKey)=true:=by rw [a];exact Bool.false_ne_true
  rw [qa5 a']
  exact congrArg some e
theorem zsF.look {h:Heap} {x dx C:Addr} {mA:Str->Option Value} (I:zsF h x dx C mA): ∃ od,W.InstAt h x (W.instObj C dx) C (some od)/\ ∀ name,W.lookIn name od=some (mA name):=
 let ⟨od,ho,hl⟩:=zkb I.ns
 ⟨od,⟨I.obj,rfl,rfl,ho⟩,hl⟩
section
variable {prog:Program} {w:World} {A:Around} {E:Value->Shared->Prop} {s:Shared} {K:W.Frag} {x dx C f:Addr} {mA:Str->Option Value} {name:Str} {v:Value}
end
section
variable {P:Program} {w:World} {H H':Hp} {h h':Heap} {a C dx:Addr} {fs fs':List (Str×V)}
theorem zoD (hok:HOk P w H h) (e:H a=some (.ins C dx fs)): ∃ mA,zsF h a dx C mA/\(∀ f,ztC (fs.lookup f) (mA f))/\PySem.Within mA (fs.map (·.1))/\fs.length<=1000/\H dx=some (.own a):=by
 obtain ⟨d,z,ne,ob,mA,n,r,q⟩:=(show zbB P w H h a (.ins C dx fs) from hok a _ e)
 exact ⟨mA,⟨ob,n,ne⟩,r,q,z,d⟩
end
structure Cls (K:W.Frag) (C:Addr):Prop where
 pg:W.plainGet K C Str.empty=true
 hd:W.hasDictIn K C=true
 po:W.plainOver K C=true
 sa:W.findIn K (.ref C) "__setattr__"=some (some (.builtin "object.__setattr__"))
theorem Cls.get {K:W.Frag} {C:Addr} (c:Cls K C) (f:Str):W.plainGet K C f=true:=c.pg
structure Con (K:W.Frag) (C:Addr) (f:Str) (v:V) (u:Value):Prop where
 at_:W.findIn K (.ref C) f=some (some u)
 rel:zbp v u
 get:W.specialIn K u "__get__"=some none
 cp:W.copiedNames.contains f=false
structure zur (K:W.Frag) (C:Addr) (m:Str) (f:Addr):Prop where
 at_:W.findIn K (.ref C) m=some (some (.ref f))
 fn:W.isFn K (.ref f)=true
 kp:W.keepIn K (.ref f)=true
section
variable {X:Cx} {pins:List (Addr×Obj)} {σ:St} {H:Hp} {s:Shared} {a C dx:Addr} {fs:List (Str×V)} {f:Str} {v:V} {A:Around} {E:Value->Shared->Prop}
end
section
variable {X:Cx} {o e value:Expr} {f:Str} {pos pos' tpos:Pos} {ta tv:TE}
end
section
variable {X:Cx} {pins:List (Addr×Obj)} {σ:St} {H:Hp} {s:Shared} {A:Around} {E:Value->Shared->Prop} {Q:Value->Shared->Prop} {c:Value} {b:Bool}
inductive zih (K:W.Frag) (H:Hp):V->Value->Prop where
 | non:zih K H .non (.type "NoneType")
 | bl (x:Bool):zih K H (.bl x) (.type "bool")
 | int (i:Int):zih K H (.int i) (.type "int")
 | str (x:Str):zih K H (.str x) (.type "str")
 | flt (x:UInt64):zih K H (.flt x) (.type "float")
 | lst {a:Addr} {xs:List V} (e:H a=some (.lst xs)):zih K H (.ref a) (.type "list")
 | frz {a:Addr} {o:Obj} {xs:List V} (e:H a=some (.frz o (.lst xs))):zih K H (.ref a) (.type "list")
 | tup {a:Addr} {xs:List V} (e:H a=some (.tup xs)):zih K H (.ref a) (.type "tuple")
 | dK {a:Addr} {kvs:List (Key×V)} (e:H a=some (.dK kvs)):zih K H (.ref a) (.type "dict")
 | dT {a:Addr} {kvs:List (List Key×V)} (e:H a=some (.dT kvs)):zih K H (.ref a) (.type "dict")
 | ins {a C dx:Addr} {fs:List (Str×V)} (e:H a=some (.ins C dx fs)) (cl:Cls K C) (ha:W.findIn K (.ref C) "__class__"=some (some (.builtin "object.__class__")))
   (hn:W.specialIn K (.builtin "object.__class__") "__get__"=some (some (.builtin "getset_descriptor.__get__"))) (htk:W.takesIn K (.builtin "object.__class__")=some true)
   (hm:W.mroIn K C (.type "object")=some true):zih K H (.ref a) (.ref C)
theorem zjI {x:V} {u t:Value} (I:Inv X pins σ H s) (rx:zbp x u) (ty:zih X.K H x t) (e:W.kitOne X.K t c=some b) (h: ∀ tk,Q (.bool b) {s with toks:=tk}):
  wpAny (model X.prog X.w) A (call (.builtin "isinstance") [u,c]) Q E s:=by
 cases ty with
 | non=>cases (show u=Value.none from rx);exact W.kia_one W.kitx_none I.kIn True.intro e (λz=>nomatch z) h
 | bl y=>cases (show u=Value.bool y from rx);exact W.kia_one W.kitx_bool I.kIn True.intro e (λz=>nomatch z) h
 | int i=>obtain ⟨t,q⟩:=(show ∃ t,u=Value.int i t from rx);cases q;exact W.kia_one W.kitx_int I.kIn True.intro e (λz=>nomatch z) h
 | str y=>obtain ⟨t,q⟩:=(show ∃ t,u=Value.str y t from rx);cases q;exact W.kia_one W.kitx_str I.kIn True.intro e (λz=>nomatch z) h
 | flt y=>obtain ⟨t,q⟩:=(show ∃ t,u=Value.float y t from rx);cases q;exact W.kia_one W.kitx_float I.kIn True.intro e (λz=>nomatch z) h
 | @lst a xs ea=>
  cases (show u=Value.ref a from rx)
  obtain ⟨_,_,n,_,h1⟩:=(show zbB X.prog X.w H s.heap a (.lst xs) from I.hok a _ ea)
  exact W.kia_one W.kitx_list I.kIn ⟨_,h1,rfl⟩ e (λz=>nomatch z) h
 | @frz a ob xs ea=>
  cases (show u=Value.ref a from rx)
  obtain ⟨_,_,_,n,_,h1⟩:=(show zbB X.prog X.w H s.heap a (.frz ob (.lst xs)) from I.hok a _ ea)
  exact W.kia_one W.kitx_list I.kIn ⟨_,h1,rfl⟩ e (λz=>nomatch z) h
 | @tup a xs ea=>
  cases (show u=Value.ref a from rx)
  obtain ⟨_,_,_,p⟩:=(show zbB X.prog X.w H s.heap a (.tup xs) from I.hok a _ ea)
  obtain ⟨o,h1,h2,_⟩:=p
  exact W.kia_one W.kitx_tuple I.kIn ⟨o,h1,h2⟩ e (λz=>nomatch z) h
 | @dK a kvs ea=>
  cases (show u=Value.ref a from rx)
  obtain ⟨_,_,vs,_,p⟩:=(show zbB X.prog X.w H s.heap a (.dK kvs) from I.hok a _ ea)
  obtain ⟨o,es,ep,h1,h2,_⟩:=p
  exact W.kia_one W.kitx_dict I.kIn ⟨o,h1,h2.1⟩ e (λz=>nomatch z) h
 | @dT a kvs ea=>
  cases (show u=Value.ref a from rx)
  obtain ⟨_,_,xs,_,o,es,ep,h1,h2,_⟩:=(show zbB X.prog X.w H s.heap a (.dT kvs) from I.hok a _ ea)
  exact W.kia_one W.kitx_dict I.kIn ⟨o,h1,h2.1⟩ e (λz=>nomatch z) h
 | @ins a C dx fs ea cl ha hn htk hm=>
  cases (show u=Value.ref a from rx)
  obtain ⟨mA,O,_⟩:=zoD I.hok ea
  obtain ⟨od,J,_⟩:=O.look
  exact W.kia_one (W.kitx_own (cl.get _) cl.hd ha hn htk hm) I.kIn J e (λz=>nomatch z) h
end
structure zeE (k:Nat) (A:Around):Prop where
 hd:A.handled=none
 dp:A.depth+3*k+5<recursionLimit
 un:A.units+16*k+200<cLine
theorem zeE.mono {j k:Nat} {A:Around} (r:zeE k A) (h:j<=k):zeE j A:=⟨r.hd,by have:=r.dp;omega,by have:=r.un;omega⟩
theorem zeE.deeper {k:Nat} {A:Around} (r:zeE (k+1) A) (env:Env):zeE k (A.deeper env):=
 ⟨r.hd,by have:=r.dp;show A.depth+1+3*k+5<_;omega,by have:=r.un;show A.units+3+16*k+200<_;omega⟩
theorem zeE.depth {k:Nat} {A:Around} (r:zeE k A):A.depth<recursionLimit:=by have:=r.dp;omega
theorem zeE.units {k:Nat} {A:Around} (r:zeE k A):A.units+64<cLine:=by have:=r.un;omega
def ztT:TA:=λ_ H Q=>Q [] H
def zs3 (ta:TE) (tr:TA):TA:=λσ H Q=>ta σ H λx H1=>tr σ H1 λxs H2=>Q (x::xs) H2
section
variable {X:Cx} {e:Expr} {es:List Expr} {te:TE} {t:TA} {pos:Pos}
theorem zcN:PA X [] ztT:=λ_ _ _ _ H Q I h=>Calls.spliced_nil ⟨[],H,I,.nil,h⟩
theorem zbC (ha:PE X e te) (hr:PA X es t) (hs:starEach (e::es) X.env=(false,eval e X.env)::starEach es X.env:=by rfl):PA X (e::es) (zs3 te t):=by
 intro pos pins s σ H Q I h
 rw [hs]
 show wpAny _ _ (spliced ((false,eval e X.env)::backTo pos (starEach es X.env))) _ _ s
 refine Calls.spliced_cons (thn (ha pins s σ H _ I h) λu s1 ⟨x,H1,I1,r1,q1⟩=> ?_)
 exact thn (hr pos pins s1 σ H1 _ I1 q1) λus s2 ⟨xs,H2,I2,r2,q2⟩=>⟨x::xs,H2,I2,.cons r1 r2,q2⟩
def ztU (t:TA):TE:=λσ H Q=>t σ H λxs H1=>xs.length<=sizeLine/\ ∀ p,H1 p=none->Q (.ref p) (upd H1 p (.tup xs))
def zpr (t:TA):TE:=λσ H Q=>t σ H λxs H1=>xs.length<=sizeLine/\ ∀ p,H1 p=none->Q (.ref p) (upd H1 p (.lst xs))
theorem zrh {x1} (h:PA X es t):PE X (.Tuple es x1 pos) (ztU t):=by
 intro pins s σ H Q I hq
 refine wpAny_Tuple_spliced (thn (h pos pins s σ H _ I hq) λus s1 ⟨xs,H1,I1,r,z,q⟩=>⟨by rw [<- r.length];exact z,?_⟩)
 have hf:H1 s1.heap.objs.size=none:=I1.hok.fresh (qaV _)
 refine ⟨.ref s1.heap.objs.size,upd H1 s1.heap.objs.size (.tup xs),I1.laid (t':=s1.toks) (λb u e=>qag _ e) (qaV _) ?_,rfl,q _ hf⟩
 exact ⟨z,us,r,⟨_,qar _ rfl,rfl,_,rfl,rfl⟩⟩
theorem znu (h:PA X es t):PE X (.List es pos) (zpr t):=by
 intro pins s σ H Q I hq
 refine wpAny_List_spliced (thn (h pos pins s σ H _ I hq) λus s1 ⟨xs,H1,I1,r,z,q⟩=>⟨by rw [<- r.length];exact z,?_⟩)
 have hf:H1 s1.heap.objs.size=none:=I1.hok.fresh (qaV _)
 refine ⟨.ref s1.heap.objs.size,upd H1 s1.heap.objs.size (.lst xs),I1.laid (t':=s1.toks) (λb u e=>qag _ e) (qaV _) ?_,rfl,q _ hf⟩
 exact ⟨z,us,0,r,qar _ rfl⟩
end
abbrev Sp:=List V->Hp->VK->XK->Prop
abbrev CXT:=List Env->Hp->Shared->XK->Value->Shared->Prop
structure zp2 (P:Program) (w:World) (K:W.Frag) (mg:Str->Option Value) (base:Heap) (A:Around) (outer:List Env) (s:Shared) (H:Hp):Prop where
 frames:A.frames=some outer
 mod:Mod K mg base
 bs: ∀ b o,base.get? b=some o->s.heap.get? b=some o/\H b=none
 bsz:base.objs.size<=s.heap.objs.size
 funs:s.heap.FunFrames base outer
 frf: ∀ b∈frs outer,H b=none
 hok:HOk P w H s.heap
 bare:AllBare s.gens
 hand:zgq A H
def CE (outer:List Env) (P:Program) (w:World) (H:Hp) (s:Shared) (Q:VK) (u:Value) (s':Shared):Prop:=
 ∃ v H',s'.os=s.os/\AllBare s'.gens/\Un (frs outer) [] H H' s.heap s'.heap/\HOk P w H' s'.heap/\zbp v u/\Q v H'
def CR (CX:CXT) (outer:List Env) (P:Program) (w:World) (H:Hp) (s:Shared) (Q:VK) (E:XK) (r:Result) (s':Shared):Prop:=
 match r with
 | .ok (.ret u)=>CE outer P w H s Q u s'
 | .ok _=>False
 | .error e=>CX outer H s E e s'
structure zbN (P:Program) (w:World) (K:W.Frag) (mg:Str->Option Value) (base:Heap) (CX:CXT) (k:Nat) (f:Addr) (fd:FuncData) (ps:List Str) (sp:Sp):Prop where
 len: ∀ vs H Q E,sp vs H Q E->vs.length=ps.length
 run: ∀ (A:Around) (outer:List Env) (s:Shared) (H:Hp) (args:Args) (us:List Value) (vs:List V) (Q:VK) (E:XK),zeE k A->zp2 P w K mg base A outer s H->BindsTo s fd args (ps.zip us)->zaS vs us->sp vs H Q E->
  codeAny (model P w) A (.call (.ref f) args) (CR CX outer P w H s Q E) s
section
variable {X:Cx} {pins:List (Addr×Obj)} {σ:St} {H:Hp} {s s':Shared}
theorem Inv.env0 (I:Inv X pins σ H s):zp2 X.prog X.w X.K X.mg X.base X.A X.stack s H:=
 ⟨I.ok.frames,I.ok.mod,I.bs,qaS I.ok.bsz I.sz,I.stack,I.stkFree,I.hok,I.bare,I.handA⟩
theorem Inv.after {Q:VK} {u:Value} (I:Inv X pins σ H s) (h:CE X.stack X.prog X.w H s Q u s'):EP X pins σ Q u s':=by
 obtain ⟨v,H',os,bare,un,hok,r,q⟩:=h
 obtain ⟨hh,g,d,t,os'⟩:=s'
 obtain rfl:os'=s.os:=os
 exact ⟨v,H',I.call (h':=hh) (g':=g) (d':=d) (t':=t) (ch:=[]) un hok bare (λb z=>absurd z (by simp)),r,q⟩
end
def zsz (sp:Sp) (dvs:List V) (E:XK) (t:TA):TE:=λσ H Q=>t σ H λvs H1=>sp (vs++dvs) H1 Q E
def zaJ (K:W.Frag) (fd:FuncData) (ps:List Str) (ds:List Value):Prop:=
 ∀ (s:Shared) (us:List Value),K.In s.heap->(us++ds).length=ps.length->BindsTo s fd ⟨us,[]⟩ (ps.zip (us++ds))
theorem zaJ.all {K:W.Frag} {fd:FuncData} {ps:List Str} (h: ∀ us:List Value,us.length=ps.length->bindArgs fd ⟨us,[]⟩=pure (ps.zip us)):zaJ K fd ps []:=λs us _ hl=>by
 rw [append_nil] at hl ⊢
 exact .of_eq (h us hl)
def zj8 (CX:CXT) (X:Cx) (E:XK):Prop:= ∀ (pins:List (Addr×Obj)) (σ:St) (H:Hp) (s:Shared) (e:Value) (s':Shared),Inv X pins σ H s->CX X.stack H s E e s'->X.xe e s'
section
variable {X:Cx} {CX:CXT} {k:Nat} {f C:Addr} {fd:FuncData} {ps:List Str} {sp:Sp} {dvs:List V} {ds:List Value} {E:XK} {x m:Str} {p pos apos:Pos} {e o:Expr} {es:List Expr} {ta:TE} {t:TA}
theorem zrm {pins:List (Addr×Obj)} {σ:St} {H:Hp} {s:Shared} {Q:VK} {us:List Value} {vs:List V} (F:zbN X.prog X.w X.K X.mg X.base CX k f fd ps sp) (hr:zeE k X.A) (hb:zaJ X.K fd ps ds) (hd:zaS dvs ds) (hx:zj8 CX X E)
  (I:Inv X pins σ H s) (r:zaS vs us) (h:sp (vs++dvs) H Q E):wpAny (model X.prog X.w) X.A (call (.ref f) us) (EP X pins σ Q) X.xe s:=by
 have r2:zaS (vs++dvs) (us++ds):=r.append hd
 have hl:(us++ds).length=ps.length:=by rw [<- r2.length];exact F.len _ _ _ _ h
 refine wpAny_call (codeAny_mono (F.run X.A X.stack s H ⟨us,[]⟩ (us++ds) (vs++dvs) Q E hr I.env0 (hb s us I.kIn hl) r2 h) λr s' hq=> ?_)
 cases r with
 | error e=>exact hx pins σ H s e s' I hq
 | ok fl=>
  cases fl with
  | ret u=>exact I.after hq
  | next=>exact qa0 hq
  | brk=>exact qa0 hq
  | cont=>exact qa0 hq
theorem znQ (F:zbN X.prog X.w X.K X.mg X.base CX k f fd ps sp) (hr:zeE k X.A) (hg:Gl X x) (hm:X.mg x=some (.ref f)) (hk:W.keepIn X.K (.ref f)=true) (hb:zaJ X.K fd ps ds) (hd:zaS dvs ds) (hx:zj8 CX X E)
  (ha:PA X (e::es) t) (hdb:(x==("__debug__":Str))=false:=by decide) (he:starEach (e::es) X.env=(false,eval e X.env)::starEach es X.env:=by rfl) (hpl:(backTo pos (starEach es X.env)).any (·.1)=false:=by rfl):
  PE X (.Call (.Name x p) (e::es) [] pos) (zsz sp dvs E t):=by
 intro pins s σ H Q I h
 refine wpAny_Call_Name_kw (znL I hg hm ?_ hdb)
 refine W.callWith_K (h₀:=X.base) I.ok.mod.kin hk (thn (ha pos pins s σ H _ I h) λus s1 ⟨vs,H1,I1,r,q⟩=>⟨I1.kIn,?_⟩) he hpl
 exact zrm F hr hb hd hx I1 r q
structure Mk (K:W.Frag) (C f:Addr):Prop where
 makes:W.makesIn K C=true
 init:W.findIn K (.ref C) "__init__"=some (some (.ref f))
 fn:W.isFn K (.ref f)=true
 kp:W.keepIn K (.ref C)=true
end
section
variable {X:Cx} {CX:CXT} {k:Nat} {f C:Addr} {fd:FuncData} {ps ks:List Str} {sp:Sp} {E:XK} {x m:Str} {p pos apos kpos:Pos} {e o:Expr} {es:List Expr} {kws:List Keyword} {te ta:TE} {t tk:TA} {nm:Option Str}
structure ztL (K:W.Frag) (fd:FuncData) (ps ks:List Str) (g:List Value->List Value->List Value) (gV:List V->List V->List V):Prop where
 to: ∀ (s:Shared) (us ws:List Value),K.In s.heap->(g us ws).length=ps.length->BindsTo s fd ⟨us,ks.zip ws⟩ (ps.zip (g us ws))
 rel: ∀ {vs:List V} {us:List Value} {zs:List V} {ws:List Value},zaS vs us->zaS zs ws->zaS (gV vs zs) (g us ws)
variable {g:List Value->List Value->List Value} {gV:List V->List V->List V}
end
structure zao (N P:List Str) (sc:Scope):Prop where
 kind:sc.kind= .function
 co:sc.isCoroutine=false
 gen:sc.isGenerator=false
 nd:N.Nodup
 pre:N.take P.length=P
 par: ∀ x∈P,sc.names.lookup x=some .local\/sc.names.lookup x=some .cell
 nofree: ∀ y∈sc.names,y.2≠ .free
theorem zgm {kindOf:Str->Option NameKind} {x:Str}: ∀ {binds:List (Str×Value)} {m:Str->Option Value},(∀ v,(x,v)∉binds)->bindL kindOf binds m x=m x
 | [],_,_=>rfl
 | (n,v)::r,m,h=>by
  unfold bindL
  rw [zgm λw hw=>h w (qan _ hw)]
  split
  ·have:x≠n:=by rintro rfl;exact h v qau
   simp [this]
  ·rfl
theorem zgU {kindOf:Str->Option NameKind} {x:Str}: ∀ {binds:List (Str×Value)} {m:Str->Option Value},(∀ v,(x,v)∉binds)->bindC kindOf binds m x=m x
 | [],_,_=>rfl
 | (n,v)::r,m,h=>by
  unfold bindC
  rw [zgU λw hw=>h w (qan _ hw)]
  split
  ·rfl
  ·have:x≠n:=by rintro rfl;exact h v qau
   simp [this]
theorem zgD {kindOf:Str->Option NameKind} {x:Str} {v:Value}: ∀ {P:List Str} {vs:List Value} {i:Nat} {m:Str->Option Value},P.Nodup->P[i]? = some x->vs[i]? = some v->kindOf x=some .local->
  bindL kindOf (P.zip vs) m x=some v
 | [],_,_,_,_,h,_,_=>by simp at h
 | _::_,[],_,_,_,_,h,_=>by simp at h
 | p::P,w::vs,0,m,nd,h1,h2,hk=>by
  simp at h1 h2;subst h1;subst h2
  show bindL kindOf ((p,w)::P.zip vs) m p=_
  unfold bindL
  rw [zgm λv hv=>(nodup_cons.mp nd).1 (List.of_mem_zip hv).1,qa4 hk]
  simp
 | p::P,w::vs,i+1,m,nd,h1,h2,hk=>by
  show bindL kindOf ((p,w)::P.zip vs) m x=_
  unfold bindL
  exact zgD (i:=i) (nodup_cons.mp nd).2 (by simpa using h1) (by simpa using h2) hk
theorem zgP {kindOf:Str->Option NameKind} {x:Str} {v:Value}: ∀ {P:List Str} {vs:List Value} {i:Nat} {m:Str->Option Value},P.Nodup->P[i]? = some x->vs[i]? = some v->kindOf x≠some .local->
  bindC kindOf (P.zip vs) m x=some v
 | [],_,_,_,_,h,_,_=>by simp at h
 | _::_,[],_,_,_,_,h,_=>by simp at h
 | p::P,w::vs,0,m,nd,h1,h2,hk=>by
  simp at h1 h2;subst h1;subst h2
  show bindC kindOf ((p,w)::P.zip vs) m p=_
  unfold bindC
  rw [zgU λv hv=>(nodup_cons.mp nd).1 (List.of_mem_zip hv).1,qa5 hk]
  simp
 | p::P,w::vs,i+1,m,nd,h1,h2,hk=>by
  show bindC kindOf ((p,w)::P.zip vs) m x=_
  unfold bindC
  exact zgP (i:=i) (nodup_cons.mp nd).2 (by simpa using h1) (by simpa using h2) hk
def zeQ (N:List Str) (vs:List V):St:=vs.map some++List.replicate (N.length - vs.length) none
def zoc (CX:CXT) (P:Program) (w:World) (K:W.Frag) (mg:Str->Option Value) (base:Heap) (N:List Str) (qual:Str) (scope:Scope) (f:Addr) (cd:Value) (A:Around) (outer:List Env) (s:Shared) (H:Hp) (E:XK):Cx where
 prog:=P
 w:=w
 K:=K
 mg:=mg
 base:=base
 A:=A.deeper (envOfC qual scope s.heap.objs.size f cd)
 N:=N
 s₀:=s
 H₀:=H
 env:=envOfC qual scope s.heap.objs.size f cd
 outer:=outer
 stack:=envOfC qual scope s.heap.objs.size f cd::outer
 ex:=[]
 calm:=true
 fn:=λ_=>true
 pn:=[]
 xe:=λe s'=>wpAny (model P w) (A.deeper (envOfC qual scope s.heap.objs.size f cd)) (leaving (envOfC qual scope s.heap.objs.size f cd) e) (λ_ s''=>CX outer H s E e s'') (λe' s''=>CX outer H s E e' s'') s'
theorem zhV {sc:Scope} {n:Nat} {x:Str} (h:sc.names.lookup x=some .cell): ∃ c,(cellsFrom n sc.names []).lookup x=some c:=by
 have q:=W.cellsFrom_some sc.names n [] (.inl h)
 exact Option.isSome_iff_exists.mp q
theorem zjn {CX:CXT} {P:Program} {w:World} {K:W.Frag} {mg:Str->Option Value} {base:Heap} {N ps:List Str} {qual:Str} {scope:Scope} {f:Addr} {cd:Value} {A:Around} {outer:List Env} {s s1:Shared} {H:Hp} {E:XK} {us:List Value} {vs:List V}
  (S:zao N ps scope) {cm:Bool} (hd:cm=true->A.handled=none) (e0:zp2 P w K mg base A outer s H) (hl:vs.length=ps.length) (r:zaS vs us)
  (x:InCallC s s.heap.objs.size (bindL (envOfC qual scope s.heap.objs.size f cd).kindOf (ps.zip us) λ_=>none) (cellsFrom (s.heap.objs.size+1) scope.names []) (bindC (envOfC qual scope s.heap.objs.size f cd).kindOf (ps.zip us) λ_=>none) s1):
  Inv {zoc CX P w K mg base N qual scope f cd A outer s H E with calm:=cm} [] (zeQ N vs) H s1:=by
 have hpl:ps.length<=N.length:=by have:=congrArg List.length S.pre;rw [length_take] at this;omega
 obtain ⟨h1,tk,rfl,hk⟩:=x.done
 have noA: ∀ b:Addr,b∉(zoc CX P w K mg base N qual scope f cd A outer s H E).ex:=λb z=>absurd (show b∈([]:List Addr) from z) (by simp)
 refine ⟨⟨e0.mod,S.kind,rfl,rfl,qaV _,λy z c h1 h2=> ?_,λy hy=> ?_,λy c _ h=> ?_,hd,e0.hand,Around.frames_deeper e0.frames,.inr ⟨rfl,rfl⟩,λb z=>absurd z (noA b),e0.bs,e0.bsz,λb _ _=>noA b,λb z=>absurd z (noA b),e0.funs,e0.frf⟩,
   rfl,e0.bare,Un.kept hk,⟨_,x.toInCall.ns,λi y v h1 h2 h3=> ?_⟩,λy c h=>⟨_,x.cell y c h⟩,e0.hok.fresh (qaV _),λy c h=> ?_,λp hp=>absurd (show p∈([]:List (Addr×Obj)) from hp) (by simp),e0.hok.kept hk,?_⟩
 ·exact name_of_addr x.apart (PySem.mem_of_lookup h1) (PySem.mem_of_lookup h2)
 ·have hy:scope.names.lookup y=some .cell\/scope.names.lookup y=some .free:=hy
  rcases hy with hy | hy
  ·exact zhV hy
  ·exact absurd rfl (S.nofree _ (PySem.mem_of_lookup hy))
 ·exact Nat.le_of_lt (x.above y c (PySem.mem_of_lookup h))
 ·have hi:i<vs.length:=by
   unfold zeQ at h2
   by_cases hi:i<vs.length
   ·exact hi
   ·rw [qaa (by simpa using hi)] at h2
    rw [List.getElem?_replicate] at h2
    split at h2<;>cases h2
  have ha:vs[i]? = some v:=by
   unfold zeQ at h2
   rw [qad (by simpa using hi),List.getElem?_map] at h2
   cases e:vs[i]? with
   | none=>rw [e] at h2;cases h2
   | some a=>rw [e] at h2;cases h2;rfl
  obtain ⟨u,hu,rv⟩:=r.get ha
  have hp:ps[i]? = some y:=by
   rw [<- S.pre,List.getElem?_take_of_lt ⋯];exact h1
  have ndP:ps.Nodup:=by rw [<- S.pre];exact S.nd.sublist (List.take_sublist _ _)
  refine ⟨u,rv,?_⟩
  rcases S.par y (List.mem_of_getElem? hp) with k | k
  ·exact .inl ⟨k,zgD ndP hp hu k⟩
  ·obtain ⟨c,e⟩:=zhV (n:=s.heap.objs.size+1) k
   refine .inr ⟨.inl k,c,e,?_⟩
   have q:=x.cell y c e
   rw [zgP ndP hp hu (by show scope.names.lookup y≠_;rw [k];decide)] at q
   exact q
 ·exact e0.hok.fresh (Nat.le_of_lt (x.above y c (PySem.mem_of_lookup h)))
 ·unfold zeQ
  show _=N.length
  rw [qav,qaH,List.length_replicate]
  omega
theorem ztq {CX:CXT} {P:Program} {w:World} {K:W.Frag} {mg:Str->Option Value} {base:Heap} {k:Nat} {f:Addr} {name qual:Str} {params:Arguments} {body:List Stmt} {scope:Scope} {dV kV doc pm cdv ct oc:Value} {an od:Option Addr}
  {osl:Array (Option Value)} {N ps:List Str} {sp:Sp} (lk:K.lookup f=some ⟨oc,od,.func (W.fnOf name qual params body scope dV kV doc pm an cdv ct),osl⟩) (hcd:W.codeIn K cdv qual=true) (S:zao N ps scope)
  (len: ∀ vs H Q E,sp vs H Q E->vs.length=ps.length)
  (hbody: ∀ (A:Around) (outer:List Env) (s:Shared) (H:Hp) (vs:List V) (Q:VK) (E:XK),zeE k (A.deeper (envOfC qual scope s.heap.objs.size f cdv))->sp vs H Q E->
    ∃ t,PSs (zoc CX P w K mg base N qual scope f cdv A outer s H E) body t/\t {nx:=λ_ H'=>Q .non H',rt:=Q} (zeQ N vs) H):
  zbN P w K mg base CX (k+1) f (W.fnOf name qual params body scope dV kV doc pm an cdv ct) ps sp:=by
 refine ⟨len,λA outer s H args us vs Q E hr e0 hb r hsp=> ?_⟩
 have hl:=len _ _ _ _ hsp
 have KX:K.In s.heap:=e0.mod.kin.keeps λb o e=>(e0.bs b o e).1
 have lim:s.heap.NoLimit:=e0.mod.nolimit.keeps λb o e=>(e0.bs b o e).1
 have hkind: ∀ y∈ps.zip us,scope.names.lookup y.1=some .local\/(scope.names.lookup y.1=some .cell/\((cellsFrom (s.heap.objs.size+1) scope.names []).lookup y.1).isSome=true):=λ⟨n,v⟩ hy=>by
  rcases S.par n (List.of_mem_zip hy).1 with q | q
  ·exact .inl q
  ·exact .inr ⟨q,W.cellsFrom_some _ _ _ (.inl q)⟩
 refine codeAny_call_function hr.depth (KX _ _ lk) rfl S.co S.gen rfl (W.codeRec_of KX hcd) (hb _ _ _ _ ?_)
 refine wpAny_newFunctionEnv_cells S.kind hkind λenv he s1 x=> ?_
 subst he
 refine ⟨lim.keeps x.toInCall.keep,codeAny_func ?_⟩
 obtain ⟨t,ht,hq⟩:=hbody A outer s H vs Q E (hr.deeper _) hsp
 have I:Inv (zoc CX P w K mg base N qual scope f cdv A outer s H E) [] (zeQ N vs) H s1:=zjn (cm:=true) S (λ_=>hr.hd) e0 hl r x
 refine qaZ (ht [] s1 (zeQ N vs) H _ I hq) (λfl s' hs=> ?_) λe s' hs=>hs
 have fin: ∀ {σ':St} {H':Hp} {v:V} {u:Value},Inv (zoc CX P w K mg base N qual scope f cdv A outer s H E) [] σ' H' s'->zbp v u->Q v H'->CE outer P w H s Q u s':=
  λ{σ' H' v u} J rv q=>⟨v,H',J.os,J.bare,J.base,J.hok,rv,q⟩
 cases fl with
 | ret u=>
  obtain ⟨v,σ',H',J,rv,q⟩:=hs
  exact fin J rv q
 | next=>
  obtain ⟨σ',H',J,q⟩:=hs
  exact fin (v:=V.non) (u:=Value.none) J rfl q
 | brk=>
  obtain ⟨_,_,_,q⟩:=hs
  exact qa0 q
 | cont=>
  obtain ⟨_,_,_,q⟩:=hs
  exact qa0 q
section
variable {X:Cx} {x:Str} {p pos:Pos} {e:Expr} {es:List Expr} {t:TA} {id T:String} {r:List V->Hp->VK->Prop}
def tCB (r:List V->Hp->VK->Prop) (t:TA):TE:=λσ H Q=>t σ H λvs H1=>r vs H1 Q
theorem zd0 (hc:zaH X (.builtin id) r) (hg:Gl X x) (hm:X.mg x=none) (hv:bootBuiltins x=some (.builtin id)) (ha:PA X (e::es) t) (hn:x≠"__name__":=by decide) (hdb:(x==("__debug__":Str))=false:=by decide)
  (he:starEach (e::es) X.env=(false,eval e X.env)::starEach es X.env:=by rfl) (hpl:(backTo pos (starEach es X.env)).any (·.1)=false:=by rfl):PE X (.Call (.Name x p) (e::es) [] pos) (tCB r t):=by
 intro pins s σ H Q I h
 refine wpAny_Call_Name_kw (zg4 I hg hm hv ?_ hn hdb)
 exact PyProof.Rows.callWith_builtin1 (thn (ha pos pins s σ H _ I h) λus s1 ⟨vs,H1,I1,r1,q1⟩=>hc pins s1 σ H1 vs us Q I1 r1 q1) he hpl
theorem zcs (hc:zaH X (.type T) r) (hg:Gl X x) (hm:X.mg x=none) (hv:bootBuiltins x=some (.type T)) (ha:PA X (e::es) t) (hn:x≠"__name__":=by decide) (hdb:(x==("__debug__":Str))=false:=by decide)
  (he:starEach (e::es) X.env=(false,eval e X.env)::starEach es X.env:=by rfl) (hpl:(backTo pos (starEach es X.env)).any (·.1)=false:=by rfl):PE X (.Call (.Name x p) (e::es) [] pos) (tCB r t):=by
 intro pins s σ H Q I h
 refine wpAny_Call_Name_kw (zg4 I hg hm hv ?_ hn hdb)
 exact PyProof.Rows.callWith_type1 (thn (ha pos pins s σ H _ I h) λus s1 ⟨vs,H1,I1,r1,q1⟩=>hc pins s1 σ H1 vs us Q I1 r1 q1) he hpl
end
end L2
namespace HT
def zaO:List Int->List Int->Bool
 | [],[]=>false
 | [],_::_=>true
 | _::_,[]=>false
 | x::xs,y::ys=>if x=y then zaO xs ys else decide (x<y)
theorem za0 (x y:Int) (xs ys:List Int):zaO (x::xs) (y::ys)=if x=y then zaO xs ys else decide (x<y):=rfl
theorem zdo:zaO [] []=false:=rfl
theorem zcO (y:Int) (ys:List Int):zaO [] (y::ys)=true:=rfl
theorem zcL (x:Int) (xs:List Int):zaO (x::xs) []=false:=rfl
theorem zhU (A:Around) (s:Shared) (a:Int) (t:Tok) (c:Int) (u:Tok): ∃ e,SeqAt.EqAt A s (.int a t) (.int c u) e/\(e=true↔a=c):=
 ⟨(a==c),SeqAt.EqAt.int_int a t c u,by simp⟩
theorem zhT (A:Around) (s:Shared) (a:Int) (t:Tok) (c:Int) (u:Tok) (prog:Program) (w:World) (E:Value->Shared->Prop) (Q:Value->Shared->Prop) (h:Q (.bool (decide (a<c))) s):
  wpAny (model prog w) A (richCompare .Lt (.int a t) (.int c u)) Q E s:=
 (PyProof.Rows.lt_int h:wpAny (model prog w) A (compareOp .Lt (.int a t) (.int c u)) Q E s)
section
open PySem.SeqAt
open PySem.AutoSeq1 (wpAny_loadPart')
open PySem.MeetsSeq PySem.MeetsSeq2 PySem.MeetsSeq3
theorem zfi (l b:Addr) (items items2:Array Value) (n n2:Nat) (dd dd2:Option Addr) (sl sl2:Array (Option Value)) (ns ms:List Int) (hi:IntsAre items.toList ns) (hj:IntsAre items2.toList ms):
  Meets (Builtin.«tuple.__lt__» ⟨[.ref l,.ref b],[]⟩)
   (λ_ R s=>s.heap.get? l=some {cls:= .type "tuple",dict:=dd,data:= .seq items n,slots:=sl}/\s.heap.get? b=some {cls:= .type "tuple",dict:=dd2,data:= .seq items2 n2,slots:=sl2}/\
     R (.ok (.ret (.bool (zaO ns ms)))) s):=
 .of_wp λprog w A R s h=>by
  obtain ⟨hp,g,d,tk,os⟩:=s;obtain ⟨hl,hb,h⟩:=h
  have f2:=AutoSeq1.sub_tuple_tuple
  have z1:items.size=ns.length:=by rw [<- hi.length];simp
  have z2:items2.size=ms.length:=by rw [<- hj.length];simp
  wp_walk using wpAny_loadPart' hl,wpAny_loadPart' hb,wpAny_forIn_list _ (λzaT b s'=>b.1=none/\s'=⟨hp,g,d,tk,os⟩/\ ∃ (vs ws:List Value) (ns' ms':List Int),zaT=vs.zip ws/\
    IntsAre vs ns'/\IntsAre ws ms'/\ns'.length+items2.size=ms'.length+items.size/\R (.ok (.ret (.bool (zaO ns' ms')))) ⟨hp,g,d,tk,os⟩) _
  case turn=>
   rintro ⟨y,x⟩ zaT b s' ⟨hb',rfl,vs,ws,ns',ms',hz,hvi,hwi,hlen,hR⟩
   cases hvi with
   | nil=>rw [List.zip_nil_left] at hz;cases hz
   | cons a t hvi'=>
    cases hwi with
    | nil=>rw [List.zip_nil_right] at hz;cases hz
    | cons c u hwi'=>
     rw [List.zip_cons_cons] at hz
     injection hz with hyx hrest
     injection hyx with hy hx
     subst hy hx
     rw [za0] at hR
     simp only [qaE] at hlen
     obtain ⟨e,he,hiff⟩:=zhU A.in1 ⟨hp,g,d,tk,os⟩ a t c u
     refine qaW (he prog w _ _ ?_)
     cases e with
     | true=>
      rw [qa4 (hiff.mp rfl)] at hR
      wp_walk
      exact ⟨rfl,rfl,_,_,_,_,hrest,hvi',hwi',⋯,hR⟩
     | false=>
      rw [qa5 (λq=>absurd (hiff.mpr q) Bool.false_ne_true)] at hR
      have hri:=zhT A.in1 ⟨hp,g,d,tk,os⟩ a t c u prog w
      wp_walk using hri
      exact ⟨_,rfl,by simpa using hR⟩
  case fin=>
   rintro ⟨b1,b2⟩ s' ⟨hb',rfl,vs,ws,ns',ms',hz,hvi,hwi,hlen,hR⟩
   simp only at hb'
   subst hb'
   have hv:zaO ns' ms'=decide (items.size<items2.size):=by
    cases hvi with
    | nil=>
     cases hwi with
     | nil=>
      simp only [qaJ] at hlen
      rw [zdo]
      exact (decide_eq_false ⋯).symm
     | cons c u hw=>
      simp only [qaJ,qaE] at hlen
      rw [zcO]
      exact (decide_eq_true ⋯).symm
    | cons a t hv=>
     cases hwi with
     | nil=>
      simp only [qaJ,qaE] at hlen
      rw [zcL]
      exact (decide_eq_false ⋯).symm
     | cons c u hw=>
      rw [List.zip_cons_cons] at hz
      cases hz
   rw [hv] at hR
   wp_walk
   exact ⟨_,rfl,by simpa [Builtin.Tuple.tupleCompareSizes] using hR⟩
  case h=>
   exact ⟨rfl,rfl,items.toList,items2.toList,ns,ms,rfl,hi,hj,⋯,h⟩
end
section
variable {prog:Program} {w:World} {A:Around} {E:Value->Shared->Prop} {s:Shared}
theorem zeR {l b:Addr} {items items2:Array Value} {ns ms:List Int} {Q:Value->Shared->Prop} (hl:IsTup s.heap l items) (hb:IsTup s.heap b items2) (hi:IntsAre items.toList ns) (hj:IntsAre items2.toList ms)
  (hu:A.units<cLine) (h:Q (.bool (zaO ns ms)) s):wpAny (model prog w) A (compareOp .Lt (.ref l) (.ref b)) Q E s:=by
 obtain ⟨⟨cls,dd,data,sl⟩,ho,hc,n,hd⟩:=id hl
 obtain ⟨⟨cls2,dd2,data2,sl2⟩,ho2,hc2,n2,hd2⟩:=id hb
 simp only at hc hd hc2 hd2
 subst hc hd hc2 hd2
 exact richCompare_meets_room (op:= .Lt) ⟨_,ho,rfl⟩ ⟨_,ho2,rfl⟩ PySem.F.slot_tuple_lt PySem.F.entry_tuple_lt (PySem.F.args_tuple_lt_2 _ _) (zfi l b items items2 n n2 dd dd2 sl sl2 ns ms hi hj)
  ⟨ho,ho2,show Value.bool (zaO ns ms)≠Value.notImplemented/\Q (.bool (zaO ns ms)) s from ⟨(λx=>nomatch x),h⟩⟩ hu
theorem zn8 {t b:Addr} {vs ws:List Value} {Q:Value->Shared->Prop} (ht:IsTup s.heap t vs.toArray) (hb:IsTup s.heap b ws.toArray) (hv:vs≠[])
  (h1:ws=[]->Q (.ref t) s) (h2:ws≠[]->Q (.ref s.heap.objs.size) {s with heap:=s.heap.push {cls:= .type "tuple",data:= .seq (vs++ws).toArray}})
  (hsz:vs.length+ws.length<=sizeLine):wpAny (model prog w) A (binaryOp .Add (.ref t) (.ref b)) Q E s:=by
 obtain ⟨⟨cls,dd,data,sl⟩,ho,hc,n,hd⟩:=id ht
 obtain ⟨⟨cls2,dd2,data2,sl2⟩,ho2,hc2,n2,hd2⟩:=id hb
 simp only at hc hd hc2 hd2
 subst hc hd hc2 hd2
 have e:vs.toArray++ws.toArray=(vs++ws).toArray:=by simp
 by_cases hw:ws=[]
 ·exact concat_meets ⟨_,ho,rfl⟩ ⟨_,ho2,rfl⟩ noFill_tuple_add seq_tuple_add PySem.F.slot_tuple_add PySem.F.entry_tuple_add (PySem.F.args_tuple_add_2 _ _)
   (tuple_addW1 t b vs.toArray ws.toArray n n2 dd dd2 sl sl2 (by simpa using hv) (by simp [hw])) ⟨ho,ho2,h1 hw⟩
 ·refine concat_meets ⟨_,ho,rfl⟩ ⟨_,ho2,rfl⟩ noFill_tuple_add seq_tuple_add PySem.F.slot_tuple_add PySem.F.entry_tuple_add (PySem.F.args_tuple_add_2 _ _)
   (tuple_addW2 t b vs.toArray ws.toArray n n2 dd dd2 sl sl2 (by simpa using hv) (by simpa using hw) (by rw [qaA,qaA];exact hsz)) ⟨ho,ho2,?_⟩
  rw [e]
  exact h2 hw
def sIx (n d:Nat):Option Int->Nat
 | none=>d
 | some v=>if v<0 then (v+(n:Int)).toNat else min v.toNat n
theorem zll (n d k:Nat):sIx n d (some (k:Int))=min k n:=by
 show (if (k:Int)<0 then ((k:Int)+(n:Int)).toNat else min (k:Int).toNat n)=min k n
 rw [qa5 ⋯,qaB]
theorem zqp (n d:Nat) (hd:d<=n) (o:Option Int):sIx n d o<=n:=by
 cases o with
 | none=>exact hd
 | some v=>
  show (if v<0 then (v+(n:Int)).toNat else min v.toNat n)<=n
  by_cases hv:v<0
  ·rw [qa4 hv];omega
  ·rw [qa5 hv];exact Nat.min_le_right _ _
theorem zjz (v:Int) (n d:Nat):(if v<0 then max (v+(n:Int)) 0 else min v (n:Int))=((sIx n d (some v):Nat):Int):=by
 show (if v<0 then max (v+(n:Int)) 0 else min v (n:Int))=(((if v<0 then (v+(n:Int)).toNat else min v.toNat n):Nat):Int)
 by_cases hv:v<0
 ·simp only [qa4 hv];omega
 ·simp only [qa5 hv];omega
theorem zi2 (lo hi:Option Int) (n:Nat):Builtin.Slice.sliceAdjust lo hi 1 (n:Int)=(((sIx n 0 lo:Nat):Int),((sIx n n hi:Nat):Int)):=by
 have h1: ¬((1:Int)<0):=by omega
 unfold Builtin.Slice.sliceAdjust
 simp only [h1,if_false]
 refine Prod.ext ?_ ?_
 ·cases lo with
  | none=>rfl
  | some v=>exact zjz v n 0
 ·cases hi with
  | none=>rfl
  | some v=>exact zjz v n n
theorem ziI (i j:Nat):Builtin.Slice.slicePlaces (i:Int) (j:Int) 1=j - i:=by
 unfold Builtin.Slice.slicePlaces
 have h1:(1:Int)>0:=by omega
 simp only [h1,if_true,Int.ediv_one]
 split<;>omega
theorem zeY {v:Value} {o:Option Int} {Q:Option Int->Shared->Prop} (p:IsPart v o) (h:Q o s):wpAny (model prog w) A (Builtin.Slice.slicePartIndex v) Q E s:=by
 cases p with
 | none=>exact slicePart_none h
 | int i t=>exact slicePart_int h
theorem zck {sl:Addr} {vl vu:Value} {lo hi:Option Int} {n:Nat} {Q:Int×Int×Nat->Shared->Prop} (hs:s.heap.IsSliceOf sl vl vu .none) (pl:IsPart vl lo) (pu:IsPart vu hi)
  (h:Q (((sIx n 0 lo:Nat):Int),1,sIx n n hi - sIx n 0 lo) s):wpAny (model prog w) A (Builtin.Slice.sliceApplied (.ref sl) (pure (n:Int))) Q E s:=by
 obtain ⟨os,hos,hcs,hds⟩:=id hs
 unfold Builtin.Slice.sliceApplied Builtin.Slice.sliceFields
 refine qaW (qaW (wpAny_field hos hds (x:=vl) rfl (qaW (wpAny_field hos hds (x:=vu) rfl (qaW (wpAny_field hos hds (x:= .none) rfl (qaX ?_)))))))
 refine qaW (slicePart_none ?_)
 show wpAny _ _ (if ((1:Int)==0)=true then _ else _) _ _ s
 rw [qa5 (by decide)]
 refine qaW (zeY pl (qaW (zeY pu (qaW (qaX ?_)))))
 show wpAny _ _ (match Builtin.Slice.sliceAdjust lo hi 1 (n:Int) with | (lo,hi)=>pure (lo,(1:Int),Builtin.Slice.slicePlaces lo hi 1)) _ _ s
 rw [zi2 lo hi n]
 show wpAny _ _ (pure (((sIx n 0 lo:Nat):Int),(1:Int),Builtin.Slice.slicePlaces ((sIx n 0 lo:Nat):Int) ((sIx n n hi:Nat):Int) 1)) _ _ s
 rw [ziI]
 exact qaX h
theorem zl9 (xs:Array Value) (i k:Nat):((List.range k).filterMap λ(m:Nat)=>xs[((i:Int)+(m:Int)*1).toNat]?).toArray=((xs.toList.drop i).take k).toArray:=by
 have e:(λ(m:Nat)=>xs[((i:Int)+(m:Int)*1).toNat]?)=λm=>xs[i+m]? := by
  funext m
  have:((i:Int)+(m:Int)*1).toNat=i+m:=by omega
  rw [this]
 rw [e]
 have:=pick_run xs i k
 rw [List.filterMap_map] at this
 have e2:((λx=>xs[x]?)∘λx=>i+x)=λm=>xs[i+m]? := rfl
 rw [e2] at this
 rw [this]
theorem zdx {t sl:Addr} {items:Array Value} {vl vu:Value} {lo hi:Option Int} {Q:Value->Shared->Prop} (ht:IsTup s.heap t items) (hs:s.heap.IsSliceOf sl vl vu .none) (pl:IsPart vl lo) (pu:IsPart vu hi)
  (hw: ¬(sIx items.size 0 lo=0/\sIx items.size items.size hi=items.size))
  (h:Q (.ref s.heap.objs.size) {s with heap:=s.heap.push {cls:= .type "tuple",data:= .seq ((items.toList.drop (sIx items.size 0 lo)).take (sIx items.size items.size hi - sIx items.size 0 lo)).toArray}})
  (hsz:items.size<=sizeLine):wpAny (model prog w) A (getItem (.ref t) (.ref sl)) Q E s:=by
 have htake:sizeOk (.seq ((items.toList.drop (sIx items.size 0 lo)).take (sIx items.size items.size hi - sIx items.size 0 lo)).toArray):=by
  show ((items.toList.drop (sIx items.size 0 lo)).take (sIx items.size items.size hi - sIx items.size 0 lo)).toArray.size<=sizeLine
  rw [qaA,length_take,length_drop,qas]
  omega
 have hj:sIx items.size items.size hi<=items.size:=zqp _ _ (qaV _) hi
 obtain ⟨os,hos,hcs,hds⟩:=id hs
 have hTs:s.TypeIs (.ref sl) "slice":=⟨os,hos,hcs⟩
 unfold getItem
 try with_reducible refine qaO ?_
 first | refine qaW (qaX ?_) | skip
 refine qaW (wpAny_sequenceKey ht.typeIs (by decide) ?_)
 refine qaW (wpAny_callSpecial?_slot (name:=Str.ofString "__getitem__") ht.typeIs PyProof.Rows.slot_tuple_getitem
   (wpAny_call_entry PyProof.Rows.slot_tuple_getitem ht.typeIs entry_tuple_getitem ?_ (args_tuple_getitem _ _)))
 show wpAny _ _ (Builtin.Tuple.tupleItemsOf (.ref t)>>=_) _ _ s
 refine qaW (tupleItemsOf_ ht ?_)
 refine qaW (wpAny_typeOf hTs ?_)
 rw [qa4 (by decide)]
 refine qaW (zck hs pl pu ?_)
 have hno: ¬((((sIx items.size 0 lo:Nat):Int)==0 && (1:Int)==1 && (sIx items.size items.size hi - sIx items.size 0 lo)==items.size)=true):=by
  intro q
  rw [qaG,qaG] at q
  have q1:((sIx items.size 0 lo:Nat):Int)=0:=eq_of_beq q.1.1
  have q2:sIx items.size items.size hi - sIx items.size 0 lo=items.size:=eq_of_beq q.2
  exact hw ⟨⋯,⋯⟩
 show wpAny _ _ (if (((sIx items.size 0 lo:Nat):Int)==0 && (1:Int)==1 && (sIx items.size items.size hi - sIx items.size 0 lo)==items.size)=true then _ else _) _ _ s
 rw [qa5 hno,zl9]
 first
  | exact qaW (m:=Builtin.Tuple.tupleExact _) (qaC (qaX ⟨_,rfl,qaX h⟩) htake)
  | exact qaW (m:=Builtin.Tuple.tupleExact _) (qaC (qaW (qaX (qaX ⟨_,rfl,qaX h⟩))) htake)
  | exact qaW (qaW (m:=Builtin.Tuple.tupleExact _) (qaC (qaX (qaX ⟨_,rfl,qaX h⟩)) htake))
  | exact qaW (qaW (m:=Builtin.Tuple.tupleExact _) (qaC (qaX ⟨_,rfl,qaX h⟩) htake))
end
end HT
namespace L2
abbrev TO:=St->Hp->(Option Int->Hp->Prop)->Prop
def PO (X:Cx) (e:Option Expr) (t:TO):Prop:=
 ∀ (pins:List (Addr×Obj)) (s:Shared) (σ:St) (H:Hp) (Q:Option Int->Hp->Prop),Inv X pins σ H s->t σ H Q->
  wpAny (model X.prog X.w) X.A (evalPart e X.env) (λu s'=> ∃ o H',Inv X pins σ H' s'/\IsPart u o/\Q o H') X.xe s
def zoX:TO:=λ_ H Q=>Q none H
def zsk (t:TE):TO:=λσ H Q=>t σ H λx H1=> ∃ i,x= .int i/\Q (some i) H1
theorem zby {ns:List Int}: ∀ {us:List Value},zaS (ns.map V.int) us->IntsAre us ns:=by
 induction ns with
 | nil=>intro us r;rw [map_nil] at r;cases r;exact .nil
 | cons n ns ih=>
  intro us r
  rw [qaM] at r
  cases r with
  | cons r1 r2=>
   obtain ⟨t,e⟩:=r1
   subst e
   exact .cons n t (ih r2)
section
variable {X:Cx} {e:Expr} {te:TE} {lo hi:Option Expr} {tl th:TO} {pos p2:Pos}
theorem zpg:PO X none zoX:=by
 intro pins s σ H Q I h
 rw [evalPart_none]
 exact qaX ⟨none,H,I,.none,h⟩
theorem zoh (h:PE X e te):PO X (some e) (zsk te):=by
 intro pins s σ H Q I hw
 rw [evalPart_some]
 refine thn (h pins s σ H _ I hw) λu s1 ⟨x,H1,I1,r1,q1⟩=> ?_
 obtain ⟨i,rfl,q⟩:=q1
 obtain ⟨t,rfl⟩:=r1
 exact ⟨some i,H1,I1,.int i t,q⟩
def SlR (X:Cx) (r:V->Option Int->Option Int->Hp->VK->Prop):Prop:=
 ∀ (pins:List (Addr×Obj)) (s:Shared) (σ:St) (H:Hp) (x:V) (v vl vu:Value) (lo hi:Option Int) (sl:Addr) (Q:VK),Inv X pins σ H s->zbp x v->s.heap.IsSliceOf sl vl vu .none->IsPart vl lo->IsPart vu hi->r x lo hi H Q->
  ∃ T id,typeLookup (.type T) "__getitem__"=pure (some (.builtin id))/\s.TypeIs v T/\wpAny (model X.prog X.w) X.A (getItem v (.ref sl)) (EP X pins σ Q) X.xe s
theorem SlR.or {r r':V->Option Int->Option Int->Hp->VK->Prop} (h:SlR X r) (h':SlR X r'):SlR X (λx lo hi H Q=>r x lo hi H Q\/r' x lo hi H Q):=by
 intro pins s σ H x v vl vu lo hi sl Q I rx hs pl pu q
 rcases q with q | q
 ·exact h pins s σ H x v vl vu lo hi sl Q I rx hs pl pu q
 ·exact h' pins s σ H x v vl vu lo hi sl Q I rx hs pl pu q
def tSl (r:V->Option Int->Option Int->Hp->VK->Prop) (te:TE) (tl th:TO):TE:=λσ H Q=>te σ H λx H1=>tl σ H1 λl H2=>th σ H2 λu H3=>r x l u H3 Q
theorem zh6 {r:V->Option Int->Option Int->Hp->VK->Prop} (hr:SlR X r) (he:PE X e te) (hl:PO X lo tl) (hu:PO X hi th):PE X (.Subscript e (.Slice lo hi none p2) pos) (tSl r te tl th):=by
 intro pins s σ H Q I h
 refine Subscript_ (thn (he pins s σ H _ I h) λv s1 ⟨x,H1,I1,r1,q1⟩=> ?_)
 refine wpAny_Slice (thn (hl pins s1 σ H1 _ I1 q1) λvl s2 ⟨l,H2,I2,pl,q2⟩=>thn (hu pins s2 σ H2 _ I2 q2) λvu s3 ⟨u,H3,I3,pu,q3⟩=> ?_)
 rw [evalPart_none]
 refine qaX ?_
 have I4:Inv X pins σ H3 {s3 with heap:=s3.heap.push {cls:= .type "slice",data:= .fields #[vl,vu,.none]}}:=I3.kept (t':=s3.toks) λb ob q=>qag _ q
 obtain ⟨T,id,hT,ht,hg⟩:=hr pins {s3 with heap:=s3.heap.push {cls:= .type "slice",data:= .fields #[vl,vu,.none]}} σ H3 x v vl vu l u s3.heap.objs.size Q I4 r1 (Heap.IsSliceOf.new ..) pl pu q3
 show wpAny (model X.prog X.w) X.A (subscriptTail e (.Slice lo hi none p2) v (.ref s3.heap.objs.size)) (EP X pins σ Q) X.xe {s3 with heap:=s3.heap.push {cls:= .type "slice",data:= .fields #[vl,vu,.none]}}
 exact tail_any (ops:=[.ref s3.heap.objs.size,v]) ht hT hg (by with_unfolding_all rfl)
def zmw (xs:List V) (lo hi:Option Int):List V:=(xs.drop (HT.sIx xs.length 0 lo)).take (HT.sIx xs.length xs.length hi - HT.sIx xs.length 0 lo)
theorem zew (xs:List V) (lo hi:Option Int):(zmw xs lo hi).length<=xs.length:=by
 unfold zmw
 rw [length_take,length_drop]
 omega
def zuk (K:W.Frag):V->Option Int->Option Int->Hp->VK->Prop:=λx lo hi H Q=> ∃ a xs,x= .ref a/\SqT K H a xs/\
 ¬ (HT.sIx xs.length 0 lo=0/\HT.sIx xs.length xs.length hi=xs.length)/\ ∀ p,H p=none->Q (.ref p) (upd H p (.tup (zmw xs lo hi)))
theorem zqi:SlR X (zuk X.K):=by
 intro pins s σ H x v vl vu lo hi sl Q I rx hs pl pu h
 obtain ⟨a,xs,rfl,hx,hw,q⟩:=h
 cases rx
 obtain ⟨its,r,ht,hz⟩:=I.tuple hx
 have hlen:its.toArray.size=xs.length:=by rw [qaA];exact r.length.symm
 refine ⟨"tuple",_,PyProof.Rows.slot_tuple_getitem.lookup,ht.typeIs,?_⟩
 refine HT.zdx ht hs pl pu (by rw [hlen];exact hw) ?_ (by rw [hlen];exact hz)
 rw [hlen]
 refine ⟨.ref s.heap.objs.size,_,I.laid (t':=s.toks) (o:= .tup (zmw xs lo hi)) (λb ob q=>qag _ q) (qaV _) ?_,rfl,q _ (I.hok.fresh (qaV _))⟩
 exact ⟨qaS (zew xs lo hi) hz,_,(r.drop (HT.sIx xs.length 0 lo)).take (HT.sIx xs.length xs.length hi - HT.sIx xs.length 0 lo),zjL.new _ _⟩
def ztv (K:W.Frag):R2:=λx y H Q=> ∃ a b xs ys,x= .ref a/\y= .ref b/\SqT K H a xs/\SqT K H b ys/\xs≠[]/\xs.length+ys.length<=sizeLine/\
 (ys=[]->Q (.ref a) H)/\(ys≠[]-> ∀ p,H p=none->Q (.ref p) (upd H p (.tup (xs++ys))))
theorem zaS.nil_iff {xs:List V} {us:List Value} (r:zaS xs us):us=[]↔xs=[]:=by
 cases r with
 | nil=>simp
 | cons _ _=>simp
theorem zob:OpR X (binaryOp .Add) (ztv X.K):=by
 intro pins s σ H x y v u Q I rx ry h
 obtain ⟨a,b,xs,ys,rfl,rfl,ha,hb,hx,hz,q1,q2⟩:=h
 cases rx
 cases ry
 obtain ⟨its,r1,p1,_⟩:=I.tuple ha
 obtain ⟨its2,r2,p2,_⟩:=I.tuple hb
 refine HT.zn8 p1 p2 (λz=>hx (r1.nil_iff.mp z)) (λz=>⟨.ref a,H,I,rfl,q1 (r2.nil_iff.mp z)⟩) (λz=> ?_) (by rw [<- r1.length, <-r2.length];exact hz)
 refine ⟨.ref s.heap.objs.size,_,I.laid (t':=s.toks) (o:= .tup (xs++ys)) (λb ob q=>qag _ q) (qaV _) ?_,rfl,q2 (λw=>z (r2.nil_iff.mpr w)) _ (I.hok.fresh (qaV _))⟩
 exact ⟨by rw [qav];exact hz,_,r1.append r2,zjL.new _ _⟩
end
def ixN (n:Nat) (i:Int):Option Nat:=if 0<=i then (if i<n then some i.toNat else none) else if -(n:Int)<=i then some (i+n).toNat else none
def atI {α:Type} (xs:List α) (i:Int):Option α:=(ixN xs.length i).bind λj=>xs[j]?
theorem zln {n:Nat} {i:Int} {j:Nat} (h:ixN n i=some j):seqIndex? i n=some j/\j<n/\ -(n:Int)<=i/\i<n:=by
 unfold ixN at h
 by_cases h0:0<=i
 ·rw [qa4 h0] at h
  by_cases h1:i<n
  ·rw [qa4 h1] at h
   have e:i.toNat=j:=Option.some.inj h
   exact ⟨by rw [seqIndex_of h0 h1,e],⋯,⋯,h1⟩
  ·rw [qa5 h1] at h;cases h
 ·rw [qa5 h0] at h
  by_cases h1: -(n:Int)<=i
  ·rw [qa4 h1] at h
   have e:(i+n).toNat=j:=Option.some.inj h
   exact ⟨by rw [seqIndex_neg ⋯ h1,e],⋯,h1,⋯⟩
  ·rw [qa5 h1] at h;cases h
theorem zla {α:Type} {xs:List α} {i:Int} {v:α} (h:atI xs i=some v): ∃ j,seqIndex? i xs.length=some j/\xs[j]? = some v/\j<xs.length/\ -(xs.length:Int)<=i/\i<xs.length:=by
 unfold atI at h
 cases e:ixN xs.length i with
 | none=>rw [e] at h;cases h
 | some j=>
  rw [e] at h
  obtain ⟨h1,h2,h3,h4⟩:=zln e
  exact ⟨j,h1,h,h2,h3,h4⟩
theorem zeA {α:Type} {xs:List α} {j:Nat} {v:α} (h:xs[j]? = some v):atI xs (j:Int)=some v:=by
 have hj:j<xs.length:=(qac.mp h).1
 have e:ixN xs.length (j:Int)=some j:=by
  unfold ixN
  rw [qa4 ⋯,qa4 ⋯];simp
 unfold atI;rw [e];exact h
theorem zmP {α:Type} (xs:List α) (v:α):atI (xs++[v]) (-1)=some v:=by
 have hl:(xs++[v]).length=xs.length+1:=by simp
 have e:ixN (xs++[v]).length (-1)=some xs.length:=by
  unfold ixN
  rw [hl,qa5 (by decide),qa4 ⋯]
  congr 1
  omega
 unfold atI
 rw [e]
 show (xs++[v])[xs.length]? = some v
 simp
def zhq (b:Expr):Prop:= ∀ o i,subscripted b false o i=operate [o,i] (getItem o i)
def IxR (X:Cx) (r:R2):Prop:=
 ∀ (value slice:Expr) (pins:List (Addr×Obj)) (s:Shared) (σ:St) (H:Hp) (x y:V) (v u:Value) (Q:VK),Inv X pins σ H s->zbp x v->zbp y u->r x y H Q->
  subscripted slice false v u=operate [v,u] (getItem v u)->wpAny (model X.prog X.w) X.A (subscriptTail value slice v u) (EP X pins σ Q) X.xe s
def MtR (X:Cx) (id:String) (r:V->List V->Hp->VK->Prop):Prop:=
 ∀ (pins:List (Addr×Obj)) (s:Shared) (σ:St) (H:Hp) (x:V) (xs:List V) (v:Value) (us:List Value) (Q:VK),Inv X pins σ H s->zbp x v->zaS xs us->r x xs H Q->
  wpAny (model X.prog X.w) X.A (call (.builtin id) (v::us)) (EP X pins σ Q) X.xe s
section
variable {X:Cx} {a b:Expr} {ta tb:TE} {pos:Pos}
theorem IxR.or {r r':R2} (h:IxR X r) (h':IxR X r'):IxR X (λx y H Q=>r x y H Q\/r' x y H Q):=by
 intro value slice pins s σ H x y v u Q I rx ry q hs
 rcases q with q | q
 ·exact h value slice pins s σ H x y v u Q I rx ry q hs
 ·exact h' value slice pins s σ H x y v u Q I rx ry q hs
theorem ztm {r:R2} (hr:IxR X r) (ha:PE X a ta) (hb:PE X b tb) (hs:zhq b):PE X (.Subscript a b pos) (tOp r ta tb):=by
 intro pins s σ H Q I h
 exact Subscript_ (zsq ha hb I h λv u s2 x y H2 I2 rx ry q=>hr a b pins s2 σ H2 x y v u Q I2 rx ry q (hs _ _))
def ztX (K:W.Frag):R2:=λx y H Q=> ∃ p xs i v,x= .ref p/\y= .int i/\SqL K H p xs/\atI xs i=some v/\Q v H
def zt1 (K:W.Frag):R2:=λx y H Q=> ∃ p xs i v,x= .ref p/\y= .int i/\SqT K H p xs/\atI xs i=some v/\Q v H
theorem znF:IxR X (ztX X.K):=by
 intro value slice pins s σ H x y v u Q I rx ry h hs
 obtain ⟨p,xs,i,z,rfl,rfl,hq,he,q⟩:=h
 cases rx
 obtain ⟨t,rfl⟩:=ry
 obtain ⟨its,r,pl,hz⟩:=I.list hq
 obtain ⟨j,h1,h2,h3,h4,h5⟩:=zla he
 obtain ⟨w,ew,rw'⟩:=r.get h2
 have hl:=r.length
 have hn:=zgV
 have fin:EP X pins σ Q w s:=⟨z,H,I,rw',q⟩
 by_cases h0:0<=i
 ·have hj:i.toNat=j:=by
   rw [seqIndex_of h0 h5] at h1
   exact Option.some.inj h1
  exact item_listR pl.isList h0 ⋯ (by rw [hj];simpa using ew) fin hs
 ·have hj:(i+(its.toArray.size:Int)).toNat=j:=by
   rw [seqIndex_neg ⋯ h4] at h1
   rw [qaA, <-hl]
   exact Option.some.inj h1
  exact subscriptTail_builtinR (x:=w) pl.isList.typeIs slot_list_getitem.lookup
   (wpAny_getItem_list_neg (Q:=λr s'=>r=w/\EP X pins σ Q r s') pl.isList ⋯ (by rw [qaA]<;>omega) ⋯ (by rw [hj];simpa using ew) ⟨rfl,fin⟩) hs
theorem zrK:IxR X (zt1 X.K):=by
 intro value slice pins s σ H x y v u Q I rx ry h hs
 obtain ⟨p,xs,i,z,rfl,rfl,hq,he,q⟩:=h
 cases rx
 obtain ⟨t,rfl⟩:=ry
 obtain ⟨its,r,pl,hz⟩:=I.tuple hq
 obtain ⟨j,h1,h2,h3,h4,h5⟩:=zla he
 obtain ⟨w,ew,rw'⟩:=r.get h2
 have hl:=r.length
 have hn:=zgV
 have fin:EP X pins σ Q w s:=⟨z,H,I,rw',q⟩
 exact subscriptTail_builtinR (x:=w) pl.typeIs slot_tuple_getitem.lookup
  (getItem_tuple (j:=j) (Q:=λr s'=>r=w/\EP X pins σ Q r s') pl ⋯ ⋯ (by rw [qaA, <-hl];exact h1) (by simpa using ew) ⟨rfl,fin⟩) hs
theorem zja (its:List Value) (n j:Nat) (u:Value):Obj.mapSeq (·.setIfInBounds j u) {cls:= .type "list",data:= .seq its.toArray n}={cls:= .type "list",data:= .seq (its.set j u).toArray n}:=by
 simp [Obj.mapSeq]
theorem Inv.lst {pins:List (Addr×Obj)} {σ:St} {H:Hp} {s:Shared} {p:Addr} {xs:List V} (I:Inv X pins σ H s) (h:H p=some (.lst xs)):
  ∃ (its:List Value) (n:Nat),zaS xs its/\s.heap.get? p=some {cls:= .type "list",data:= .seq its.toArray n}/\xs.length<=sizeLine:=by
 obtain ⟨z,its,n,r,e⟩:=I.hok p _ h
 exact ⟨its,n,r,e,z⟩
theorem Inv.lstUpd {pins:List (Addr×Obj)} {σ:St} {H:Hp} {s:Shared} {p:Addr} {xs ys:List V} {its its':List Value} {n n':Nat} {f:Obj->Obj} (I:Inv X pins σ H s) (h:H p=some (.lst xs))
  (ho:s.heap.get? p=some {cls:= .type "list",data:= .seq its.toArray n}) (hf:f {cls:= .type "list",data:= .seq its.toArray n}={cls:= .type "list",data:= .seq its'.toArray n'}) (r:zaS ys its') (hz:ys.length<=sizeLine) (t:Nat):
  Inv X pins σ (upd H p (.lst ys)) {s with heap:=s.heap.update p f,toks:=t}:=by
 have e:(s.heap.update p f).get? p=some {cls:= .type "list",data:= .seq its'.toArray n'}:=by
  rw [qal f ho (by rw [hf]<;>rfl),hf]
 refine I.write (x:=p) (e:=p) (by rw [h];trivial) (.inl rfl) (λb u hb q=>(qah _ _ (Ne.symm hb)).trans q) ⟨_,e⟩ ?_
 exact ⟨hz,its',n',r,e⟩
def ztd:V->V->V->Hp->(Hp->Prop)->Prop:=λo i v H Q=> ∃ p xs k j,o= .ref p/\i= .int k/\H p=some (.lst xs)/\ixN xs.length k=some j/\Q (upd H p (.lst (xs.set j v)))
theorem zlG:zsj X ztd:=by
 intro pins s σ H o i v ov iv u Q I ro ri rv h
 obtain ⟨p,xs,k,j,rfl,rfl,hp,hj,q⟩:=h
 cases ro
 obtain ⟨t,rfl⟩:=ri
 obtain ⟨its,n,r,ho,hz⟩:=I.lst hp
 obtain ⟨h1,h2,h3,h4⟩:=zln hj
 have hl:=r.length
 have hn:=zgV
 have I':Inv X pins σ (upd H p (.lst (xs.set j v))) {s with heap:=s.heap.update p (Obj.mapSeq (·.setIfInBounds j u))}:=
  I.lstUpd hp ho (zja its n j u) (r.set rv j) (by rw [qaI];exact hz) s.toks
 by_cases h0:0<=k
 ·have hk:k.toNat=j:=by
   rw [seqIndex_of h0 h4] at h1
   exact Option.some.inj h1
  exact W.ki_setAt ho h0 ⋯ (by rw [qaA, <-hl];exact h4) (by rw [hk];exact ⟨_,I',q⟩)
 ·have hk:(k+(its.toArray.size:Int)).toNat=j:=by
   rw [seqIndex_neg ⋯ h3] at h1
   rw [qaA, <-hl]
   exact Option.some.inj h1
  exact W.ki_setBack ho ⋯ (by rw [qaA, <-hl];exact h3) ⋯ (by rw [hk];exact ⟨_,I',q⟩)
theorem zgF (lo hi:Option Int) (n:Nat):(sliceBounds lo hi none n).1=((HT.sIx n 0 lo:Nat):Int)/\(sliceBounds lo hi none n).2.1=((HT.sIx n n hi:Nat):Int)/\(sliceBounds lo hi none n).2.2=1:=by
 refine ⟨?_,?_,rfl⟩
 ·cases lo with
  | none=>simp [sliceBounds,HT.sIx]
  | some i=>
   simp only [sliceBounds,HT.sIx,Option.getD_none,show (1:Int)>0 by decide,if_true]
   by_cases h:i<0
   ·simp only [h,if_true]<;>omega
   ·simp only [h,if_false]<;>omega
 ·cases hi with
  | none=>simp [sliceBounds,HT.sIx]
  | some i=>
   simp only [sliceBounds,HT.sIx,Option.getD_none,show (1:Int)>0 by decide,if_true]
   by_cases h:i<0
   ·simp only [h,if_true]<;>omega
   ·simp only [h,if_false]<;>omega
theorem zfm (its:List Value) (lo hi:Option Int):slicePick its.toArray lo hi none=((its.drop (HT.sIx its.length 0 lo)).take (HT.sIx its.length its.length hi - HT.sIx its.length 0 lo)).toArray:=by
 obtain ⟨h1,h2,h3⟩:=zgF lo hi its.toArray.size
 unfold slicePick
 rw [h1,h2,h3]
 simp only [sliceRange_one,pick_run,qaA]<;>rfl
def zum (K:W.Frag):V->Option Int->Option Int->Hp->VK->Prop:=λx lo hi H Q=> ∃ a xs,x= .ref a/\SqL K H a xs/\ ∀ p,H p=none->Q (.ref p) (upd H p (.lst (zmw xs lo hi)))
theorem zkG:SlR X (zum X.K):=by
 intro pins s σ H x v vl vu lo hi sl Q I rx hs pl pu h
 obtain ⟨a,xs,rfl,hx,q⟩:=h
 cases rx
 obtain ⟨its,r,ht,hz⟩:=I.list hx
 have hlen:=r.length
 refine ⟨"list",_,slot_list_getitem.lookup,ht.isList.typeIs,?_⟩
 refine wpAny_getItem_list_slice ht.isList hs pl pu .none (by simp) ?_ (by rw [qaA]<;>omega)
 rw [zfm, <-hlen]
 refine ⟨.ref s.heap.objs.size,_,I.laid (t':=s.toks) (o:= .lst (zmw xs lo hi)) (λb ob q=>qag _ q) (qaV _) ?_,rfl,q _ (I.hok.fresh (qaV _))⟩
 exact ⟨qaS (zew xs lo hi) hz,_,0,(r.drop (HT.sIx xs.length 0 lo)).take (HT.sIx xs.length xs.length hi - HT.sIx xs.length 0 lo),qar _ rfl⟩
theorem zg7:zaH X (.builtin "len") (λxs H Q=> ∃ p ys,xs=[.ref p]/\(SqL X.K H p ys\/SqT X.K H p ys)/\Q (.int ys.length) H):=by
 intro pins s σ H xs us Q I r h
 obtain ⟨p,ys,rfl,hq,q⟩:=h
 obtain ⟨u,rfl,rx⟩:=zdM r
 cases rx
 have hn:=zgV
 rcases hq with hq | hq
 ·obtain ⟨its,r',pl,hz⟩:=I.list hq
  have hlen:=r'.length
  exact Calls.call_len_list pl.isList (by simp only [qaA]<;>omega) ⟨.int ys.length,H,I.tok _,⟨s.toks+1,by rw [qaA,hlen]⟩,q⟩
 ·obtain ⟨its,r',pl,hz⟩:=I.tuple hq
  have hlen:=r'.length
  exact len_tuple pl (by simp only [qaA]<;>omega) ⟨.int ys.length,H,I.tok _,⟨s.toks+1,by rw [qaA,hlen]⟩,q⟩
theorem zfr:zaH X (.type "tuple") (λxs H Q=> ∃ p ys,xs=[.ref p]/\((SqL X.K H p ys/\ ∀ l,H l=none->Q (.ref l) (upd H l (.tup ys)))\/(SqT X.K H p ys/\Q (.ref p) H))):=by
 intro pins s σ H xs us Q I r h
 obtain ⟨p,ys,rfl,h⟩:=h
 obtain ⟨u,rfl,rx⟩:=zdM r
 cases rx
 rcases h with ⟨hq,q⟩ | ⟨hq,q⟩
 ·obtain ⟨its,r',pl,hz⟩:=I.list hq
  have hlen:=r'.length
  refine call_tuple_list pl.isList (λh' kp=> ?_) (by simp only [qaA]<;>omega)
  have I1:Inv X pins σ H {s with heap:=h'}:=I.kept (t':=s.toks) kp
  have I2:Inv X pins σ (upd H h'.objs.size (.tup ys)) {s with heap:=h'.push {cls:= .type "tuple",data:= .seq its.toArray}}:=
   I1.laid (t':=s.toks) (λb o e=>qag _ e) (qaV _) (show zbB X.prog X.w _ _ _ (.tup ys) from ⟨hz,its,r',zjL.new _ _⟩)
  exact ⟨.ref h'.objs.size,_,I2,rfl,q _ (I1.hok.fresh (qaV _))⟩
 ·obtain ⟨its,r',pl,hz⟩:=I.tuple hq
  exact call_tuple_same pl ⟨.ref p,H,I,rfl,q⟩
def tyV (K:W.Frag) (T:String) (x:V) (H:Hp):Prop:=match x with
 | .str _=>T="str"
 | .int _=>T="int"
 | .ref p=>(T="list"/\ ∃ xs,SqL K H p xs)\/(T="tuple"/\ ∃ xs,SqT K H p xs)\/
   (T="dict"/\((∃ kvs,H p=some (.dK kvs))\/ ∃ kvs,H p=some (.dT kvs)))\/(T="set"/\ ∃ S n,H p=some (.set S n))
 | _=>False
theorem zre {pins:List (Addr×Obj)} {σ:St} {H:Hp} {s:Shared} {T:String} {x:V} {v:Value} (I:Inv X pins σ H s) (r:zbp x v) (ty:tyV X.K T x H):
  s.TypeIs v T/\ ∀ a,v= .ref a-> ∃ ob,s.heap.get? a=some ob/\ob.dict=none:=by
 cases x with
 | str z=>
  obtain ⟨t,rfl⟩:=r
  cases (show T="str" from ty)
  exact ⟨typeIs_str s z t,λ_ e=>nomatch e⟩
 | int i=>
  obtain ⟨t,rfl⟩:=r
  cases (show T="int" from ty)
  exact ⟨typeIs_int s i t,λ_ e=>nomatch e⟩
 | ref p=>
  cases r
  rcases ty with ⟨rfl,xs,hq⟩ | ⟨rfl,xs,hq⟩ | ⟨rfl,hk⟩ | ⟨rfl,S,n,hk⟩
  ·obtain ⟨its,_,pl,_⟩:=I.list hq
   refine ⟨pl.isList.typeIs,λa e=> ?_⟩
   cases e
   obtain ⟨o,n,e,c,hd,_⟩:=pl
   exact ⟨o,e,hd⟩
  ·obtain ⟨its,_,⟨o,e,c,n,_,hd⟩,_⟩:=I.tupleD hq
   refine ⟨⟨o,e,c⟩,λa e2=> ?_⟩
   cases e2
   exact ⟨o,e,hd⟩
  ·have z: ∃ o,s.heap.get? p=some o/\o.ExactDict:=by
    rcases hk with ⟨kvs,hk⟩ | ⟨kvs,hk⟩
    ·obtain ⟨_,_,_,_,o,_,_,e,ex,_⟩:=I.hok p _ hk
     exact ⟨o,e,ex⟩
    ·obtain ⟨_,_,_,_,o,_,_,e,ex,_⟩:=I.hok p _ hk
     exact ⟨o,e,ex⟩
   obtain ⟨o,e,ex⟩:=z
   refine ⟨⟨o,e,ex.1⟩,λa e2=> ?_⟩
   cases e2
   exact ⟨o,e,ex.2.1⟩
  ·obtain ⟨o,_,_,_,e,ex,_⟩:=I.hok p _ hk
   refine ⟨⟨o,e,ex.1⟩,λa e2=> ?_⟩
   cases e2
   exact ⟨o,e,ex.2.1⟩
 | _=>exact qa0 ty
def tBM (K:W.Frag) (T:String) (r:V->List V->Hp->VK->Prop) (to:TE) (t:TA):TE:=λσ H Q=>to σ H λx H1=>tyV K T x H1/\t σ H1 λxs H2=>r x xs H2 Q
variable {o e:Expr} {es:List Expr} {to:TE} {t:TA} {name:Str} {apos cpos:Pos} {T id:String} {r:V->List V->Hp->VK->Prop}
theorem zqM (pa:PlainAttrs T) (slot:Slot T name id) (hty:typeOf (.builtin id)=pure (.type "method_descriptor")) (hm:MtR X id r) (ho:PE X o to) (ha:PA X (e::es) t)
  (hbase:attributeBase o name X.env (eval o X.env)=eval o X.env:=by rfl)
  (hfew:((backTo cpos (starEach (e::es) X.env)).all (λx=> !x.1) && (backToKw cpos (keywordEach [] X.env)).all (λx=>x.1.isSome)
    && decide ((e::es).length+([]:List Keyword).length+(if ([]:List Keyword).isEmpty then 0 else 1)<30))=true:=by rfl)
  (hline:(apos.endLine==cpos.line)=true:=by rfl) (hs:starEach (e::es) X.env=(false,eval e X.env)::starEach es X.env:=by rfl) (hplain:(backTo cpos (starEach es X.env)).any (·.1)=false:=by rfl):
  PE X (.Call (.Attribute o name apos) (e::es) [] cpos) (tBM X.K T r to t):=by
 intro pins s σ H Q I h
 refine wpAny_Call_method_late hbase hfew hline rfl (thn (ho pins s σ H _ I h) λv s1 ⟨x,H1,I1,r1,ty,q1⟩=> ?_)
 obtain ⟨h1,h2⟩:=zre I1 r1 ty
 refine ⟨T,id,pa,slot,hty,h1,h2,?_⟩
 have hA:=ha cpos pins s1 σ H1 _ I1 q1
 rw [hs] at hA ⊢
 refine Calls.callWith_builtin (by show (false || (backTo cpos (starEach es X.env)).any (·.1))=false;rw [hplain]<;>rfl) (Calls.evalArgs_plain ?_)
 exact thn hA λus s2 ⟨vs,H2,I2,r2,q2⟩=>hm pins s2 σ H2 x vs v us Q I2 r1 r2 q2
end
def MtM (X:Cx) (id:String) (r:V->List V->Hp->VK->Prop):Prop:=
 ∀ (pins:List (Addr×Obj)) (s:Shared) (σ:St) (H:Hp) (x:V) (xs:List V) (v:Value) (us:List Value) (Q:VK),Inv X pins σ H s->zbp x v->zaS xs us->r x xs H Q->
  wpAny (model X.prog X.w) X.A (call (.builtin id) (v::us)) (EP X pins σ Q) X.xe s
theorem zaS.one: ∀ {x:V} {us:List Value},zaS [x] us-> ∃ u,us=[u]/\zbp x u
 | _,_,.cons r .nil=>⟨_,rfl,r⟩
theorem zaS.rep {xs:List V} {us:List Value} (h:zaS xs us): ∀ k:Nat,zaS (List.replicate k xs).flatten (List.replicate k us).flatten
 | 0=> .nil
 | k+1=>by
  rw [replicate_succ,replicate_succ,flatten_cons,flatten_cons]
  exact zaS.append h (zaS.rep h k)
theorem zg1 (its:List Value): ∀ (k:Nat) (acc:List Value),
  List.foldl (λx1 x2=>x1++x2) acc.toArray (List.replicate k its.toArray)=(acc++(List.replicate k its).flatten).toArray
 | 0,acc=>by simp
 | k+1,acc=>by
  have e:acc.toArray++its.toArray=(acc++its).toArray:=by simp
  have e2:(acc++its)++(List.replicate k its).flatten=acc++(List.replicate (k+1) its).flatten:=by
   rw [replicate_succ,flatten_cons,List.append_assoc]
  rw [<- e2, <-zg1 its k (acc++its), <-e,replicate_succ,foldl_cons]
section
variable {X:Cx} {pins:List (Addr×Obj)} {σ:St} {H:Hp} {s:Shared} {l b:Addr} {xs ys zs:List V}
theorem Inv.lset {its its':List Value} {n:Nat} {f:Array Value->Array Value} {t':Nat} (I:Inv X pins σ H s) (hH:H l=some (.lst xs))
  (e:s.heap.get? l=some {cls:= .type "list",data:= .seq its.toArray n}) (hf:f its.toArray=its'.toArray) (hv:zaS ys its') (hz:ys.length<=sizeLine):
  Inv X pins σ (upd H l (.lst ys)) {s with heap:=s.heap.update l (Obj.mapSeq f),toks:=t'}:=by
 have q:=PySem.IsL.update e f
 rw [hf] at q
 refine I.write (x:=l) (e:=l) (by rw [hH];exact trivial) (.inl rfl) (λb' u hb hu=>(qah s.heap (Obj.mapSeq f) (Ne.symm hb)).trans hu) ⟨_,q⟩ ?_
 exact ⟨hz,its',_,hv,q⟩
theorem Inv.lnew {its:List Value} {t':Nat} (I:Inv X pins σ H s) (hv:zaS ys its) (hz:ys.length<=sizeLine):
  Inv X pins σ (upd H s.heap.objs.size (.lst ys)) {s with heap:=s.heap.push {cls:= .type "list",data:= .seq its.toArray},toks:=t'}:=
 I.laid (λ_ _ q=>qag _ q) (qaV _) ⟨hz,its,0,hv,qar _ rfl⟩
theorem Inv.fresh (I:Inv X pins σ H s):H s.heap.objs.size=none:=I.hok.fresh (qaV _)
theorem Inv.lstM (I:Inv X pins σ H s) (hH:H l=some (.lst xs)):xs.length<=sizeLine/\ ∃ (its:List Value) (n:Nat),zaS xs its/\xs.length=its.length/\s.heap.get? l=some {cls:= .type "list",data:= .seq its.toArray n}:=by
 obtain ⟨z,its,n,r,e⟩:=I.hok l _ hH
 exact ⟨z,its,n,r,r.length,e⟩
theorem zmA {n:Nat} (h:n<=sizeLine):Builtin.List.listTooLong n=false:=by
 unfold Builtin.List.listTooLong
 exact decide_eq_false ⋯
end
section
variable {X:Cx}
def zoB:V->List V->Hp->VK->Prop:=λx vs H Q=> ∃ l xs y,x= .ref l/\vs=[y]/\H l=some (.lst xs)/\xs.length<sizeLine/\Q .non (upd H l (.lst (xs++[y])))
theorem zg2:MtM X "list.append" zoB:=by
 intro pins s σ H x vs v us Q I rx rv h
 obtain ⟨l,xs,y,rfl,rfl,hH,hz,q⟩:=h
 cases rx
 obtain ⟨u,rfl,ru⟩:=rv.one
 obtain ⟨z,its,n,r,hl,e⟩:=I.lstM hH
 refine call_meets F.slot_list_append ⟨_,e,rfl⟩ F.entry_list_append (F.args_list_append_2 _ _) (PySem.list_append l its.toArray n u (by rw [qaA];omega)) ⟨e,?_⟩
 refine ⟨.non,_,I.lset (its':=its++[u]) hH e (by simp) (r.append (.cons ru .nil)) ?_,rfl,q⟩
 rw [qav,List.length_singleton]
 omega
def zt3:R2:=λx y H Q=> ∃ l b xs zs,x= .ref l/\y= .ref b/\H l=some (.lst xs)/\H b=some (.lst zs)/\xs.length+zs.length<=sizeLine/\ ∀ p,H p=none->Q (.ref p) (upd H p (.lst (xs++zs)))
theorem zqZ:OpR X (binaryOp .Add) zt3:=by
 intro pins s σ H x y v u Q I rx ry h
 obtain ⟨l,b,xs,zs,rfl,rfl,hH,hB,hz,q⟩:=h
 cases rx
 cases ry
 obtain ⟨z,its,n,r,hl,e⟩:=I.lstM hH
 obtain ⟨z2,its2,n2,r2,hl2,e2⟩:=I.lstM hB
 refine PySem.P.add_list e e2 ?_ (by rw [qaA,qaA];omega)
 have ea:its.toArray++its2.toArray=(its++its2).toArray:=by simp
 rw [ea]
 exact ⟨.ref _,_,I.lnew (t':=s.toks) (r.append r2) (by rw [qav];omega),rfl,q _ I.fresh⟩
theorem zoM {α:Type} (xs:List α) (k:Nat):(List.replicate k xs).flatten.length=k*xs.length:=by
 induction k with
 | zero=>simp
 | succ k ih=>rw [replicate_succ,flatten_cons,qav,ih,Nat.succ_mul,Nat.add_comm]
end
section
variable {prog:Program} {w:World} {A:Around} {E:Value->Shared->Prop} {s:Shared}
end
section
variable {X:Cx}
end
end L2
namespace Att
open PySem.W PySem.Calls
theorem zem {P:Params} {h:Heap}: ∀ (ns:List Int) (vs:List Value),WellAll P h vs (ns.map WData.int)->IntsAre vs ns:=by
 intro ns
 induction ns with
 | nil=>
  intro vs w
  rw [map_nil] at w
  cases w
  exact .nil
 | cons n ns ih=>
  intro vs w
  rw [qaM] at w
  cases w with
  | cons a b=>
   cases a
   exact .cons _ _ (ih _ b)
theorem zkm {l:OpenLaw} {n:Nat} (hn:l.most=some n) {P:Params} {h:Heap} {args:List WData} {vals:List Value}
  (hpre:l.row.toRowW.claim.pre args=true) (hwl:WellAll P h vals args):
  ∃ a vs ns,vals=[Value.ref a]/\args=[WData.list (ns.map WData.int)]/\h.get? a=some {cls:= .type "list",data:= .seq vs.toArray}/\IntsAre vs ns/\ns.length<=n:=by
 have hsh:WShape.hasAll [] args [.list .int]=true:=(pre_splitW hpre).1
 have hc:l.pre.holds [] {args:=args}=true:=(pre_splitW hpre).2
 obtain ⟨d,r,rfl,h1,h2⟩:=hasAllW_cons hsh
 obtain rfl:=hasAllW_nil h2
 obtain ⟨xs,rfl,h3⟩:=hasW_list h1
 obtain ⟨ns,rfl⟩:=items_int h3
 have hlen:ns.length<=n:=by
  unfold OpenLaw.pre at hc
  have h4:(WTm.not (.lt (.lit (.int (n:Int))) (.len (.arg 0)))).holds [] {args:=[.list (ns.map .int)]}=true:=by
   have h4:=(holds_andW hc).1
   rw [hn] at h4
   exact h4
  have h5:=condW_of h4 (w_not (w_lt w_lit (w_len_list (w_arg rfl))))
  rw [qaH] at h5
  refine Nat.le_of_not_lt λq=> ?_
  have q':(n:Int)<((ns.length:Nat):Int):=by omega
  first
   | (rw [decide_eq_true q'] at h5;exact absurd h5 (by decide))
   | (simp at h5;omega)
 cases hwl with
 | cons w1 w2=>
  cases w2
  cases w1 with
  | list ho hall=>exact ⟨_,_,ns,rfl,rfl,ho,zem ns _ hall,hlen⟩
theorem zk4 (l:OpenLaw) (args:List WData):l.row.toRowW.claim.post args (.bool true) args=true:=
 postW_of (r:=l.row.toRowW) (X:=(true==true))
  (show WShape.has [] (.bool true) .bool=true by first | rfl | decide | simp [WShape.has,WShape.arms,WShape.armsAll])
  (show (WTm.eq .res (.lit (.bool true))).value [] {args:=args,res:=some (.bool true),after:=args}=some (.bool (true==true)) from w_eq_bool (w_res rfl) w_lit) rfl
section
variable {prog:Program} {w:World} {A:Around} {E:Value->Shared->Prop} {s:Shared} {K:Frag}
end
end Att
namespace L2
theorem zd6: ∀ {vs:List Value} {ns:List Int},IntsAre vs ns->zaS (ns.map V.int) vs
 | _,_,.nil=> .nil
 | _,_,.cons n t h=> .cons ⟨t,rfl⟩ (zd6 h)
def ztG (H:Hp):Prop:= ∀ b,H b=none\/ ∃ o xs,H b=some (.frz o (.lst xs))
theorem zmh {P:Program} {w:World} {K:W.Frag} {mg mb:Str->Option Value} {CX:CXT} {k:Nat} {fa a:Addr} {fd:FuncData} {x:Str} {sp:Sp} {s₁:Shared} {vs:List Value} {ns:List Int}
  (KX:K.In s₁.heap) (hns:s₁.heap.Ns mainGlobals mg) (hb:s₁.heap.Ns builtinsNs mb) (hbb: ∀ x:Str,x≠"__name__"->mb x=bootBuiltins x) (hlim:s₁.heap.NoLimit) (hg:s₁.gens= #[])
  (ha:s₁.heap.get? a=some {cls:= .type "list",data:= .seq vs.toArray}) (hi:IntsAre vs ns) (hl:ns.length<=sizeLine) (hr:zeE k callerA)
  (F: ∀ base:Heap,K.In base->base.Ns mainGlobals mg->zbN P w K mg base CX k fa fd [x] sp) (hbind: ∀ (s:Shared) (u:Value),BindsTo s fd ⟨[u],[]⟩ [(x,u)])
  (hsp: ∀ H:Hp,ztG H->SqL K H a (ns.map V.int)->sp [.ref a] H (λv _=>v= .bl true) λ_ _ _=>False)
  (hCX: ∀ H e s',CX [] H s₁ (λ_ _ _=>False) e s'->False):
  codeAny (model P w) callerA (.call (.ref fa) ⟨[.ref a],[]⟩) (λr s'=>r= .ok (.ret (.bool true))/\OldK s₁.heap s'.heap/\s'.os=s₁.os/\AllBare s'.gens) s₁:=by
 have rv:=zd6 hi
 have lenV:=hi.length
 have core: ∀ H:Hp,ztG H->SqL K H a (ns.map V.int)->HOk P w H s₁.heap->(∀ b,H b≠none->b=a)->(H a≠none->K.lookup a=none)->
   codeAny (model P w) callerA (.call (.ref fa) ⟨[.ref a],[]⟩) (λr s'=>r= .ok (.ret (.bool true))/\OldK s₁.heap s'.heap/\s'.os=s₁.os/\AllBare s'.gens) s₁:=by
  intro H hO hS hok hA hK
  have base_of: ∀ {b:Addr} {o:Obj},s₁.heap.get? b=some o->H b=none->(zlK s₁.heap H).get? b=some o:=λe n=>zmE e n
  have noA: ∀ {b:Addr} {o:Obj} {es:Array DictEntry} {ep:Nat},s₁.heap.get? b=some o->o.data= .dict es ep->H b=none:=λ{b o es ep} e d=>by
   cases q:H b with
   | none=>rfl
   | some u=>
    have e':b=a:=hA b (by rw [q];simp)
    subst e'
    rw [ha] at e;cases e
    have d':Data.seq vs.toArray _=Data.dict es ep:=d
    cases d'
  have nsK: ∀ {b:Addr} {m:Str->Option Value},s₁.heap.Ns b m->(zlK s₁.heap H).Ns b m:=λ{b m} ⟨o,es,ep,e,d,r⟩=>⟨o,es,ep,base_of e (noA e d),d,r⟩
  have hKb:K.In (zlK s₁.heap H):=λb o e=>base_of (KX b o e) (by
    cases q:H b with
    | none=>rfl
    | some u=>
      have e':b=a:=hA b (by rw [q];simp)
      subst e'
      rw [hK (by rw [q];simp)] at e;cases e)
  have hM:Mod K mg (zlK s₁.heap H):=⟨hKb,nsK hns,⟨mb,nsK hb,hbb⟩,let ⟨mc,h1,h2⟩:=hlim;⟨mc,nsK h1,h2⟩⟩
  have e0:zp2 P w K mg (zlK s₁.heap H) callerA [] s₁ H:=⟨rfl,hM,λb o e=>zoC e,Nat.le_of_eq (zjv _ _),trivial,λb hb=>absurd (show b∈([]:List Addr) from hb) (by simp),hok,.of_eq hg,.inl rfl⟩
  refine codeAny_mono ((F _ hKb (nsK hns)).run callerA [] s₁ H ⟨[.ref a],[]⟩ [.ref a] [.ref a] _ _ hr e0 (hbind s₁ (.ref a)) (.cons rfl .nil) (hsp H hO hS)) λr s' h=> ?_
  cases r with
  | error e=>exact (hCX H e s' h).elim
  | ok fl=>
   cases fl with
   | next=>exact qa0 h
   | brk=>exact qa0 h
   | cont=>exact qa0 h
   | ret u=>
    obtain ⟨v,H',os,bare,un,hok',r',q⟩:=h
    have q':v= .bl true:=q
    subst q'
    obtain rfl:u=Value.bool true:=r'
    refine ⟨rfl,OldK.of_keep λb o e=> ?_,os,bare⟩
    cases q:H b with
    | none=>exact un.keep b o e q (by intro z;exact absurd (show b∈([]:List Addr) from z) (by simp)) (by simp)
    | some u=>
     rcases hO b with z | ⟨ob,xs,z⟩
     ·rw [q] at z;cases z
     ·have z2:=un.frzs b ob _ z
      obtain ⟨e1,_⟩:=hok b _ z
      obtain ⟨e2,_⟩:=hok' b _ z2
      rw [e] at e1;cases e1
      exact e2
 cases hk:K.lookup a with
 | some o=>
  have e:=KX a o hk
  rw [ha] at e
  cases e
  refine core (λ_=>none) (λ_=> .inl rfl) (.inr ⟨_,vs.toArray,_,hk,rfl,rfl,rfl,by rw [qaA,lenV];exact hl,by simpa using rv⟩) (λb u z=>by have z':(none:Option HO)=some u:=z;cases z') (λb z=>absurd rfl z) λz=>absurd rfl z
 | none=>
  refine core (λb=>if b=a then some (.frz {cls:= .type "list",data:= .seq vs.toArray} (.lst (ns.map V.int))) else none) (λb=> ?_) (.inl (.inr ⟨{cls:= .type "list",data:= .seq vs.toArray},qa4 rfl⟩)) (λb u z=> ?_) (λb z=> ?_) λ_=>hk
  ·by_cases hb:b=a
   ·exact .inr ⟨_,_,qa4 hb⟩
   ·exact .inl (qa5 hb)
  ·by_cases hb:b=a
   ·have z':=(qa4 hb).symm.trans z
    cases z'
    subst hb
    exact ⟨ha,by rw [qaH];exact hl,vs,_,rv,ha⟩
   ·have z':=(qa5 hb).symm.trans z
    cases z'
  ·by_cases hb:b=a
   ·exact hb
   ·exact absurd (qa5 hb) z
def zdD (s:Stmt):Arguments:=match s with
 | .FunctionDef _ a _ _ _ _ _ _ _ _=>a
 | _=>{posonlyargs:=[],args:=[],vararg:=none,kwonlyargs:=[],kw_defaults:=[],kwarg:=none,defaults:=[]}
def zcz (s:Stmt):List Stmt:=match s with
 | .FunctionDef _ _ b _ _ _ _ _ _ _=>b
 | _=>[]
def zae (s:Stmt):Scope:=match s with
 | .FunctionDef _ _ _ _ _ _ sc _ _ _=>sc
 | _=>{kind:= .function,names:=[],isGenerator:=false,isCoroutine:=false}
abbrev CX0:CXT:=λ_ _ _ _ _ _=>False
abbrev E0:XK:=λ_ _ _=>False
theorem zsE {X:Cx}:zj8 CX0 X E0:=λ_ _ _ _ _ _ _ h=>h.elim
structure Fun (K:W.Frag) (x qual:Str) (st:Stmt) (f:Addr) (fd:FuncData):Prop where
 ex: ∃ (oc:Value) (od:Option Addr) (kV doc pm:Value) (an:Option Addr) (cdv ct:Value) (osl:Array (Option Value)),
  fd=W.fnOf x qual (zdD st) (zcz st) (zae st) .none kV doc pm an cdv ct/\K.lookup f=some ⟨oc,od,.func fd,osl⟩/\W.codeIn K cdv qual=true
 kp:W.keepIn K (.ref f)=true
section
variable {P:Program} {w:World} {K:W.Frag} {mg:Str->Option Value} {base:Heap}
theorem Fun.ok {x qual:Str} {st:Stmt} {f:Addr} {fd:FuncData} {N ps:List Str} {k:Nat} {sp:Sp} (F:Fun K x qual st f fd) (S:zao N ps (zae st)) (len: ∀ vs H Q E,sp vs H Q E->vs.length=ps.length)
  (hbody: ∀ (cdv:Value) (A:Around) (outer:List Env) (s:Shared) (H:Hp) (vs:List V) (Q:VK) (E:XK),zeE k (A.deeper (envOfC qual (zae st) s.heap.objs.size f cdv))->sp vs H Q E->
    ∃ t,PSs (zoc CX0 P w K mg base N qual (zae st) f cdv A outer s H E).nox (zcz st) t/\t {nx:=λ_ H'=>Q .non H',rt:=Q} (zeQ N vs) H):zbN P w K mg base CX0 (k+1) f fd ps sp:=by
 obtain ⟨oc,od,kV,doc,pm,an,cdv,ct,osl,rfl,lk,hcd⟩:=F.ex
 refine ztq lk hcd S len λA outer s H vs Q E hr hsp=> ?_
 obtain ⟨t,h,q⟩:=hbody cdv A outer s H vs Q E hr hsp
 exact ⟨t,h.nox,q⟩
theorem Fun.binds {x qual:Str} {st:Stmt} {f:Addr} {fd:FuncData} {ps:List Str} (F:Fun K x qual st f fd)
  (h: ∀ (kV doc pm:Value) (an:Option Addr) (cdv ct:Value) (us:List Value),us.length=ps.length->bindArgs (W.fnOf x qual (zdD st) (zcz st) (zae st) .none kV doc pm an cdv ct) ⟨us,[]⟩=pure (ps.zip us)):zaJ K fd ps []:=by
 obtain ⟨oc,od,kV,doc,pm,an,cdv,ct,osl,rfl,lk,hcd⟩:=F.ex
 exact .all (h kV doc pm an cdv ct)
theorem zaC {x qual:Str} {st:Stmt} {f:Addr} {oc:Value} {od an:Option Addr} {osl:Array (Option Value)} {kV doc pm cdv ct:Value} (l:K.lookup f=some ⟨oc,od,.func (W.fnOf x qual (zdD st) (zcz st) (zae st) .none kV doc pm an cdv ct),osl⟩)
  (c:W.codeIn K cdv qual=true) (k:W.keepIn K (.ref f)=true):Fun K x qual st f (W.fnOf x qual (zdD st) (zcz st) (zae st) .none kV doc pm an cdv ct):=⟨⟨oc,od,kV,doc,pm,an,cdv,ct,osl,rfl,l,c⟩,k⟩
end
section
variable {X:Cx}
theorem pv (i:Nat) {x:Str} {pos:Pos} (hN:X.N[i]? = some x:=by rfl) (hv:Vis X.env.scope x:=by first | exact Or.inl rfl | exact Or.inr (Or.inl rfl) | exact Or.inr (Or.inr rfl)) (hd:(x==("__debug__":Str))=false:=by decide)
  (hcd:(x==("__classdict__":Str))=false:=by decide):PE X (.Name x pos) (ztJ i):=znm hN hv hd hcd
end
theorem zo0 {A B:Prop} (h:B):if false=true then A else B:=by
 rw [qa5 Bool.false_ne_true]
 exact h
theorem zoU {A B:Prop} (h:A):if true=true then A else B:=by
 rw [qa4 rfl]
 exact h
def zbd (cells:List (Str×Addr)):List (Str×NameKind)->List (Str×Addr)->List (Str×Addr)
 | [],acc=>acc
 | (n,k)::r,acc=>if k== .free then zbd cells r ((n,(cells.lookup n).getD 0)::acc) else zbd cells r acc
theorem zc7 {scope:Scope} {env:Env} (h: ∀ x∈scope.names,x.2= .free-> ∃ c,env.cells.lookup x.1=some c):closureFor scope env=pure (zbd env.cells scope.names []):=by
 simp only [closureFor]
 generalize hn:scope.names=names at h
 clear hn
 generalize hacc:([]:List (Str×Addr))=acc
 clear hacc
 have key: ∀ (names:List (Str×NameKind)) (acc:List (Str×Addr)),(∀ x∈names,x.2= .free-> ∃ c,env.cells.lookup x.1=some c)->
   (forIn (m:=Sem) names acc λ(x:Str×NameKind) (r:List (Str×Addr))=>(match x with
     | (name,kind)=>if (kind==NameKind.free)=true then do
         let a<-cellOf env name
         pure (ForInStep.yield ((name,a)::r))
       else pure (ForInStep.yield r)))=pure (zbd env.cells names acc):=by
  intro names
  induction names with
  | nil=>intro acc _;rfl
  | cons x r ih=>
   intro acc h
   obtain ⟨n,k⟩:=x
   rw [forIn_cons]
   unfold zbd
   by_cases hk:(k==NameKind.free)=true
   ·simp only [hk,if_true]
    obtain ⟨c,hc⟩:=h (n,k) qau (by simpa using hk)
    have e:cellOf env n=pure c:=by unfold cellOf;rw [show env.cells.lookup n=some c from hc]
    rw [e,show (env.cells.lookup n).getD 0=c by rw [show env.cells.lookup n=some c from hc];rfl]
    exact ih _ λy hy=>h y (qan _ hy)
   ·simp only [hk,if_false]
    exact ih _ λy hy=>h y (qan _ hy)
 have k:=key names acc h
 refine Eq.trans (congrArg (λ(z:Sem (List (Str×Addr)))=>z>>=λr=>pure r) k) ?_
 rfl
theorem zdz {cells:List (Str×Addr)}: ∀ {names:List (Str×NameKind)} {acc:List (Str×Addr)} {n:Str} {c:Addr},(n,c)∈zbd cells names acc->
  (n,c)∈acc\/((n,NameKind.free)∈names/\c=(cells.lookup n).getD 0)
 | [],_,_,_,h=> .inl h
 | (y,k)::r,acc,n,c,h=>by
  unfold zbd at h
  by_cases hk:(k==NameKind.free)=true
  ·rw [qa4 hk] at h
   have ek:k= .free:=by simpa using hk
   subst ek
   rcases zdz h with h | ⟨h1,h2⟩
   ·rcases qaP.mp h with e | h
    ·cases e
     exact .inr ⟨qau,rfl⟩
    ·exact .inl h
   ·exact .inr ⟨qan _ h1,h2⟩
  ·rw [qa5 hk] at h
   rcases zdz h with h | ⟨h1,h2⟩
   ·exact .inl h
   ·exact .inr ⟨qan _ h1,h2⟩
theorem zcU {cells:List (Str×Addr)} {x:Str} {c:Addr} (hc:cells.lookup x=some c): ∀ (names:List (Str×NameKind)) (acc:List (Str×Addr)),((x,NameKind.free)∈names\/acc.lookup x=some c)->(zbd cells names acc).lookup x=some c
 | [],acc,h=>h.elim (λz=>nomatch z) id
 | (y,k)::r,acc,h=>by
  unfold zbd
  by_cases hk:(k==NameKind.free)=true
  ·rw [qa4 hk]
   refine zcU hc r _ ?_
   by_cases hy:x=y
   ·subst hy
    exact .inr (by rw [lookup_cons,beq_self_eq_true,hc];rfl)
   ·rcases h with h | h
    ·rcases qaP.mp h with e | h
     ·cases e;exact absurd rfl hy
     ·exact .inl h
    ·refine .inr ?_
     rw [lookup_cons,show (x==y)=false by simpa using hy]
     exact h
  ·rw [qa5 hk]
   refine zcU hc r _ ?_
   rcases h with h | h
   ·rcases qaP.mp h with e | h
    ·cases e;exact absurd rfl hk
    ·exact .inl h
   ·exact .inr h
theorem zcb: ∀ {names:List (Str×NameKind)} {n:Nat} {acc:List (Str×Addr)} {x:Str} {c:Addr},(x,c)∈cellsFrom n names acc->(x,c)∈acc\/(n<=c/\(x,NameKind.cell)∈names)
 | [],_,_,_,_,h=> .inl h
 | (y,k)::r,n,acc,x,c,h=>by
  unfold cellsFrom at h
  by_cases hk:(k==NameKind.cell)=true
  ·rw [qa4 hk] at h
   have ek:k= .cell:=by simpa using hk
   subst ek
   rcases zcb h with h | ⟨h,h'⟩
   ·rcases qaP.mp h with e | h
    ·cases e;exact .inr ⟨qaV _,qau⟩
    ·exact .inl h
   ·exact .inr ⟨Nat.le_of_succ_le h,qan _ h'⟩
  ·rw [qa5 hk] at h
   rcases zcb h with h | ⟨h,h'⟩
   ·exact .inl h
   ·exact .inr ⟨h,qan _ h'⟩
theorem zbE {x:Str} {c:Addr}: ∀ (names:List (Str×NameKind)) (n:Nat) (acc:List (Str×Addr)),(x,NameKind.cell)∉names->acc.lookup x=some c->(cellsFrom n names acc).lookup x=some c
 | [],_,_,_,h=>h
 | (y,k)::r,n,acc,hn,h=>by
  unfold cellsFrom
  by_cases hk:(k==NameKind.cell)=true
  ·rw [qa4 hk]
   have ek:k= .cell:=by simpa using hk
   subst ek
   refine zbE r _ _ (λz=>hn (qan _ z)) ?_
   have hy:x≠y:=λe=>hn (by rw [e];exact qau)
   rw [lookup_cons,show (x==y)=false by simpa using hy]
   exact h
  ·rw [qa5 hk]
   exact zbE r _ _ (λz=>hn (qan _ z)) h
theorem zbA: ∀ (names:List (Str×NameKind)) (n:Nat) (acc:List (Str×Addr)),(∀ x c,(x,c)∈acc->c<n)->(acc.Pairwise λx y=>x.2≠y.2)->(cellsFrom n names acc).Pairwise λx y=>x.2≠y.2
 | [],_,_,_,h=>h
 | (y,k)::r,n,acc,hlt,h=>by
  unfold cellsFrom
  by_cases hk:(k==NameKind.cell)=true
  ·rw [qa4 hk]
   refine zbA r (n+1) _ (λx c hm=> ?_) (qay.mpr ⟨λz hz e=> ?_,h⟩)
   ·rcases qaP.mp hm with e | hm
    ·cases e;exact Nat.lt_succ_self _
    ·exact lt_succ_of_lt (hlt x c hm)
   ·have:=hlt z.1 z.2 hz
    have e':n=z.2:=e
    exact qaN _ (e'▸this)
  ·rw [qa5 hk]
   exact zbA r n acc hlt h
def zoO (env:Env) (scope:Scope) (C:Addr):Env:=
 {scope:=relabel scope env,locals:=C,globals:=env.globals,cells:=cellsFrom (C+1) scope.names (zbd env.cells scope.names []),qual:=env.qual,func:=none,code:=env.code,frame:=env.frame,builtins:=env.builtins}
section
variable {M:Model} {A:Around} {E:Value->Shared->Prop} {s:Shared}
theorem zeN {scope:Scope} {env:Env} {cl:List (Str×Addr)} {Q:Env->Shared->Prop}
  (hQ: ∀ h',(∀ b o,s.heap.get? b=some o->h'.get? b=some o)->h'.Ns s.heap.objs.size (λ_=>none)->(∀ x c,(x,NameKind.cell)∈scope.names->(x,c)∈cellsFrom (s.heap.objs.size+1) scope.names cl->(x,c)∉cl->h'.IsCell c none)->
    Q {scope,locals:=s.heap.objs.size,globals:=env.globals,cells:=cellsFrom (s.heap.objs.size+1) scope.names cl,qual:=env.qual,func:=none,code:=env.code,frame:=env.frame,builtins:=env.builtins} {s with heap:=h'}):
  wpAny M A (newFunctionEnv scope env.globals cl [] env.qual none .none (some env)) Q E s:=by
 simp only [newFunctionEnv,Option.isSome_some,if_true]
 refine qaW (wpAny_alloc ?_)
 refine qaW (wpAny_layCells _ (λname kind cells=>by cases hkc:kind==NameKind.cell<;>simp [hkc]) _ _ _ _ ?_)
 simp only [forIn_nil]
 refine qaW (qaX (qaX ?_))
 rw [show ({s with heap:=s.heap.push {cls:= .type "dict",data:= .dict #[]}}:Shared).heap.objs.size=s.heap.objs.size+1 from qaL ..]
 have key: ∀ (names:List (Str×NameKind)) (h:Heap) (acc:List (Str×Addr)) (x:Str) (c:Addr),(x,c)∈cellsFrom h.objs.size names acc->(x,c)∉acc->(pushCells h names).IsCell c none:=by
  intro names
  induction names with
  | nil=>intro h acc x c hm hn;exact absurd hm hn
  | cons y r ih=>
   intro h acc x c hm hn
   obtain ⟨n,k⟩:=y
   unfold cellsFrom at hm
   unfold pushCells
   by_cases hk:(k==NameKind.cell)=true
   ·rw [qa4 hk] at hm ⊢
    by_cases hin:(x,c)∈((n,h.objs.size)::acc)
    ·rcases qaP.mp hin with e | e
     ·cases e
      exact ⟨_,pushCells_keeps _ _ _ _ (qar _ rfl),rfl⟩
     ·exact absurd e hn
    ·refine ih (h.push {cls:= .type "cell",data:= .cell none}) ((n,h.objs.size)::acc) x c ?_ hin
     rw [qaL]
     exact hm
   ·rw [qa5 hk] at hm ⊢
    exact ih h acc x c hm hn
 refine hQ _ (λb o e=>pushCells_keeps _ _ b o (qag _ e)) ((Heap.Ns.new s.heap (.type "dict")).keeps (pushCells_keeps _ _)) λx c _ hm hn=> ?_
 refine key scope.names _ cl x c ?_ hn
 rw [qaL]
 exact hm
end
section
variable {prog:Program} {w:World} {A:Around} {E:Value->Shared->Prop} {R:Result->Shared->Prop} {s:Shared}
theorem zf3 {elt target iter:Expr} {ifs:List Expr} {scope:Scope} {pos:Pos} {it acc:Value} {env:Env} (I:Nat->Shared->Prop)
  (turn: ∀ n s,I n s->wpAny (model prog w) A (pyNext it) (λr s₁=>match r with
    | none=>R (.ok .next) s₁
    | some v=>wpAny (model prog w) A (letOwnedTupleGo target it v) (λ_ s₁'=>wpAny (model prog w) A (assign target env v) (λ_ s₂=>
        wpAny (model prog w) A (forIn ifs true λc r=>if r=true then do let ok<-isTrue c env (eval c env);pure (ForInStep.yield ok) else pure (ForInStep.yield r)) (λok s₃=>
          if ok=true then wpAny (model prog w) A (eval elt env) (λx s₄=>
            wpAny (model prog w) A (call (.builtin "list.append") [acc,x]) (λ_ s₅=> ∃ m,m<n/\I m s₅) (λ_ _=>False) s₄) (λ_ _=>False) s₃
          else ∃ m,m<n/\I m s₃) (λ_ _=>False) s₂) (λ_ _=>False) s₁') (λ_ _=>False) s₁) (λ_ _=>False) s)
  (n:Nat) (h:I n s):
  codeAny (model prog w) A (.compLoop (.ListComp elt [⟨target,iter,ifs,0⟩] scope pos) 0 it acc env) R s:=by
 refine codeAny_loop rfl I (λn s hI=> ?_) n h
 show wpAny _ A ((compTurn (.ListComp elt [⟨target,iter,ifs,0⟩] scope pos) 0 it acc env).onRaise (λx=>do noteFrame x env;theTreesLotGoes x)) _ _ s
 refine wpAny_noted ?_
 rw [compTurn_list]
 refine qaW (wpAny_standAt (qaW (qaZ (turn n s hI) (λr s₁ h₁=> ?_) λ_ _ h'=>h'.elim)))
 cases r with
 | none=>exact qaX h₁
 | some v=>
  refine qaW (qaZ h₁ (λ_ s₁' h₁'=> ?_) λ_ _ h'=>h'.elim)
  refine qaW (qaZ h₁' (λ_ s₂ h₂=>qaW (qaZ h₂ (λok s₃ h₃=> ?_) λ_ _ h'=>h'.elim)) λ_ _ h'=>h'.elim)
  cases ok with
  | false=>exact qaX ⟨rfl,h₃⟩
  | true=>
   exact qaW (qaW (qaZ h₃ (λx s₄ h₄=>qaW (qaZ h₄ (λ_ s₅ h₅=>qaX (qaX ⟨rfl,h₅⟩)) λ_ _ h'=>h'.elim)) λ_ _ h'=>h'.elim))
end
abbrev cxB (X:Cx) (scope:Scope) (N:List Str) (s:Shared) (H:Hp) (fp:List Addr):Cx:=
 {prog:=X.prog,w:=X.w,K:=X.K,mg:=X.mg,base:=X.base,A:=X.A,N:=N,s₀:=s,H₀:=H,env:=zoO X.env scope s.heap.objs.size,outer:=X.stack,stack:=X.stack,ex:=fp,
   fn:=λx=>scope.names.lookup x==some .cell,calm:=X.calm,pn:=[],xe:=λ_ _=>False}
def znl (Xn:List (Str×NameKind)) (XN:List Str) (names:List (Str×NameKind)) (N:List Str) (src:List (Option Nat)):Bool:=
 decide N.Nodup && decide (names.map (·.1)).Nodup && (src.length==N.length) &&
 names.all (λx=>x.2 != .local || names.lookup x.1==some .local) &&
 names.all (λx=>x.2 != .cell || names.lookup x.1==some .cell) &&
 names.all (λx=>x.2 != .free || Xn.lookup x.1==some .cell || Xn.lookup x.1==some .free) &&
 (N.zip src).all (λp=>match p.2 with
   | none=>true
   | some i=>XN[i]? == some p.1 && names.lookup p.1==some .free)
structure BOk (X:Cx) (scope:Scope) (N:List Str) (src:List (Option Nat)):Prop where
 kind:scope.kind= .function
 nd:N.Nodup
 keys:(scope.names.map (·.1)).Nodup
 len:src.length=N.length
 locs: ∀ x∈scope.names,x.2= .local->scope.names.lookup x.1=some .local
 cels: ∀ x∈scope.names,x.2= .cell->scope.names.lookup x.1=some .cell
 free: ∀ x∈scope.names,x.2= .free->X.env.kindOf x.1=some .cell\/X.env.kindOf x.1=some .free
 src: ∀ (k i:Nat) (x:Str),src[k]? = some (some i)->N[k]? = some x->X.N[i]? = some x/\scope.names.lookup x=some .free
theorem BOk.of {X:Cx} {scope:Scope} {N:List Str} {src:List (Option Nat)} {Xn:List (Str×NameKind)} {XN:List Str} (hk:scope.kind= .function) (hX:X.env.scope.names=Xn) (hN:X.N=XN)
  (h:znl Xn XN scope.names N src=true):BOk X scope N src:=by
 unfold znl at h
 simp only [qaG,qaD,all_eq_true,beq_iff_eq] at h
 obtain ⟨⟨⟨⟨⟨⟨h1,h2⟩,h3⟩,h4⟩,h4'⟩,h5⟩,h6⟩:=h
 refine ⟨hk,h1,h2,h3,λx hx e=> ?_,λx hx e=> ?_,λx hx e=> ?_,λk i x e1 e2=> ?_⟩
 ·have:=h4 x hx
  rw [e] at this
  simpa using this
 ·have:=h4' x hx
  rw [e] at this
  simpa using this
 ·have:=h5 x hx
  rw [e] at this
  unfold Env.kindOf
  rw [hX]
  simpa using this
 ·have hm:(x,some i)∈N.zip src:=by
   refine List.mem_iff_getElem?.mpr ⟨k,?_⟩
   rw [List.getElem?_zip_eq_some]
   exact ⟨e2,e1⟩
  have:=h6 _ hm
  dsimp only at this
  simp only [qaG,beq_iff_eq] at this
  rw [hN]
  exact this
def bStart (src:List (Option Nat)) (σ:St):St:=src.map λo=>o.bind λi=>(σ[i]?).join
theorem zeP {scope:Scope} {env:Env} {x:Str}:(relabel scope env).names.lookup x=(scope.names.lookup x).map λk=>if (k== .free && env.scope.kind== .function && env.kindOf x==some .cell) then .cell else k:=by
 show List.lookup x (scope.names.map _)=_
 induction scope.names with
 | nil=>rfl
 | cons y r ih=>
  obtain ⟨n,k⟩:=y
  rw [qaM]
  dsimp only
  by_cases hx:x=n
  ·subst hx
   by_cases hc:(k==NameKind.free && env.scope.kind== .function && env.kindOf x==some .cell)=true
   ·rw [qa4 hc,lookup_cons,lookup_cons,beq_self_eq_true]
    dsimp only [Option.map]
    rw [qa4 hc]
   ·rw [qa5 hc,lookup_cons,lookup_cons,beq_self_eq_true]
    dsimp only [Option.map]
    rw [qa5 hc]
  ·have hb:(x==n)=false:=by simpa using hx
   by_cases hc:(k==NameKind.free && env.scope.kind== .function && env.kindOf n==some .cell)=true
   ·rw [qa4 hc,lookup_cons,lookup_cons,hb]
    exact ih
   ·rw [qa5 hc,lookup_cons,lookup_cons,hb]
    exact ih
section
variable {X:Cx} {pins:List (Addr×Obj)} {σ:St} {H:Hp} {s:Shared} {scope:Scope} {N:List Str} {src:List (Option Nat)} {fp:List Addr}
theorem zoS (I:Inv X pins σ H s) (B:BOk X scope N src) {x:Str} {c:Addr} (h:(x,c)∈zbd X.env.cells scope.names []):X.env.cells.lookup x=some c/\(x,NameKind.free)∈scope.names:=by
 rcases zdz h with z | ⟨z,e⟩
 ·exact nomatch z
 ·obtain ⟨c',hc⟩:=I.ok.has x (B.free _ z rfl)
  rw [hc] at e
  exact ⟨by rw [hc,e];rfl,z⟩
theorem zgN {l:List (Str×NameKind)} (h:(l.map (·.1)).Nodup) {x:Str} {j k:NameKind} (a:(x,j)∈l) (b:(x,k)∈l):j=k:=by
 induction l with
 | nil=>exact nomatch a
 | cons y r ih=>
  obtain ⟨h1,h2⟩:=nodup_cons.mp (show (y.1::r.map (·.1)).Nodup from h)
  rcases qaP.mp a with e | a<;>rcases qaP.mp b with e' | b
  ·rw [<- e] at e';cases e';rfl
  ·exact absurd (qaU.mpr ⟨_,b,by rw [<- e]⟩) h1
  ·exact absurd (qaU.mpr ⟨_,a,by rw [<- e']⟩) h1
  ·exact ih h2 a b
theorem zdA (I:Inv X pins σ H s): ∀ (names:List (Str×NameKind)) (acc:List (Str×Addr)),(∀ x∈names,x.2= .free-> ∃ c,X.env.cells.lookup x.1=some c)->(names.map (·.1)).Nodup->(∀ x c,(x,c)∈acc->X.env.cells.lookup x=some c/\x∉names.map (·.1))->
  (acc.Pairwise λx y=>x.2≠y.2)->(zbd X.env.cells names acc).Pairwise λx y=>x.2≠y.2
 | [],_,_,_,_,h=>h
 | (n,k)::r,acc,hf,nd,ha,h=>by
  unfold zbd
  obtain ⟨h1,h2⟩:=nodup_cons.mp (show (n::r.map (·.1)).Nodup from nd)
  by_cases hk:(k==NameKind.free)=true
  ·rw [qa4 hk]
   obtain ⟨c,hc⟩:=hf (n,k) qau (by simpa using hk)
   have hc:X.env.cells.lookup n=some c:=hc
   rw [show (X.env.cells.lookup n).getD 0=c by rw [hc];rfl]
   refine zdA I r _ (λx hx=>hf x (qan _ hx)) h2 (λx c' hm=> ?_) (qay.mpr ⟨λy hy e=> ?_,h⟩)
   ·rcases qaP.mp hm with e | hm
    ·cases e;exact ⟨hc,h1⟩
    ·exact ⟨(ha x c' hm).1,λz=>(ha x c' hm).2 (qan _ z)⟩
   ·obtain ⟨q1,q2⟩:=ha y.1 y.2 hy
    have e':c=y.2:=e
    rw [<- e'] at q1
    have:=I.ok.inj _ _ _ hc q1
    exact q2 (by rw [<- this];exact qau)
  ·rw [qa5 hk]
   exact zdA I r acc (λx hx=>hf x (qan _ hx)) h2 (λx c' hm=>⟨(ha x c' hm).1,λz=>(ha x c' hm).2 (qan _ z)⟩) h
theorem zjQ (I:Inv X pins σ H s) (B:BOk X scope N src) (hf: ∀ b∈fp,zls X pins H b) (hfo: ∀ b∈fp, ∃ o,s.heap.get? b=some o) {h':Heap} (hk: ∀ b o,s.heap.get? b=some o->h'.get? b=some o) (hns:h'.Ns s.heap.objs.size (λ_=>none))
  (hce: ∀ x c,(x,NameKind.cell)∈scope.names->(x,c)∈cellsFrom (s.heap.objs.size+1) scope.names (zbd X.env.cells scope.names [])->(x,c)∉zbd X.env.cells scope.names []->h'.IsCell c none):
  Inv (cxB X scope N s H fp) [] (bStart src σ) H {s with heap:=h'}:=by
 have cin: ∀ {x:Str} {c:Addr},(x,c)∈zbd X.env.cells scope.names []->X.env.cells.lookup x=some c/\(x,NameKind.free)∈scope.names:=λh=>zoS I B h
 have old: ∀ {x:Str} {c:Addr},X.env.cells.lookup x=some c->c<s.heap.objs.size:=λ{x c} h=>(let ⟨_,q⟩:=I.cell x c h;q.lt)
 have all: ∀ {x:Str} {c:Addr},(x,c)∈cellsFrom (s.heap.objs.size+1) scope.names (zbd X.env.cells scope.names [])->(X.env.cells.lookup x=some c/\(x,NameKind.free)∈scope.names)\/(s.heap.objs.size<c/\(x,NameKind.cell)∈scope.names):=λ{x c} h=>by
  rcases zcb h with z | ⟨z,z'⟩
  ·exact .inl (cin z)
  ·exact .inr ⟨z,z'⟩
 have lk: ∀ {x:Str} {c:Addr},(zoO X.env scope s.heap.objs.size).cells.lookup x=some c->(x,c)∈cellsFrom (s.heap.objs.size+1) scope.names (zbd X.env.cells scope.names []):=λh=>PySem.mem_of_lookup h
 have hasF: ∀ x∈scope.names,x.2= .free-> ∃ c,X.env.cells.lookup x.1=some c:=λx hx e=>I.ok.has x.1 (B.free x hx e)
 have ap:(cellsFrom (s.heap.objs.size+1) scope.names (zbd X.env.cells scope.names [])).Pairwise λx y=>x.2≠y.2:=
  zbA _ _ _ (λx c hm=>lt_succ_of_lt (old (cin hm).1)) (zdA I scope.names [] hasF B.keys (λ_ _ z=>nomatch z) .nil)
 have outer: ∀ {x:Str} {c:Addr},(x,NameKind.free)∈scope.names->X.env.cells.lookup x=some c->(zoO X.env scope s.heap.objs.size).cells.lookup x=some c:=λ{x c} h1 h2=>
  zbE _ _ _ (λz=>nomatch zgN B.keys h1 z) (zcU h2 scope.names [] (.inl h1))
 have kinds: ∀ x,(zoO X.env scope s.heap.objs.size).kindOf x=(scope.names.lookup x).map λk=>if (k== .free && X.env.scope.kind== .function && X.env.kindOf x==some .cell) then .cell else k:=λx=>zeP
 have ckind: ∀ x,((zoO X.env scope s.heap.objs.size).kindOf x=some .cell\/(zoO X.env scope s.heap.objs.size).kindOf x=some .free)->scope.names.lookup x=some .cell\/scope.names.lookup x=some .free:=λx h=>by
  rw [kinds x] at h
  cases e:scope.names.lookup x with
  | none=>rw [e] at h;simp at h
  | some k=>
   rw [e] at h
   cases k<;>simp at h ⊢
 refine ⟨⟨I.ok.mod,B.kind,I.ok.glob,I.ok.blt,qaV _,λx y c h1 h2=>name_of_addr ap (lk h1) (lk h2),λx hx=> ?_,λx c hfn hx=> ?_,I.ok.hd,I.handA,I.ok.frames,.inl rfl,λb hb=> ?_,I.bs,qaS I.ok.bsz I.sz,λb o e hb=> ?_,λb hb hb'=> ?_,I.stack,I.stkFree⟩,
   rfl,I.bare,Un.kept hk,⟨_,hns,λi x v h1 h2 h3=> ?_⟩,λx c h=> ?_,I.hok.fresh (qaV _),λx c h=> ?_,λp hp=>absurd (show p∈([]:List (Addr×Obj)) from hp) (by simp),I.hok.kept hk,?_⟩
 ·-- has
  rcases ckind x hx with h | h
  ·exact Option.isSome_iff_exists.mp (W.cellsFrom_some scope.names _ _ (.inl h))
  ·have hm:=PySem.mem_of_lookup h
   obtain ⟨c,hc⟩:=hasF _ hm rfl
   exact ⟨c,outer hm hc⟩
 ·-- cab
  have hfn:scope.names.lookup x=some .cell:=by simpa using hfn
  rcases all (lk hx) with ⟨_,z⟩ | ⟨z,_⟩
  ·exact absurd (zgN B.keys z (PySem.mem_of_lookup hfn)) (by decide)
  ·exact Nat.le_of_lt z
 ·-- exf
  obtain ⟨o,ho⟩:=hfo b hb
  refine ⟨qaR (qaQ ho),λx c hx z=> ?_⟩
  rcases all (lk hx) with ⟨q,_⟩ | ⟨q,_⟩
  ·exact (hf b hb).2.2.2.2.1 x c q z
  ·have:=qaQ ho
   rw [<- z] at this
   exact qaN _ (lt_trans q this)
 ·-- noex
  rcases (hf b hb).2.2.2.1 with z | z
  ·exact I.ok.noex b o e z
  ·exact qaN _ (qaw (qaw (qaQ e) I.ok.bsz) z)
 ·-- exfs
  rcases qaP.mp (I.stkSub b hb') with z | z
  ·exact (hf b hb).2.1 z
  ·exact (hf b hb).2.2.1 z
 ·-- loc
  unfold bStart at h2
  rw [List.getElem?_map] at h2
  cases e:src[i]? with
  | none=>rw [e] at h2;cases h2
  | some o=>
   rw [e] at h2
   cases o with
   | none=>cases h2
   | some j=>
    have h2:(σ[j]?).join=some v:=by simpa using h2
    have e3:σ[j]? = some (some v):=by
     cases q:σ[j]? with
     | none=>rw [q] at h2;cases h2
     | some z=>rw [q] at h2;simp at h2;rw [h2]
    obtain ⟨b1,b2⟩:=B.src i j x e h1
    have hm:=PySem.mem_of_lookup b2
    obtain ⟨m,hn,hl⟩:=I.loc
    have hfr:=B.free _ hm rfl
    obtain ⟨u,r,l⟩:=hl j x v b1 e3 (.inr hfr)
    rcases l with ⟨k,_⟩ | ⟨k,c,hc,q⟩
    ·rcases hfr with z | z<;>(have z':=k.symm.trans z;cases z')
    ·refine ⟨u,r,.inr ⟨?_,c,outer hm hc,q.keeps hk⟩⟩
     rw [kinds x,b2]
     dsimp only [Option.map]
     split
     ·exact .inl rfl
     ·exact .inr rfl
 ·-- cell
  rcases all (lk h) with ⟨q,_⟩ | ⟨q,q'⟩
  ·obtain ⟨v,z⟩:=I.cell x c q
   exact ⟨v,z.keeps hk⟩
  ·exact ⟨none,hce x c q' (lk h) λz=>absurd (lt_trans q (old (cin z).1)) (qaN _)⟩
 ·-- freeC
  rcases all (lk h) with ⟨q,_⟩ | ⟨q,q'⟩
  ·exact I.freeC x c q
  ·exact I.hok.fresh (Nat.le_of_lt q)
 ·unfold bStart
  rw [qaH]
  exact B.len
end
def PCs (X:Cx) (ifs:List Expr) (t:TT):Prop:=
 ∀ (pins:List (Addr×Obj)) (s:Shared) (σ:St) (H:Hp) (Q:Bool->Hp->Prop),Inv X pins σ H s->t σ H Q->
  wpAny (model X.prog X.w) X.A (forIn ifs true λc r=>if r=true then do let ok<-isTrue c X.env (eval c X.env);pure (ForInStep.yield ok) else pure (ForInStep.yield r)) (TP X pins σ Q) X.xe s
def zuh:TT:=λ_ H Q=>Q true H
theorem zo7 {X:Cx}:PCs X [] zuh:=λpins s σ H Q I h=>wpAny_tests_nil ⟨H,I,h⟩
theorem znK {X:Cx} {c:Expr} {t:TT} (h:PT X c t):PCs X [c] t:=λpins s σ H Q I hw=>wpAny_tests_one (h pins s σ H Q I hw)
def zr5 (J:It) (g:TG) (tc:TT) (te:TE) (σ0:St) (H1:Hp) (D:Addr) (Q:Hp->Prop):Prop:=
 ∃ W:Nat->Nat->St->Hp->Prop,(∃ m,W 0 m σ0 (upd H1 D (.lst [])))/\ ∀ i m σ' H',W i m σ' H'->
  (J.stop i H'/\Q H')\/(J.go i H'/\ ∃ Nn:St->Hp->Prop,(∀ σ2 H2,Nn σ2 H2-> ∃ m',m'<m/\W (i+1) m' σ2 H2)/\ ∀ x H2,J.yld i H' x H2->g x σ' H2 λσ2 H3=>tc σ2 H3 λb H4=>
    if b=true then te σ2 H4 λy H5=> ∃ xs,H5 D=some (.lst xs)/\xs.length<sizeLine/\Nn σ2 (upd H5 D (.lst (xs++[y]))) else Nn σ2 H4)
section
variable {X:Cx} {scope:Scope} {N:List Str} {src:List (Option Nat)} {tg iter elt:Expr} {ifs:List Expr} {pos:Pos}
theorem ziq {pins:List (Addr×Obj)} {σ:St} {H:Hp} {s₂:Shared} {it:Addr} {fp:List Addr} {tn:Nat->Heap->Prop} {J:It} {g:TG} {tc:TT} {te:TE} {Q:Addr->Hp->Prop} {E:Value->Shared->Prop} {RR:Value->Addr->Result->Shared->Prop}
  (B:BOk X scope N src)
  (hg: ∀ s H fp,PG (cxB X scope N s H fp) tg g) (ht: ∀ s H fp,PCs (cxB X scope N s H fp) ifs tc) (he: ∀ s H fp,PE (cxB X scope N s H fp) elt te)
  (I2:Inv X pins σ H s₂) (T:zpo X.prog X.w X.K tg J fp it tn) (st2:tn 0 s₂.heap) (f2: ∀ b∈fp,zls X pins H b) (hw: ∀ D,H D=none->zr5 J g tc te (bStart src σ) H D (Q D))
  (hRR: ∀ D C H' s' m,Inv X pins σ H' s'->s'.heap.Ns C m->s₂.heap.objs.size<=C->C<s'.heap.objs.size->H' C=none->Q D H'->RR (.ref D) C (.ok .next) s'):
  wpAny (model X.prog X.w) X.A (newList []) (λacc s₃=>wpAny (model X.prog X.w) X.A (newFunctionEnv scope X.env.globals (zbd X.env.cells scope.names []) [] X.env.qual none .none (some X.env)) (λcenv s₄=>
    codeAny (model X.prog X.w) X.A (.compStart (.ListComp elt [⟨tg,iter,ifs,0⟩] scope pos) 0 (.ref it) acc {cenv with scope:=relabel scope X.env}) (RR acc cenv.locals) s₄) E s₃) E s₂:=by
 refine qaC (zeN λh₁ hk₁ hns₁ hce₁=> ?_)
 dsimp only at hk₁ hns₁ hce₁ ⊢
 have hfresh:H s₂.heap.objs.size=none:=I2.hok.fresh (qaV _)
 have I3:Inv X pins σ (upd H s₂.heap.objs.size (.lst [])) {s₂ with heap:=s₂.heap.push {cls:= .type "list",dict:=none,data:= .seq ([]:List Value).toArray}}:=by
  have:=I2.lnew (its:=[]) (ys:=[]) (t':=s₂.toks) .nil (zero_le _)
  exact this
 obtain ⟨W,⟨m0,w0⟩,turn⟩:=hw _ hfresh
 generalize hD:s₂.heap.objs.size=D at*
 generalize hs3:({s₂ with heap:=s₂.heap.push {cls:= .type "list",dict:=none,data:= .seq ([]:List Value).toArray}}:Shared)=s₃ at*
 have hh3:s₂.heap.push {cls:= .type "list",dict:=none,data:= .seq ([]:List Value).toArray}=s₃.heap:=by rw [<- hs3]
 rw [hh3] at hk₁ hns₁ hce₁ ⊢
 have push3: ∀ b o,s₂.heap.get? b=some o->s₃.heap.get? b=some o:=λb o e=>by rw [<- hs3];exact qag _ e
 have sz3:s₃.heap.objs.size=D+1:=by rw [<- hs3, <-hD];exact qaL ..
 have fpo: ∀ b∈fp, ∃ o,s₂.heap.get? b=some o/\ ∀ v,o.data≠ .cell v:=T.obj _ _ st2
 have fpD: ∀ b∈fp,b≠D:=λb hb z=>by
  obtain ⟨o,e,_⟩:=fpo b hb
  have:=qaQ e
  rw [z, <-hD] at this
  exact qaN _ this
 have f3: ∀ b∈fp,zls X pins (upd H D (.lst [])) b:=λb hb=>⟨by rw [zau (fpD b hb)];exact (f2 b hb).1,(f2 b hb).2⟩
 have I4:Inv (cxB X scope N s₃ (upd H D (.lst [])) fp) [] (bStart src σ) (upd H D (.lst [])) {s₃ with heap:=h₁}:=
  zjQ I3 B f3 (λb hb=>let ⟨o,e,_⟩:=fpo b hb;⟨o,push3 b o e⟩) hk₁ hns₁ hce₁
 have fB: ∀ {H':Hp},(∀ b∈fp,H' b=none)-> ∀ b∈fp,zls (cxB X scope N s₃ (upd H D (.lst [])) fp) [] H' b:=λ{H'} hn b hb=>
  ⟨hn b hb,(I4.ok.exf b hb).1,I4.ok.exfs b hb,.inl hb,λx c e=>(I4.ok.exf b hb).2 x c e,λp hp=>absurd (show p∈([]:List (Addr×Obj)) from hp) (by simp)⟩
 have stat4: ∀ s',s'=({s₃ with heap:=h₁}:Shared)->codeAny (model X.prog X.w) X.A (.compLoop (.ListComp elt [⟨tg,iter,ifs,0⟩] scope pos) 0 (.ref it) (.ref D) (zoO X.env scope s₃.heap.objs.size)) (RR (.ref D) s₃.heap.objs.size) s':=by
  intro s' es
  refine zf3 (λn s'=> ∃ i σ' H',Inv (cxB X scope N s₃ (upd H D (.lst [])) fp) [] σ' H' s'/\tn i s'.heap/\(∀ b∈fp,H' b=none)/\W i n σ' H') ?_ m0 ⟨0,_,_,by rw [es];exact I4,by rw [es];exact T.keep _ _ _ st2 λb hb o e=>hk₁ b o (push3 b o e),λb hb=>(f3 b hb).1,w0⟩
  rintro n s5 ⟨i,σ5,H5,I5,st5,fr5,w5⟩
  rcases turn i n σ5 H5 w5 with ⟨stop,qn⟩ | ⟨go,Nn,hN,step⟩
  ·refine thn (T.done (cxB X scope N s₃ (upd H D (.lst [])) fp) rfl rfl rfl i [] s5 σ5 H5 _ I5 (fB fr5) st5 stop) λr s6 ⟨hr,I6⟩=> ?_
   subst hr
   obtain ⟨m,hnC,_⟩:=I6.loc
   have un:=I6.base
   have u2:Un (frs X.stack) fp H H5 s₂.heap s6.heap:=by
    refine Un.trans ?_ un
    have:=Un.laid (fs:=frs X.stack) (ex:=fp) (H:=H) (h:=s₂.heap) (h':=s₃.heap) (a:=D) (o:= .lst []) push3 (Nat.le_of_eq hD) hfresh
    exact this
   refine hRR D _ H5 s6 m (I2.call' (ch:=fp) (by rw [I6.os, <-hs3]) u2 I6.hok I6.bare λb hb=> ?_) hnC (by rw [sz3];exact le_succ _) hnC.lt I6.free qn
   obtain ⟨q0,q1,q2,q3,q4,q5⟩:=f2 b hb
   exact ⟨q3,q1,q4,q5⟩
  ·refine thn (T.item (cxB X scope N s₃ (upd H D (.lst [])) fp) rfl rfl rfl i [] s5 σ5 H5 _ I5 (fB fr5) st5 go) λr s6 ⟨u,hr,h6⟩=> ?_
   subst hr
   refine thn h6 λ_ s7 ⟨x,H7,I7,r7,y7,st7,fr7⟩=> ?_
   have I7':=I7.pinned (fB fr7) (T.obj _ _ st7)
   refine thn (hg _ _ _ _ s7 σ5 H7 x u _ I7' r7 (step x H7 y7)) λ_ s8 ⟨σ8,H8,I8,q8⟩=> ?_
   refine thn (ht _ _ _ _ s8 σ8 H8 _ I8 q8) λok s9 ⟨H9,I9,q9⟩=> ?_
   have again: ∀ {σ7:St} {Hz:Hp} {sz:Shared},Inv (cxB X scope N s₃ (upd H D (.lst [])) fp) ([]++zgw fp s7.heap) σ7 Hz sz->Nn σ7 Hz-> ∃ m,m<n/\ ∃ i σ' H',Inv (cxB X scope N s₃ (upd H D (.lst [])) fp) [] σ' H' sz/\tn i sz.heap/\(∀ b∈fp,H' b=none)/\W i m σ' H':=λ{σz Hz sz} Iz nz=>by
    obtain ⟨m',hm,wz⟩:=hN _ _ nz
    refine ⟨m',hm,i+1,_,_,Iz.unpinned,T.keep _ _ _ st7 λb hb o e=>(Iz.pin (b,o) (qak _ (qak _ (zcD hb e)))).1,λb hb=> ?_,wz⟩
    obtain ⟨o,e,d⟩:=T.obj _ _ st7 b hb
    exact (Iz.pin (b,o) (qak _ (qak _ (zcD hb e)))).2.1
   cases ok with
   | false=>
    rw [qa5 (by decide)] at q9
    rw [qa5 (by decide)]
    exact again I9 q9
   | true=>
    rw [qa4 rfl] at q9
    rw [qa4 rfl]
    refine thn (he _ _ _ _ s9 σ8 H9 _ I9 q9) λy s10 ⟨yv,H10,I10,ry,xs,e10,z10,q10⟩=> ?_
    refine thn (zg2 (X:=cxB X scope N s₃ (upd H D (.lst [])) fp) _ s10 σ8 H10 (.ref D) [yv] (.ref D) [y] (λ_ Hf=>Nn σ8 Hf) I10 rfl (.cons ry .nil) ⟨D,xs,yv,rfl,rfl,e10,z10,q10⟩) λ_ s11 ⟨_,H11,I11,_,q11⟩=> ?_
    exact again I11 q11
 exact codeAny_compStart_list (stat4 _ (by rw [<- hs3])) (T.self _ 0 _ _ _ (T.keep _ _ _ st2 λb hb o e=>hk₁ b o (push3 b o e)) (stat4 _ (by rw [<- hs3])))
def zpb (wi:TI) (g:TG) (tc:TT) (te:TE) (src:List (Option Nat)):TE:=λσ H Q=>wi σ H λJ H1=> ∀ D,H1 D=none->zr5 J g tc te (bStart src σ) H1 D λH'=>Q (.ref D) H'
theorem Inv.letGo {pins:List (Addr×Obj)} {σ:St} {H:Hp} {s:Shared} {C:Addr} {m:Str->Option Value} {h':Heap} (I:Inv X pins σ H s) (hn:s.heap.Ns C m) (hn':H C=none) (hC:X.s₀.heap.objs.size<=C) (hL:C≠X.env.locals) (hp: ∀ p∈X.pn++pins,p.1≠C) (hs:Heap.SameBut C s.heap h'):Inv X pins σ H {s with heap:=h'}:=by
 refine I.turned (t':=s.toks) (it:=C) (λb o hb e=>(hs.2 b hb).trans e) hn' hL (.inr hC) (λx c e z=> ?_) hp
 obtain ⟨v,o,ho,hd⟩:=I.cell x c e
 obtain ⟨o',es,ep,ho',hd',_⟩:=hn
 rw [z,ho'] at ho
 cases ho
 rw [hd'] at hd
 cases hd
theorem zoG {wi:TI} {g:TG} {tc:TT} {te:TE} (B:BOk X scope N src) (hi:PI X tg iter wi)
  (hg: ∀ s H fp,PG (cxB X scope N s H fp) tg g) (ht: ∀ s H fp,PCs (cxB X scope N s H fp) ifs tc) (he: ∀ s H fp,PE (cxB X scope N s H fp) elt te)
  (hs: ∀ x,foldedSetIterable iter X.env x=pure x:=by intro _;rfl):PE X (.ListComp elt [⟨tg,iter,ifs,0⟩] scope pos) (zpb wi g tc te src):=by
 intro pins s σ H Q I h
 rw [eval_ListComp]
 refine wpAny_comprehension_free (use:=none) rfl hs (zc7 λx hx e=>I.ok.has x.1 (B.free x hx e)) B.kind B.locs ?_
 refine thn (hi pins s σ H _ I h) λv s1 h1=>thn h1 λitv s2 h2=> ?_
 obtain ⟨it,fp,tn,J,H2,e,I2,T,st2,f2,hw⟩:=h2
 subst e
 refine ziq (RR:=λacc C=>compPost (model X.prog X.w) X.A X.xe none (EP X pins σ Q) acc C) (Q:=λD H'=>Q (.ref D) H') B hg ht he I2 T st2 f2 hw ?_
 intro D C H' s' m I' hn hC hCs hf q
 refine ⟨m,hn,λh' hs'=>⟨.ref D,H',I'.letGo hn hf (qaS I2.sz hC) (λz=> ?_) (λp hp z=> ?_) hs',rfl,q⟩⟩
 ·exact qaN _ (qaw (z▸I2.lt) hC)
 ·have:=qaQ (I2.pin p hp).1
  rw [z] at this
  exact qaN _ (qaw this hC)
theorem ziQ {wi:TI} {g:TG} {tc:TT} {te:TE} {i:Nat} {y:Str} {py spos:Pos} (B:BOk X scope N src) (hi:PI X tg iter wi)
  (hg: ∀ s H fp,PG (cxB X scope N s H fp) tg g) (ht: ∀ s H fp,PCs (cxB X scope N s H fp) ifs tc) (he: ∀ s H fp,PE (cxB X scope N s H fp) elt te)
  (hN:X.N.Nodup) (hy:X.N[i]? = some y) (hx:Loc X.env.scope y) (hsw:swapsWith (.ListComp elt [⟨tg,iter,ifs,0⟩] scope pos) (some (.Name y py)) spos.line X.env=pure true)
  (hf:X.fn y=true\/X.env.scope.names.lookup y=some .local:=by first | exact .inl rfl | exact .inr rfl | assumption)
  (hs: ∀ x,foldedSetIterable iter X.env x=pure x:=by intro _;rfl):PS X (.Assign [.Name y py] (.ListComp elt [⟨tg,iter,ifs,0⟩] scope pos) spos) (zsx (zpb wi g tc te src) (znC i)):=by
 intro pins s σ H D0 I h
 rw [exec_Assign_Name_used _ _ _ _ hsw]
 refine qaW (wpAny_standAt (qaW ?_))
 show wpAny _ X.A (do let _<-comprehension (.ListComp elt [⟨tg,iter,ifs,0⟩] scope pos) scope X.env _ (newList []) false (eval iter X.env) (some (assign (.Name y py) X.env))) _ _ s
 refine qaW (qaZ (wpAny_comprehension_free (use:=some (assign (.Name y py) X.env)) (Q:=λ_ s'=>SP X pins D0 .next s') rfl hs (zc7 λx hx e=>I.ok.has x.1 (B.free x hx e)) B.kind B.locs ?_)
   (λ_ s' hq=>qaX (qaX hq)) λ_ _ e=>e)
 refine thn (hi pins s σ H _ I h) λv s1 h1=>thn h1 λitv s2 h2=> ?_
 obtain ⟨it,fp,tn,J,H2,e,I2,T,st2,f2,hw⟩:=h2
 subst e
 refine ziq (RR:=λacc C=>compPost (model X.prog X.w) X.A X.xe (some (assign (.Name y py) X.env)) (λ_ s'=>SP X pins D0 .next s') acc C) (Q:=λD H'=>D0.nx (σ.set i (some (.ref D))) H') B hg ht he I2 T st2 f2 hw ?_
 intro D C H' s' m I' hn hC hCs hf' q
 show wpAny _ X.A (assign (.Name y py) X.env (.ref D)) _ _ _
 have hCL:C≠X.env.locals:=λz=>qaN _ (qaw (z▸I2.lt) hC)
 have hCp: ∀ p∈X.pn++pins,p.1≠C:=λp hp z=>by
  have:=qaQ (I2.pin p hp).1
  rw [z] at this
  exact qaN _ (qaw this hC)
 have hCc: ∀ x c,X.env.cells.lookup x=some c->c≠C:=λx c e z=>by
  obtain ⟨v,hv⟩:=I2.cell x c e
  exact qaN _ (qaw (z▸hv.lt) hC)
 obtain ⟨oC,es,ep,hoC,hdC,hrest⟩:=hn
 have hCfs:C∉X.fs:=I2.nofs hC
 have Ip:Inv X (pins++[(C,oC)]) σ H' s':=I'.pins_of λp hp=>by
  rcases qaK.mp hp with z | z
  ·exact I'.pin p (qak _ z)
  ·obtain rfl:p=(C,oC):=by simpa using z
   exact ⟨hoC,hf',hCL,hCfs,λv z=>by have z':=hdC.symm.trans z;cases z'⟩
 refine wpAny_assign_Name (zfH Ip hN hy hx (v:= .ref D) rfl (λs3 I3=> ?_) hf)
 have hC3:=(I3.pin (C,oC) (by simp)).1
 refine ⟨m,⟨oC,es,ep,hC3,hdC,hrest⟩,λh' hs'=> ?_⟩
 exact ⟨_,H',(I3.unpinned).letGo ⟨oC,es,ep,hC3,hdC,hrest⟩ hf' (qaS I2.sz hC) hCL hCp hs',q⟩
end
end L2
namespace L3
open L2
inductive D where
 | non | bl (b:Bool) | int (i:Int) | str (x:Str) | tup (xs:List D) | lst (xs:List D) | cel (n:Nat) | set (xs:List Int) | dct | fn (a:Addr) | scr (xs:List D) | exn (c:String)
inductive C where
 | lst (xs:List D) | dic (kvs:List (Int×D)) | dit (ks:List (List Int)) | ins (c:String) (fs:List (Str×D)) | dead
abbrev Hh:=List C
structure Io where
 c:List (Option Addr)
 x:List Addr
def Io.Has (ι:Io) (a:Addr):Prop:=some a∈ι.c\/a∈ι.x
inductive R (α:Type) where
 | ok (a:α) (h:Hh) | exc (c:String) (h:Hh) | bad
def M (α:Type):=Hh->R α
@[inline] def M.bind {α β:Type} (m:M α) (f:α->M β):M β:=λh=>match m h with
 | .ok a h'=>f a h'
 | .exc c h'=> .exc c h'
 | .bad=> .bad
@[inline] def M.pure {α:Type} (a:α):M α:=λh=> .ok a h
noncomputable instance:Monad M where
 pure:=M.pure
 bind:=M.bind
noncomputable def M.bad {α:Type}:M α:=λ_=> .bad
def KL (K:W.Frag) (a:Addr) (xs:List V):Prop:=SqL K (λ_=>none) a xs
mutual
noncomputable def Rel (K:W.Frag) (ι:Io) (H:Hp):D->V->Prop
 | .non,v=>v= .non
 | .bl b,v=>v= .bl b
 | .int i,v=>v= .int i
 | .str x,v=>v= .str x
 | .tup ds,v=> ∃ a vs,v= .ref a/\(H a=some (.tup vs)/\ ¬ι.Has a)/\zam K ι H ds vs
 | .lst ds,v=> ∃ a vs,v= .ref a/\(H a=some (.lst vs)/\ ¬ι.Has a)/\zam K ι H ds vs
 | .scr ds,v=> ∃ a vs,v= .ref a/\((Rd H a (.lst vs)/\ ¬ι.Has a)\/KL K a vs)/\zam K ι H ds vs
 | .cel n,v=> ∃ a,v= .ref a/\(ι.c[n]? = some (some a)\/ι.c[n]? = some none)
 | .set xs,v=> ∃ a,v= .ref a/\H a=some (.set (λk=>xs.any (· == k)) xs.length)/\ ¬ι.Has a
 | .dct,v=> ∃ a,v= .ref a/\H a=some (.dK [])/\ ¬ι.Has a
 | .fn a,v=>v= .ref a
 | .exn c,v=> ∃ a o C head vs,v= .ref a/\(H a=some (.frz o (.own 0))/\ ¬ι.Has a)/\W.nsIn K mainGlobals (c:Str)=some (some (.ref C))/\o.cls= .ref C/\o.dict=none/\o.data= .fields vs/\vs[2]? = some .none/\vs[1]? = some head
noncomputable def zam (K:W.Frag) (ι:Io) (H:Hp):List D->List V->Prop
 | [],vs=>vs=[]
 | d::ds,vs=> ∃ v r,vs=v::r/\Rel K ι H d v/\zam K ι H ds r
end
structure zbI (ι:Io) (H:Hp) (ι':Io) (H':Hp):Prop where
 old: ∀ (n:Nat) (o:Option Addr),ι.c[n]? = some o->ι'.c[n]? = some o\/ι'.c[n]? = some none
 new: ∀ a,some a∈ι'.c->some a∈ι.c\/H a=none
 hid:ι'.x=ι.x
 hidk: ∀ a∈ι.x,H' a=H a
 keep: ∀ b o,H b=some o-> ¬ι.Has b->H' b=some o
theorem zbI.refl (ι:Io) (H:Hp):zbI ι H ι H:=⟨λ_ _ h=> .inl h,λ_ h=> .inl h,rfl,λ_ _=>rfl,λ_ _ h _=>h⟩
theorem zbI.nin {ι ι':Io} {H H':Hp} (s:zbI ι H ι' H') {a:Addr} {o:HO} (h:H a=some o) (n: ¬ι.Has a): ¬ι'.Has a:=λz=>by
 rcases z with z | z
 ·rcases s.new a z with z | z
  ·exact n (.inl z)
  ·rw [h] at z;cases z
 ·rw [s.hid] at z;exact n (.inr z)
theorem zbI.trans {ι ι1 ι2:Io} {H H1 H2:Hp} (s:zbI ι H ι1 H1) (t:zbI ι1 H1 ι2 H2):zbI ι H ι2 H2 where
 old:=λn o h=>by
  rcases s.old n o h with h | h
  ·exact t.old n o h
  ·rcases t.old n _ h with h | h<;>exact .inr h
 new:=λa h=>by
  rcases t.new a h with h | h
  ·exact s.new a h
  ·by_cases z:some a∈ι.c
   ·exact .inl z
   ·refine .inr ?_
    cases q:H a with
    | none=>rfl
    | some o=>
     by_cases z':a∈ι.x
     ·rw [s.hidk a z',q] at h;cases h
     ·rw [s.keep a o q (λw=>w.elim z z')] at h;cases h
 hid:=t.hid.trans s.hid
 hidk:=λa h=>(t.hidk a (by rw [s.hid];exact h)).trans (s.hidk a h)
 keep:=λb o h n=>t.keep b o (s.keep b o h n) (s.nin h n)
structure Pass (ι:Io) (H:Hp) (ι':Io) (H':Hp):Prop where
 old: ∀ (n:Nat) (o:Option Addr),ι.c[n]? = some o->ι'.c[n]? = some o\/ι'.c[n]? = some none
 keep: ∀ b o,H b=some o-> ¬ι.Has b->H' b=some o/\ ¬ι'.Has b
theorem zbI.pass {ι ι':Io} {H H':Hp} (s:zbI ι H ι' H'):Pass ι H ι' H':=⟨s.old,λb o h n=>⟨s.keep b o h n,s.nin h n⟩⟩
theorem Pass.rd {ι ι':Io} {H H':Hp} (s:Pass ι H ι' H') {a:Addr} {u:HO} (h:Rd H a u) (n: ¬ι.Has a):Rd H' a u/\ ¬ι'.Has a:=by
 rcases h with h | ⟨o,h⟩
 ·exact ⟨.inl (s.keep _ _ h n).1,(s.keep _ _ h n).2⟩
 ·exact ⟨.inr ⟨o,(s.keep _ _ h n).1⟩,(s.keep _ _ h n).2⟩
section
variable {K:W.Frag} {ι ι':Io} {H H':Hp}
mutual
theorem Rel.pass (s:Pass ι H ι' H'): ∀ {d:D} {v:V},Rel K ι H d v->Rel K ι' H' d v
 | .non,_,h=>by simpa [Rel] using h
 | .bl _,_,h=>by simpa [Rel] using h
 | .int _,_,h=>by simpa [Rel] using h
 | .str _,_,h=>by simpa [Rel] using h
 | .tup ds,v,h=>by
  simp only [Rel] at h ⊢
  obtain ⟨a,vs,e,h1,h2⟩:=h
  exact ⟨a,vs,e,s.keep _ _ h1.1 h1.2,zam.pass s h2⟩
 | .lst ds,v,h=>by
  simp only [Rel] at h ⊢
  obtain ⟨a,vs,e,h1,h2⟩:=h
  exact ⟨a,vs,e,s.keep _ _ h1.1 h1.2,zam.pass s h2⟩
 | .scr ds,v,h=>by
  simp only [Rel] at h ⊢
  obtain ⟨a,vs,e,h1,h2⟩:=h
  exact ⟨a,vs,e,h1.imp (λz=>s.rd z.1 z.2) id,zam.pass s h2⟩
 | .cel n,v,h=>by
  simp only [Rel] at h ⊢
  obtain ⟨a,e,h⟩:=h
  refine ⟨a,e,?_⟩
  rcases h with h | h
  ·exact s.old n _ h
  ·rcases s.old n _ h with h | h<;>exact .inr h
 | .set xs,v,h=>by
  simp only [Rel] at h ⊢
  obtain ⟨a,e,h,n⟩:=h
  exact ⟨a,e,(s.keep _ _ h n).1,(s.keep _ _ h n).2⟩
 | .dct,v,h=>by
  simp only [Rel] at h ⊢
  obtain ⟨a,e,h,n⟩:=h
  exact ⟨a,e,(s.keep _ _ h n).1,(s.keep _ _ h n).2⟩
 | .fn _,_,h=>by simpa [Rel] using h
 | .exn _,_,h=>by
  simp only [Rel] at h ⊢
  obtain ⟨a,o,C,head,vs,e,h1,h2⟩:=h
  exact ⟨a,o,C,head,vs,e,s.keep _ _ h1.1 h1.2,h2⟩
theorem zam.pass (s:Pass ι H ι' H'): ∀ {ds:List D} {vs:List V},zam K ι H ds vs->zam K ι' H' ds vs
 | [],_,h=>by simpa [zam] using h
 | d::ds,_,h=>by
  simp only [zam] at h ⊢
  obtain ⟨v,r,e,h1,h2⟩:=h
  exact ⟨v,r,e,Rel.pass s h1,zam.pass s h2⟩
end
theorem Rel.step (s:zbI ι H ι' H') {d:D} {v:V} (h:Rel K ι H d v):Rel K ι' H' d v:=h.pass s.pass
theorem zam.step (s:zbI ι H ι' H') {ds:List D} {vs:List V} (h:zam K ι H ds vs):zam K ι' H' ds vs:=h.pass s.pass
theorem zam.nil:zam K ι H [] []:=by simp [zam]
theorem zam.cons {d:D} {ds:List D} {v:V} {vs:List V} (h:Rel K ι H d v) (t:zam K ι H ds vs):zam K ι H (d::ds) (v::vs):=by simp only [zam];exact ⟨v,vs,rfl,h,t⟩
theorem zam.length: ∀ {ds:List D} {vs:List V},zam K ι H ds vs->ds.length=vs.length
 | [],_,h=>by simp only [zam] at h;subst h;rfl
 | d::ds,_,h=>by
  simp only [zam] at h
  obtain ⟨v,r,rfl,_,h⟩:=h
  simp [zam.length h]
theorem zam.get: ∀ {ds:List D} {vs:List V} {i:Nat} {d:D},zam K ι H ds vs->ds[i]? = some d-> ∃ v,vs[i]? = some v/\Rel K ι H d v
 | [],_,_,_,_,e=>by simp at e
 | d::ds,_,i,x,h,e=>by
  simp only [zam] at h
  obtain ⟨v,r,rfl,h1,h2⟩:=h
  cases i with
  | zero=>simp at e;subst e;exact ⟨v,rfl,h1⟩
  | succ i=>simp at e;simpa using zam.get h2 e
theorem zam.getV: ∀ {ds:List D} {vs:List V} {i:Nat} {v:V},zam K ι H ds vs->vs[i]? = some v-> ∃ d,ds[i]? = some d/\Rel K ι H d v
 | [],_,_,_,h,e=>by simp only [zam] at h;subst h;simp at e
 | d::ds,_,i,x,h,e=>by
  simp only [zam] at h
  obtain ⟨v,r,rfl,h1,h2⟩:=h
  cases i with
  | zero=>simp at e;subst e;exact ⟨d,rfl,h1⟩
  | succ i=>simp at e;simpa using zam.getV h2 e
theorem zam.append: ∀ {ds es:List D} {vs ws:List V},zam K ι H ds vs->zam K ι H es ws->zam K ι H (ds++es) (vs++ws)
 | [],_,_,_,h,t=>by simp only [zam] at h;subst h;exact t
 | d::ds,es,_,ws,h,t=>by
  simp only [zam] at h
  obtain ⟨v,r,rfl,h1,h2⟩:=h
  exact zam.cons h1 (zam.append h2 t)
theorem zam.take: ∀ {ds:List D} {vs:List V} (n:Nat),zam K ι H ds vs->zam K ι H (ds.take n) (vs.take n)
 | _,_,0,_=>by simpa using zam.nil
 | [],_,n+1,h=>by simp only [zam] at h;subst h;exact zam.nil
 | d::ds,_,n+1,h=>by
  simp only [zam] at h
  obtain ⟨v,r,rfl,h1,h2⟩:=h
  exact zam.cons h1 (zam.take n h2)
theorem zam.drop: ∀ {ds:List D} {vs:List V} (n:Nat),zam K ι H ds vs->zam K ι H (ds.drop n) (vs.drop n)
 | _,_,0,h=>h
 | [],_,n+1,h=>by simp only [zam] at h;subst h;exact zam.nil
 | d::ds,_,n+1,h=>by
  simp only [zam] at h
  obtain ⟨v,r,rfl,h1,h2⟩:=h
  exact zam.drop n h2
theorem zam.set {d:D} {v:V} (hd:Rel K ι H d v): ∀ {ds:List D} {vs:List V} (i:Nat),zam K ι H ds vs->zam K ι H (ds.set i d) (vs.set i v)
 | [],_,_,h=>by simp only [zam] at h;subst h;exact zam.nil
 | x::ds,_,i,h=>by
  simp only [zam] at h
  obtain ⟨w,r,rfl,h1,h2⟩:=h
  cases i with
  | zero=>exact zam.cons hd h2
  | succ i=>exact zam.cons h1 (zam.set hd i h2)
theorem zcy: ∀ {is:List Int} {vs:List V},zam K ι H (is.map D.int) vs↔vs=is.map V.int
 | [],vs=>by simp [zam]
 | i::is,vs=>by
  simp only [qaM,zam]
  constructor
  ·rintro ⟨v,r,rfl,h1,h2⟩
   simp only [Rel] at h1
   rw [h1,zcy.mp h2]
  ·rintro rfl
   exact ⟨_,_,rfl,by simp [Rel],zcy.mpr rfl⟩
def CO (K:W.Frag) (ι:Io) (H:Hp):C->HO->Prop
 | .lst ds,o=> ∃ vs,o= .lst vs/\zam K ι H ds vs
 | .dic kvs,o=> ∃ vs,o= .dK vs/\Paired (λ(p:Int×D) (q:Key×V)=>q.1= .inl p.1/\Rel K ι H p.2 q.2) kvs vs
 | .dit ks,o=>o= .dT (ks.map λk=>(k.map Sum.inl,V.bl true))
 | .ins c fs,o=> ∃ C dx vs,o= .ins C dx vs/\W.nsIn K mainGlobals (c:Str)=some (some (.ref C))/\Paired (λ(p:Str×D) (q:Str×V)=>q.1=p.1/\Rel K ι H p.2 q.2) fs vs
 | .dead,_=>False
theorem CO.pass {c:C} {o:HO} (s:Pass ι H ι' H') (h:CO K ι H c o):CO K ι' H' c o:=by
 cases c with
 | lst ds=>obtain ⟨vs,e,r⟩:=h;exact ⟨vs,e,r.pass s⟩
 | dic kvs=>
  obtain ⟨vs,e,r⟩:=h
  refine ⟨vs,e,?_⟩
  clear e
  induction r with
  | nil=>exact .nil
  | cons a t ih=>exact .cons ⟨a.1,a.2.pass s⟩ ih
 | dit ks=>exact h
 | ins c fs=>
  obtain ⟨C,dx,vs,e,hc,r⟩:=h
  refine ⟨C,dx,vs,e,hc,?_⟩
  clear e
  induction r with
  | nil=>exact .nil
  | cons a t ih=>exact .cons ⟨a.1,a.2.pass s⟩ ih
 | dead=>exact h
structure zaX (K:W.Frag) (ι:Io) (H:Hp) (h:Hh):Prop where
 len:h.length=ι.c.length
 inj: ∀ (m n:Nat) (a:Addr),ι.c[m]? = some (some a)->ι.c[n]? = some (some a)->m=n
 at_: ∀ (n:Nat) (a:Addr) (c:C),ι.c[n]? = some (some a)->h[n]? = some c-> ∃ o,H a=some o/\CO K ι H c o
 dead: ∀ (n:Nat),ι.c[n]? = some none->h[n]? = some .dead
 hidt: ∀ a∈ι.x,(∃ vs,H a=some (.lst vs))/\some a∉ι.c
abbrev Sd:=List (Option D)
def zcp (K:W.Frag) (ι:Io) (H:Hp) (sd:Sd) (σ:L2.St):Prop:=sd.length=σ.length/\ ∀ (i:Nat) (d:D),sd[i]? = some (some d)-> ∃ v,σ[i]? = some (some v)/\Rel K ι H d v
theorem zcp.pass {sd:Sd} {σ:L2.St} (s:Pass ι H ι' H') (h:zcp K ι H sd σ):zcp K ι' H' sd σ:=⟨h.1,λi d e=>let ⟨v,h1,h2⟩:=h.2 i d e;⟨v,h1,h2.pass s⟩⟩
theorem zcp.step {sd:Sd} {σ:L2.St} (s:zbI ι H ι' H') (h:zcp K ι H sd σ):zcp K ι' H' sd σ:=⟨h.1,λi d e=>let ⟨v,h1,h2⟩:=h.2 i d e;⟨v,h1,h2.step s⟩⟩
theorem zcp.set {sd:Sd} {σ:L2.St} {d:D} {v:V} (h:zcp K ι H sd σ) (r:Rel K ι H d v) (i:Nat):zcp K ι H (sd.set i (some d)) (σ.set i (some v)):=by
 refine ⟨by rw [qaI,qaI];exact h.1,λj d' e=> ?_⟩
 by_cases hij:i=j
 ·subst hij
  by_cases hl:i<sd.length
  ·rw [qai hl] at e
   cases e
   exact ⟨v,by rw [qai (by rw [<- h.1];exact hl)],r⟩
  ·rw [List.getElem?_eq_none (by rw [qaI];omega)] at e
   cases e
 ·rw [qao hij] at e ⊢
  exact h.2 j d' e
end
abbrev St:=L2.St
abbrev XE:=String->Hp->Prop
def Fin {α:Type} (K:W.Frag) (E:XE) (ι:Io) (H:Hp) (r:R α) (P:α->Io->Hp->Prop):Prop:=match r with
 | .ok a h'=> ∀ ι' H',zbI ι H ι' H'->zaX K ι' H' h'->P a ι' H'
 | .exc c h'=> ∀ ι' H',zbI ι H ι' H'->zaX K ι' H' h'->E c H'
 | .bad=>False
section
variable {α β:Type} {K:W.Frag} {E:XE} {ι ι':Io} {H H':Hp}
theorem Fin.step {r:R α} {P:α->Io->Hp->Prop} (s:zbI ι H ι' H') (h:Fin K E ι H r P):Fin K E ι' H' r P:=by
 cases r with
 | ok a h'=>exact λι2 H2 t hr=>h ι2 H2 (s.trans t) hr
 | exc c h'=>exact λι2 H2 t hr=>h ι2 H2 (s.trans t) hr
 | bad=>exact h
theorem Fin.bind {m:M α} {f:α->M β} {h:Hh} {P:β->Io->Hp->Prop} {P':α->Io->Hp->Prop} (q:Fin K E ι H ((m>>=f) h) P)
  (k: ∀ a h' ι' H',m h= .ok a h'->zbI ι H ι' H'->zaX K ι' H' h'->Fin K E ι' H' (f a h') P->P' a ι' H'):Fin K E ι H (m h) P':=by
 have q':Fin K E ι H (M.bind m f h) P:=q
 unfold M.bind at q'
 cases e:m h with
 | ok a h'=>
  rw [e] at q'
  intro ι' H' s hr
  exact k a h' ι' H' e s hr (Fin.step s q')
 | exc c h'=>rw [e] at q';exact q'
 | bad=>rw [e] at q';exact q'
theorem Fin.out {a:α} {h:Hh} {P:α->Io->Hp->Prop} (hr:zaX K ι H h) (q:Fin K E ι H ((pure a:M α) h) P):P a ι H:=q ι H (zbI.refl _ _) hr
end
def zha (K:W.Frag) (E:XE) (f:Sd->M D):TE:=λσ H Q=> ∃ ι h sd,zcp K ι H sd σ/\zaX K ι H h/\Fin K E ι H (f sd h) λd ι' H'=> ∀ v,Rel K ι' H' d v->Q v H'
def zfB (K:W.Frag) (E:XE) (f:Sd->M Bool):TT:=λσ H Q=> ∃ ι h sd,zcp K ι H sd σ/\zaX K ι H h/\Fin K E ι H (f sd h) λb ι' H'=>Q b H'
def zt0 (K:W.Frag) (E:XE) (f:Sd->M (List D)):TA:=λσ H Q=> ∃ ι h sd,zcp K ι H sd σ/\zaX K ι H h/\Fin K E ι H (f sd h) λds ι' H'=> ∀ vs,zam K ι' H' ds vs->Q vs H'
abbrev SE (X:Cx) (E:XE) (e:Expr) (f:Sd->M D):Prop:=PE X e (zha X.K E f)
abbrev ST (X:Cx) (E:XE) (e:Expr) (f:Sd->M Bool):Prop:=PT X e (zfB X.K E f)
abbrev SA (X:Cx) (E:XE) (es:List Expr) (f:Sd->M (List D)):Prop:=PA X es (zt0 X.K E f)
def zcw (K:W.Frag) (E:XE) (F:D->D->M D):R2:=λx y H Q=> ∃ ι h d1 d2,Rel K ι H d1 x/\Rel K ι H d2 y/\zaX K ι H h/\Fin K E ι H (F d1 d2 h) λd ι' H'=> ∀ v,Rel K ι' H' d v->Q v H'
def zi9 (K:W.Frag) (E:XE) (F:List D->M D):List V->Hp->VK->Prop:=λxs H Q=> ∃ ι h ds,zam K ι H ds xs/\zaX K ι H h/\Fin K E ι H (F ds h) λd ι' H'=> ∀ v,Rel K ι' H' d v->Q v H'
theorem PE.imp {X:Cx} {e:Expr} {t t':TE} (h:PE X e t) (m: ∀ σ H Q,t' σ H Q->t σ H Q):PE X e t':=λpins s σ H Q I q=>h pins s σ H Q I (m _ _ _ q)
theorem PT.imp {X:Cx} {e:Expr} {t t':TT} (h:PT X e t) (m: ∀ σ H Q,t' σ H Q->t σ H Q):PT X e t':=λpins s σ H Q I q=>h pins s σ H Q I (m _ _ _ q)
theorem PA.imp {X:Cx} {e:List Expr} {t t':TA} (h:PA X e t) (m: ∀ σ H Q,t' σ H Q->t σ H Q):PA X e t':=λpos pins s σ H Q I q=>h pos pins s σ H Q I (m _ _ _ q)
theorem OpR.imp {X:Cx} {f:Value->Value->Sem Value} {r r':R2} (h:OpR X f r) (m: ∀ x y H Q,r' x y H Q->r x y H Q):OpR X f r':=λpins s σ H x y v u Q I rx ry q=>h pins s σ H x y v u Q I rx ry (m _ _ _ _ q)
theorem zaH.imp {X:Cx} {f:Value} {r r':List V->Hp->VK->Prop} (h:zaH X f r) (m: ∀ xs H Q,r' xs H Q->r xs H Q):zaH X f r':=by
 intro pins s σ H xs us Q I rx q
 exact h pins s σ H xs us Q I rx (m _ _ _ q)
theorem IxR.imp {X:Cx} {r r':R2} (h:IxR X r) (m: ∀ x y H Q,r' x y H Q->r x y H Q):IxR X r':=by
 intro value slice pins s σ H x y v u Q I rx ry q hs
 exact h value slice pins s σ H x y v u Q I rx ry (m _ _ _ _ q) hs
theorem PI.imp {X:Cx} {tg iter:Expr} {t t':TI} (h:PI X tg iter t) (m: ∀ σ H Q,t' σ H Q->t σ H Q):PI X tg iter t':=λpins s σ H Q I q=>h pins s σ H Q I (m _ _ _ q)
theorem PG.imp {X:Cx} {tg:Expr} {t t':TG} (h:PG X tg t) (m: ∀ v σ H Q,t' v σ H Q->t v σ H Q):PG X tg t':=λpins s σ H v u Q I r q=>h pins s σ H v u Q I r (m _ _ _ _ q)
theorem PS.imp {X:Cx} {st:Stmt} {t t':TS} (h:PS X st t) (m: ∀ D σ H,t' D σ H->t D σ H):PS X st t':=λpins s σ H D I q=>h pins s σ H D I (m _ _ _ q)
theorem PSs.imp {X:Cx} {st:List Stmt} {t t':TS} (h:PSs X st t) (m: ∀ D σ H,t' D σ H->t D σ H):PSs X st t':=λpins s σ H D I q=>h pins s σ H D I (m _ _ _ q)
section
variable {X:Cx} {E:XE} {a b e:Expr} {es:List Expr} {pos:Pos} {fa fb:Sd->M D}
theorem te2 {K:W.Frag} {F:D->D->M D} {r:R2} (hr: ∀ x y H Q,zcw K E F x y H Q->r x y H Q) (σ:St) (H:Hp) (Q:VK) (q:zha K E (λsd=>do let x<-fa sd;let y<-fb sd;F x y) σ H Q):tOp r (zha K E fa) (zha K E fb) σ H Q:=by
 obtain ⟨ι,h,sd,L,hh,q⟩:=q
 refine ⟨ι,h,sd,L,hh,Fin.bind q λd1 h1 ι1 H1 e1 s1 hr1 q1 v r1=> ?_⟩
 refine ⟨ι1,h1,sd,L.step s1,hr1,Fin.bind q1 λd2 h2 ι2 H2 e2 s2 hr2 q2 w r2=> ?_⟩
 exact hr _ _ _ _ ⟨ι2,h2,d1,d2,r1.step s2,r2,hr2,q2⟩
theorem ztD {op:Operator} {F:D->D->M D} (ho:OpR X (binaryOp op) (zcw X.K E F)) (ha:SE X E a fa) (hb:SE X E b fb):SE X E (.BinOp a op b pos) (λsd=>do let x<-fa sd;let y<-fb sd;F x y):=
 PE.imp (zsK ho ha hb) (te2 λ_ _ _ _ q=>q)
theorem zrq {op:CmpOp} {F:D->D->M D} (ho:OpR X (compareOp op) (zcw X.K E F)) (ha:SE X E a fa) (hb:SE X E b fb) (hm:behindInMarks op b=false):SE X E (.Compare a [op] [b] pos) (λsd=>do let x<-fa sd;let y<-fb sd;F x y):=
 PE.imp (znS ho ha hb hm) (te2 λ_ _ _ _ q=>q)
theorem zto {F:D->D->M D} (ho:IxR X (zcw X.K E F)) (ha:SE X E a fa) (hb:SE X E b fb) (hs:zhq b):SE X E (.Subscript a b pos) (λsd=>do let x<-fa sd;let y<-fb sd;F x y):=
 PE.imp (ztm ho ha hb hs) (te2 λ_ _ _ _ q=>q)
def zcv:D->M Bool
 | .bl b=>pure b
 | _=>M.bad
theorem zeh {K:W.Frag} {f:Sd->M D} (σ:St) (H:Hp) (Q:Bool->Hp->Prop) (q:zfB K E (λsd=>do let x<-f sd;zcv x) σ H Q):(zha K E f) σ H λx H1=> ∃ c,x= .bl c/\Q c H1:=by
 obtain ⟨ι,h,sd,L,hh,q⟩:=q
 refine ⟨ι,h,sd,L,hh,Fin.bind q λd1 h1 ι1 H1 e1 s1 hr1 q2 v r1=> ?_⟩
 cases d1 with
 | bl b=>simp only [Rel] at r1;exact ⟨b,r1,Fin.out hr1 q2⟩
 | _=>exact qa0 q2
theorem zqn {op:CmpOp} {F:D->D->M D} (ho:OpR X (compareOp op) (zcw X.K E F)) (ha:SE X E a fa) (hb:SE X E b fb) (hm:behindInMarks op b=false):
  ST X E (.Compare a [op] [b] pos) (λsd=>do let z<-(do let x<-fa sd;let y<-fb sd;F x y);zcv z):=by
 refine PT.imp (znU ho ha hb hm) λσ H Q q=> ?_
 have q1:=zeh (f:=λsd=>do let x<-fa sd;let y<-fb sd;F x y) σ H Q q
 exact te2 (λ_ _ _ _ q=>q) σ H _ q1
theorem zrx {f:Sd->M D} (h:SE X E e f) (he: ∀ whole,isTrue e X.env whole=(do let v<-whole;standAt e.pos;holding [v] (truthy v)):=by intro _;rfl):ST X E e (λsd=>do let x<-f sd;zcv x):=
 PT.imp (zpT h he) λσ H Q q=>zeh σ H Q q
theorem zpI {t:Sd->M Bool} (ha:ST X E a t):ST X E (.UnaryOp .Not a pos) (λsd=>do let c<-t sd;pure (!c)):=by
 refine PT.imp (zpJ ha) λσ H Q ⟨ι,h,sd,L,hh,q⟩=>⟨ι,h,sd,L,hh,Fin.bind q λc h1 ι1 H1 e1 s1 hr1 q1=> ?_⟩
 exact Fin.out hr1 q1
theorem znZ {t:Sd->M Bool} (ha:ST X E a t):PW X (.BoolOp .And [a] pos) (zfB X.K E t):=pw_and1 ha
theorem zrF {t:Sd->M Bool} (ha:ST X E a t):PW X (.BoolOp .Or [a] pos) (zfB X.K E t):=pw_or1 ha
theorem PW.imp {t t':TT} (h:PW X e t) (m: ∀ σ H Q,t' σ H Q->t σ H Q):PW X e t':=λwhole pins s σ H Q I q=>h whole pins s σ H Q I (m _ _ _ q)
theorem zqE {zaT:List Expr} {t u:Sd->M Bool} (ha:ST X E a t) (hb:PW X (.BoolOp .And (b::zaT) pos) (zfB X.K E u)):PW X (.BoolOp .And (a::b::zaT) pos) (zfB X.K E λsd=>do let c<-t sd;if c=true then u sd else pure false):=by
 refine PW.imp (pw_and ha hb) λσ H Q ⟨ι,h,sd,L,hh,q⟩=>⟨ι,h,sd,L,hh,Fin.bind q λc h1 ι1 H1 e1 s1 hr1 q1=> ?_⟩
 cases c with
 | true=>exact zoU ⟨ι1,h1,sd,L.step s1,hr1,q1⟩
 | false=>exact zo0 (Fin.out hr1 q1)
theorem zty {zaT:List Expr} {t u:Sd->M Bool} (ha:ST X E a t) (hb:PW X (.BoolOp .Or (b::zaT) pos) (zfB X.K E u)):PW X (.BoolOp .Or (a::b::zaT) pos) (zfB X.K E λsd=>do let c<-t sd;if c=true then pure true else u sd):=by
 refine PW.imp (pw_or ha hb) λσ H Q ⟨ι,h,sd,L,hh,q⟩=>⟨ι,h,sd,L,hh,Fin.bind q λc h1 ι1 H1 e1 s1 hr1 q1=> ?_⟩
 cases c with
 | false=>exact zo0 ⟨ι1,h1,sd,L.step s1,hr1,q1⟩
 | true=>exact zoU (Fin.out hr1 q1)
theorem znX {op:BoolOp} {vs:List Expr} {t:Sd->M Bool} (h:PW X (.BoolOp op vs pos) (zfB X.K E t)):ST X E (.BoolOp op vs pos) t:=h.pt
theorem zqO {op:BoolOp} (h:SE X E a fa):SE X E (.BoolOp op [a] pos) fa:=zp0 h
theorem zqW {zaT:List Expr} (ha:SE X E a fa) (hb:SE X E (.BoolOp .And (b::zaT) pos) fb):SE X E (.BoolOp .And (a::b::zaT) pos) (λsd=>do let c<-(do let x<-fa sd;zcv x);if c=true then fb sd else pure (.bl false)):=by
 refine PE.imp (zrH ha hb) λσ H Q ⟨ι,h,sd,L,hh,q⟩=> ?_
 have q1:=zeh (K:=X.K) (E:=E) (f:=fa) σ H (λc H1=>if c=true then zha X.K E fb σ H1 Q else Q (.bl false) H1) ⟨ι,h,sd,L,hh,Fin.bind q λc h1 ι1 H1 e1 s1 hr1 q1=> ?_⟩
 ·exact q1
 ·cases c with
  | true=>exact zoU ⟨ι1,h1,sd,L.step s1,hr1,q1⟩
  | false=>exact zo0 (Fin.out hr1 q1 _ (by simp [Rel]))
theorem zqg (ha:SE X E a fa):SE X E (.UnaryOp .Not a pos) (λsd=>do let c<-(do let x<-fa sd;zcv x);pure (.bl (!c))):=by
 refine PE.imp (zrG ha) λσ H Q ⟨ι,h,sd,L,hh,q⟩=> ?_
 have q1:=zeh (K:=X.K) (E:=E) (f:=fa) σ H (λc H1=>Q (.bl (!c)) H1) ⟨ι,h,sd,L,hh,Fin.bind q λc h1 ι1 H1 e1 s1 hr1 q1=> ?_⟩
 ·exact q1
 ·exact Fin.out hr1 q1 _ (by simp [Rel])
theorem zlx {c:Expr} {t:Sd->M Bool} (hc:ST X E c t) (ha:SE X E a fa) (hb:SE X E b fb):SE X E (.IfExp c a b pos) (λsd=>do let c<-t sd;if c=true then fa sd else fb sd):=by
 refine PE.imp (zmx hc ha hb) λσ H Q ⟨ι,h,sd,L,hh,q⟩=>⟨ι,h,sd,L,hh,Fin.bind q λc h1 ι1 H1 e1 s1 hr1 q1=> ?_⟩
 cases c with
 | true=>exact zoU ⟨ι1,h1,sd,L.step s1,hr1,q1⟩
 | false=>exact zo0 ⟨ι1,h1,sd,L.step s1,hr1,q1⟩
def zaf (i:Nat):Sd->M D:=λsd=>match sd[i]? with
 | some (some d)=>pure d
 | _=>M.bad
theorem zqU (i:Nat) {x:Str} (hN:X.N[i]? = some x) (hv:Vis X.env.scope x) (hd:(x==("__debug__":Str))=false:=by decide) (hcd:(x==("__classdict__":Str))=false:=by decide):SE X E (.Name x pos) (zaf i):=by
 refine PE.imp (znm hN hv hd hcd) λσ H Q ⟨ι,h,sd,L,hh,q⟩=> ?_
 unfold zaf at q
 cases e:sd[i]? with
 | none=>rw [e] at q;exact qa0 q
 | some o=>
  rw [e] at q
  cases o with
  | none=>exact qa0 q
  | some d=>
   obtain ⟨v,e1,r⟩:=L.2 i d e
   exact ⟨v,e1,Fin.out hh q v r⟩
theorem zfp {K:W.Frag} {d:D} {v:V} (r: ∀ ι H,Rel K ι H d v) (σ:St) (H:Hp) (Q:VK) (q:zha K E (λ_=>pure d) σ H Q):tC v σ H Q:=by
 obtain ⟨ι,h,sd,L,hh,q⟩:=q
 exact Fin.out hh q v (r _ _)
theorem zrE {i:Int} {j:Nat}:SE X E (.Constant (.int i) j pos) (λ_=>pure (.int i)):=PE.imp zrk (zfp λ_ _=>by simp [Rel])
theorem ztn {i:Bool} {j:Nat}:SE X E (.Constant (.bool i) j pos) (λ_=>pure (.bl i)):=PE.imp zsH (zfp λ_ _=>by simp [Rel])
theorem zq2 {j:Nat}:SE X E (.Constant .none j pos) (λ_=>pure .non):=PE.imp zp1 (zfp λ_ _=>by simp [Rel])
theorem zrz:SA X E [] (λ_=>pure []):=PA.imp zcN λσ H Q ⟨ι,h,sd,L,hh,q⟩=>Fin.out hh q [] zam.nil
theorem znO {fs:Sd->M (List D)} (ha:SE X E e fa) (hr:SA X E es fs) (hs:starEach (e::es) X.env=(false,eval e X.env)::starEach es X.env:=by rfl):SA X E (e::es) (λsd=>do let x<-fa sd;let r<-fs sd;pure (x::r)):=by
 refine PA.imp (zbC ha hr hs) λσ H Q ⟨ι,h,sd,L,hh,q⟩=>⟨ι,h,sd,L,hh,Fin.bind q λd h1 ι1 H1 e1 s1 hr1 q1 v rv=> ?_⟩
 refine ⟨ι1,h1,sd,L.step s1,hr1,Fin.bind q1 λds h2 ι2 H2 e2 s2 hr2 q2 vs rvs=> ?_⟩
 exact Fin.out hr2 q2 _ (zam.cons (rv.step s2) rvs)
end
theorem zaX.nin {K:W.Frag} {ι:Io} {H:Hp} {h:Hh} (hr:zaX K ι H h) {p:Addr} (hp:H p=none): ¬ι.Has p:=λz=>by
 rcases z with z | z
 ·obtain ⟨n,hn⟩:=List.mem_iff_getElem?.mp z
  have hl:n<h.length:=by rw [hr.len];exact (qac.mp hn).1
  obtain ⟨o,e,_⟩:=hr.at_ n p h[n] hn (by simp [hl])
  rw [hp] at e
  cases e
 ·obtain ⟨⟨o,e⟩,_⟩:=hr.hidt p z
  rw [hp] at e
  cases e
theorem zaX.laidS {K:W.Frag} {ι:Io} {H:Hp} {h:Hh} (hr:zaX K ι H h) {p:Addr} {o:HO} (hp:H p=none):zbI ι H ι (upd H p o):=
 ⟨λ_ _ h=> .inl h,λ_ h=> .inl h,rfl,λa ha=>zau λz=>hr.nin hp (.inr (z▸ha)),λb o' h _=>by rw [zau (zaF h hp)];exact h⟩
theorem zaX.laid {K:W.Frag} {ι:Io} {H:Hp} {h:Hh} {p:Addr} {o:HO} (hr:zaX K ι H h) (hp:H p=none):zaX K ι (upd H p o) h:=
 ⟨hr.len,hr.inj,λn a c hn hc=>by
   obtain ⟨o',e2,e3⟩:=hr.at_ n a c hn hc
   exact ⟨o',by rw [zau (zaF e2 hp)];exact e2,e3.pass (hr.laidS hp).pass⟩,hr.dead,λa ha=>⟨by rw [zau (show a≠p from λz=>hr.nin hp (.inr (z▸ha)))];exact (hr.hidt a ha).1,(hr.hidt a ha).2⟩⟩
noncomputable def fits (n:Nat):M Unit:=if n<=sizeLine then pure () else M.bad
theorem Fin.fits {α:Type} {K:W.Frag} {E:XE} {ι:Io} {H:Hp} {n:Nat} {f:M α} {h:Hh} {P:α->Io->Hp->Prop} (q:Fin K E ι H ((do L3.fits n;f) h) P):n<=sizeLine/\Fin K E ι H (f h) P:=by
 have q':Fin K E ι H (M.bind (L3.fits n) (λ_=>f) h) P:=q
 unfold M.bind L3.fits at q'
 by_cases hn:n<=sizeLine
 ·rw [qa4 hn] at q'
  exact ⟨hn,q'⟩
 ·rw [qa5 hn] at q'
  exact qa0 q'
section
variable {X:Cx} {E:XE} {es:List Expr} {pos:Pos} {fs:Sd->M (List D)}
theorem zpp {K:W.Frag} {ι:Io} {H:Hp} {h:Hh} {ds:List D} {vs:List V} {Q:VK} (hr:zaX K ι H h) (rl:zam K ι H ds vs) (q:Fin K E ι H ((pure (.tup ds):M D) h) λd ι' H'=> ∀ v,Rel K ι' H' d v->Q v H') {p:Addr} (hp:H p=none):Q (.ref p) (upd H p (.tup vs)):=
 q ι _ (hr.laidS hp) (hr.laid hp) _ (by
   simp only [Rel]
   exact ⟨p,vs,rfl,⟨zaY,hr.nin hp⟩,rl.step (hr.laidS hp)⟩)
theorem zoW {K:W.Frag} {ι:Io} {H:Hp} {h:Hh} {ds:List D} {vs:List V} {Q:VK} (hr:zaX K ι H h) (rl:zam K ι H ds vs) (q:Fin K E ι H ((pure (.lst ds):M D) h) λd ι' H'=> ∀ v,Rel K ι' H' d v->Q v H') {p:Addr} (hp:H p=none):Q (.ref p) (upd H p (.lst vs)):=
 q ι _ (hr.laidS hp) (hr.laid hp) _ (by
   simp only [Rel]
   exact ⟨p,vs,rfl,⟨zaY,hr.nin hp⟩,rl.step (hr.laidS hp)⟩)
noncomputable def zd3 (ds:List D):M D:=λh=> .ok (.cel h.length) (h++[.lst ds])
theorem zs0 {K:W.Frag} {ι:Io} {H:Hp} {h:Hh} {c0:C} {o0:HO} {Q:VK} (hr:zaX K ι H h) (co:CO K ι H c0 o0) (q:Fin K E ι H (.ok (.cel h.length) (h++[c0])) λd ι' H'=> ∀ v,Rel K ι' H' d v->Q v H') {p:Addr} (hp:H p=none):Q (.ref p) (upd H p o0):=by
 have hlen:=hr.len
 have nh:=hr.nin hp
 have st:zbI ι H ⟨ι.c++[some p],ι.x⟩ (upd H p o0):=by
  refine ⟨λn o h=> .inl ?_,λa h=> ?_,rfl,λa ha=>zau λz=>nh (.inr (z▸ha)),λb o' h _=>by rw [zau (zaF h hp)];exact h⟩
  ·show (ι.c++[some p])[n]? = _
   rw [qad (qac.mp h).1];exact h
  ·rcases qaK.mp h with h | h
   ·exact .inl h
   ·simp at h;subst h;exact .inr hp
 have at_: ∀ (n:Nat) (a:Addr),(ι.c++[some p])[n]? = some (some a)->(ι.c[n]? = some (some a))\/(n=ι.c.length/\a=p):=λn a h=>by
  by_cases hl:n<ι.c.length
  ·rw [qad hl] at h;exact .inl h
  ·rw [qaa ⋯] at h
   have:n - ι.c.length=0:=by
    cases z:n - ι.c.length with
    | zero=>rfl
    | succ k=>rw [z] at h;simp at h
   rw [this] at h
   simp at h
   exact .inr ⟨⋯,h.symm⟩
 refine q _ _ st ⟨?_,λm n a h1 h2=> ?_,λn a c h1 h2=> ?_,λn h1=> ?_,λa ha=>⟨?_,λz=> ?_⟩⟩ _ ?_
 ·show (h++[c0]).length=(ι.c++[some p]).length
  rw [qav,qav,hlen];rfl
 ·rcases at_ m a h1 with z1 | ⟨z1,z1'⟩<;>rcases at_ n a h2 with z2 | ⟨z2,z2'⟩
  ·exact hr.inj m n a z1 z2
  ·subst z2';exact absurd (.inl (List.mem_of_getElem? z1)) nh
  ·subst z1';exact absurd (.inl (List.mem_of_getElem? z2)) nh
  ·rw [z1,z2]
 ·rcases at_ n a h1 with z1 | ⟨z1,z1'⟩
  ·rw [qad (by rw [hlen];exact (qac.mp z1).1)] at h2
   obtain ⟨o',e2,e3⟩:=hr.at_ n a c z1 h2
   exact ⟨o',by rw [zau (zaF e2 hp)];exact e2,e3.pass st.pass⟩
  ·subst z1 z1'
   rw [<- hlen,qaa (qaV _)] at h2
   simp at h2
   subst h2
   exact ⟨o0,zaY,co.pass st.pass⟩
 ·have h1:(ι.c++[some p])[n]? = some none:=h1
  by_cases hl:n<ι.c.length
  ·rw [qad hl] at h1
   rw [qad (by rw [hlen];exact hl)]
   exact hr.dead n h1
  ·rw [qaa ⋯] at h1
   cases z:n - ι.c.length with
   | zero=>rw [z] at h1;simp at h1
   | succ k=>rw [z] at h1;simp at h1
 ·rw [zau (show a≠p from λz=>nh (.inr (z▸ha)))]
  exact (hr.hidt a ha).1
 ·rcases qaK.mp z with z | z
  ·exact (hr.hidt a ha).2 z
  ·simp at z;subst z;exact nh (.inr ha)
 ·simp only [Rel]
  refine ⟨p,rfl,.inl ?_⟩
  show (ι.c++[some p])[h.length]? = _
  rw [hlen,qaa (qaV _)]
  simp
theorem ztZ {K:W.Frag} {ι:Io} {H:Hp} {h:Hh} {ds:List D} {vs:List V} {Q:VK} (hr:zaX K ι H h) (rl:zam K ι H ds vs) (q:Fin K E ι H (zd3 ds h) λd ι' H'=> ∀ v,Rel K ι' H' d v->Q v H') {p:Addr} (hp:H p=none):Q (.ref p) (upd H p (.lst vs)):=
 zs0 hr (c0:= .lst ds) ⟨vs,rfl,rl⟩ q hp
theorem zqd {x1} (h:SA X E es fs):SE X E (.Tuple es x1 pos) (λsd=>do let ds<-fs sd;fits ds.length;pure (.tup ds)):=by
 refine PE.imp (zrh h) λσ H Q ⟨ι,h,sd,L,hh,q⟩=>⟨ι,h,sd,L,hh,Fin.bind q λds h1 ι1 H1 e1 s1 hr1 q1 vs rvs=> ?_⟩
 obtain ⟨z,q2⟩:=Fin.fits q1
 exact ⟨by rw [<- rvs.length];exact z,λp hp=>zpp hr1 rvs q2 hp⟩
theorem zrr (h:SA X E es fs):SE X E (.List es pos) (λsd=>do let ds<-fs sd;fits ds.length;pure (.lst ds)):=by
 refine PE.imp (znu h) λσ H Q ⟨ι,h,sd,L,hh,q⟩=>⟨ι,h,sd,L,hh,Fin.bind q λds h1 ι1 H1 e1 s1 hr1 q1 vs rvs=> ?_⟩
 obtain ⟨z,q2⟩:=Fin.fits q1
 exact ⟨by rw [<- rvs.length];exact z,λp hp=>zoW hr1 rvs q2 hp⟩
theorem zoJ (h:SA X E es fs):SE X E (.List es pos) (λsd=>do let ds<-fs sd;fits ds.length;zd3 ds):=by
 refine PE.imp (znu h) λσ H Q ⟨ι,h,sd,L,hh,q⟩=>⟨ι,h,sd,L,hh,Fin.bind q λds h1 ι1 H1 e1 s1 hr1 q1 vs rvs=> ?_⟩
 obtain ⟨z,q2⟩:=Fin.fits q1
 exact ⟨by rw [<- rvs.length];exact z,λp hp=>ztZ hr1 rvs q2 hp⟩
end
inductive Out where
 | nx (sd:Sd) | rt (d:D) | bk (sd:Sd) | ct (sd:Sd)
def zf5 (K:W.Frag) (D0:zpv):Out->Io->Hp->Prop
 | .nx sd',ι',H'=> ∀ σ',zcp K ι' H' sd' σ'->D0.nx σ' H'
 | .rt d,ι',H'=> ∀ v,Rel K ι' H' d v->D0.rt v H'
 | .bk sd',ι',H'=> ∀ σ',zcp K ι' H' sd' σ'->D0.bk σ' H'
 | .ct sd',ι',H'=> ∀ σ',zcp K ι' H' sd' σ'->D0.ct σ' H'
def ztQ (K:W.Frag) (E:XE) (G:Sd->M Out):TS:=λD0 σ H=> ∃ ι h sd,zcp K ι H sd σ/\zaX K ι H h/\Fin K E ι H (G sd h) (zf5 K D0)
abbrev SS (X:Cx) (E:XE) (st:Stmt) (G:Sd->M Out):Prop:=PS X st (ztQ X.K E G)
abbrev SSs (X:Cx) (E:XE) (st:List Stmt) (G:Sd->M Out):Prop:=PSs X st (ztQ X.K E G)
def zdt (o:Out) (g:Sd->M Out):M Out:=match o with
 | .nx sd=>g sd
 | o=>pure o
section
variable {X:Cx} {E:XE} {pos:Pos}
theorem zqc:SSs X E [] (λsd=>pure (.nx sd)):=PSs.imp zpe λD0 σ H ⟨ι,h,sd,L,hh,q⟩=>Fin.out hh q σ L
theorem znY {st:Stmt} {zaT:List Stmt} {g g':Sd->M Out} (h1:SS X E st g) (h2:SSs X E zaT g'):SSs X E (st::zaT) (λsd=>do let o<-g sd;zdt o g'):=by
 refine PSs.imp (zlO h1 h2) λD0 σ H ⟨ι,h,sd,L,hh,q⟩=>⟨ι,h,sd,L,hh,Fin.bind q λo h1 ι1 H1 e1 s1 hr1 q1=> ?_⟩
 cases o with
 | nx sd'=>exact λσ' L'=>⟨ι1,h1,sd',L',hr1,q1⟩
 | rt d=>exact Fin.out (E:=E) (P:=zf5 X.K D0) hr1 q1
 | bk sd'=>exact Fin.out (E:=E) (P:=zf5 X.K D0) hr1 q1
 | ct sd'=>exact Fin.out (E:=E) (P:=zf5 X.K D0) hr1 q1
theorem zrp {st:Stmt} {g:Sd->M Out} (h1:SS X E st g):SSs X E [st] g:=zop h1
theorem zpL {e:Expr} {f:Sd->M D} (he:SE X E e f) (hs:swapsWith e none pos.line X.env=pure false:=by rfl):SS X E (.Expr e pos) (λsd=>do let _<-f sd;pure (.nx sd)):=by
 refine PS.imp (zoN he hs) λD0 σ H ⟨ι,h,sd,L,hh,q⟩=>⟨ι,h,sd,L,hh,Fin.bind q λd h1 ι1 H1 e1 s1 hr1 q1 v rv=> ?_⟩
 exact Fin.out hr1 q1 σ (L.step s1)
theorem zsD {e:Expr} {f:Sd->M D} (he:SE X E e f):SS X E (.Return (some e) pos) (λsd=>do let d<-f sd;pure (.rt d)):=by
 refine PS.imp (zrN he) λD0 σ H ⟨ι,h,sd,L,hh,q⟩=>⟨ι,h,sd,L,hh,Fin.bind q λd h1 ι1 H1 e1 s1 hr1 q1 v rv=> ?_⟩
 exact Fin.out hr1 q1 v rv
theorem zt6 {c:Expr} {a b:List Stmt} {t:Sd->M Bool} {g g':Sd->M Out} (hc:ST X E c t) (ha:SSs X E a g) (hb:SSs X E b g'):SS X E (.If c a b pos) (λsd=>do let c<-t sd;if c=true then g sd else g' sd):=by
 refine PS.imp (zsw hc ha hb) λD0 σ H ⟨ι,h,sd,L,hh,q⟩=>⟨ι,h,sd,L,hh,Fin.bind q λc h1 ι1 H1 e1 s1 hr1 q1=> ?_⟩
 cases c with
 | true=>exact zoU ⟨ι1,h1,sd,L.step s1,hr1,q1⟩
 | false=>exact zo0 ⟨ι1,h1,sd,L.step s1,hr1,q1⟩
def ztb (K:W.Frag) (E:XE) (g:D->Sd->M Sd):TG:=λv σ H Q=> ∃ ι h sd d,zcp K ι H sd σ/\zaX K ι H h/\Rel K ι H d v/\Fin K E ι H (g d sd h) λsd' ι' H'=> ∀ σ',zcp K ι' H' sd' σ'->Q σ' H'
def zsY (K:W.Frag) (E:XE) (g:List D->Sd->M Sd):TGs:=λvs σ H Q=> ∃ ι h sd ds,zcp K ι H sd σ/\zaX K ι H h/\zam K ι H ds vs/\Fin K E ι H (g ds sd h) λsd' ι' H'=> ∀ σ',zcp K ι' H' sd' σ'->Q σ' H'
abbrev SG (X:Cx) (E:XE) (tg:Expr) (g:D->Sd->M Sd):Prop:=PG X tg (ztb X.K E g)
abbrev SGs (X:Cx) (E:XE) (tgs:List Expr) (g:List D->Sd->M Sd):Prop:=PGs X tgs (zsY X.K E g)
def zbl (i:Nat):D->Sd->M Sd:=λd sd=>pure (sd.set i (some d))
theorem zoz (i:Nat) {x:Str} (hN:X.N.Nodup) (hi:X.N[i]? = some x) (hx:Loc X.env.scope x) (hf:X.fn x=true\/X.env.scope.names.lookup x=some .local):SG X E (.Name x pos) (zbl i):=by
 refine PG.imp (znR hN hi hx hf) λv σ H Q ⟨ι,h,sd,d,L,hh,r,q⟩=> ?_
 exact Fin.out hh q _ (L.set r i)
theorem PGs.imp {tgs:List Expr} {t t':TGs} (h:PGs X tgs t) (m: ∀ v σ H Q,t' v σ H Q->t v σ H Q):PGs X tgs t':=λpins s σ H v u Q I r q=>h pins s σ H v u Q I r (m _ _ _ _ q)
def zkx:List D->Sd->M Sd:=λds sd=>match ds with | []=>pure sd | _=>M.bad
def zd4 (g:D->Sd->M Sd) (gs:List D->Sd->M Sd):List D->Sd->M Sd:=λds sd=>match ds with
 | []=>M.bad
 | d::r=>do let sd1<-g d sd;gs r sd1
theorem zoY:SGs X E [] zkx:=by
 refine PGs.imp zn3 λv σ H Q ⟨ι,h,sd,ds,L,hh,r,q⟩=> ?_
 cases ds with
 | nil=>simp only [zam] at r;exact ⟨r,Fin.out hh q _ L⟩
 | cons d r=>exact qa0 q
theorem zl8 {e:Expr} {es:List Expr} {g:D->Sd->M Sd} {gs:List D->Sd->M Sd} (h1:SG X E e g) (h2:SGs X E es gs)
  (hs:(assignEach (e::es) X.env).map (·.2)=assign e X.env::(assignEach es X.env).map (·.2):=by rfl):SGs X E (e::es) (zd4 g gs):=by
 refine PGs.imp (zl6 h1 h2 hs) λv σ H Q ⟨ι,h,sd,ds,L,hh,r,q⟩=> ?_
 cases ds with
 | nil=>exact qa0 q
 | cons d ds=>
  simp only [zam] at r
  obtain ⟨v1,vr,rfl,r1,r2⟩:=r
  refine ⟨v1,vr,rfl,ι,h,sd,d,L,hh,r1,Fin.bind q λsd1 h1 ι1 H1 e1 s1 hr1 q1 σ1 L1=> ?_⟩
  exact ⟨ι1,h1,sd1,ds,L1,hr1,r2.step s1,q1⟩
def zke (n:Nat) (gs:List D->Sd->M Sd):D->Sd->M Sd:=λd sd=>match d with
 | .tup ds=>if ds.length=n then gs ds sd else M.bad
 | _=>M.bad
theorem zbY {K:W.Frag} {ι:Io} {H:Hp} {ds:List D} {v:V} (h:Rel K ι H (.tup ds) v): ∃ a vs,v= .ref a/\SqT K H a vs/\zam K ι H ds vs:=by
 simp only [Rel] at h
 obtain ⟨a,vs,e,h1,h2⟩:=h
 exact ⟨a,vs,e,.inl (.inl h1.1),h2⟩
theorem zkE {K:W.Frag} {ι:Io} {H:Hp} {ds:List D} {v:V} (h:Rel K ι H (.scr ds) v): ∃ a vs,v= .ref a/\SqL K H a vs/\zam K ι H ds vs:=by
 simp only [Rel] at h
 obtain ⟨a,vs,e,h1,h2⟩:=h
 refine ⟨a,vs,e,?_,h2⟩
 rcases h1 with h1 | h1
 ·exact .inl h1.1
 ·rcases h1 with h1 | h1
  ·rcases h1 with h1 | ⟨o,h1⟩<;>cases h1
  ·exact .inr h1
theorem zez {K:W.Frag} {ι:Io} {H:Hp} {ds:List D} {v:V} (h:Rel K ι H (.lst ds) v): ∃ a vs,v= .ref a/\SqL K H a vs/\zam K ι H ds vs:=by
 simp only [Rel] at h
 obtain ⟨a,vs,e,h1,h2⟩:=h
 exact ⟨a,vs,e,.inl (.inl h1.1),h2⟩
theorem zpF {es:List Expr} {k:Nat} {gs:List D->Sd->M Sd} {n:Nat} (hc:X.calm=true) (h:SGs X E es gs)
  (hn:(assignEach es X.env).length=n:=by rfl) (hst:(assignEach es X.env).findIdx? (·.1)=none:=by rfl):SG X E (.Tuple es k pos) (zke n gs):=by
 refine PG.imp (zpY hc h hn hst) λv σ H Q ⟨ι,h,sd,d,L,hh,r,q⟩=> ?_
 cases d with
 | tup ds=>
  obtain ⟨a,vs,e,h1,h2⟩:=zbY r
  have q:Fin X.K E ι H ((if ds.length=n then gs ds sd else M.bad) h) _:=q
  by_cases hl:ds.length=n
  ·rw [qa4 hl] at q
   exact ⟨a,vs,e,h1,by rw [<- h2.length];exact hl,ι,h,sd,ds,L,hh,h2,q⟩
  ·rw [qa5 hl] at q
   exact qa0 q
 | _=>exact qa0 q
theorem zso {tg e:Expr} {f:Sd->M D} {g:D->Sd->M Sd} (he:SE X E e f) (hg:SG X E tg g) (hs:swapsWithSole [tg] e pos.line X.env=pure false:=by rfl) (hw:swappedStores [tg] e X.env=pure none:=by rfl)
  (h1:(assignEach [tg] X.env).map (·.2)=[assign tg X.env]:=by rfl):SS X E (.Assign [tg] e pos) (λsd=>do let d<-f sd;let sd'<-g d sd;pure (.nx sd')):=by
 refine PS.imp (zqI he hg hs hw h1) λD0 σ H ⟨ι,h,sd,L,hh,q⟩=>⟨ι,h,sd,L,hh,Fin.bind q λd h1 ι1 H1 e1 s1 hr1 q1 v rv=> ?_⟩
 exact ⟨ι1,h1,sd,d,L.step s1,hr1,rv,Fin.bind q1 λsd' h2 ι2 H2 e2 s2 hr2 q2=>Fin.out hr2 q2⟩
theorem ztc (i:Nat) {x:Str} {e:Expr} {f:Sd->M D} {pos':Pos} (hN:X.N.Nodup) (hi:X.N[i]? = some x) (hx:Loc X.env.scope x) (hf:X.fn x=true\/X.env.scope.names.lookup x=some .local) (he:SE X E e f) (hs:swapsWith e (some (.Name x pos')) pos.line X.env=pure false:=by rfl):
  SS X E (.Assign [.Name x pos'] e pos) (λsd=>do let d<-f sd;pure (.nx (sd.set i (some d)))):=by
 refine PS.imp (zrI hN hi hx he hs hf) λD0 σ H ⟨ι,h,sd,L,hh,q⟩=>⟨ι,h,sd,L,hh,Fin.bind q λd h1 ι1 H1 e1 s1 hr1 q1 v rv=> ?_⟩
 exact Fin.out hr1 q1 _ ((L.step s1).set rv i)
def zsI (H H2:Hp):Prop:=H2=H\/ ∃ q vs,H q=none/\H2=upd H q (.tup vs)
theorem zsI.step {K:W.Frag} {ι:Io} {H H2:Hp} {h:Hh} (g:zsI H H2) (hr:zaX K ι H h):zbI ι H ι H2/\zaX K ι H2 h:=by
 rcases g with e | ⟨q,vs,hq,e⟩
 ·subst e;exact ⟨zbI.refl _ _,hr⟩
 ·subst e;exact ⟨hr.laidS hq,hr.laid hq⟩
structure zps (K:W.Frag) (ι:Io) (H:Hp) (J:It) (ds:List D):Prop where
 go: ∀ ι' H' (i:Nat),Pass ι H ι' H'->i<ds.length->J.go i H'
 yld: ∀ ι' H' h (i:Nat) x H2,Pass ι H ι' H'->zaX K ι' H' h->i<ds.length->J.yld i H' x H2->zsI H' H2/\ ∃ d,ds[i]? = some d/\Rel K ι' H2 d x
 stop: ∀ ι' H',Pass ι H ι' H'->J.stop ds.length H'
def ztF (K:W.Frag) (E:XE) (f:Sd->M (List D)):TI:=λσ H Q=> ∃ ι h sd,zcp K ι H sd σ/\zaX K ι H h/\Fin K E ι H (f sd h) λds ι' H'=> ∀ J,zps K ι' H' J ds->Q J H'
abbrev SI (X:Cx) (E:XE) (tg iter:Expr) (f:Sd->M (List D)):Prop:=PI X tg iter (ztF X.K E f)
def zea:D->M (List D)
 | .tup ds=>pure ds
 | .lst ds=>pure ds
 | _=>M.bad
theorem zmv {K:W.Frag} {ι:Io} {H:Hp} {a:Addr} {vs:List V} {ds:List D} (h: ∀ ι' H',Pass ι H ι' H'->SqT K H' a vs) (rl:zam K ι H ds vs):zps K ι H (Itt K a) ds where
 go:=λι' H' i s hi=>⟨vs,vs[i]'(by rw [<- rl.length];exact hi),h ι' H' s,by simp⟩
 yld:=λι' H' _ i x H2 s _ hi ⟨e,y⟩=>by
  subst e
  have hx:=y vs (h ι' _ s)
  obtain ⟨d,e1,e2⟩:=rl.getV hx
  exact ⟨.inl rfl,d,e1,e2.pass s⟩
 stop:=λι' H' s=>⟨vs,h ι' H' s,by rw [rl.length];exact qaV _⟩
theorem zmm {K:W.Frag} {ι:Io} {H:Hp} {a:Addr} {vs:List V} {ds:List D} (h: ∀ ι' H',Pass ι H ι' H'->SqL K H' a vs) (rl:zam K ι H ds vs):zps K ι H (Itl K a) ds where
 go:=λι' H' i s hi=>⟨vs,vs[i]'(by rw [<- rl.length];exact hi),h ι' H' s,by simp⟩
 yld:=λι' H' _ i x H2 s _ hi ⟨e,y⟩=>by
  subst e
  have hx:=y vs (h ι' _ s)
  obtain ⟨d,e1,e2⟩:=rl.getV hx
  exact ⟨.inl rfl,d,e1,e2.pass s⟩
 stop:=λι' H' s=>⟨vs,h ι' H' s,by rw [rl.length];exact qaV _⟩
theorem Pass.refl (ι:Io) (H:Hp):Pass ι H ι H:=(zbI.refl ι H).pass
theorem zn2 {K:W.Frag} {ι:Io} {H:Hp} {ds:List D} {v:V} (h:Rel K ι H (.tup ds) v): ∃ a vs,v= .ref a/\(∀ ι' H',Pass ι H ι' H'->SqT K H' a vs)/\zam K ι H ds vs:=by
 simp only [Rel] at h
 obtain ⟨a,vs,e,h1,h2⟩:=h
 exact ⟨a,vs,e,λι' H' s=> .inl (.inl (s.keep _ _ h1.1 h1.2).1),h2⟩
theorem zph {K:W.Frag} {ι:Io} {H:Hp} {ds:List D} {v:V} (h:Rel K ι H (.lst ds) v): ∃ a vs,v= .ref a/\(∀ ι' H',Pass ι H ι' H'->SqL K H' a vs)/\zam K ι H ds vs:=by
 simp only [Rel] at h
 obtain ⟨a,vs,e,h1,h2⟩:=h
 exact ⟨a,vs,e,λι' H' s=> .inl (.inl (s.keep _ _ h1.1 h1.2).1),h2⟩
end
end L3
namespace L2
def zt8 (K:W.Frag) (tl:TE):TI:=λσ H R=>tl σ H λx H1=> ∃ a,x= .ref a/\(((∃ xs,SqL K H1 a xs)/\R (Itl K a) H1)\/((∃ xs,SqT K H1 a xs)/\R (Itt K a) H1))
theorem zqa {X:Cx} {tg:Expr} {l:Expr} {tl:TE} (hl:PE X l tl):PI X tg l (zt8 X.K tl):=by
 intro pins s σ H R I h
 refine thn (hl pins s σ H _ I h) λv s1 ⟨x,H1,I1,r1,q1⟩=> ?_
 obtain ⟨a,e,⟨⟨xs,hq⟩,q⟩ | ⟨⟨xs,hq⟩,q⟩⟩:=q1
 ·subst e
  cases r1
  obtain ⟨its,rv,p,hz⟩:=I1.list hq
  refine wpAny_pyIter_list p.isList ?_
  refine ⟨s1.heap.objs.size,[s1.heap.objs.size],_,_,H1,rfl,I1.kept (t':=s1.toks) λb o e=>qag _ e,zkX a _,⟨_,qar _ rfl,rfl,rfl⟩,λb hb=> ?_,q⟩
  have e:b=s1.heap.objs.size:=by simpa using hb
  subst e
  exact I1.fpOk (qaV _) (I1.hok.fresh (qaV _))
 ·subst e
  cases r1
  obtain ⟨its,rv,p,hz⟩:=I1.tuple hq
  refine wpAny_pyIter_tuple (show s1.heap.IsTuple a its.toArray from p) ?_
  refine ⟨s1.heap.objs.size,[s1.heap.objs.size],_,_,H1,rfl,I1.kept (t':=s1.toks) λb o e=>qag _ e,zjb a _,⟨_,qar _ rfl,rfl,rfl⟩,λb hb=> ?_,q⟩
  have e:b=s1.heap.objs.size:=by simpa using hb
  subst e
  exact I1.fpOk (qaV _) (I1.hok.fresh (qaV _))
end L2
namespace L3
open L2
section
variable {X:Cx} {E:XE} {pos:Pos}
theorem zp9 {tg e:Expr} {f:Sd->M D} (he:SE X E e f):SI X E tg e (λsd=>do let d<-f sd;zea d):=by
 refine PI.imp (zqa he) λσ H Q ⟨ι,h,sd,L,hh,q⟩=>⟨ι,h,sd,L,hh,Fin.bind q λd h1 ι1 H1 e1 s1 hr1 q1 v rv=> ?_⟩
 cases d with
 | lst ds=>
  obtain ⟨a,vs,e,h1',h2⟩:=zph rv
  exact ⟨a,e,.inl ⟨⟨vs,h1' _ _ (Pass.refl _ _)⟩,Fin.out hr1 q1 _ (zmm h1' h2)⟩⟩
 | tup ds=>
  obtain ⟨a,vs,e,h1',h2⟩:=zn2 rv
  exact ⟨a,e,.inr ⟨⟨vs,h1' _ _ (Pass.refl _ _)⟩,Fin.out hr1 q1 _ (zmv h1' h2)⟩⟩
 | _=>exact qa0 q1
noncomputable def zc0 (lo:Int) (n:Nat):List D:=(List.range n).map λ(k:Nat)=>D.int (lo+(k:Int))
theorem zlY {K:W.Frag} {ι:Io} {H:Hp} {lo:Int} {n:Nat}:zps K ι H (Itr lo n) (zc0 lo n) where
 go:=λι' H' i s hi=>by show i<n;simpa [zc0] using hi
 yld:=λι' H' _ i x H2 s _ hi ⟨e,y⟩=>by
  subst e y
  have hi:i<n:=by simpa [zc0] using hi
  refine ⟨.inl rfl,.int (lo+i),?_,by simp [Rel]⟩
  simp [zc0,hi]
 stop:=λι' H' s=>by
  show n<=(zc0 lo n).length
  simp [zc0]
def zcS (j:Int):Bool:=decide (-(2^62)<=j) && decide (j<2^62)
def zkq:List D->M (List D)
 | [.int j]=>if zcS j=true then pure (zc0 0 j.toNat) else M.bad
 | _=>M.bad
theorem zel {j:Int} (h:zcS j=true): -(2^62)<=j/\j<2^62:=by
 unfold zcS at h
 simpa using h
theorem zou {tg a:Expr} {p:Pos} {fs:Sd->M (List D)} (hg:Gl X "range") (hm:X.mg "range"=none) (ha:SA X E [a] fs) (hs:starEach [a] X.env=[(false,eval a X.env)]:=by rfl):
  SI X E tg (.Call (.Name "range" p) [a] [] pos) (λsd=>do let ds<-fs sd;zkq ds):=by
 refine PI.imp (zk2 hg hm ha hs) λσ H Q ⟨ι,h,sd,L,hh,q⟩=>⟨ι,h,sd,L,hh,Fin.bind q λds h1 ι1 H1 e1 s1 hr1 q1 vs rv=> ?_⟩
 match ds,rv,q1 with
 | [.int j],rv,q1=>
  simp only [zam,Rel] at rv
  obtain ⟨v,r,rfl,rfl,rfl⟩:=rv
  have q1:Fin X.K E ι1 H1 ((if zcS j=true then (pure (zc0 0 j.toNat):M (List D)) else M.bad) h1) _:=q1
  by_cases hj:zcS j=true
  ·rw [qa4 hj] at q1
   exact ⟨j,rfl,(zel hj).1,(zel hj).2,Fin.out hr1 q1 _ zlY⟩
  ·rw [qa5 hj] at q1
   exact qa0 q1
 | [],_,q1=>exact qa0 q1
 | .non::_,_,q1=>exact qa0 q1
 | .bl _::_,_,q1=>exact qa0 q1
 | .str _::_,_,q1=>exact qa0 q1
 | .tup _::_,_,q1=>exact qa0 q1
 | .lst _::_,_,q1=>exact qa0 q1
 | .cel _::_,_,q1=>exact qa0 q1
 | .set _::_,_,q1=>exact qa0 q1
 | .dct::_,_,q1=>exact qa0 q1
 | .fn _::_,_,q1=>exact qa0 q1
 | .scr _::_,_,q1=>exact qa0 q1
 | .exn _::_,_,q1=>exact qa0 q1
 | .int _::_::_,_,q1=>exact qa0 q1
noncomputable def zba (body:D->Sd->M Out):List D->Sd->M Out
 | [],sd=>pure (.nx sd)
 | x::r,sd=>do
  let o<-body x sd
  match o with
  | .nx sd'=>zba body r sd'
  | .ct sd'=>zba body r sd'
  | .bk sd'=>pure (.nx sd')
  | .rt d=>pure (.rt d)
theorem zsp {tg iter:Expr} {body:List Stmt} {fi:Sd->M (List D)} {g:D->Sd->M Sd} {gb:Sd->M Out} (hc:X.calm=true) (hp:PassesOwn (model X.prog X.w) X.A X.env X.xe) (hi:SI X E tg iter fi) (hg:SG X E tg g) (hb:SSs X E body gb)
  (hs: ∀ x,foldedSetIterable iter X.env x=pure x:=by intro _;rfl):SS X E (.For tg iter body [] pos) (λsd=>do let ds<-fi sd;zba (λx sd=>do let sd1<-g x sd;gb sd1) ds sd):=by
 refine PS.imp (zpN hp hc hi hg hb hs) λD0 σ H ⟨ι,h,sd,L,hh,q⟩=>⟨ι,h,sd,L,hh,Fin.bind q λds h1 ι1 H1 e1 s1 hr1 q1 J ok=> ?_⟩
 refine ⟨λi m σ' H'=>m=ds.length - i/\i<=ds.length/\ ∃ ι' h' sd',zbI ι1 H1 ι' H'/\zcp X.K ι' H' sd' σ'/\zaX X.K ι' H' h'/\Fin X.K E ι' H' (zba (λx sd=>do let sd1<-g x sd;gb sd1) (ds.drop i) sd' h') (zf5 X.K D0),
   ⟨_,rfl,zero_le _,ι1,h1,sd,zbI.refl _ _,L.step s1,hr1,by simpa using q1⟩,?_⟩
 rintro i m σ2 H2 ⟨rfl,hi2,ι2,h2,sd2,s2,L2,hr2,q2⟩
 by_cases hlt:i<ds.length
 ·right
  refine ⟨ok.go ι2 H2 i s2.pass hlt,λσ' H'=>i+1<=ds.length/\ ∃ ι' h' sd',zbI ι1 H1 ι' H'/\zcp X.K ι' H' sd' σ'/\zaX X.K ι' H' h'/\Fin X.K E ι' H' (zba (λx sd=>do let sd1<-g x sd;gb sd1) (ds.drop (i+1)) sd' h') (zf5 X.K D0),
    λσ' H' p=>⟨ds.length - (i+1),⋯,rfl,p.1,p.2⟩,λx H3 y=> ?_⟩
  obtain ⟨gr,d,ed,rd⟩:=ok.yld ι2 H2 h2 i x H3 s2.pass hr2 hlt y
  obtain ⟨s3,hr3⟩:=gr.step hr2
  have edr:ds.drop i=d::ds.drop (i+1):=by
   rw [qae hlt]
   rw [qaf hlt] at ed
   rw [Option.some.inj ed]
  rw [edr] at q2
  have q3:Fin X.K E ι2 H3 (zba (λx sd=>do let sd1<-g x sd;gb sd1) (d::ds.drop (i+1)) sd2 h2) (zf5 X.K D0):=Fin.step s3 q2
  refine ⟨ι2,h2,sd2,d,L2.step s3,hr3,rd,?_⟩
  have q5:Fin X.K E ι2 H3 ((g d sd2>>=λsd1=>(gb sd1>>=λo=>(match o with
    | .nx sd'=>zba (λx sd=>do let sd1<-g x sd;gb sd1) (ds.drop (i+1)) sd'
    | .ct sd'=>zba (λx sd=>do let sd1<-g x sd;gb sd1) (ds.drop (i+1)) sd'
    | .bk sd'=>pure (.nx sd')
    | .rt d=>pure (.rt d):M Out))) h2) (zf5 X.K D0):=by
   have e:(zba (λx sd=>do let sd1<-g x sd;gb sd1) (d::ds.drop (i+1)) sd2 h2)=((g d sd2>>=λsd1=>(gb sd1>>=λo=>(match o with
     | .nx sd'=>zba (λx sd=>do let sd1<-g x sd;gb sd1) (ds.drop (i+1)) sd'
     | .ct sd'=>zba (λx sd=>do let sd1<-g x sd;gb sd1) (ds.drop (i+1)) sd'
     | .bk sd'=>pure (.nx sd')
     | .rt d=>pure (.rt d):M Out))) h2):=by
    show M.bind (M.bind (g d sd2) gb) _ h2=M.bind (g d sd2) _ h2
    unfold M.bind
    cases g d sd2 h2<;>rfl
   rw [<- e]
   exact q3
  refine Fin.bind q5 λsd6 h6 ι6 H6 e6 s6 hr6 q6 σ6 L6=> ?_
  refine ⟨ι6,h6,sd6,L6,hr6,Fin.bind q6 λo h7 ι7 H7 e7 s7 hr7 q7=> ?_⟩
  have st7:zbI ι1 H1 ι7 H7:=((s2.trans s3).trans s6).trans s7
  cases o with
  | nx sd'=>exact λσ' L'=>⟨hlt,ι7,h7,sd',st7,L',hr7,q7⟩
  | ct sd'=>exact λσ' L'=>⟨hlt,ι7,h7,sd',st7,L',hr7,q7⟩
  | bk sd'=>exact λσ' L'=>Fin.out (E:=E) (P:=zf5 X.K D0) hr7 q7 σ' L'
  | rt d=>exact λv rv=>Fin.out (E:=E) (P:=zf5 X.K D0) hr7 q7 v rv
 ·left
  have e:i=ds.length:=by omega
  subst e
  refine ⟨ok.stop ι2 H2 s2.pass,?_⟩
  rw [List.drop_length] at q2
  exact Fin.out (E:=E) (P:=zf5 X.K D0) hr2 q2 σ2 L2
noncomputable def zca (f:D->M (Option D)):List D->M (List D)
 | []=>pure []
 | x::r=>do
  let o<-f x
  let ys<-zca f r
  pure (match o with | some y=>y::ys | none=>ys)
def zbG (g:D->Sd->M Sd) (tc:Sd->M Bool) (te:Sd->M D) (sd:Sd) (x:D):M (Option D):=do
 let sd1<-g x sd
 let c<-tc sd1
 if c=true then do
  let y<-te sd1
  pure (some y)
 else pure none
end
def Io.hide (ι:Io) (p:Addr):Io:=⟨ι.c,p::ι.x⟩
def Io.show (ι:Io):Io:=⟨ι.c,ι.x.tail⟩
theorem zlE {ι:Io} {a:Addr} (h:ι.show.Has a):ι.Has a:=h.imp id List.mem_of_mem_tail
section
variable {K:W.Frag} {ι ι':Io} {H H':Hp} {p:Addr} {o:HO} {h:Hh}
theorem zgQ (hp:H p=none):Pass ι H (ι.hide p) (upd H p o):=⟨λ_ _ z=> .inl z,λb o' hb n=>⟨by rw [zau (zaF hb hp)];exact hb,λz=>by
  rcases z with z | z
  · exact n (.inl z)
  · rcases qaP.mp z with z | z
    · rw [z,hp] at hb;cases hb
    · exact n (.inr z)⟩⟩
theorem zgX:Pass ι H ι.show H:=⟨λ_ _ z=> .inl z,λb o' hb n=>⟨hb,λz=>n (zlE z)⟩⟩
theorem zfj (hp:p∈ι.x):Pass ι H ι (upd H p o):=⟨λ_ _ z=> .inl z,λb o' hb n=>⟨by rw [zau (show b≠p from λz=>n (.inr (z▸hp)))];exact hb,n⟩⟩
theorem zaX.hide {ws:List V} (hr:zaX K ι H h) (hp:H p=none):zaX K (ι.hide p) (upd H p (.lst ws)) h:=
 ⟨hr.len,hr.inj,λn a c h1 h2=>by
   obtain ⟨o',e2,e3⟩:=hr.at_ n a c h1 h2
   exact ⟨o',by rw [zau (zaF e2 hp)];exact e2,e3.pass (zgQ hp)⟩,hr.dead,λa ha=>by
   rcases qaP.mp ha with z | z
   · subst z;exact ⟨⟨ws,zaY⟩,λz=>hr.nin hp (.inl z)⟩
   · refine ⟨?_,(hr.hidt a z).2⟩
     rw [zau (show a≠p from λw=>hr.nin hp (.inr (w▸z)))]
     exact (hr.hidt a z).1⟩
theorem zaX.hid {ws:List V} (hr:zaX K ι H h) (hp:p∈ι.x):zaX K ι (upd H p (.lst ws)) h:=
 ⟨hr.len,hr.inj,λn a c h1 h2=>by
   obtain ⟨o',e2,e3⟩:=hr.at_ n a c h1 h2
   have ne:a≠p:=λz=>(hr.hidt p hp).2 (z▸List.mem_of_getElem? h1)
   exact ⟨o',by rw [zau ne];exact e2,e3.pass (zfj hp)⟩,hr.dead,λa ha=>by
   refine ⟨?_,(hr.hidt a ha).2⟩
   by_cases z:a=p
   · subst z;exact ⟨ws,zaY⟩
   · rw [zau z];exact (hr.hidt a ha).1⟩
theorem zaX.show (hr:zaX K ι H h):zaX K ι.show H h:=
 ⟨hr.len,hr.inj,λn a c h1 h2=>by
   obtain ⟨o',e2,e3⟩:=hr.at_ n a c h1 h2
   exact ⟨o',e2,e3.pass zgX⟩,hr.dead,λa ha=>hr.hidt a (List.mem_of_mem_tail ha)⟩
theorem zk9 {ι1 ι2:Io} {H1 H2:Hp} (hp:H p=none) (hpx:p∉ι.x) (hx:ι1.x=p::ι.x) (s:zbI ι H ι1.show H1) (t:zbI ι1 H1 ι2 H2):zbI ι H ι2.show (upd H2 p o) where
 old:=λn q h=>by
  rcases s.old n q h with h | h
  ·exact t.old n q h
  ·rcases t.old n _ h with h | h<;>exact .inr h
 new:=λa h=>by
  rcases t.new a h with h | h
  ·exact s.new a h
  ·by_cases z:some a∈ι.c
   ·exact .inl z
   ·refine .inr ?_
    cases q:H a with
    | none=>rfl
    | some o=>
     by_cases z':a∈ι.x
     ·rw [s.hidk a z',q] at h;cases h
     ·rw [s.keep a o q (λw=>w.elim z z')] at h;cases h
 hid:=by
  show ι2.x.tail=ι.x
  rw [t.hid,hx]
  rfl
 hidk:=λa ha=>by
  have z:a≠p:=λz=>hpx (z▸ha)
  rw [zau z,t.hidk a (by rw [hx];exact qan _ ha)]
  exact s.hidk a ha
 keep:=λb q hb n=>by
  have ne:b≠p:=zaF hb hp
  rw [zau ne]
  refine t.keep b q (s.keep b q hb n) λz=> ?_
  rcases z with z | z
  ·rcases s.new b z with z | z
   ·exact n (.inl z)
   ·rw [hb] at z;cases z
  ·rw [hx] at z
   rcases qaP.mp z with z | z
   ·exact ne z
   ·exact n (.inr z)
theorem zbI.shown {ι2:Io} {H2:Hp} {r:List Addr} (hx:ι.x=p::r) (t:zbI ι H ι2 H2):zbI ι.show H ι2.show H2 where
 old:=t.old
 new:=t.new
 hid:=by show ι2.x.tail=ι.x.tail;rw [t.hid]
 hidk:=λa ha=>t.hidk a (List.mem_of_mem_tail ha)
 keep:=λb q hb n=>by
  by_cases z:b=p
  ·subst z
   rw [t.hidk b (by rw [hx];exact qau)]
   exact hb
  ·refine t.keep b q hb λw=> ?_
   rcases w with w | w
   ·exact n (.inl w)
   ·rw [hx] at w
    rcases qaP.mp w with w | w
    ·exact z w
    ·exact n (.inr (by show b∈ι.x.tail;rw [hx];exact w))
theorem Fin.bindB {α β:Type} {E:XE} {m:M α} {f:α->M β} {P:β->Io->Hp->Prop} {P':α->Io->Hp->Prop} {ιb:Io} {Hb:Hp} (q:Fin K E ιb Hb ((m>>=f) h) P)
  (conv: ∀ ι' H' h',zbI ι H ι' H'->zaX K ι' H' h'-> ∃ ι'',zbI ιb Hb ι'' H'/\zaX K ι'' H' h')
  (k: ∀ a h' ι' H',m h= .ok a h'->zbI ι H ι' H'->zaX K ι' H' h'->Fin K E ιb Hb (f a h') P->P' a ι' H'):Fin K E ι H (m h) P':=by
 have q':Fin K E ιb Hb (M.bind m f h) P:=q
 unfold M.bind at q'
 cases e:m h with
 | ok a h'=>
  rw [e] at q'
  intro ι' H' s hr
  exact k a h' ι' H' e s hr q'
 | exc c h'=>
  rw [e] at q'
  intro ι' H' s hr
  obtain ⟨ι'',s2,hr2⟩:=conv ι' H' h' s hr
  exact q' _ _ s2 hr2
 | bad=>rw [e] at q';exact q'
end
instance:LawfulMonad M:=LawfulMonad.mk' M
 (id_map:=λx=>by
   funext h
   show M.bind x (λa=>M.pure (id a)) h=x h
   unfold M.bind M.pure
   cases x h<;>rfl)
 (pure_bind:=λx f=>rfl)
 (bind_assoc:=λx f g=>by
   funext h
   show M.bind (M.bind x f) g h=M.bind x (λa=>M.bind (f a) g) h
   unfold M.bind
   cases x h<;>rfl)
def zas (src:List (Option Nat)) (sd:Sd):Sd:=src.map λo=>o.bind λi=>(sd[i]?).join
theorem zcp.bStart {K:W.Frag} {ι:Io} {H:Hp} {sd:Sd} {σ:L2.St} {src:List (Option Nat)} (h:zcp K ι H sd σ):zcp K ι H (zas src sd) (bStart src σ):=by
 refine ⟨by unfold zas L2.bStart;rw [qaH,qaH],λi d e=> ?_⟩
 unfold zas at e
 unfold L2.bStart
 rw [List.getElem?_map] at e ⊢
 cases z:src[i]? with
 | none=>rw [z] at e;cases e
 | some o=>
  rw [z] at e
  cases o with
  | none=>cases e
  | some j=>
   have e:(sd[j]?).join=some d:=by simpa using e
   cases w:sd[j]? with
   | none=>rw [w] at e;cases e
   | some q=>
    rw [w] at e
    have e:q=some d:=by simpa using e
    subst e
    obtain ⟨v,h1,h2⟩:=h.2 j d w
    exact ⟨v,by simp [h1],h2⟩
def zbf (g:D->Sd->M Sd) (src:List (Option Nat)):Prop:= ∀ x sd h sd1 h1,sd.length=src.length->(∀ (i:Nat),src[i]? = some none->sd[i]? = some none)->g x sd h= .ok sd1 h1->sd1.length=sd.length/\ ∀ (i:Nat) d,src[i]? ≠ some none->sd[i]? = some (some d)->sd1[i]? = some (some d)
theorem zlg {i:Nat} {src:List (Option Nat)} (h:src[i]? = some none): ∀ x sd h sd1 h1,zbl i x sd h= .ok sd1 h1->sd1.length=sd.length/\ ∀ (j:Nat) d,src[j]? ≠ some none->sd[j]? = some (some d)->sd1[j]? = some (some d):=λx sd h0 sd1 h1 e=>by
 have e:R.ok (sd.set i (some x)) h0= .ok sd1 h1:=e
 cases e
 refine ⟨qaI,λj d hj e=> ?_⟩
 rw [qao (show i≠j from λz=>hj (z▸h))]
 exact e
theorem zbf.name {i:Nat} {src:List (Option Nat)} (h:src[i]? = some none):zbf (zbl i) src:=λx sd h0 sd1 h1 _ _ e=>zlg h x sd h0 sd1 h1 e
section
variable {X:Cx} {E:XE} {scope:Scope} {N:List Str} {src:List (Option Nat)} {tg iter elt:Expr} {ifs:List Expr} {pos:Pos}
abbrev SCs (X:Cx) (E:XE) (ifs:List Expr) (t:Sd->M Bool):Prop:=PCs X ifs (zfB X.K E t)
theorem zqL:SCs X E [] (λ_=>pure true):=λpins s σ H Q I ⟨ι,h,sd,L,hh,q⟩=>zo7 pins s σ H Q I (Fin.out hh q)
theorem zpC {c:Expr} {t:Sd->M Bool} (h:ST X E c t):SCs X E [c] t:=znK h
theorem blk {K:W.Frag} {g:D->Sd->M Sd} {tc:Sd->M Bool} {te:Sd->M D} {J:It} {ds:List D} {ι:Io} {H:Hp} {h:Hh} {sd:Sd} {σ:L2.St} {Q:VK} {p:Addr} (hk:zbf g src) (L:zcp K ι H sd σ) (hr:zaX K ι H h) (ok:zps K ι H J ds) (hz:ds.length<=sizeLine)
  (q:Fin K E ι H ((do let ys<-zca (zbG g tc te (zas src sd)) ds;pure (D.lst ys)) h) λd ι' H'=> ∀ v,Rel K ι' H' d v->Q v H') (hp:H p=none):
  zr5 J (ztb K E g) (zfB K E tc) (zha K E te) (bStart src σ) H p λH'=>Q (.ref p) H':=by
 generalize hP:(λ(d:D) (ι':Io) (H':Hp)=> ∀ v,Rel K ι' H' d v->Q v H')=P at q
 generalize hf:zbG g tc te (zas src sd)=f at q
 have hpx:p∉ι.x:=λz=>hr.nin hp (.inr z)
 have h0len:(zas src sd).length=src.length:=by unfold zas;rw [qaH]
 have h0non: ∀ (i:Nat),src[i]? = some none->(zas src sd)[i]? = some none:=λi e=>by unfold zas;rw [List.getElem?_map,e];rfl
 refine ⟨λi m σ' H'=>m=ds.length - i/\i<=ds.length/\ ∃ ι' h' done vs,ι'.x=p::ι.x/\zbI ι H ι'.show H'/\zcp K ι' H' (zas src sd) σ'/\zaX K ι' H' h'/\H' p=some (.lst vs)/\zam K ι' H' done vs/\done.length<=i/\
     Fin K E ι H ((do let ys<-zca f (ds.drop i);pure (D.lst (done++ys))) h') P,
   ⟨_,rfl,zero_le _,ι.hide p,h,[],[],rfl,?_,L.bStart.pass (zgQ hp),hr.hide hp,zaY,zam.nil,qaV _,?_⟩,?_⟩
 ·have:=hr.laidS (o:= .lst []) hp
  exact ⟨this.old,this.new,this.hid,this.hidk,this.keep⟩
 ·simpa using q
 rintro i m σ2 H2 ⟨rfl,hi2,ι2,h2,done,vs,hx2,s2,L2,hr2,e2,rl2,dl2,q2⟩
 have ps2:Pass ι H ι2 H2:=⟨s2.old,λb o hb n=>⟨s2.keep b o hb n,λz=>by
   rcases z with z | z
   · exact s2.nin hb n (.inl z)
   · rw [hx2] at z
     rcases qaP.mp z with z | z
     · rw [z,hp] at hb;cases hb
     · exact n (.inr z)⟩⟩
 have hp2:p∈ι2.x:=by rw [hx2];exact qau
 have base: ∀ {ι':Io} {H':Hp},zbI ι2 H2 ι' H'->zbI ι H ι'.show H':=λt=>s2.trans (t.shown hx2)
 by_cases hlt:i<ds.length
 ·right
  refine ⟨ok.go ι2 H2 i ps2 hlt,λσ' H'=>i+1<=ds.length/\ ∃ ι' h' done vs,ι'.x=p::ι.x/\zbI ι H ι'.show H'/\zcp K ι' H' (zas src sd) σ'/\zaX K ι' H' h'/\H' p=some (.lst vs)/\zam K ι' H' done vs/\done.length<=i+1/\
    Fin K E ι H ((do let ys<-zca f (ds.drop (i+1));pure (D.lst (done++ys))) h') P,λσ' H' z=>⟨ds.length - (i+1),⋯,rfl,z.1,z.2⟩,λx H3 y=> ?_⟩
  obtain ⟨gr,d,ed,rd⟩:=ok.yld ι2 H2 h2 i x H3 ps2 hr2 hlt y
  obtain ⟨s3,hr3⟩:=gr.step hr2
  have edr:ds.drop i=d::ds.drop (i+1):=by
   rw [qae hlt]
   rw [qaf hlt] at ed
   rw [Option.some.inj ed]
  rw [edr] at q2
  have q3:=q2
  have st3:zbI ι2 H2 ι2 H3:=s3
  have e3:H3 p=some (.lst vs):=by rw [s3.hidk p hp2];exact e2
  have eq1:(do let ys<-zca f (d::ds.drop (i+1));pure (D.lst (done++ys)):M D)=(g d (zas src sd)>>=λsd1=>tc sd1>>=λc=>if c=true then (te sd1>>=λy=>zca f (ds.drop (i+1))>>=λys=>pure (D.lst (done++[y]++ys))) else (zca f (ds.drop (i+1))>>=λys=>pure (D.lst (done++ys)))):=by
   rw [zca]
   rw [<- hf]
   simp only [zbG,bind_assoc]
   refine congrArg _ (funext λsd1=> ?_)
   refine congrArg _ (funext λc=> ?_)
   cases c with
   | true=>simp only [if_true,bind_assoc,pure_bind,List.append_assoc,List.cons_append,nil_append]
   | false=>simp only [qax,if_false,pure_bind]
  rw [eq1] at q3
  refine ⟨ι2,h2,zas src sd,d,L2.step s3,hr3,rd,?_⟩
  refine Fin.bindB q3 (λι' H' h' s hr'=>⟨ι'.show,base (s3.trans s),hr'.show⟩) λsd4 h4 ι4 H4 e4 s4 hr4 q4 σ4 L4=> ?_
  have hx4:ι4.x=p::ι.x:=by rw [s4.hid];exact hx2
  obtain ⟨k1,k2⟩:=hk d _ h2 sd4 h4 h0len h0non e4
  refine ⟨ι4,h4,sd4,L4,hr4,Fin.bindB q4 (λι' H' h' s hr'=>⟨ι'.show,base ((s3.trans s4).trans s),hr'.show⟩) λc h5 ι5 H5 e5 s5 hr5 q5=> ?_⟩
  have hx5:ι5.x=p::ι.x:=by rw [s5.hid];exact hx4
  have sub: ∀ {ι':Io} {H':Hp},zcp K ι' H' sd4 σ4->zcp K ι' H' (zas src sd) σ4:=λ{ι' H'} z=>⟨by rw [<- k1];exact z.1,λj d' e=>z.2 j d' (k2 j d' (λw=>by rw [h0non j w] at e;cases e) e)⟩
  have st5:zbI ι2 H2 ι5 H5:=(s3.trans s4).trans s5
  cases c with
  | false=>
   exact zo0 ⟨hlt,ι5,h5,done,vs,hx5,base st5,sub (L4.step s5),hr5,by rw [st5.hidk p hp2];exact e2,rl2.step st5,Nat.le_succ_of_le dl2,q5⟩
  | true=>
   refine zoU ⟨ι5,h5,sd4,L4.step s5,hr5,Fin.bindB q5 (λι' H' h' s hr'=>⟨ι'.show,base (st5.trans s),hr'.show⟩) λyd h6 ι6 H6 e6 s6 hr6 q6 y ry=> ?_⟩
   have st6:zbI ι2 H2 ι6 H6:=st5.trans s6
   have hx6:ι6.x=p::ι.x:=by rw [s6.hid];exact hx5
   have hp6:p∈ι6.x:=by rw [hx6];exact qau
   have e6':H6 p=some (.lst vs):=by rw [st6.hidk p hp2];exact e2
   refine ⟨vs,e6',by rw [<- rl2.length];omega,hlt,ι6,h6,done++[yd],vs++[y],hx6,zk9 hp hpx hx2 s2 st6,?_,hr6.hid hp6,zaY,?_,?_,?_⟩
   ·exact ((sub (L4.step s5)).step s6).pass (zfj hp6)
   ·exact ((rl2.step st6).append (zam.cons ry zam.nil)).pass (zfj hp6)
   ·rw [qav,List.length_singleton];omega
   ·exact q6
 ·left
  have e:i=ds.length:=by omega
  subst e
  refine ⟨ok.stop ι2 H2 ps2,?_⟩
  rw [List.drop_length] at q2
  have q3:P (.lst done) ι2.show H2:=by
   have:Fin K E ι H ((pure (D.lst (done++[])):M D) h2) P:=q2
   rw [append_nil] at this
   exact this _ _ s2 hr2.show
  rw [<- hP] at q3
  refine q3 (.ref p) ?_
  simp only [Rel]
  refine ⟨p,vs,rfl,⟨e2,λz=> ?_⟩,rl2.pass zgX⟩
  rcases z with z | z
  ·exact (hr2.hidt p (by rw [hx2];exact qau)).2 z
  ·exact hpx (by have z:p∈ι2.x.tail:=z;rw [hx2] at z;exact z)
noncomputable def zaZ (fi:Sd->M (List D)) (g:D->Sd->M Sd) (tc:Sd->M Bool) (te:Sd->M D) (src:List (Option Nat)):Sd->M D:=λsd=>do
 let ds<-fi sd
 fits ds.length
 let ys<-zca (zbG g tc te (zas src sd)) ds
 pure (D.lst ys)
theorem zkK {K:W.Frag} {fi:Sd->M (List D)} {g:D->Sd->M Sd} {tc:Sd->M Bool} {te:Sd->M D} (hk:zbf g src) (σ:L2.St) (H:Hp) (Q:VK) (q:zha K E (zaZ fi g tc te src) σ H Q):
  zpb (ztF K E fi) (ztb K E g) (zfB K E tc) (zha K E te) src σ H Q:=by
 obtain ⟨ι,h,sd,L,hh,q⟩:=q
 refine ⟨ι,h,sd,L,hh,Fin.bind q λds h1 ι1 H1 e1 s1 hr1 q1 J ok p hp=> ?_⟩
 obtain ⟨z,q2⟩:=Fin.fits q1
 exact blk hk (L.step s1) hr1 ok z q2 hp
theorem zn6 {fi:Sd->M (List D)} {g:D->Sd->M Sd} {tc:Sd->M Bool} {te:Sd->M D} (B:BOk X scope N src) (hk:zbf g src) (hi:SI X E tg iter fi)
  (hg: ∀ s H fp,SG (cxB X scope N s H fp) E tg g) (ht: ∀ s H fp,SCs (cxB X scope N s H fp) E ifs tc) (he: ∀ s H fp,SE (cxB X scope N s H fp) E elt te)
  (hs: ∀ x,foldedSetIterable iter X.env x=pure x:=by intro _;rfl):SE X E (.ListComp elt [⟨tg,iter,ifs,0⟩] scope pos) (zaZ fi g tc te src):=
 PE.imp (zoG B hi hg ht he hs) (zkK hk)
theorem zjV {fi:Sd->M (List D)} {g:D->Sd->M Sd} {tc:Sd->M Bool} {te:Sd->M D} (i:Nat) {y:Str} {py spos:Pos} (B:BOk X scope N src) (hk:zbf g src) (hi:SI X E tg iter fi)
  (hg: ∀ s H fp,SG (cxB X scope N s H fp) E tg g) (ht: ∀ s H fp,SCs (cxB X scope N s H fp) E ifs tc) (he: ∀ s H fp,SE (cxB X scope N s H fp) E elt te)
  (hN:X.N.Nodup) (hy:X.N[i]? = some y) (hx:Loc X.env.scope y) (hf:X.fn y=true\/X.env.scope.names.lookup y=some .local) (hsw:swapsWith (.ListComp elt [⟨tg,iter,ifs,0⟩] scope pos) (some (.Name y py)) spos.line X.env=pure true)
  (hs: ∀ x,foldedSetIterable iter X.env x=pure x:=by intro _;rfl):SS X E (.Assign [.Name y py] (.ListComp elt [⟨tg,iter,ifs,0⟩] scope pos) spos) (λsd=>do let d<-zaZ fi g tc te src sd;pure (.nx (sd.set i (some d)))):=by
 refine PS.imp (ziQ B hi hg ht he hN hy hx hsw hf hs) λD0 σ H ⟨ι,h,sd,L,hh,q⟩=>zkK hk σ H _ ⟨ι,h,sd,L,hh,Fin.bind q λd h1 ι1 H1 e1 s1 hr1 q1 v rv=> ?_⟩
 exact Fin.out (E:=E) (P:=zf5 X.K D0) hr1 q1 _ ((L.step s1).set rv i)
end
section
variable {K:W.Frag} {ι:Io} {H:Hp} {h:Hh} {n:Nat} {a:Addr}
theorem zd2 {o:HO} (hn:ι.c[n]? = some (some a)):Pass ι H ι (upd H a o):=⟨λ_ _ z=> .inl z,λb o' hb nb=>⟨by rw [zau (show b≠a from λz=>nb (.inl (z▸List.mem_of_getElem? hn)))];exact hb,nb⟩⟩
theorem zaX.cellS {o:HO} (hr:zaX K ι H h) (hn:ι.c[n]? = some (some a)):zbI ι H ι (upd H a o):=
 ⟨λ_ _ z=> .inl z,λ_ z=> .inl z,rfl,λb hb=>zau λz=>(hr.hidt b hb).2 (z▸List.mem_of_getElem? hn),λb o' hb nb=>((zd2 hn).keep b o' hb nb).1⟩
theorem zaX.cellO {c':C} {o':HO} (hr:zaX K ι H h) (hn:ι.c[n]? = some (some a)) (co:CO K ι H c' o'):zaX K ι (upd H a o') (h.set n c'):=by
 refine ⟨by rw [qaI];exact hr.len,hr.inj,λm b c hm hc=> ?_,λm hm=> ?_,λb hb=>⟨?_,(hr.hidt b hb).2⟩⟩
 ·by_cases e:n=m
  ·subst e
   rw [hn] at hm
   cases hm
   rw [qai (by rw [hr.len];exact (qac.mp hn).1)] at hc
   cases hc
   exact ⟨o',zaY,co.pass (zd2 hn)⟩
  ·rw [qao e] at hc
   obtain ⟨o2,e2,e3⟩:=hr.at_ m b c hm hc
   have ne:b≠a:=λz=>by subst z;exact e (hr.inj n m b hn hm)
   exact ⟨o2,by rw [zau ne];exact e2,e3.pass (zd2 hn)⟩
 ·have e:n≠m:=λz=>by subst z;rw [hn] at hm;cases hm
  rw [qao e]
  exact hr.dead m hm
 ·rw [zau (show b≠a from λz=>(hr.hidt b hb).2 (z▸List.mem_of_getElem? hn))]
  exact (hr.hidt b hb).1
theorem zaX.cell {ds':List D} {vs':List V} (hr:zaX K ι H h) (hn:ι.c[n]? = some (some a)) (rl:zam K ι H ds' vs'):zaX K ι (upd H a (.lst vs')) (h.set n (.lst ds')):=hr.cellO hn ⟨vs',rfl,rl⟩
theorem zaX.read {ds:List D} {v:V} (hr:zaX K ι H h) (r:Rel K ι H (.cel n) v) (e:h[n]? = some (.lst ds)): ∃ a vs,v= .ref a/\ι.c[n]? = some (some a)/\H a=some (.lst vs)/\zam K ι H ds vs:=by
 simp only [Rel] at r
 obtain ⟨a,e1,r | r⟩:=r
 ·obtain ⟨o,e3,vs,rfl,e4⟩:=hr.at_ n a _ r e
  exact ⟨a,vs,e1,r,e3,e4⟩
 ·rw [hr.dead n r] at e
  cases e
end
noncomputable def zah (n:Nat):M (List D):=λh=>match h[n]? with
 | some (.lst ds)=> .ok ds h
 | _=> .bad
noncomputable def zbe (n:Nat) (ds:List D):M Unit:=λh=> .ok () (h.set n (.lst ds))
theorem zbz {n:Nat} {h h':Hh} {ds:List D} (e:zah n h= .ok ds h'):h'=h/\h[n]? = some (.lst ds):=by
 unfold zah at e
 cases z:h[n]? with
 | none=>rw [z] at e;cases e
 | some c=>
  rw [z] at e
  cases c with
  | lst xs=>cases e;exact ⟨rfl,rfl⟩
  | dic _=>cases e
  | dit ks=>cases e
  | ins _ _=>cases e
  | dead=>cases e
noncomputable def ofO {α:Type}:Option α->M α
 | some a=>pure a
 | none=>M.bad
def dIx:D->D->M D:=λx y=>match x,y with
 | .tup ds,.int i=>ofO (atI ds i)
 | .lst ds,.int i=>ofO (atI ds i)
 | .scr ds,.int i=>ofO (atI ds i)
 | .cel n,.int i=>do let ds<-zah n;ofO (atI ds i)
 | _,_=>M.bad
theorem zfl {K:W.Frag} {ι:Io} {H:Hp} {ds:List D} {vs:List V} {i:Int} {d:D} (rl:zam K ι H ds vs) (e:atI ds i=some d): ∃ v,atI vs i=some v/\Rel K ι H d v:=by
 unfold atI at e ⊢
 rw [<- rl.length]
 cases z:ixN ds.length i with
 | none=>rw [z] at e;cases e
 | some j=>
  rw [z] at e
  have e:ds[j]? = some d:=e
  exact rl.get e
section
variable {X:Cx} {E:XE}
theorem Fin.ofO {α:Type} {K:W.Frag} {ι:Io} {H:Hp} {h:Hh} {o:Option α} {P:α->Io->Hp->Prop} (hr:zaX K ι H h) (q:Fin K E ι H (L3.ofO o h) P): ∃ a,o=some a/\P a ι H:=by
 cases o with
 | none=>exact qa0 q
 | some a=>exact ⟨a,rfl,Fin.out hr q⟩
theorem zuj:IxR X (zcw X.K E dIx):=by
 refine IxR.imp (znF.or zrK) λx y H Q ⟨ι,h,d1,d2,r1,r2,hr,q⟩=> ?_
 cases d2 with
 | int i=>
  simp only [Rel] at r2
  cases d1 with
  | tup ds=>
   obtain ⟨a,vs,e,h1,h2⟩:=zbY r1
   obtain ⟨d,e1,q⟩:=Fin.ofO hr q
   obtain ⟨v,e2,rv⟩:=zfl h2 e1
   exact .inr ⟨a,vs,i,v,e,r2,h1,e2,q v rv⟩
  | lst ds=>
   obtain ⟨a,vs,e,h1,h2⟩:=zez r1
   obtain ⟨d,e1,q⟩:=Fin.ofO hr q
   obtain ⟨v,e2,rv⟩:=zfl h2 e1
   exact .inl ⟨a,vs,i,v,e,r2,h1,e2,q v rv⟩
  | scr ds=>
   obtain ⟨a,vs,e,h1,h2⟩:=zkE r1
   obtain ⟨d,e1,q⟩:=Fin.ofO hr q
   obtain ⟨v,e2,rv⟩:=zfl h2 e1
   exact .inl ⟨a,vs,i,v,e,r2,h1,e2,q v rv⟩
  | cel n=>
   have q:Fin X.K E ι H ((zah n>>=λds=>L3.ofO (atI ds i)) h) _:=q
   have q':Fin X.K E ι H (M.bind (zah n) (λds=>L3.ofO (atI ds i)) h) _:=q
   unfold M.bind at q'
   cases z:zah n h with
   | bad=>rw [z] at q';exact qa0 q'
   | exc c h'=>unfold zah at z;split at z<;>cases z
   | ok ds h'=>
    rw [z] at q'
    obtain ⟨rfl,z2⟩:=zbz z
    obtain ⟨a,vs,e,hn,hH,rl⟩:=hr.read r1 z2
    obtain ⟨d,e1,q⟩:=Fin.ofO hr q'
    obtain ⟨v,e2,rv⟩:=zfl rl e1
    exact .inl ⟨a,vs,i,v,e,r2,SqL.of hH,e2,q v rv⟩
  | _=>exact qa0 q
 | _=>cases d1<;>exact qa0 q
def zjM (o i d:D):M Unit:=match o,i with
 | .cel n,.int k=>do
  let ds<-zah n
  let j<-ofO (ixN ds.length k)
  zbe n (ds.set j d)
 | _,_=>M.bad
theorem zq4 {o i:Expr} {pos:Pos} {fo fi:Sd->M D} (hp: ∀ {t:zrV},zsj X t->PG X (.Subscript o i pos) (ztM (zha X.K E fo) (zha X.K E fi) t)):
  SG X E (.Subscript o i pos) (λd sd=>do let x<-fo sd;let y<-fi sd;zjM x y d;pure sd):=by
 refine PG.imp (hp zlG) λv σ H Q ⟨ι,h,sd,d,L,hr,rd,q⟩=>⟨ι,h,sd,L,hr,Fin.bind q λx h1 ι1 H1 e1 s1 hr1 q1 xv rx=> ?_⟩
 refine ⟨ι1,h1,sd,L.step s1,hr1,Fin.bind q1 λy h2 ι2 H2 e2 s2 hr2 q2 yv ry=> ?_⟩
 cases x with
 | cel n=>
  cases y with
  | int k=>
   have rx2:=rx.step s2
   have q3:Fin X.K E ι2 H2 ((zah n>>=λds=>(ofO (ixN ds.length k)>>=λj=>zbe n (ds.set j d)>>=λ_=>pure sd)) h2) (λsd' ι' H'=> ∀ σ',zcp X.K ι' H' sd' σ'->Q σ' H'):=by
    have e:(do zjM (.cel n) (.int k) d;pure sd:M Sd)=(zah n>>=λds=>(ofO (ixN ds.length k)>>=λj=>zbe n (ds.set j d)>>=λ_=>pure sd)):=by
     show ((zah n>>=λds=>(ofO (ixN ds.length k)>>=λj=>zbe n (ds.set j d)))>>=λ_=>pure sd)=_
     simp only [bind_assoc]
    rw [<- e]
    exact q2
   have q':Fin X.K E ι2 H2 (M.bind (zah n) (λds=>(ofO (ixN ds.length k)>>=λj=>zbe n (ds.set j d)>>=λ_=>pure sd)) h2) _:=q3
   unfold M.bind at q'
   cases z:zah n h2 with
   | bad=>rw [z] at q';exact qa0 q'
   | exc c h'=>unfold zah at z;split at z<;>cases z
   | ok ds h'=>
    rw [z] at q'
    obtain ⟨rfl,z2⟩:=zbz z
    obtain ⟨a,vs,e,hn,hH,rl⟩:=hr2.read rx2 z2
    simp only [Rel] at ry
    have q4:Fin X.K E ι2 H2 (M.bind (ofO (ixN ds.length k)) (λj=>zbe n (ds.set j d)>>=λ_=>pure sd) h') _:=q'
    unfold M.bind at q4
    cases z3:ixN ds.length k with
    | none=>rw [z3] at q4;exact qa0 q4
    | some j=>
     rw [z3] at q4
     have q5:Fin X.K E ι2 H2 (R.ok sd (h'.set n (.lst (ds.set j d)))) (λsd' ι' H'=> ∀ σ',zcp X.K ι' H' sd' σ'->Q σ' H'):=q4
     refine ⟨a,vs,k,j,e,ry,hH,by rw [<- rl.length];exact z3,?_⟩
     have rd2:=(rd.step s1).step s2
     exact q5 ι2 _ (hr2.cellS hn) (hr2.cell hn (rl.set rd2 j)) σ (((L.step s1).step s2).step (hr2.cellS hn))
  | _=>exact qa0 q2
 | _=>cases y<;>exact qa0 q2
end
abbrev E0x:XE:=λ_ _=>False
def zcc (K:W.Frag) (n:Nat) (F:List D->M D):Sp:=λvs H Q _=>vs.length=n/\ ∃ ι h ds,zam K ι H ds vs/\zaX K ι H h/\Fin K E0x ι H (F ds h) λd ι' H'=> ∀ v,Rel K ι' H' d v->Q v H'
def ziD (n:Nat) (ds:List D):Sd:=ds.map some++List.replicate (n - ds.length) none
def zcE:Out->M D
 | .nx _=>pure .non
 | .rt d=>pure d
 | _=>M.bad
def zcM (n:Nat) (G:Sd->M Out) (ds:List D):M D:=do let o<-G (ziD n ds);zcE o
theorem ziZ {K:W.Frag} {ι:Io} {H:Hp} {ds:List D} {vs:List V} {N:List Str} (h:zam K ι H ds vs):zcp K ι H (ziD N.length ds) (L2.zeQ N vs):=by
 have hl:=h.length
 unfold ziD L2.zeQ
 refine ⟨by simp [hl],λi d e=> ?_⟩
 by_cases hi:i<ds.length
 ·rw [qad (by simpa using hi),List.getElem?_map] at e
  cases z:ds[i]? with
  | none=>rw [z] at e;cases e
  | some d'=>
   rw [z] at e
   cases e
   obtain ⟨v,h1,h2⟩:=h.get z
   exact ⟨v,by rw [qad (by rw [qaH, <-hl];exact hi),List.getElem?_map,h1];rfl,h2⟩
 ·rw [qaa (by simpa using hi),List.getElem?_replicate] at e
  split at e<;>cases e
section
variable {P:Program} {w:World} {K:W.Frag} {mg:Str->Option Value} {base:Heap}
theorem za9 {x qual:Str} {st:Stmt} {f:Addr} {fd:FuncData} {N ps:List Str} {k:Nat} {G:Sd->M Out} (F:Fun K x qual st f fd) (S:zao N ps (zae st))
  (hb: ∀ (cdv:Value) (A:Around) (outer:List Env) (s:Shared) (H:Hp) (E:XK),zeE k (A.deeper (envOfC qual (zae st) s.heap.objs.size f cdv))->SSs (zoc CX0 P w K mg base N qual (zae st) f cdv A outer s H E).nox E0x (zcz st) G):
  zbN P w K mg base CX0 (k+1) f fd ps (zcc K ps.length (zcM N.length G)):=by
 refine F.ok S (λvs H Q E h=>h.1) λcdv A outer s H vs Q E hr ⟨hl,ι,h,ds,rl,hh,q⟩=>⟨_,hb cdv A outer s H E hr,ι,h,ziD N.length ds,ziZ rl,hh,?_⟩
 refine Fin.bind q λo h1 ι1 H1 e1 s1 hr1 q1=> ?_
 cases o with
 | nx sd=>exact λσ' _=>Fin.out hr1 q1 _ (by simp [Rel])
 | rt d=>exact λv rv=>Fin.out hr1 q1 v rv
 | bk sd=>exact qa0 q1
 | ct sd=>exact qa0 q1
end
section
variable {X:Cx} {e:Expr} {es:List Expr} {pos p:Pos}
def zal (n:Nat) (F:List D->M D) (ds:List D):M D:=if ds.length=n then F ds else M.bad
theorem zot {k:Nat} {f:Addr} {fd:FuncData} {ps:List Str} {n:Nat} {F:List D->M D} {fs:Sd->M (List D)} {x:Str} (G:zbN X.prog X.w X.K X.mg X.base CX0 k f fd ps (zcc X.K n F)) (hr:zeE k X.A) (hg:Gl X x) (hm:X.mg x=some (.ref f)) (hk:W.keepIn X.K (.ref f)=true) (hb:zaJ X.K fd ps [])
  (ha:SA X E0x (e::es) fs) (hdb:(x==("__debug__":Str))=false:=by decide) (he:starEach (e::es) X.env=(false,eval e X.env)::starEach es X.env:=by rfl) (hpl:(backTo pos (starEach es X.env)).any (·.1)=false:=by rfl):
  SE X E0x (.Call (.Name x p) (e::es) [] pos) (λsd=>do let ds<-fs sd;zal n F ds):=by
 refine PE.imp (znQ G hr hg hm hk hb (dvs:=[]) .nil (E:=λ_ _ _=>False) zsE ha hdb he hpl) λσ H Q ⟨ι,h,sd,L,hh,q⟩=>⟨ι,h,sd,L,hh,Fin.bind q λds h1 ι1 H1 e1 s1 hr1 q1 vs rv=> ?_⟩
 show zcc X.K n F (vs++[]) H1 Q _
 rw [append_nil]
 unfold zal at q1
 by_cases hl:ds.length=n
 ·rw [qa4 hl] at q1
  exact ⟨by rw [<- rv.length];exact hl,ι1,h1,ds,rv,hr1,q1⟩
 ·rw [qa5 hl] at q1
  exact qa0 q1
end
section
variable {X:Cx} {E:XE}
theorem Fin.guard {α:Type} {K:W.Frag} {ι:Io} {H:Hp} {h:Hh} {c:Prop} [Decidable c] {f:M α} {P:α->Io->Hp->Prop} (q:Fin K E ι H ((if c then f else M.bad) h) P):c/\Fin K E ι H (f h) P:=by
 by_cases hc:c
 ·rw [qa4 hc] at q;exact ⟨hc,q⟩
 ·rw [qa5 hc] at q;exact qa0 q
theorem zlV:OpR X (binaryOp .Add) (λx y H Q=> ∃ a b ys,x= .ref a/\y= .ref b/\SqT X.K H a []/\SqT X.K H b ys/\Q (.ref b) H):=by
 intro pins s σ H x y v u Q I rx ry h
 obtain ⟨a,b,ys,rfl,rfl,ha,hb,q⟩:=h
 cases rx
 cases ry
 obtain ⟨its,r1,p1,_⟩:=I.tuple ha
 obtain ⟨its2,r2,p2,_⟩:=I.tuple hb
 cases r1
 obtain ⟨⟨cls,dd,data,sl⟩,ho,hc,n,hd⟩:=id p1
 obtain ⟨⟨cls2,dd2,data2,sl2⟩,ho2,hc2,n2,hd2⟩:=id p2
 simp only at hc hd hc2 hd2
 subst hc hd hc2 hd2
 exact concat_meets ⟨_,ho,rfl⟩ ⟨_,ho2,rfl⟩ noFill_tuple_add seq_tuple_add PySem.F.slot_tuple_add PySem.F.entry_tuple_add (PySem.F.args_tuple_add_2 _ _)
   (tuple_addW0 a b _ _ n n2 dd dd2 sl sl2 (by simp)) ⟨ho,ho2,⟨.ref b,H,I,rfl,q⟩⟩
def zcK (x y:D):M D:=match x,y with
 | .int i,.int j=>pure (.int (i+j))
 | .tup xs,.tup ys=>do fits (xs.length+ys.length);pure (.tup (xs++ys))
 | .lst xs,.lst ys=>do fits (xs.length+ys.length);pure (.lst (xs++ys))
 | .str x,.str y=>do fits (x.length+y.length);pure (.str (x++y))
 | _,_=>M.bad
theorem zat:OpR X (binaryOp .Add) (zcw X.K E zcK):=by
 refine OpR.imp (zpS.or (zlV.or (zob.or (zqZ.or zi6)))) λx y H Q ⟨ι,h,d1,d2,r1,r2,hr,q⟩=> ?_
 unfold zcK at q
 split at q
 ·simp only [Rel] at r1 r2
  exact .inl ⟨_,_,r1,r2,Fin.out hr q _ (by simp [Rel])⟩
 ·rename_i xs ys
  right
  obtain ⟨a,vs,e,h1,h2⟩:=zbY r1
  obtain ⟨b,ws,e',h1',h2'⟩:=zbY r2
  obtain ⟨z,q⟩:=Fin.fits q
  cases xs with
  | nil=>
   simp only [zam] at h2
   subst h2
   exact .inl ⟨a,b,ws,e,e',h1,h1',Fin.out hr q _ (by rw [<- e'];exact r2)⟩
  | cons x0 xr=>
   refine .inr (.inl ⟨a,b,vs,ws,e,e',h1,h1',λz=> ?_,by rw [<- h2.length, <-h2'.length];exact z,λz=> ?_,λz p hp=>zpp hr (h2.append h2') q hp⟩)
   ·subst z
    have:=h2.length
    cases this
   ·subst z
    have:=h2'.length
    cases ys with
    | nil=>rw [append_nil] at q;exact Fin.out hr q _ (by rw [<- e];exact r1)
    | cons _ _=>cases this
 ·rename_i xs ys
  right;right;right;left
  simp only [Rel] at r1 r2
  obtain ⟨a,vs,e,h1,h2⟩:=r1
  obtain ⟨b,ws,e',h1',h2'⟩:=r2
  obtain ⟨z,q⟩:=Fin.fits q
  exact ⟨a,b,vs,ws,e,e',h1.1,h1'.1,by rw [<- h2.length, <-h2'.length];exact z,λp hp=>zoW hr (h2.append h2') q hp⟩
 ·simp only [Rel] at r1 r2
  obtain ⟨z,q⟩:=Fin.fits q
  exact .inr (.inr (.inr (.inr ⟨_,_,r1,r2,z,Fin.out hr q _ (by simp [Rel])⟩)))
 ·exact qa0 q
def dII (C:Int->Int->Bool) (g:Int->Int->D) (x y:D):M D:=match x,y with
 | .int i,.int j=>if C i j=true then pure (g i j) else M.bad
 | _,_=>M.bad
theorem zl2 {f:Value->Value->Sem Value} {C:Int->Int->Bool} {C':Int->Int->Prop} {g:Int->Int->V} {g':Int->Int->D} (ho:OpR X f (rI C' g)) (hc: ∀ i j,C i j=true->C' i j) (hg: ∀ i j ι H,Rel X.K ι H (g' i j) (g i j)):OpR X f (zcw X.K E (dII C g')):=by
 refine OpR.imp ho λx y H Q ⟨ι,h,d1,d2,r1,r2,hr,q⟩=> ?_
 unfold dII at q
 split at q
 ·simp only [Rel] at r1 r2
  obtain ⟨c,q⟩:=Fin.guard q
  exact ⟨_,_,r1,r2,hc _ _ c,Fin.out hr q _ (hg _ _ _ _)⟩
 ·exact qa0 q
theorem zfe {f:Value->Value->Sem Value} {g:Int->Int->V} {g':Int->Int->D} (ho:OpR X f (rI0 g)) (hg: ∀ i j ι H,Rel X.K ι H (g' i j) (g i j)):OpR X f (zcw X.K E (dII (λ_ _=>true) g')):=by
 refine OpR.imp ho λx y H Q ⟨ι,h,d1,d2,r1,r2,hr,q⟩=> ?_
 unfold dII at q
 split at q
 ·simp only [Rel] at r1 r2
  obtain ⟨c,q⟩:=Fin.guard q
  exact ⟨_,_,r1,r2,Fin.out hr q _ (hg _ _ _ _)⟩
 ·exact qa0 q
def zrj:=dII (λ_ _=>true) λi j=> .int (i - j)
theorem zhd:OpR X (binaryOp .Sub) (zcw X.K E zrj):=zfe zpU λ_ _ _ _=>by simp [Rel]
def zaR (i:Int):Bool:=decide (-(2^64)<i) && decide (i<2^64)
theorem zb2 {i:Int} (h:zaR i=true): -(2^64)<i/\i<2^64:=by unfold zaR at h;simpa using h
theorem zmU:OpR X (binaryOp .FloorDiv) (rI (λ_ j=>0<j/\j<2^64) λi j=> .int (i / j)):=opI λi j _ _ _ _ _ hc q=>by
 refine floordiv_int ⋯ (by rw [Int.fdiv_eq_ediv_of_nonneg _ ⋯];exact q) (.inl (PyProof.noPylong_of_log2 ?_))
 have h1:j.natAbs<2^64:=by omega
 have h0:j.natAbs≠0:=by omega
 exact lt_trans ((log2_lt h0).mpr h1) (by decide)
def znJ:=dII (λ_ j=>decide (0<j) && decide (j<2^64)) λi j=> .int (i / j)
theorem zmc:OpR X (binaryOp .FloorDiv) (zcw X.K E znJ):=zl2 zmU (λi j h=>by simpa using h) λ_ _ _ _=>by simp [Rel]
def zqK:=dII (λ_ j=>decide (0<j)) λi j=> .int (i % j)
theorem zhx:OpR X (binaryOp .Mod) (zcw X.K E zqK):=zl2 zq5 (λi j h=>by simpa using h) λ_ _ _ _=>by simp [Rel]
def ztu (i j:Int):Bool:=decide (0<=j) && decide (j<=1000000) && decide (i.natAbs<2^64)
def zrX:=dII ztu λi j=> .int (i^j.toNat)
theorem zmz {i j:Int} (h:ztu i j=true):zsg i j:=by unfold ztu at h;simpa [zsg,and_assoc] using h
theorem zor:OpR X (binaryOp .Pow) (zcw X.K E zrX):=zl2 zqt (λ_ _=>zmz) λ_ _ _ _=>by simp [Rel]
def dOr:=dII (λ_ _=>true) λi j=> .int (Builtin.bitOr i j)
theorem zpP:OpR X (binaryOp .BitOr) (zcw X.K E dOr):=zfe zs8 λ_ _ _ _=>by simp [Rel]
def dLt:=dII (λ_ _=>true) λi j=> .bl (decide (i<j))
theorem zdf:OpR X (compareOp .Lt) (zcw X.K E dLt):=zfe ztl λ_ _ _ _=>by simp [Rel]
def dLe:=dII (λ_ _=>true) λi j=> .bl (decide (i<=j))
theorem zhP:OpR X (compareOp .LtE) (zcw X.K E dLe):=zfe ztk λ_ _ _ _=>by simp [Rel]
def dGt:=dII (λ_ _=>true) λi j=> .bl (decide (j<i))
theorem zry:OpR X (compareOp .Gt) (zcw X.K E dGt):=zfe zsO λ_ _ _ _=>by simp [Rel]
def dGe:=dII (λ_ _=>true) λi j=> .bl (decide (j<=i))
theorem zj2:OpR X (compareOp .GtE) (zcw X.K E dGe):=zfe zss λ_ _ _ _=>by simp [Rel]
def zlu:D->M D
 | .int i=>pure (.int (-i))
 | _=>M.bad
theorem zqD {a:Expr} {pos:Pos} {fa:Sd->M D} (ha:SE X E a fa):SE X E (.UnaryOp .USub a pos) (λsd=>do let x<-fa sd;zlu x):=by
 refine PE.imp (zsc zqb ha) λσ H Q ⟨ι,h,sd,L,hh,q⟩=>⟨ι,h,sd,L,hh,Fin.bind q λd h1 ι1 H1 e1 s1 hr1 q1 v rv=> ?_⟩
 cases d with
 | int i=>simp only [Rel] at rv;exact ⟨i,rv,Fin.out hr1 q1 _ (by simp [Rel])⟩
 | _=>exact qa0 q1
mutual
noncomputable def pd:D->Option PyData
 | .non=>some .none
 | .bl b=>some (.bool b)
 | .int i=>some (.int i)
 | .str x=>some (.str x)
 | .tup xs=>(pdL xs).map .tuple
 | .lst xs=>(pdL xs).map .list
 | .scr xs=>(pdL xs).map .list
 | _=>none
noncomputable def pdL:List D->Option (List PyData)
 | []=>some []
 | x::xs=>match pd x,pdL xs with
  | some a,some r=>some (a::r)
  | _,_=>none
end
mutual
theorem zgp {pins:List (Addr×Obj)} {σ:L2.St} {H:Hp} {s:Shared} {ι:Io} (I:Inv X pins σ H s): ∀ {d:D} {v:V} {u:Value} {p:PyData},Rel X.K ι H d v->zbp v u->pd d=some p-> ∃ as,Reads s.heap u p as
 | .non,v,u,p,r,ru,e=>by simp only [Rel] at r;subst r;cases ru;cases e;exact ⟨_,.none⟩
 | .bl b,v,u,p,r,ru,e=>by simp only [Rel] at r;subst r;cases ru;cases e;exact ⟨_,.bool _⟩
 | .int i,v,u,p,r,ru,e=>by simp only [Rel] at r;subst r;obtain ⟨t,rfl⟩:=ru;cases e;exact ⟨_,.int _ _⟩
 | .str i,v,u,p,r,ru,e=>by simp only [Rel] at r;subst r;obtain ⟨t,rfl⟩:=ru;cases e;exact ⟨_,.str _ _⟩
 | .tup ds,v,u,p,r,ru,e=>by
  obtain ⟨a,vs,rfl,h1,h2⟩:=zbY r
  cases ru
  obtain ⟨its,rv,pl,_⟩:=I.tuple h1
  obtain ⟨o,ho,hc,n,hd⟩:=pl
  unfold pd at e
  cases z:pdL ds with
  | none=>rw [z] at e;cases e
  | some ps=>
   rw [z] at e;cases e
   obtain ⟨as,q⟩:=zgO I h2 rv z
   exact ⟨_,.tuple ho hc hd (by simpa using q)⟩
 | .lst ds,v,u,p,r,ru,e=>by
  obtain ⟨a,vs,rfl,h1,h2⟩:=zez r
  cases ru
  obtain ⟨its,rv,pl,_⟩:=I.list h1
  obtain ⟨o,ho,hc,n,hd⟩:=pl.isList
  unfold pd at e
  cases z:pdL ds with
  | none=>rw [z] at e;cases e
  | some ps=>
   rw [z] at e;cases e
   obtain ⟨as,q⟩:=zgO I h2 rv z
   exact ⟨_,.list ho hc hd (by simpa using q)⟩
 | .scr ds,v,u,p,r,ru,e=>by
  obtain ⟨a,vs,rfl,h1,h2⟩:=zkE r
  cases ru
  obtain ⟨its,rv,pl,_⟩:=I.list h1
  obtain ⟨o,ho,hc,n,hd⟩:=pl.isList
  unfold pd at e
  cases z:pdL ds with
  | none=>rw [z] at e;cases e
  | some ps=>
   rw [z] at e;cases e
   obtain ⟨as,q⟩:=zgO I h2 rv z
   exact ⟨_,.list ho hc hd (by simpa using q)⟩
 | .cel n,_,_,_,_,_,e=>by cases e
 | .set xs,_,_,_,_,_,e=>by cases e
 | .dct,_,_,_,_,_,e=>by cases e
 | .fn _,_,_,_,_,_,e=>by cases e
 | .exn _,_,_,_,_,_,e=>by cases e
theorem zgO {pins:List (Addr×Obj)} {σ:L2.St} {H:Hp} {s:Shared} {ι:Io} (I:Inv X pins σ H s): ∀ {ds:List D} {vs:List V} {us:List Value} {ps:List PyData},zam X.K ι H ds vs->zaS vs us->pdL ds=some ps-> ∃ as,ReadsAll s.heap us ps as
 | [],vs,us,ps,r,ru,e=>by simp only [zam] at r;subst r;cases ru;cases e;exact ⟨_,.nil⟩
 | d::ds,vs,us,ps,r,ru,e=>by
  simp only [zam] at r
  obtain ⟨v,vr,rfl,r1,r2⟩:=r
  cases ru with
  | cons ru1 ru2=>
   unfold pdL at e
   cases z:pd d with
   | none=>rw [z] at e;cases e
   | some a=>
    cases z2:pdL ds with
    | none=>rw [z,z2] at e;cases e
    | some b=>
     rw [z,z2] at e
     cases e
     obtain ⟨as,q1⟩:=zgp I r1 ru1 z
     obtain ⟨bs,q2⟩:=zgO I r2 ru2 z2
     exact ⟨_,.cons q1 q2⟩
end
def zh1 (a b:PyData):Bool:=a.canLay0 && b.canLay0 && decide (min a.depth b.depth<=60)
noncomputable def zjk (neg:Bool) (x y:D):M D:=match pd x,pd y with
 | some a,some b=>if zh1 a b=true then pure (.bl (if neg then !PyData.eqv a b else PyData.eqv a b)) else M.bad
 | _,_=>M.bad
def dEq:=zjk false
def dNe:=zjk true
theorem ziz {a b:PyData} (h:zh1 a b=true):a.canLay0=true/\b.canLay0=true/\min a.depth b.depth<=60:=by unfold zh1 at h;simpa [and_assoc] using h
theorem zil {K:W.Frag} {ι:Io} {H:Hp} {h:Hh} {neg:Bool} {x y:D} {P:D->Io->Hp->Prop} (q:Fin K E ι H (zjk neg x y h) P): ∃ a b,pd x=some a/\pd y=some b/\zh1 a b=true/\Fin K E ι H ((pure (.bl (if neg then !PyData.eqv a b else PyData.eqv a b)):M D) h) P:=by
 unfold zjk at q
 cases e1:pd x with
 | none=>rw [e1] at q;exact qa0 q
 | some a=>
  cases e2:pd y with
  | none=>rw [e1,e2] at q;exact qa0 q
  | some b=>
   rw [e1,e2] at q
   obtain ⟨c,q⟩:=Fin.guard q
   exact ⟨a,b,rfl,rfl,c,q⟩
theorem zgf (hu:X.A.units+60<cLine):OpR X (compareOp .Eq) (zcw X.K E dEq):=by
 intro pins s σ H x y v u Q I rx ry ⟨ι,h,d1,d2,r1,r2,hr,q⟩
 obtain ⟨a,b,e1,e2,c,q2⟩:=zil q
 obtain ⟨c1,c2,c3⟩:=ziz c
 obtain ⟨as,ra⟩:=zgp I r1 rx e1
 obtain ⟨bs,rb⟩:=zgp I r2 ry e2
 exact SeqAt.compareEq_reads ra rb c1 c2 ⋯ ⟨.bl _,H,I,rfl,Fin.out hr q2 (.bl _) (by simp [Rel])⟩
theorem zd9 (hu:X.A.units+60<cLine):OpR X (compareOp .NotEq) (zcw X.K E dNe):=by
 intro pins s σ H x y v u Q I rx ry ⟨ι,h,d1,d2,r1,r2,hr,q⟩
 obtain ⟨a,b,e1,e2,c,q2⟩:=zil q
 obtain ⟨c1,c2,c3⟩:=ziz c
 obtain ⟨as,ra⟩:=zgp I r1 rx e1
 obtain ⟨bs,rb⟩:=zgp I r2 ry e2
 exact SeqAt.compareNe_reads ra rb c1 c2 ⋯ ⟨.bl _,H,I,rfl,Fin.out hr q2 (.bl _) (by simp [Rel])⟩
def zmX (a:PyData) (xs:List PyData):Bool:=a.canLay0 && PyData.canLayAll0 xs && decide (min (PyData.depthAll xs) a.depth<=50)
theorem zmj {a:PyData} {xs:List PyData} (h:zmX a xs=true):a.canLay0=true/\PyData.canLayAll0 xs=true/\min (PyData.depthAll xs) a.depth<=50:=by unfold zmX at h;simpa [and_assoc] using h
def zn1 (neg:Bool) (x c:D):M D:=match pd x,c with
 | some a,.tup ds=>match pdL ds with
  | some xs=>if zmX a xs=true then pure (.bl (if neg then !xs.any (λy=>PyData.eqv y a) else xs.any λy=>PyData.eqv y a)) else M.bad
  | none=>M.bad
 | some a,.lst ds=>match pdL ds with
  | some xs=>if zmX a xs=true then pure (.bl (if neg then !xs.any (λy=>PyData.eqv y a) else xs.any λy=>PyData.eqv y a)) else M.bad
  | none=>M.bad
 | _,_=>M.bad
def dIn:=zn1 false
theorem zl1 {K:W.Frag} {ι:Io} {H:Hp} {h:Hh} {neg:Bool} {x c:D} {P:D->Io->Hp->Prop} (q:Fin K E ι H (zn1 neg x c h) P): ∃ a ds xs,pd x=some a/\pdL ds=some xs/\(c= .tup ds\/c= .lst ds)/\zmX a xs=true/\
  Fin K E ι H ((pure (.bl (if neg then !xs.any (λy=>PyData.eqv y a) else xs.any λy=>PyData.eqv y a)):M D) h) P:=by
 unfold zn1 at q
 cases e1:pd x with
 | none=>rw [e1] at q;exact qa0 q
 | some a=>
  rw [e1] at q
  cases c with
  | tup ds=>
   dsimp only at q
   cases e2:pdL ds with
   | none=>rw [e2] at q;exact qa0 q
   | some xs=>
    rw [e2] at q
    obtain ⟨c,q⟩:=Fin.guard q
    exact ⟨a,ds,xs,rfl,e2,.inl rfl,c,q⟩
  | lst ds=>
   dsimp only at q
   cases e2:pdL ds with
   | none=>rw [e2] at q;exact qa0 q
   | some xs=>
    rw [e2] at q
    obtain ⟨c,q⟩:=Fin.guard q
    exact ⟨a,ds,xs,rfl,e2,.inr rfl,c,q⟩
  | _=>exact qa0 q
theorem znq (hu:X.A.units+60<cLine):OpR X (compareOp .In) (zcw X.K E dIn):=by
 intro pins s σ H x y v u Q I rx ry ⟨ι,h,d1,d2,r1,r2,hr,q⟩
 obtain ⟨a,ds,xs,e1,e2,ec,c,q2⟩:=zl1 q
 obtain ⟨c1,c2,c3⟩:=zmj c
 obtain ⟨as,ra⟩:=zgp I r1 rx e1
 rcases ec with rfl | rfl
 ·obtain ⟨bs,rb⟩:=zgp I r2 ry (p:= .tuple xs) (by unfold pd;rw [e2];rfl)
  exact SeqAt.in_tuple_reads rb ra c2 c1 ⋯ ⟨.bl _,H,I,rfl,Fin.out hr q2 (.bl _) (by simp [Rel])⟩
 ·obtain ⟨bs,rb⟩:=zgp I r2 ry (p:= .list xs) (by unfold pd;rw [e2];rfl)
  exact SeqAt.in_list_reads rb ra c2 c1 ⋯ ⟨.bl _,H,I,rfl,Fin.out hr q2 (.bl _) (by simp [Rel])⟩
end
end L3
namespace HT
open L2
section
variable {prog:Program} {w:World} {A:Around} {E:Value->Shared->Prop} {s:Shared}
theorem zcV {t sl:Addr} {items:Array Value} {vl vu:Value} {lo hi:Option Int} {Q:Value->Shared->Prop} (ht:IsTup s.heap t items) (hs:s.heap.IsSliceOf sl vl vu .none) (pl:IsPart vl lo) (pu:IsPart vu hi)
  (hw:sIx items.size 0 lo=0/\sIx items.size items.size hi=items.size) (h:Q (.ref t) s):wpAny (model prog w) A (getItem (.ref t) (.ref sl)) Q E s:=by
 obtain ⟨os,hos,hcs,hds⟩:=id hs
 have hTs:s.TypeIs (.ref sl) "slice":=⟨os,hos,hcs⟩
 unfold getItem
 try with_reducible refine qaO ?_
 first | refine qaW (qaX ?_) | skip
 refine qaW (wpAny_sequenceKey ht.typeIs (by decide) ?_)
 refine qaW (wpAny_callSpecial?_slot (name:=Str.ofString "__getitem__") ht.typeIs PyProof.Rows.slot_tuple_getitem
   (wpAny_call_entry PyProof.Rows.slot_tuple_getitem ht.typeIs entry_tuple_getitem ?_ (args_tuple_getitem _ _)))
 show wpAny _ _ (Builtin.Tuple.tupleItemsOf (.ref t)>>=_) _ _ s
 refine qaW (tupleItemsOf_ ht ?_)
 refine qaW (wpAny_typeOf hTs ?_)
 rw [qa4 (by decide)]
 refine qaW (zck hs pl pu ?_)
 show wpAny _ _ (if (((sIx items.size 0 lo:Nat):Int)==0 && (1:Int)==1 && (sIx items.size items.size hi - sIx items.size 0 lo)==items.size)=true then _ else _) _ _ s
 rw [hw.1,hw.2,qa4 (by simp)]
 refine qaW (m:=Builtin.Tuple.tupleIsExact _) (qaW (wpAny_typeOf ht.typeIs (qaX ?_)))
 rw [qa4 (by decide)]
 refine qaW (wpAny_rule ?_)
 exact qaX ⟨_,rfl,qaX h⟩
end
end HT
namespace L2
section
variable {X:Cx} {e:Expr} {te:TE} {pos p2:Pos}
theorem zoe:SlR X (λx lo hi H Q=> ∃ a xs,x= .ref a/\SqT X.K H a xs/\(HT.sIx xs.length 0 lo=0/\HT.sIx xs.length xs.length hi=xs.length)/\Q (.ref a) H):=by
 intro pins s σ H x v vl vu lo hi sl Q I rx hs pl pu h
 obtain ⟨a,xs,rfl,hx,hw,q⟩:=h
 cases rx
 obtain ⟨its,r,ht,hz⟩:=I.tuple hx
 have hlen:its.toArray.size=xs.length:=by rw [qaA];exact r.length.symm
 refine ⟨"tuple",_,PyProof.Rows.slot_tuple_getitem.lookup,ht.typeIs,?_⟩
 exact HT.zcV ht hs pl pu (by rw [hlen];exact hw) ⟨.ref a,H,I,rfl,q⟩
theorem zdO:fillsNumberSlot (.type "tuple") "mul"=pure false:=
 PySem.fillsNumberSlot_seq (id:="tuple.__mul__") (r:=some (.builtin "tuple.__rmul__")) F.slot_tuple_mul.lookup ⋯ F.slot_tuple_rmul.lookup ⋯
theorem zgh:seqRepeat? (.type "tuple")=pure (some (.builtin "tuple.__mul__")):=by
 unfold seqRepeat?
 rw [PySem.seqSlot_of (T:="tuple") (name:="__mul__") (id:="tuple.__mul__") F.slot_tuple_mul.lookup ⋯,PySem.seqSlot_of (T:="tuple") (name:="__rmul__") (id:="tuple.__rmul__") F.slot_tuple_rmul.lookup ⋯]
 rfl
theorem zeJ (k:Int) (t:Tok) (l:Addr) (items:Array Value) (n:Nat) (dd:Option Addr) (sl:Array (Option Value)):
  Meets (Builtin.«int.__rmul__» ⟨[.int k t,.ref l],[]⟩) (λ_ R s=>s.heap.get? l=some {cls:= .type "tuple",dict:=dd,data:= .seq items n,slots:=sl}/\R (.ok (.ret Value.notImplemented)) s):=
 .of_wp λprog w A R s h=>by obtain ⟨hp,g,d,tk,os⟩:=s;obtain ⟨hl,h⟩:=h;wp_walk;exact ⟨_,rfl,h⟩
theorem zle (k:Int) (t:Tok) (l:Addr) (items:Array Value) (n:Nat) (dd:Option Addr) (sl:Array (Option Value)) (hne:items.isEmpty=false) (hk:2<=k) (hk2:k<1000) (hz:items.size*k.toNat<=sizeLine):
  Meets (Builtin.«tuple.__mul__» ⟨[.ref l,.int k t],[]⟩) (λ_ R s=>s.heap.get? l=some {cls:= .type "tuple",dict:=dd,data:= .seq items n,slots:=sl}/\
    R (.ok (.ret (.ref s.heap.objs.size))) {s with heap:=s.heap.push {cls:= .type "tuple",data:= .seq ((List.replicate k.toNat items).foldl (· ++ ·) #[])}}):=
 .of_wp λprog w A R s h=>by
  obtain ⟨hp,g,d,tk,os⟩:=s;obtain ⟨hl,h⟩:=h
  unfold Builtin.«tuple.__mul__» 
  wp_walk
  have hk63: ¬(decide (k< -2^63) || decide (k>=2^63))=true:=by
   rw [Bool.or_eq_true,qaD,qaD]
   omega
  rw [qa5 hk63]
  dsimp only
  have ht:IsTup hp l items:=⟨_,hl,rfl,_,rfl⟩
  refine qaW (tupleItemsOf_ ht ?_)
  have h1: ¬(items.isEmpty || k==1)=true:=by
   rw [hne,Bool.false_or,beq_iff_eq]
   omega
  rw [qa5 h1]
  have h2: ¬(decide (k<=0) || items.isEmpty)=true:=by
   rw [hne,Bool.or_false,qaD]
   omega
  rw [qa5 h2]
  have hk0:((k.toNat:Nat):Int)=k:=Int.toNat_of_nonneg ⋯
  have hm:((items.size:Nat):Int)*k=((items.size*k.toNat:Nat):Int):=by rw [Int.natCast_mul,hk0]
  have hsl:(sizeLine:Nat)=16777216:=by decide
  have h3: ¬((items.size:Int)*k>(2^63 - 1) / 8):=by
   rw [hm]
   omega
  rw [qa5 h3]
  have h4: ¬Builtin.Tuple.tupleTooMany ((items.size:Int)*k)=true:=by
   unfold Builtin.Tuple.tupleTooMany
   rw [hm,qaD]
   omega
  rw [qa5 h4]
  have hsz:sizeOk (.seq (List.foldl (λx1 x2=>x1++x2) #[] (List.replicate k.toNat items))):=by
   show (List.foldl (λx1 x2=>x1++x2) #[] (List.replicate k.toNat items)).size<=sizeLine
   have e: ∀ (m:Nat) (acc:Array Value),(List.foldl (λx1 x2=>x1++x2) acc (List.replicate m items)).size=acc.size+m*items.size:=by
    intro m
    induction m with
    | zero=>intro acc;simp
    | succ m ih=>intro acc;rw [replicate_succ,foldl_cons,ih,Array.size_append,Nat.succ_mul];omega
   rw [e,Nat.mul_comm]
   simpa using hz
  exact qaW (m:=Builtin.Tuple.tupleExact _) (qaC (qaX ⟨_,rfl,h⟩) hsz)
theorem zov:OpR X (binaryOp .Mult) (λx y H Q=> ∃ a k xs,x= .ref a/\y= .int k/\SqT X.K H a xs/\xs≠[]/\2<=k/\k<1000/\xs.length*k.toNat<=sizeLine/\ ∀ p,H p=none->Q (.ref p) (upd H p (.tup (List.replicate k.toNat xs).flatten))):=by
 intro pins s σ H x y v u Q I rx ry h
 obtain ⟨a,k,xs,rfl,rfl,hx,hne,h1,h2,hz,q⟩:=h
 cases rx
 obtain ⟨t,rfl⟩:=ry
 obtain ⟨its,r,ht,_⟩:=I.tuple hx
 have hl:=r.length
 obtain ⟨⟨cls,dd,data,sl⟩,ho,hc,n,hd⟩:=id ht
 simp only at hc hd
 subst hc hd
 have hemp:its.toArray.isEmpty=false:=by
  cases its with
  | nil=>cases r;exact absurd rfl hne
  | cons _ _=>simp
 refine wpAny_binaryOp_repeat_ref (T:="tuple") (U:="int") (by decide) ⟨_,ho,rfl⟩ (λs'=>typeIs_int s' k t) zdO F.fills_int_mul F.slot_int_rmul zgh F.slot_int_index.lookup
  (call_meets F.slot_int_rmul (typeIs_int s k t) F.entry_int_rmul (F.args_int_rmul_2 _ _) (zeJ k t a its.toArray n dd sl)
    ⟨ho,rfl,⟨_,ho,rfl⟩,call_meets F.slot_tuple_mul ⟨_,ho,rfl⟩ F.entry_tuple_mul (F.args_tuple_mul_2 _ _) (zle k t a its.toArray n dd sl hemp h1 h2 (by rw [qaA, <-hl];exact hz)) ⟨ho,?_⟩⟩)
 have hnew:List.foldl (λx1 x2=>x1++x2) #[] (List.replicate k.toNat its.toArray)=(List.replicate k.toNat its).flatten.toArray:=by
  have:=zg1 its k.toNat []
  rw [nil_append] at this
  exact this
 rw [hnew]
 refine ⟨.ref _,_,I.laid (t':=s.toks) (o:= .tup (List.replicate k.toNat xs).flatten) (λb ob q=>qag _ q) (qaV _) ?_,rfl,q _ (I.hok.fresh (qaV _))⟩
 exact ⟨by rw [zoM,Nat.mul_comm];exact hz,_,r.rep k.toNat,zjL.new _ _⟩
end
end L2
namespace LT
abbrev Up (xs:Array Nat):Prop:=xs.toList.Pairwise (· < ·)
theorem Up.lt {xs:Array Nat} (h:Up xs) {i j:Nat} {a b:Nat} (hi:xs[i]? = some a) (hj:xs[j]? = some b) (hij:i<j):a<b:=by
 have hi':xs.toList[i]? = some a:=by simpa using hi
 have hj':xs.toList[j]? = some b:=by simpa using hj
 obtain ⟨h1,e1⟩:=qac.mp hi'
 obtain ⟨h2,e2⟩:=qac.mp hj'
 have:=List.pairwise_iff_getElem.mp h i j h1 h2 hij
 rw [e1,e2] at this
 exact this
theorem zfF {xs:Array Nat} (h:Up xs) (j:Nat): ∀ (fuel lo hi:Nat),hi - lo<=fuel->lo<=hi->hi<=xs.size->(∀ i a,i<lo->xs[i]? = some a->a<j)->(∀ i a,hi<=i->xs[i]? = some a->j<=a)->
  let r:=SetTable.below.go xs j fuel lo hi
  r<=xs.size/\(∀ i a,i<r->xs[i]? = some a->a<j)/\(∀ i a,r<=i->xs[i]? = some a->j<=a)
 | 0,lo,hi,hf,hl,hs,h1,h2=>by
  have e:lo=hi:=by omega
  subst e
  exact ⟨hs,h1,h2⟩
 | fuel+1,lo,hi,hf,hl,hs,h1,h2=>by
  unfold SetTable.below.go
  by_cases hlt:lo<hi
  ·rw [qa4 hlt]
   have hm:(lo+hi) / 2<xs.size:=by omega
   have em:xs[(lo+hi) / 2]? = some xs[(lo+hi) / 2]:=by simp [hm]
   have eg:xs.getD ((lo+hi) / 2) j=xs[(lo+hi) / 2]:=by simp [Array.getD,hm]
   dsimp only
   by_cases hc:xs.getD ((lo+hi) / 2) j<j
   ·rw [qa4 hc]
    refine zfF h j fuel _ hi ⋯ ⋯ hs (λi a hi' e=> ?_) h2
    rw [eg] at hc
    by_cases z:i=(lo+hi) / 2
    ·subst z;rw [em] at e;cases e;exact hc
    ·exact lt_trans (h.lt e em ⋯) hc
   ·rw [qa5 hc]
    refine zfF h j fuel lo _ ⋯ ⋯ ⋯ h1 λi a hi' e=> ?_
    rw [eg] at hc
    by_cases z:i=(lo+hi) / 2
    ·subst z;rw [em] at e;cases e;omega
    ·have:=h.lt em e ⋯
     omega
  ·rw [qa5 hlt]
   have e:lo=hi:=by omega
   subst e
   exact ⟨hs,h1,h2⟩
theorem zcG {xs:Array Nat} (h:Up xs) (j:Nat):SetTable.below xs j<=xs.size/\(∀ i a,i<SetTable.below xs j->xs[i]? = some a->a<j)/\(∀ i a,SetTable.below xs j<=i->xs[i]? = some a->j<=a):=
 zfF h j xs.size 0 xs.size ⋯ (zero_le _) (qaV _) (λ_ _ z=>absurd z (not_lt_zero _)) λi a z e=>by
  have:=(qab.mp e).1
  omega
theorem zff {xs:Array Nat} (h:Up xs) {k a:Nat} (e:xs[k]? = some a):SetTable.below xs (a+1)=k+1:=by
 obtain ⟨h1,h2,h3⟩:=zcG h (a+1)
 by_cases c:SetTable.below xs (a+1)<=k
 ·have:=h3 k a c e
  omega
 ·by_cases c2:k+1<SetTable.below xs (a+1)
  ·have hl:k+1<xs.size:=by omega
   have e2:xs[k+1]? = some xs[k+1]:=by simp [hl]
   have a1:=h2 (k+1) _ c2 e2
   have a2:=h.lt e e2 ⋯
   omega
  ·omega
theorem zeT {xs:Array Nat} (h:Up xs):SetTable.below xs 0=0:=by
 obtain ⟨h1,h2,h3⟩:=zcG h 0
 by_cases c:SetTable.below xs 0=0
 ·exact c
 ·have hl:0<xs.size:=by omega
  exact absurd (h2 0 _ ⋯ (show xs[0]? = some xs[0] by simp [hl])) (not_lt_zero _)
theorem zgb {xs:Array Nat} (h:Up xs) {j:Nat} (hn:xs[SetTable.below xs j]? ≠ some j):Up (SetTable.insertAt xs (SetTable.below xs j) j):=by
 obtain ⟨h1,h2,h3⟩:=zcG h j
 show (SetTable.insertAt xs (SetTable.below xs j) j).toList.Pairwise (· < ·)
 rw [SetTable.toList_insertAt]
 rw [qaq]
 have hsplit:xs.toList.take (SetTable.below xs j)++xs.toList.drop (SetTable.below xs j)=xs.toList:=qam ..
 have hp:(xs.toList.take (SetTable.below xs j)++xs.toList.drop (SetTable.below xs j)).Pairwise (· < ·):=by rw [hsplit];exact h
 obtain ⟨p1,p2,p3⟩:=qaq.mp hp
 have tk: ∀ a∈xs.toList.take (SetTable.below xs j),a<j:=λa ha=>by
  obtain ⟨i,hi⟩:=List.mem_iff_getElem?.mp ha
  rw [List.getElem?_take] at hi
  split at hi
  ·rename_i hlt
   exact h2 i a hlt (by simpa using hi)
  ·cases hi
 have dr: ∀ a∈xs.toList.drop (SetTable.below xs j),j<a:=λa ha=>by
  obtain ⟨i,hi⟩:=List.mem_iff_getElem?.mp ha
  rw [List.getElem?_drop] at hi
  have hi':xs[SetTable.below xs j+i]? = some a:=by simpa using hi
  have a1:=h3 _ a ⋯ hi'
  rcases Nat.lt_or_eq_of_le a1 with z | z
  ·exact z
  ·subst z
   exfalso
   cases i with
   | zero=>exact hn hi'
   | succ i=>
    have hl:=(qab.mp hi').1
    have e0:xs[SetTable.below xs j]? = some xs[SetTable.below xs j]:=by
     have:SetTable.below xs j<xs.size:=by omega
     simp [this]
    have b1:=h3 _ _ (qaV _) e0
    have b2:=h.lt e0 hi' ⋯
    omega
 refine ⟨p1,qay.mpr ⟨dr,p2⟩,λa ha b hb=> ?_⟩
 rcases qaP.mp hb with z | z
 ·rw [z];exact tk a ha
 ·exact p3 a ha b z
structure zg9 (t:SetTable) (led:Bool):Prop where
 up:Up t.place
 nod:t.dummies= #[]
 led:t.led=led
theorem zd1 {j:Nat}:SetTable.has #[] j=false:=by
 unfold SetTable.has
 simp
theorem zgE {t:SetTable} {led:Bool} (g:zg9 t led) {j:Nat} (h:t.slot j= .empty):t.place[SetTable.below t.place j]? ≠ some j:=λe=>by
 unfold SetTable.slot at h
 dsimp only at h
 rw [e] at h
 simp at h
theorem zhG {t:SetTable} {led:Bool} (g:zg9 t led) (f:Nat->Int) (h:Int): ∀ (fuel:Nat) (p:SetTable.Probe) (j:Nat) (d:Option Nat),p.dummy=none->SetTable.probe.go t f h fuel p=some (.empty j d)->t.slot j= .empty/\d=none
 | 0,_,_,_,_,e=>by cases e
 | fuel+1,p,j,d,hp,e=>by
  unfold SetTable.probe.go at e
  have adv: ∀ q:SetTable.Probe,q.dummy=none->(t.advance q).dummy=none:=λq hq=>by
   unfold SetTable.advance
   split<;>exact hq
  split at e
  ·rename_i hs
   cases e
   exact ⟨hs,hp⟩
  ·rename_i hs
   exfalso
   unfold SetTable.slot at hs
   dsimp only at hs
   rw [g.nod,zd1] at hs
   split at hs<;>simp at hs
  ·split at e
   ·cases e
   ·exact zhG g f h fuel _ j d (adv p hp) e
theorem zfM {t:SetTable} {led:Bool} (g:zg9 t led) {h:Int} {j:Nat} {b:Bool} (e:t.freeSlot h=some (j,b)):t.place[SetTable.below t.place j]? ≠ some j:=by
 unfold SetTable.freeSlot at e
 split at e
 ·rename_i j' d' hpr
  obtain ⟨h1,h2⟩:=zhG g _ _ _ _ _ _ rfl hpr
  subst h2
  cases e
  exact zgE g h1
 ·cases e
theorem zl4 (n:Nat):Up (Array.range n):=by
 show (Array.range n).toList.Pairwise (· < ·)
 rw [Array.toList_range]
 exact List.pairwise_lt_range
theorem zbJ {t:SetTable} {led:Bool} (g:zg9 t led) (n:Nat):zg9 (t.standIn n) led:=⟨zl4 n,rfl,g.led⟩
theorem zhf {t:SetTable} {led:Bool} (g:zg9 t led) (es:Array (Int×Value)) (h:Int) (x:Value):zg9 (layNew t es h x).2.1 led:=by
 unfold layNew
 split
 ·rename_i slot wasDummy e
  have g2:zg9 (t.put slot).1 led:=by
   refine ⟨zgb g.up (zfM g e),?_,g.led⟩
   show (if SetTable.has t.dummies slot then _ else t.dummies)= #[]
   rw [g.nod,zd1]
   rfl
  show zg9 ((t.put slot).1.orStandIn _) led
  unfold SetTable.orStandIn
  split
  ·exact g2
  ·exact zbJ g2 _
 ·exact zbJ g _
theorem zgi {mask finger moves:Nat} {led plain:Bool} {hs:Array Int} {t:SetTable} {o:Array Nat} (e:SetTable.laid mask finger moves led plain hs=some (t,o)):zg9 t led:=by
 unfold SetTable.laid at e
 cases z:SetTable.layClean mask hs with
 | none=>rw [z] at e;cases e
 | some owner=>
  rw [z] at e
  have e:some (({mask,place:=(((List.range (mask+1)).filterMap λj=>(owner.getD j none).map (j, ·)).map (·.1)).toArray,dummies:= #[],finger,led,moves,plain}:SetTable),_)=some (t,o):=e
  cases e
  refine ⟨?_,rfl,rfl⟩
  show (((List.range (mask+1)).filterMap λj=>(owner.getD j none).map (j, ·)).map (·.1)).toArray.toList.Pairwise (· < ·)
  rw [List.toList_toArray,List.map_filterMap]
  have sub:List.Sublist ((List.range (mask+1)).filterMap λj=>((owner.getD j none).map (j, ·)).map (·.1)) (List.range (mask+1)):=by
   generalize List.range (mask+1)=l
   induction l with
   | nil=>exact .slnil
   | cons a r ih=>
    rw [qat]
    cases q:owner.getD a none with
    | none=>exact ih.cons a
    | some v=>exact ih.cons₂ a
  exact List.pairwise_lt_range.sublist sub
theorem zfV {t:SetTable} {led:Bool} (g:zg9 t led) (es:Array (Int×Value)) (wanted:Nat):zg9 (relayAll t es wanted).2.1 led:=by
 unfold relayAll
 split
 ·rename_i t' order e
  have g2:zg9 t' t.led:=zgi e
  rw [g.led] at g2
  dsimp only
  split
  ·exact g2
  ·exact zbJ g _
 ·exact zbJ g _
def za6 (w:World):Bool:= !w.params.followText "set-order"
def zf1 (prog:Program) (w:World) (h:Heap) (a:Addr) (S:Int->Bool) (n:Nat):Prop:=
 ∃ ob es ep tb,(h.get? a=some ob/\ob.ExactSet/\ob.data= .set es ep tb)/\ElemsOf (intKind prog w) es.toList/\(∀ k,S k=true↔ ∃ e∈es.toList,(intKind prog w).is k e.2=true)/\
  (es.size<scanBound/\tb.fits es.size=true/\es.size=n)/\zg9 tb (za6 w)
theorem zf1.move {prog:Program} {w:World} {h h':Heap} {a:Addr} {S S':Int->Bool} {n n':Nat} (g:zf1 prog w h a S n) (k: ∀ ob,h.get? a=some ob->h'.get? a=some ob) (e: ∀ k,S k=S' k) (en:n=n'):zf1 prog w h' a S' n':=by
 obtain ⟨ob,es,ep,tb,⟨h1,h2,h3⟩,h4,h5,⟨h6,h7,h8⟩,h9⟩:=g
 exact ⟨ob,es,ep,tb,⟨k ob h1,h2,h3⟩,h4,λz=>by rw [<- e z];exact h5 z,⟨h6,h7,h8.trans en⟩,h9⟩
section
variable {prog:Program} {w:World} {A:Around} {E:Value->Shared->Prop} {s:Shared}
theorem stored {a:Addr} {ob:Obj} {es es':Array (Int×Value)} {ep:Nat} {tb tb':SetTable} {S:Int->Bool} {R:Unit->Shared->Prop} (ho:s.heap.get? a=some ob) (hx:ob.ExactSet) (hd:ob.data= .set es ep tb)
  (hE:ElemsOf (intKind prog w) es'.toList) (hS: ∀ k,S k=true↔ ∃ e∈es'.toList,(intKind prog w).is k e.2=true) (hb:es'.size<scanBound) (hf:tb'.fits es'.size=true) (hg:zg9 tb' (za6 w))
  (q: ∀ h',Heap.SameBut a s.heap h'->h'.get? a=some {ob with data:= .set es' (ep+1) tb'}->zf1 prog w h' a S es'.size->R () {s with heap:=h'}):wpAny (model prog w) A (storeSet a es' tb') R E s:=by
 have put:=putSet_of es' tb' hd
 have at1:(s.heap.update a (Obj.putSet es' tb')).get? a=some {ob with data:= .set es' (ep+1) tb'}:=by
  have z:=qal (Obj.putSet es' tb') ho (by rw [put];rfl)
  rwa [put] at z
 exact wpAny_storeSet_of ho hd (q _ (Heap.SameBut.update ..) at1 ⟨_,es',ep+1,tb',⟨at1,hx,rfl⟩,hE,hS,⟨hb,hf,rfl⟩,hg⟩) (fits_of_scanBound hb)
theorem zuf {a:Addr} {S:Int->Bool} {n:Nat} {k:Int} {t:Tok} {Q:Bool->Shared->Prop} (g:zf1 prog w s.heap a S n) (room:n+1<scanBound)
  (q: ∀ h' b,Heap.SameBut a s.heap h'->zf1 prog w h' a (λz=>S z || decide (z=k)) (if S k then n else n+1)->Q b {s with heap:=h'}):
  wpAny (model prog w) A (setAddHashed a (.int k t) ((intKind prog w).hash k)) Q E s:=by
 have kis:(intKind prog w).is k (.int k t)=true:=intKind_is _ _ _ _
 obtain ⟨ob,es,ep,tb,⟨h1,h2,h3⟩,h4,h5,⟨h6,h7,h8⟩,h9⟩:=g
 have scn:(Value.int k t).scannable=true:=rfl
 unfold setAddHashed setAddHashedIn
 refine qaO (qaW (wpAny_setState_of h1 h3 h7 ?_))
 dsimp only
 rw [qa4 (byScan_of scn h6 h4)]
 refine qaW ?_
 unfold setAddByScan
 refine qaW (wpAny_rule (qaW (wpAny_setScan_of kis h1 h3 h7 h4 ?_)))
 cases fi:List.findIdx? (λe=>(intKind prog w).is k e.2) es.toList with
 | some j=>
  obtain ⟨lj,pj,_⟩:=List.findIdx?_eq_some_iff_getElem.mp fi
  have inS:S k=true:=(h5 k).mpr ⟨_,getElem_mem lj,pj⟩
  refine qaX (qaX ?_)
  have z:=q s.heap false (Heap.SameBut.refl ..) ⟨ob,es,ep,tb,⟨h1,h2,h3⟩,h4,λy=> ?_,⟨h6,h7,by rw [inS];exact h8⟩,h9⟩
  ·exact z
  ·rw [<- h5 y,Bool.or_eq_true,qaD]
   exact ⟨λc=>c.elim id λc=>by rw [c];exact inS,.inl⟩
 | none=>
  have noS:S k=false:=by
   rw [<- Bool.not_eq_true,h5 k]
   rintro ⟨e,he,pe⟩
   have:=List.findIdx?_eq_none_iff.mp fi e he
   rw [pe] at this
   cases this
  have L1:=layNew_perm tb es ((intKind prog w).hash k) (.int k t)
  have L2:=layNew_fits tb es ((intKind prog w).hash k) (.int k t)
  have L3:=zhf h9 es ((intKind prog w).hash k) (.int k t)
  generalize hl:layNew tb es ((intKind prog w).hash k) (.int k t)=ln at L1 L2 L3 ⊢
  obtain ⟨es1,tb1,wd,gv⟩:=ln
  dsimp only at L1 L2 L3 ⊢
  rw [Array.toList_push] at L1
  have E1:ElemsOf (intKind prog w) es1.toList:=(h4.push kis scn).perm L1
  have M1: ∀ y,(S y || decide (y=k))=true↔ ∃ e∈es1.toList,(intKind prog w).is y e.2=true:=mem_push_iff kis h5 L1
  have Z1:es1.size=n+1:=by
   have z:=L1.length_eq
   rw [qav,qas,qas] at z
   rw [z,h8];rfl
  have B1:es1.size<scanBound:=by rw [Z1];exact room
  have quiet: ∀ (b:Bool) (s1:Shared) (R:Unit->Shared->Prop),R () s1->wpAny (model prog w) A (match b with | true=>rule "set.scan.the-table-gave-way" | false=>pure ()) R E s1:=λb s1 R z=>by
   cases b
   ·exact qaX z
   ·exact wpAny_rule z
  have fin: ∀ (s1:Shared) (h':Heap),s1={s with heap:=h'}->Heap.SameBut a s.heap h'->zf1 prog w h' a (λy=>S y || decide (y=k)) es1.size->Q true s1:=λs1 h' e1 sb gg=>by
   subst e1
   have z:=q h' true sb
   rw [noS] at z
   exact z (by rw [Z1] at gg;exact gg)
  refine qaW (quiet _ _ _ ?_)
  have tail: ∀ (gw:Bool->Sem Unit),(∀ (b:Bool) (s1:Shared) (R:Unit->Shared->Prop),R () s1->wpAny (model prog w) A (gw b) R E s1)->wpAny (model prog w) A (do
      storeSet a es1 tb1
      if (!wd && tb1.tooFull)=true then do
        gw (relayAll tb1 es1 (SetTable.grown es1.size)).2.2
        storeSet a (relayAll tb1 es1 (SetTable.grown es1.size)).1 (relayAll tb1 es1 (SetTable.grown es1.size)).2.1
        pure (some true)
      else pure (some true)) (λr s'=>wpAny (model prog w) A (match r with | some b=>pure b | none=>setAddHashedIn a (.int k t) ((intKind prog w).hash k) 99999) Q E s') E s:=by
   intro gw hgw
   refine qaW (stored h1 h2 h3 E1 M1 B1 L2 L3 λh' sb at1 gg=> ?_)
   by_cases full:(!wd && tb1.tooFull)=true
   ·rw [qa4 full]
    have P2:=relayAll_perm tb1 es1 (SetTable.grown es1.size)
    have F2:=relayAll_fits tb1 es1 (SetTable.grown es1.size)
    have G2:=zfV L3 es1 (SetTable.grown es1.size)
    generalize relayAll tb1 es1 (SetTable.grown es1.size)=rl at P2 F2 G2 ⊢
    obtain ⟨es2,tb2,gv2⟩:=rl
    dsimp only at P2 F2 G2 ⊢
    have Z2:es2.size=es1.size:=by
     have z:=P2.length_eq
     rwa [qas,qas] at z
    refine qaW (hgw _ _ _ (qaW (stored (s:={s with heap:=h'}) (S:=λy=>S y || decide (y=k)) at1 h2 rfl (E1.perm P2) (λy=>(M1 y).trans ?_) (by rw [Z2];exact B1) F2 G2 λh'' sb2 _ gg2=> ?_)))
    ·exact ⟨λ⟨e,he,pe⟩=>⟨e,P2.mem_iff.mpr he,pe⟩,λ⟨e,he,pe⟩=>⟨e,P2.mem_iff.mp he,pe⟩⟩
    ·exact qaX (qaX (fin _ h'' rfl (sb.trans sb2) (by rw [Z2] at gg2;exact gg2)))
   ·rw [qa5 full]
    exact qaX (qaX (fin _ h' rfl sb gg))
  split
  ·rw [hashByValue_scannable 8 scn]
   refine qaW (qaX ?_)
   exact tail _ λb s1 R z=>by cases b<;>first | exact qaX z | exact wpAny_rule z
  ·refine qaW (qaX ?_)
   exact tail _ λb s1 R z=>by cases b<;>first | exact qaX z | exact wpAny_rule z
end
section
variable {prog:Program} {w:World} {A:Around} {R:Result->Shared->Prop} {it:Addr} {fp wr:List Addr} {G:Array GenState->Array GenState->Prop} {n:Nat} {P:Nat->Value->Prop} {St:Nat->Shared->Prop}
theorem ztH (W:WalksS prog w A.in1 it fp wr G n P St) (a:Addr) (ha:a∉fp) (val:Nat->Int) (hval: ∀ i v,P i v-> ∃ t,v= .int (val i) t) (room:n+1<scanBound):
  ∀ (left i:Nat) (s:Shared),n - i=left->i<=n->St i s->zf1 prog w s.heap a (λz=>(firstMet val i).any (· == z)) (firstMet val i).length->
   (∀ s',Moved (a::wr) G s s'->zf1 prog w s'.heap a (λz=>(firstMet val n).any (· == z)) (firstMet val n).length->R (.ok (.ret .none)) s')->
   codeAny (model prog w) A (.builtin "set.update.loop" ⟨[.ref a,.ref it],[]⟩) R s:=by
 have awr:a∉wr:=λz=>ha (W.sub _ z)
 have more: ∀ b∈wr,b∈a::wr:=λb z=> .tail _ z
 intro left
 induction left with
 | zero=>
  intro i s hleft hin st g q
  obtain rfl:i=n:=by omega
  refine codeAny_builtin F.entry_set_update_loop ?_
  rw [qap F.plain_set_update_loop _]
  show wpAny _ _ (pyNext (.ref it)>>=_) _ _ _
  refine qaW (W.done s _ _ st λs' mv=> ?_)
  exact qaX (q s' (mv.mono more) (g.move (λob e=>mv.heap a ob awr e) (λ_=>rfl) rfl))
 | succ left ih=>
  intro i s hleft hin st g q
  have hi:i<n:=by omega
  refine codeAny_builtin F.entry_set_update_loop ?_
  rw [qap F.plain_set_update_loop _]
  show wpAny _ _ (pyNext (.ref it)>>=_) _ _ _
  refine qaW (W.item i s _ _ hi st λv s1 pv st1 mv=> ?_)
  obtain ⟨t,rfl⟩:=hval i v pv
  have g1:zf1 prog w s1.heap a (λz=>(firstMet val i).any (· == z)) (firstMet val i).length:=g.move (λob e=>mv.heap a ob awr e) (λ_=>rfl) rfl
  show wpAny _ _ (holding [Value.int (val i) t] (setAdd a (.int (val i) t))>>=_) _ _ _
  refine qaW (qaO ?_)
  unfold setAdd
  refine qaO (qaW ((intKind prog w).pyHash (k:=val i) (intKind_is _ _ _ _) ?_))
  have few:=firstMet_length_le val i
  refine zuf (s:={s1 with toks:=s1.toks+1}) g1 ⋯ λh2 b sb g2=> ?_
  have g3:zf1 prog w h2 a (λz=>(firstMet val (i+1)).any (· == z)) (firstMet val (i+1)).length:=
   g2.move (λ_ e=>e) (λz=>by rw [firstMet_succ,step_any]) (by rw [firstMet_succ,step_length])
  have off: ∀ b,b≠a->h2.get? b=s1.heap.get? b:=λb hb=>sb.2 b hb
  refine qaX ⟨plainId_quiet F.plain_set_update_loop _,ih (i+1) _ ⋯ hi (W.frame _ s1 _ _ st1 (le_succ _) λb hb ob e=> ?_) g3 λs3 mv3 g4=> ?_⟩
  ·rw [off b λz=>ha (z▸hb)]
   exact e
  ·refine q s3 (.trans W.gtrans ((mv.mono more).then_heap (le_succ _) λb ob hb e=> ?_) mv3) g4
   rw [off b λz=>hb (z▸ .head _)]
   exact e
end
section
variable {prog:Program} {w:World} {A:Around} {E:Value->Shared->Prop} {s:Shared}
theorem zna (h:Heap):zf1 prog w (h.push {cls:= .type "set",dict:=none,data:= .set #[] 0 (.fresh 0 0 (za6 w))}) h.objs.size (λ_=>false) 0:=
 ⟨_, #[],0,_,⟨qar _ rfl,⟨rfl,rfl,rfl⟩,rfl⟩,λe he=>by simp at he,λk=>by simp,⟨by decide,rfl,rfl⟩,⟨List.Pairwise.nil,rfl,rfl⟩⟩
theorem ztN (x:Value) {Q:Value->Shared->Prop} (q:Q (.ref s.heap.objs.size) {s with heap:=s.heap.push {cls:= .type "set",dict:=none,data:= .set #[] 0 (.fresh 0 0 (za6 w))}}):
  codeAny (model prog w) A (.call (.builtin "set.__new__") ⟨[.type "set",x],[]⟩) (wants Q E) s:=by
 refine codeAny_of_tree ?_
 show wpAny _ _ (do checkBuiltinCall "set.__new__" ⟨[.type "set",x],[]⟩;again (.builtin "set.__new__" ⟨[.type "set",x],[]⟩)) _ _ _
 refine qaW (wpAny_of_eq (F.newCall_set_1 x) (qaX ⟨plainId_quiet F.plain_set_new _,codeAny_builtin F.entry_set_new ?_⟩))
 rw [qap F.plain_set_new _]
 unfold Builtin.«set.__new__» Builtin.Frozenset.newClass
 have self:=sub_set_self
 obtain ⟨hp,gs,dr,tk,os⟩:=s
 dsimp only
 wp_walk
 refine wpAny_askSetting (qaX ?_)
 dsimp only
 simp only [newObj]
 exact qaW (wpAny_alloc (qaX (qaX q)))
theorem ztI {l:Addr} {T:String} {items:Array Value} {ns:List Int} {Q:Value->Shared->Prop} (hh:A.handled=none) (hT:(T="list"/\s.heap.IsList l items)\/(T="tuple"/\s.heap.IsTuple l items)) (hi:IntsAre items.toList ns) (room:items.size+1<scanBound)
  (q: ∀ (h':Heap) (tk:Nat),zf1 prog w h' s.heap.objs.size (λz=>(firstMet (λi=>ns.getD i 0) items.size).any (· == z)) (firstMet (λi=>ns.getD i 0) items.size).length->(∀ b ob,s.heap.get? b=some ob->h'.get? b=some ob)->
    Q (.ref s.heap.objs.size) {s with heap:=h',toks:=tk}):wpAny (model prog w) A (call (.type "set") [.ref l]) Q E s:=by
 obtain ⟨c,tl,hmro⟩:=F.called_set.mro
 have hmade:=F.called_set.made
 have hsub:=F.called_set.sub
 refine wpAny_call (codeAny_of_tree ?_)
 show wpAny _ _ (callAny (.type "set") _) _ _ _
 refine qaX ⟨Code.quiet_builtin _ ⋯,codeAny_builtin F.entry_type_call ?_⟩
 rw [Around.under_plain (weight_type_call_type "set" [.ref l] []) rfl]
 have hnt:=F.called_set.notType
 have hcc:=F.called_set.canCreate
 have htc:=F.typeCall_set_1 (.ref l)
 repeat' (first | assumption | wp_step)
 refine codeAny_mono (ztN (.ref l) (E:=E) (Q:=λv s1=>v= .ref s.heap.objs.size/\s1={s with heap:=s.heap.push {cls:= .type "set",dict:=none,data:= .set #[] 0 (.fresh 0 0 (za6 w))}}) ⟨rfl,rfl⟩) λr s1 hr=> ?_
 cases r with
 | error e=>exact hr
 | ok fl=>
  cases fl with
  | ret v=>
   obtain ⟨rfl,rfl⟩:=hr
   have laid:(s.heap.push {cls:= .type "set",dict:=none,data:= .set #[] 0 (.fresh 0 0 (za6 w))}).get? s.heap.objs.size=some {cls:= .type "set",dict:=none,data:= .set #[] 0 (.fresh 0 0 (za6 w))}:=qar _ rfl
   have isSet:Shared.TypeIs {s with heap:=s.heap.push {cls:= .type "set",dict:=none,data:= .set #[] 0 (.fresh 0 0 (za6 w))}} (.ref s.heap.objs.size) "set":=⟨_,laid,rfl⟩
   have hli:=F.called_set.init.lookup
   have hbi:=F.called_set.init.bind (.ref s.heap.objs.size)
   repeat' (first | assumption | wp_step)
   refine codeAny_mono (codeAny_call_builtin (R:=wants (λz s2=>z= .none/\ ∃ h' tk,s2={s with heap:=h',toks:=tk}/\
       zf1 prog w h' s.heap.objs.size (λz=>(firstMet (λi=>ns.getD i 0) items.size).any (· == z)) (firstMet (λi=>ns.getD i 0) items.size).length/\(∀ b ob,s.heap.get? b=some ob->h'.get? b=some ob)) E) F.called_set.init.plain F.entry_set_init (check_set_init_1 isSet ?_)) λr2 s2 hr2=> ?_
   ·have keepL: ∀ ob,s.heap.get? l=some ob->(s.heap.push {cls:= .type "set",dict:=none,data:= .set #[] 0 (.fresh 0 0 (za6 w))}).get? l=some ob:=λob e=>qag _ e
    have hval: ∀ (i:Nat) (v:Value),items[i]? = some v-> ∃ t,v= .int ((λi=>ns.getD i 0) i) t:=λi v hv=>IntsAre.int_at hi i v (by rw [qaj];exact hv)
    have hh3:A.in1.in1.in1.handled=none:=by simp [hh]
    have done1: ∀ (l0:Addr) (h0:Heap) (s':Shared),l0=s.heap.objs.size->Moved [l0,(s.heap.push {cls:= .type "set",dict:=none,data:= .set #[] 0 (.fresh 0 0 (za6 w))}).objs.size] (λa b=>b=a) {s with heap:=h0} s'->(∀ b ob,s.heap.get? b=some ob->h0.get? b=some ob)->
      (∀ b ob,s.heap.get? b=some ob->s'.heap.get? b=some ob)/\s'={s with heap:=s'.heap,toks:=s'.toks}:=λl0 h0 s' e0 mv k0=>by
     refine ⟨λb ob e=>mv.heap b ob (λz=> ?_) (k0 b ob e),?_⟩
     ·have lt:=qaQ e
      rw [qaL,e0] at z
      simp only [qaP,qaF,or_false] at z
      rcases z with z | z
      ·exact qaN _ (z▸lt)
      ·exact qaN _ (Nat.lt_of_succ_lt (z▸lt))
     ·obtain ⟨h',g',d',tk',os'⟩:=s'
      have eg:g'=s.gens:=mv.gens
      have ed:d'=s.drawn:=mv.drawn
      have eo:os'=s.os:=mv.os
      subst eg ed eo
      rfl
    unfold Builtin.«set.__init__» noKeywords Builtin.Frozenset.updateFrom
    generalize hPI:pyIter=PI
    rcases hT with ⟨rfl,hl⟩ | ⟨rfl,hl⟩
    ·obtain ⟨⟨ocl,odi,oda,osl⟩,hol,hcl,nl,hdl⟩:=hl
     simp only at hcl hdl
     subst hcl hdl
     have hol':=keepL _ hol
     have f1:=F.sub_list_set
     have f2:=F.sub_list_frozenset
     have f3:(Value.type "list"==Value.type "dict")=false:=by decide
     wp_walk
     subst hPI
     have hl1:(s.heap.push {cls:= .type "set",dict:=none,data:= .set #[] 0 (.fresh 0 0 (za6 w))}).IsList l items:=⟨_,hol',rfl,nl,rfl⟩
     refine wpAny_pyIter_list hl1 ?_
     refine qaW (wpAny_runValue ?_)
     have ltl:l<s.heap.objs.size:=qaQ hol
     have szp:(s.heap.push {cls:= .type "set",dict:=none,data:= .set #[] 0 (.fresh 0 0 (za6 w))}).objs.size=s.heap.objs.size+1:=qaL ..
     have ne1:l≠(s.heap.push {cls:= .type "set",dict:=none,data:= .set #[] 0 (.fresh 0 0 (za6 w))}).objs.size:=by rw [szp];exact qaR (lt_succ_of_lt ltl)
     have ne2:s.heap.objs.size∉[(s.heap.push {cls:= .type "set",dict:=none,data:= .set #[] 0 (.fresh 0 0 (za6 w))}).objs.size,l]:=by
      rw [szp]
      simp only [qaP,qaF,or_false]
      rintro (z | z)
      ·exact Nat.succ_ne_self _ z.symm
      ·exact qaN _ (z▸ltl)
     refine ztH ((Walks.list hh3 _ l ne1 items).toS) s.heap.objs.size ne2 (λi=>ns.getD i 0) hval room _ 0 _ rfl (zero_le _) ⟨⟨_,qar _ rfl,rfl,rfl⟩,hl1.push _⟩ ?g0 λs' mv gg=> ?_
     case g0=>exact (zna s.heap).move (λob e=>qag _ e) (λ_=>rfl) rfl
     obtain ⟨k1,k2⟩:=done1 _ _ s' rfl mv λb ob e=>qag _ (qag _ e)
     exact qaX (qaX ⟨rfl,s'.heap,s'.toks,k2,gg,k1⟩)
    ·obtain ⟨⟨ocl,odi,oda,osl⟩,hol,hcl,nl,hdl⟩:=hl
     simp only at hcl hdl
     subst hcl hdl
     have hol':=keepL _ hol
     have f1:=F.sub_tuple_set
     have f2:=F.sub_tuple_frozenset
     have f3:(Value.type "tuple"==Value.type "dict")=false:=by decide
     wp_walk
     subst hPI
     have hl1:(s.heap.push {cls:= .type "set",dict:=none,data:= .set #[] 0 (.fresh 0 0 (za6 w))}).IsTuple l items:=⟨_,hol',rfl,nl,rfl⟩
     refine wpAny_pyIter_tuple hl1 ?_
     refine qaW (wpAny_runValue ?_)
     have ltl:l<s.heap.objs.size:=qaQ hol
     have szp:(s.heap.push {cls:= .type "set",dict:=none,data:= .set #[] 0 (.fresh 0 0 (za6 w))}).objs.size=s.heap.objs.size+1:=qaL ..
     have ne1:l≠(s.heap.push {cls:= .type "set",dict:=none,data:= .set #[] 0 (.fresh 0 0 (za6 w))}).objs.size:=by rw [szp];exact qaR (lt_succ_of_lt ltl)
     have ne2:s.heap.objs.size∉[(s.heap.push {cls:= .type "set",dict:=none,data:= .set #[] 0 (.fresh 0 0 (za6 w))}).objs.size,l]:=by
      rw [szp]
      simp only [qaP,qaF,or_false]
      rintro (z | z)
      ·exact Nat.succ_ne_self _ z.symm
      ·exact qaN _ (z▸ltl)
     refine ztH ((Walks.tuple hh3 _ l ne1 items).toS) s.heap.objs.size ne2 (λi=>ns.getD i 0) hval room _ 0 _ rfl (zero_le _) ⟨⟨_,qar _ rfl,rfl,rfl⟩,⟨_,qag _ hol',rfl,nl,rfl⟩⟩ ?g0 λs' mv gg=> ?_
     case g0=>exact (zna s.heap).move (λob e=>qag _ e) (λ_=>rfl) rfl
     obtain ⟨k1,k2⟩:=done1 _ _ s' rfl mv λb ob e=>qag _ (qag _ e)
     exact qaX (qaX ⟨rfl,s'.heap,s'.toks,k2,gg,k1⟩)
   ·cases r2 with
    | error e=>exact hr2
    | ok fl2=>
     cases fl2 with
     | ret z=>
      obtain ⟨rfl,h',tk,rfl,gg,k1⟩:=hr2
      repeat' (first | assumption | wp_step)
      exact q _ _ gg k1
     | _=>exact hr2.elim
  | _=>exact hr.elim
end
theorem zaA:Slot "set_iterator" "__next__" "set_iterator.__next__":= .of (owner:="set_iterator") (n:="__next__") (by rw [typeLookup_type,builtinLookup_eq_fast];kernel_rfl) ⋯ ⋯ ⋯ (by first | exact .inl ⋯ | exact .inr ⋯) (by rw [isSubtype_type];kernel_rfl)
theorem zdm:Slot "set_iterator" "__iter__" "set_iterator.__iter__":= .of (owner:="set_iterator") (n:="__iter__") (by rw [typeLookup_type,builtinLookup_eq_fast];kernel_rfl) ⋯ ⋯ ⋯ (by first | exact .inl ⋯ | exact .inr ⋯) (by rw [isSubtype_type];kernel_rfl)
theorem zbV:entryFor table "set_iterator.__next__"=some Builtin.«set_iterator.__next__» := entryFor_of_tree (by kernel_rfl)
theorem zeI:entryFor table "set_iterator.__iter__"=some Builtin.«dict_keyiterator.__iter__» := entryFor_alias (id':="dict_keyiterator.__iter__") (by kernel_rfl) rfl ⋯ (by kernel_rfl)
theorem zch (a:Value):argsOk "set_iterator.__next__" ⟨[a],[]⟩:=by unfold argsOk;kernel_rfl
theorem zfg (a:Value):argsOk "set_iterator.__iter__" ⟨[a],[]⟩:=by unfold argsOk;kernel_rfl
theorem zeH:entryFor table "set.__iter__"=some Builtin.«frozenset.__iter__» := entryFor_alias (id':="frozenset.__iter__") (by kernel_rfl) rfl ⋯ (by kernel_rfl)
def SIt (h:Heap) (it a:Addr) (first:Value) (i n ep:Nat):Prop:=h.get? it=some {cls:= .type "set_iterator",dict:=none,data:= .fields #[first,.int i 0,.ref a,.int n 0,.int ep 0],slots:= #[]}
structure zie (h:Heap) (a:Addr) (es:Array (Int×Value)) (ep:Nat) (tb:SetTable):Prop where
 at_: ∃ ob,h.get? a=some ob/\ob.ExactSet/\ob.data= .set es ep tb
 fits:tb.fits es.size=true
section
variable {prog:Program} {w:World} {A:Around} {E:Value->Shared->Prop} {s:Shared}
theorem zli {it a:Addr} {first:Value} {i n ep:Nat} {es:Array (Int×Value)} {tb:SetTable} {Q:Option Value->Shared->Prop} (hI:SIt s.heap it a first i n ep) (hS:zie s.heap a es ep tb) (hn:es.size=n) (slot:Nat) (hf:first= .int slot 0)
  (q:wpAny (model prog w) A.in1 (do
    match<-setNext a slot i ep with
    | some (x,next)=>
      setField (.ref it) 0 (rawInt next)
      setField (.ref it) 1 (rawInt ((i:Int)+1))
      ret x
    | none=>setField (.ref it) 2 .none;raiseNew (<- newExc (.type "StopIteration") [])) (λf s'=> ∃ v,f= .done (.ret v)/\Q (some v) s') (λe s'=>wpAny (model prog w) A (do if<-isInstance e (.type "StopIteration") then pure none else throw e) Q E s') s):
  wpAny (model prog w) A (pyNext (.ref it)) Q E s:=by
 obtain ⟨ob,ho,hx,hd⟩:=hS.at_
 subst hf
 have tI:s.TypeIs (.ref it) "set_iterator":=⟨_,hI,rfl⟩
 unfold pyNext
 refine qaW (wpAny_attempt (wpAny_callSpecial?_slot (name:=Str.ofString "__next__") tI zaA (wpAny_call_entry zaA tI zbV ?_ (zch _))))
 unfold Builtin.«set_iterator.__next__»
 refine qaW (m:=slotArgs "__next__" 0 _) (qaX ?_)
 refine qaW (m:=fieldsOf (.ref it)) ?_
 unfold fieldsOf
 refine qaW (wpAny_load hI (qaX ?_))
 refine qaW (wpAny_setEntries_of ho hd hS.fits ?_)
 have same: ¬(((es.size:Nat):Int) != (n:Int))=true:=by rw [hn];simp
 rw [qa5 same]
 exact qaZ q (λf s' ⟨v,e,z⟩=>⟨v,e,qaX z⟩) λe s' z=>z
theorem zjH {it:Addr} {r:Shared->Prop} {Q:Option Value->Shared->Prop} (hh:A.handled=none) (q: ∀ h',(∀ b ob,s.heap.get? b=some ob->h'.get? b=some ob)->Q none {s with heap:=h'}):
  wpAny (model prog w) A.in1 (do raiseNew (<- newExc (.type "StopIteration") []):Sem PySem.Fin) (λf s'=> ∃ v,f= .done (.ret v)/\Q (some v) s') (λe s'=>wpAny (model prog w) A (do if<-isInstance e (.type "StopIteration") then pure none else throw e) Q E s') s:=by
 refine qaW ?_
 simp only [newExc,newTuple]
 refine qaW (qaC ?_ (by size_fits))
 refine qaW (m:=firstArgMember _ _) (wpAny_of_eq (a:=Value.none) (by first | rfl | (simp only [firstArgMember];rfl)) ?_)
 refine qaC ?_ (by size_fits)
 simp only [raiseNew]
 refine qaW (wpAny_handled ?_)
 rw [show A.in1.handled=none from hh]
 refine qaW (qaX (wpAny_throw ?_))
 refine qaW (wpAny_isInstance (T:="StopIteration") (b:=true) ⟨_,qar _ rfl,rfl⟩ isSubtype_stop ?_)
 exact qaX (q _ λb ob e=>qag _ (qag _ e))
theorem zeZ {es:Array (Int×Value)} {tb:SetTable} (hf:tb.fits es.size=true):tb.place.size=es.size:=by
 unfold SetTable.fits at hf
 simp only [qaG,beq_iff_eq] at hf
 exact hf.1
theorem zdd {a:Addr} {ep i slot:Nat} {es:Array (Int×Value)} {tb:SetTable} {R:Option (Value×Nat)->Shared->Prop} (hS:zie s.heap a es ep tb) (led:tb.led=true) (bt:w.params.followText "set-order"=false) (pl:(!tb.plain && decide (es.size>1))=false)
  (q:R (match es[SetTable.below tb.place slot]?, tb.place[SetTable.below tb.place slot]? with | some (_,x),some j=>some (x,j+1) | _,_=>none) s):wpAny (model prog w) A (setNext a slot i ep) R E s:=by
 obtain ⟨ob,ho,hx,hd⟩:=hS.at_
 unfold setNext
 refine qaW (wpAny_setState_of ho hd hS.fits ?_)
 dsimp only
 unfold setsByText
 refine qaW (qaW (wpAny_askSetting (qaX ?_)))
 dsimp only
 rw [show (model prog w).w.params.followText "set-order"=false from bt]
 simp only [qax,if_false]
 show wpAny _ _ (if (!tb.plain && decide (es.size>1))=true then _ else _) _ _ _
 rw [qa5 (by rw [pl];exact Bool.false_ne_true)]
 refine qaW ?_
 show wpAny _ _ (if (!tb.led && !es.isEmpty)=true then _ else _) _ _ _
 rw [qa5 (by rw [led];exact Bool.false_ne_true)]
 exact qaX (qaX q)
theorem zdL {a:Addr} {ep i slot:Nat} {es:Array (Int×Value)} {tb:SetTable} {R:Option (Value×Nat)->Shared->Prop} (hS:zie s.heap a es ep tb) (bt:w.params.followText "set-order"=true)
  (q:R (((pickOrder (w.params.setOrder a ep) es)[i]?).map λe=>(e.2,slot)) s):wpAny (model prog w) A (setNext a slot i ep) R E s:=by
 obtain ⟨ob,ho,hx,hd⟩:=hS.at_
 unfold setNext
 refine qaW (wpAny_setState_of ho hd hS.fits ?_)
 dsimp only
 unfold setsByText
 refine qaW (qaW (wpAny_askSetting (qaX ?_)))
 dsimp only
 rw [show (model prog w).w.params.followText "set-order"=true from bt]
 simp only [if_true]
 rw [qa5 (by simp)]
 refine qaW ?_
 unfold setWalk
 refine qaW (wpAny_setState_of ho hd hS.fits ?_)
 dsimp only
 unfold setsByText
 refine qaW (qaW (wpAny_askSetting (qaX ?_)))
 dsimp only
 rw [show (model prog w).w.params.followText "set-order"=true from bt]
 simp only [if_true]
 refine qaW (wpAny_askSetting (qaX (qaX q)))
theorem zkQ {it a:Addr} {n ep i slot nx:Nat} {x:Value} {es:Array (Int×Value)} {tb:SetTable} {Q:Option Value->Shared->Prop} (hI:SIt s.heap it a (.int slot 0) i n ep) (hS:zie s.heap a es ep tb) (hn:es.size=n)
  (st: ∀ (R:Option (Value×Nat)->Shared->Prop) (E':Value->Shared->Prop),R (some (x,nx)) s->wpAny (model prog w) A.in1 (setNext a slot i ep) R E' s)
  (q: ∀ h',SIt h' it a (.int nx 0) (i+1) n ep->Heap.SameBut it s.heap h'->Q (some x) {s with heap:=h'}):wpAny (model prog w) A (pyNext (.ref it)) Q E s:=by
 refine zli hI hS hn slot rfl (qaW (st _ _ ?_))
 dsimp only
 refine qaW (wpAny_setField_rec hI (by simp) λh1 a1 sb1=> ?_)
 refine qaW (wpAny_setField_rec (s:={s with heap:=h1}) a1 (by simp) λh2 a2 sb2=> ?_)
 refine qaX ⟨x,rfl,q h2 ?_ (sb1.trans sb2)⟩
 unfold SIt
 rw [a2]
 simp [rawInt]
theorem zng {it a:Addr} {n ep i slot:Nat} {es:Array (Int×Value)} {tb:SetTable} {Q:Option Value->Shared->Prop} (hh:A.handled=none) (hI:SIt s.heap it a (.int slot 0) i n ep) (hS:zie s.heap a es ep tb) (hn:es.size=n)
  (st: ∀ (R:Option (Value×Nat)->Shared->Prop) (E':Value->Shared->Prop),R none s->wpAny (model prog w) A.in1 (setNext a slot i ep) R E' s)
  (q: ∀ h',(∀ b ob,b≠it->s.heap.get? b=some ob->h'.get? b=some ob)->Q none {s with heap:=h'}):wpAny (model prog w) A (pyNext (.ref it)) Q E s:=by
 refine zli hI hS hn slot rfl (qaW (st _ _ ?_))
 dsimp only
 refine qaW (wpAny_setField_rec hI (by simp) λh1 a1 sb1=> ?_)
 exact zjH (r:=λ_=>True) (it:=it) (s:={s with heap:=h1}) hh λh' k=>q h' λb ob hb e=>k b ob ((sb1.2 b hb).trans e)
end
theorem zcI {α:Type}: ∀ {l:List α} {i:Nat} {x:α},l[i]? = some x->List.Perm l (x::l.eraseIdx i)
 | [],_,_,e=>by simp at e
 | a::r,0,x,e=>by simp at e;subst e;exact .rfl
 | a::r,i+1,x,e=>by
  have e:r[i]? = some x:=by simpa using e
  exact ((zcI e).cons a).trans (.swap x a _)
theorem zdI {α:Type} {l:List α} {i:Nat} {x:α} (e:l[i]? = some x):(l.eraseIdx i).length+1=l.length:=by
 have:=(zcI e).length_eq
 rw [qaE] at this
 exact this.symm
theorem zgH {α:Type} (nx:Nat->Nat): ∀ (fuel k:Nat) (left:List α) (out:Array α),left.length=fuel->List.Perm (pickOrder.go nx fuel k left out).toList (out.toList++left)
 | 0,k,left,out,h=>by
  have:left=[]:=List.length_eq_zero_iff.mp h
  subst this
  simp [pickOrder.go]
 | fuel+1,k,left,out,h=>by
  unfold pickOrder.go
  have hl:nx k % left.length<left.length:=mod_lt _ ⋯
  have e:left[nx k % left.length]? = some left[nx k % left.length]:=by simp [hl]
  rw [e]
  dsimp only
  have hz:=zdI e
  refine (zgH nx fuel (k+1) _ _ ⋯).trans ?_
  rw [Array.toList_push,List.append_assoc]
  exact List.Perm.append_left _ (zcI e).symm
theorem zbR {α:Type} (nx:Nat->Nat) (xs:Array α):List.Perm (pickOrder nx xs).toList xs.toList:=by
 have:=zgH nx xs.size 0 xs.toList #[] (by simp)
 simpa [pickOrder] using this
section
variable {prog:Program} {w:World} {A:Around} {E:Value->Shared->Prop} {s:Shared}
theorem ziJ {src:Source} {n:Nat} {Q:Nat->Shared->Prop} (hn:n≠0) (q: ∀ k d,k<n->Q k {s with drawn:=d}):wpAny (model prog w) A (choose src n) Q E s:=λΓ p hΓ=>⟨hn,q _ _ (mod_lt _ (Nat.pos_of_ne_zero hn))⟩
theorem zdJ {α:Type}: ∀ (fuel:Nat) (xs:List α) (s:Shared) (Q:List α->Shared->Prop),xs.length<=fuel->(∀ ys d,List.Perm ys xs->Q ys {s with drawn:=d})->wpAny (model prog w) A (drawOrder fuel xs) Q E s
 | 0,xs,s,Q,h,q=>by
  have:xs=[]:=List.length_eq_zero_iff.mp ⋯
  subst this
  unfold drawOrder
  exact qaX (q [] s.drawn .rfl)
 | fuel+1,[],s,Q,h,q=>by
  unfold drawOrder
  exact qaX (q [] s.drawn .rfl)
 | fuel+1,x::r,s,Q,h,q=>by
  unfold drawOrder
  refine qaW (ziJ (by simp) λk d hk=> ?_)
  have e:(x::r)[k]? = some (x::r)[k]:=by simp [hk]
  rw [e]
  dsimp only
  have hz:=zdI e
  refine qaW (zdJ fuel ((x::r).eraseIdx k) {s with drawn:=d} _ ⋯ λys d' p=>qaX ?_)
  exact q _ d' ((p.cons _).trans (zcI e).symm)
theorem ziM {it a tp:Addr} {n ep i p:Nat} {x:Value} {es:Array (Int×Value)} {tb:SetTable} {ps:Array Value} {Q:Option Value->Shared->Prop} (hI:SIt s.heap it a (.ref tp) i n ep) (hS:zie s.heap a es ep tb) (hn:es.size=n)
  (hT:s.heap.get? tp=some {cls:= .type "tuple",data:= .seq ps}) (hp:ps[i]? = some (.int (p:Nat) 0)) (he:(es[p]?).map (·.2)=some x)
  (q: ∀ h',SIt h' it a (.ref tp) (i+1) n ep->Heap.SameBut it s.heap h'->Q (some x) {s with heap:=h'}):wpAny (model prog w) A (pyNext (.ref it)) Q E s:=by
 obtain ⟨ob,ho,hx,hd⟩:=hS.at_
 have tI:s.TypeIs (.ref it) "set_iterator":=⟨_,hI,rfl⟩
 unfold pyNext
 refine qaW (wpAny_attempt (wpAny_callSpecial?_slot (name:=Str.ofString "__next__") tI zaA (wpAny_call_entry zaA tI zbV ?_ (zch _))))
 unfold Builtin.«set_iterator.__next__»
 refine qaW (m:=slotArgs "__next__" 0 _) (qaX ?_)
 refine qaW (m:=fieldsOf (.ref it)) ?_
 unfold fieldsOf
 refine qaW (wpAny_load hI (qaX ?_))
 refine qaW (wpAny_setEntries_of ho hd hS.fits ?_)
 have same: ¬(((es.size:Nat):Int) != (n:Int))=true:=by rw [hn];simp
 rw [qa5 same]
 refine qaW (m:=seqItems? (.ref tp)) ?_
 unfold seqItems?
 refine qaW (wpAny_load hT (qaX ?_))
 dsimp only
 rw [show ((i:Nat):Int).toNat=i from qaB i,hp]
 dsimp only
 refine qaW (m:=setNextDrawn a _ _) ?_
 unfold setNextDrawn
 refine qaW (wpAny_setState_of ho hd hS.fits ?_)
 dsimp only
 rw [show ((ep:Nat):Int).toNat=ep from qaB ep,show ((p:Nat):Int).toNat=p from qaB p,qa5 (by simp)]
 cases ee:es[p]? with
 | none=>rw [ee] at he;cases he
 | some e=>
  rw [ee] at he
  cases he
  dsimp only
  refine qaX ?_
  refine qaW (wpAny_setField_rec hI (by simp) λh2 a2 sb2=> ?_)
  refine qaX ⟨_,rfl,qaX (q h2 ?_ sb2)⟩
  unfold SIt
  rw [a2]
  simp [rawInt]
theorem zju {it a tp:Addr} {n ep i:Nat} {es:Array (Int×Value)} {tb:SetTable} {ps:Array Value} {Q:Option Value->Shared->Prop} (hh:A.handled=none) (hI:SIt s.heap it a (.ref tp) i n ep) (hS:zie s.heap a es ep tb) (hn:es.size=n)
  (hT:s.heap.get? tp=some {cls:= .type "tuple",data:= .seq ps}) (hp:ps[i]? = none)
  (q: ∀ h',(∀ b ob,b≠it->s.heap.get? b=some ob->h'.get? b=some ob)->Q none {s with heap:=h'}):wpAny (model prog w) A (pyNext (.ref it)) Q E s:=by
 obtain ⟨ob,ho,hx,hd⟩:=hS.at_
 have tI:s.TypeIs (.ref it) "set_iterator":=⟨_,hI,rfl⟩
 unfold pyNext
 refine qaW (wpAny_attempt (wpAny_callSpecial?_slot (name:=Str.ofString "__next__") tI zaA (wpAny_call_entry zaA tI zbV ?_ (zch _))))
 unfold Builtin.«set_iterator.__next__»
 refine qaW (m:=slotArgs "__next__" 0 _) (qaX ?_)
 refine qaW (m:=fieldsOf (.ref it)) ?_
 unfold fieldsOf
 refine qaW (wpAny_load hI (qaX ?_))
 refine qaW (wpAny_setEntries_of ho hd hS.fits ?_)
 have same: ¬(((es.size:Nat):Int) != (n:Int))=true:=by rw [hn];simp
 rw [qa5 same]
 refine qaW (m:=seqItems? (.ref tp)) ?_
 unfold seqItems?
 refine qaW (wpAny_load hT (qaX ?_))
 dsimp only
 rw [show ((i:Nat):Int).toNat=i from qaB i,hp]
 dsimp only
 refine qaW (wpAny_setField_rec hI (by simp) λh1 a1 sb1=> ?_)
 refine qaW (wpAny_setField_rec (s:={s with heap:=h1}) a1 (by simp) λh2 a2 sb2=> ?_)
 refine qaZ (zjH (Q:=Q) (E:=E) (r:=λ_=>True) (it:=it) (s:={s with heap:=h2}) hh λh' k=>q h' λb ob hb e=>k b ob ((sb2.2 b hb).trans ((sb1.2 b hb).trans e))) (λf s' ⟨v,e,z⟩=>⟨v,e,qaX z⟩) λe s' z=>z
theorem zej {it a:Addr} {first:Value} {i n ep:Nat} {Q:Value->Shared->Prop} (hI:SIt s.heap it a first i n ep) (q:Q (.ref it) s):wpAny (model prog w) A (pyIter (.ref it)) Q E s:=by
 have tI:s.TypeIs (.ref it) "set_iterator":=⟨_,hI,rfl⟩
 refine wpAny_pyIter_slot tI zdm (wpAny_call_entry zdm tI zeI ?_ (zfg _))
 show wpAny _ _ (ret (.ref it)) _ _ _
 exact qaX ⟨_,rfl,"set_iterator",_,tI,zaA.lookup,q⟩
theorem zie.keep {h h':Heap} {a:Addr} {es:Array (Int×Value)} {ep:Nat} {tb:SetTable} (x:zie h a es ep tb) (k: ∀ ob,h.get? a=some ob->h'.get? a=some ob):zie h' a es ep tb:=
 ⟨let ⟨ob,h1,h2⟩:=x.at_;⟨ob,k ob h1,h2⟩,x.fits⟩
def zgl (tb:SetTable):Nat->Nat
 | 0=>0
 | i+1=>tb.place.getD i 0+1
theorem zi8 (hh:A.handled=none) {it a:Addr} {ep:Nat} {es:Array (Int×Value)} {tb:SetTable} (hne:a≠it) (up:Up tb.place) (led:tb.led=true) (bt:w.params.followText "set-order"=false) (pl:(!tb.plain && decide (es.size>1))=false) (hf:tb.fits es.size=true):
  Walks prog w A it [it,a] [it] es.size (λi v=> ∃ e,es.toList[i]? = some e/\v=e.2) (λi h=>SIt h it a (.int (zgl tb i:Nat) 0) i es.size ep/\zie h a es ep tb) where
 sub:=λb hb=>by simp at hb;simp [hb]
 frame:=λi h h' st k=>⟨k it (by simp) _ st.1,st.2.keep λob e=>k a (by simp) ob e⟩
 item:=λi s Q E hi st q=>by
  have pz:=zeZ hf
  have hi2:i<tb.place.size:=by omega
  have bl:SetTable.below tb.place (zgl tb i)=i:=by
   cases i with
   | zero=>exact zeT up
   | succ i=>
    have hi3:i<tb.place.size:=by omega
    have e:tb.place[i]? = some (tb.place.getD i 0):=by simp [hi3,Array.getD]
    exact zff up e
  have ep':tb.place.getD i 0=tb.place[i]:=by simp [hi2,Array.getD]
  refine zkQ (nx:=zgl tb (i+1)) (x:=es[i].2) st.1 st.2 rfl (λR E' r=>zdd st.2 led bt pl ?_) λh' a1 sb=> ?_
  ·rw [bl]
   have e1:es[i]? = some es[i]:=by simp [hi]
   have e2:tb.place[i]? = some tb.place[i]:=by simp [hi2]
   rw [e1,e2]
   show R (some (es[i].2,tb.place[i]+1)) s
   have e3:zgl tb (i+1)=tb.place[i]+1:=by show tb.place.getD i 0+1=_;rw [ep']
   rw [<- e3]
   exact r
  ·exact q _ h' s.toks ⟨es[i],by simp [hi],rfl⟩ ⟨a1,st.2.keep λob e=>(sb.2 a hne).trans e⟩ λb ob hb e=>(sb.2 b λz=>hb (by simp [z])).trans e
 done:=λs Q E st q=>by
  have pz:=zeZ hf
  have bl:SetTable.below tb.place (zgl tb es.size)=es.size:=by
   cases hz:es.size with
   | zero=>exact zeT up
   | succ i=>
    have hi3:i<tb.place.size:=by omega
    have e:tb.place[i]? = some (tb.place.getD i 0):=by simp [hi3,Array.getD]
    exact zff up e
  refine zng hh st.1 st.2 rfl (λR E' r=>zdd st.2 led bt pl ?_) λh' k=>q h' s.toks λb ob hb e=>k b ob (λz=>hb (by simp [z])) e
  rw [bl]
  have e1:es[es.size]? = none:=by simp
  rw [e1]
  exact r
 self:=λi s Q E st q=>zej st.1 q
theorem zjs (hh:A.handled=none) {it a:Addr} {ep:Nat} {es:Array (Int×Value)} {tb:SetTable} (hne:a≠it) (bt:w.params.followText "set-order"=true) (hf:tb.fits es.size=true):
  Walks prog w A it [it,a] [it] es.size (λi v=> ∃ e,(pickOrder (w.params.setOrder a ep) es).toList[i]? = some e/\v=e.2) (λi h=>SIt h it a (.int (0:Nat) 0) i es.size ep/\zie h a es ep tb) where
 sub:=λb hb=>by simp at hb;simp [hb]
 frame:=λi h h' st k=>⟨k it (by simp) _ st.1,st.2.keep λob e=>k a (by simp) ob e⟩
 item:=λi s Q E hi st q=>by
  have pz:(pickOrder (w.params.setOrder a ep) es).size=es.size:=by
   have:=(zbR (w.params.setOrder a ep) es).length_eq
   simpa using this
  have hi2:i<(pickOrder (w.params.setOrder a ep) es).size:=by omega
  refine zkQ (nx:=0) (x:=(pickOrder (w.params.setOrder a ep) es)[i].2) st.1 st.2 rfl (λR E' r=>zdL st.2 bt ?_) λh' a1 sb=> ?_
  ·have e1:(pickOrder (w.params.setOrder a ep) es)[i]? = some (pickOrder (w.params.setOrder a ep) es)[i]:=by simp [hi2]
   rw [e1]
   exact r
  ·exact q _ h' s.toks ⟨(pickOrder (w.params.setOrder a ep) es)[i],by simp [hi2],rfl⟩ ⟨a1,st.2.keep λob e=>(sb.2 a hne).trans e⟩ λb ob hb e=>(sb.2 b λz=>hb (by simp [z])).trans e
 done:=λs Q E st q=>by
  have pz:(pickOrder (w.params.setOrder a ep) es).size=es.size:=by
   have:=(zbR (w.params.setOrder a ep) es).length_eq
   simpa using this
  refine zng hh st.1 st.2 rfl (λR E' r=>zdL st.2 bt ?_) λh' k=>q h' s.toks λb ob hb e=>k b ob (λz=>hb (by simp [z])) e
  have e1:(pickOrder (w.params.setOrder a ep) es)[es.size]? = none:=by simp [pz]
  rw [e1]
  exact r
 self:=λi s Q E st q=>zej st.1 q
theorem ziO (hh:A.handled=none) {it a tp:Addr} {ep:Nat} {es:Array (Int×Value)} {tb:SetTable} {ys:List Nat} (hne:a≠it) (hne2:tp≠it) (hp:List.Perm ys (List.range es.size)):
  Walks prog w A it [it,a,tp] [it] es.size (λi v=> ∃ e,(ys.filterMap (es[·]?))[i]? = some e/\v=e.2) (λi h=>SIt h it a (.ref tp) i es.size ep/\zie h a es ep tb/\h.get? tp=some {cls:= .type "tuple",data:= .seq (ys.map λ(i:Nat)=>rawInt i).toArray}) where
 sub:=λb hb=>by simp at hb;simp [hb]
 frame:=λi h h' st k=>⟨k it (by simp) _ st.1,st.2.1.keep λob e=>k a (by simp) ob e,k tp (by simp) _ st.2.2⟩
 item:=λi s Q E hi st q=>by
  have hl:ys.length=es.size:=by simpa using hp.length_eq
  have hi2:i<ys.length:=by omega
  have lt: ∀ y∈ys,y<es.size:=λy hy=>by simpa using hp.mem_iff.mp hy
  have lti:=lt _ (getElem_mem hi2)
  have fm: ∀ (zs:List Nat),(∀ y∈zs,y<es.size)-> ∀ (j:Nat) (y:Nat),zs[j]? = some y->(zs.filterMap (es[·]?))[j]? = es[y]? := by
   intro zs
   induction zs with
   | nil=>intro _ j y e;simp at e
   | cons z r ih=>
    intro hz j y e
    have lz:=hz z (.head _)
    rw [List.filterMap_cons_some (b:=es[z]) (by simp [lz])]
    cases j with
    | zero=>simp at e;subst e;simp [lz]
    | succ j=>simpa using ih (λy hy=>hz y (.tail _ hy)) j y (by simpa using e)
  refine ziM (p:=ys[i]) (x:=es[ys[i]].2) st.1 st.2.1 rfl st.2.2 (by simp [hi2,rawInt]) (by simp [lti]) λh' a1 sb=> ?_
  refine q _ h' s.toks ⟨es[ys[i]],?_,rfl⟩ ⟨a1,st.2.1.keep λob e=>(sb.2 a hne).trans e,(sb.2 tp hne2).trans st.2.2⟩ λb ob hb e=>(sb.2 b λz=>hb (by simp [z])).trans e
  rw [fm ys lt i ys[i] (by simp [hi2])]
  simp [lti]
 done:=λs Q E st q=>by
  have hl:ys.length=es.size:=by simpa using hp.length_eq
  exact zju hh st.1 st.2.1 rfl st.2.2 (by simp [hl]) λh' k=>q h' s.toks λb ob hb e=>k b ob (λz=>hb (by simp [z])) e
 self:=λi s Q E st q=>zej st.1 q
end
section
variable {prog:Program} {w:World} {A:Around} {E:Value->Shared->Prop} {s:Shared}
structure zox (prog:Program) (w:World) (a it:Addr) (es:Array (Int×Value)) (ord:List (Int×Value)) (fp:List Addr) (St:Nat->Heap->Prop):Prop where
 walks: ∀ A:Around,A.handled=none->Walks prog w A it fp [it] es.size (λi v=> ∃ e,ord[i]? = some e/\v=e.2) St
 perm:List.Perm ord es.toList
 mem:it∈fp
theorem zsQ {a:Addr} {S:Int->Bool} {n:Nat} {Q:Value->Shared->Prop} (g:zf1 prog w s.heap a S n)
  (q: ∀ it es ep tb ord fp St h' d,(∃ ob,s.heap.get? a=some ob/\ob.ExactSet/\ob.data= .set es ep tb)->zox prog w a it es ord fp St->St 0 h'->s.heap.objs.size<=it->(∀ b ob,s.heap.get? b=some ob->h'.get? b=some ob)->(∀ b∈fp,b=a\/s.heap.objs.size<=b)->es.size<scanBound->
    Q (.ref it) {s with heap:=h',drawn:=d}):wpAny (model prog w) A (pyIter (.ref a)) Q E s:=by
 obtain ⟨ob,es,ep,tb,⟨h1,h2,h3⟩,h4,h5,⟨h6,h7,h8⟩,h9⟩:=g
 have tS:s.TypeIs (.ref a) "set":=⟨ob,h1,h2.1⟩
 have lta:a<s.heap.objs.size:=qaQ h1
 refine wpAny_pyIter_slot tS F.slot_set_iter (wpAny_call_entry F.slot_set_iter tS zeH ?_ (F.args_set_iter_1 _))
 unfold Builtin.«frozenset.__iter__»
 refine qaW (m:=Builtin.Frozenset.slot0 "__iter__" _) (qaX ?_)
 refine qaW (m:=Builtin.Frozenset.sizeOf a) ?_
 unfold Builtin.Frozenset.sizeOf
 refine qaW (wpAny_setEntries_of h1 h3 h7 (qaX ?_))
 refine qaW (m:=setDrawn a) ?_
 unfold setDrawn
 refine qaW (wpAny_setState_of h1 h3 h7 ?_)
 dsimp only
 unfold setsByText
 refine qaW (qaW (wpAny_askSetting (qaX (qaX ?_))))
 dsimp only
 have sobj: ∀ {h':Heap},(∀ b ob,s.heap.get? b=some ob->h'.get? b=some ob)->zie h' a es ep tb:=λk=>⟨⟨ob,k _ _ h1,h2,h3⟩,h7⟩
 by_cases dr:(!(model prog w).w.params.followText "set-order" && (!tb.plain && decide (es.size>1)))=true
 ·show wpAny _ _ (if (!(model prog w).w.params.followText "set-order" && (!tb.plain && decide (es.size>1)))=true then _ else _) _ _ _
  rw [qa4 dr]
  refine qaW (zdJ es.size (List.range es.size) s _ (by simp) λys d hp=> ?_)
  have hl:ys.length=es.size:=by simpa using hp.length_eq
  have small:es.size<=sizeLine:=fits_of_scanBound h6
  refine qaW ?_
  unfold newTuple
  refine qaC ?_ (by show (ys.map λ(i:Nat)=>rawInt i).toArray.size<=sizeLine;simp [hl];exact small)
  unfold setEpoch
  refine qaW (qaW (wpAny_setState_of (s:={s with heap:=_,drawn:=d}) (qag _ h1) h3 h7 (qaX ?_)))
  dsimp only
  refine qaW (qaC (qaX ⟨_,rfl,"set_iterator",_,⟨_,qar _ rfl,rfl⟩,zaA.lookup,?_⟩))
  have z1:(s.heap.push {cls:= .type "tuple",dict:=none,data:= .seq (ys.map λ(i:Nat)=>rawInt i).toArray}).objs.size=s.heap.objs.size+1:=qaL ..
  have kp: ∀ (o2:Obj) b ob,s.heap.get? b=some ob->((s.heap.push {cls:= .type "tuple",dict:=none,data:= .seq (ys.map λ(i:Nat)=>rawInt i).toArray}).push o2).get? b=some ob:=λo2 b ob e=>qag _ (qag _ e)
  refine q _ es ep tb (ys.filterMap (es[·]?)) [(s.heap.push {cls:= .type "tuple",dict:=none,data:= .seq (ys.map λ(i:Nat)=>rawInt i).toArray}).objs.size,a,s.heap.objs.size] _ _ d ⟨ob,h1,h2,h3⟩ ⟨λA' hA=>ziO (tb:=tb) (ep:=ep) hA ?_ ?_ hp,?_,.head _⟩ ⟨?_,sobj (kp _),?_⟩ ?_ (kp _) (λb hb=> ?_) h6
  ·rw [z1];exact qaR (lt_succ_of_lt lta)
  ·rw [z1];exact qaR (Nat.lt_succ_self _)
  ·refine (hp.filterMap _).trans ?_
   rw [filterMap_getElem?_range]
  ·exact qar _ rfl
  ·exact qag _ (qar _ rfl)
  ·rw [z1];exact le_succ _
  ·simp only [qaP,qaF,or_false] at hb
   rcases hb with z | z | z
   ·right;rw [z,z1];exact le_succ _
   ·exact .inl z
   ·right;rw [z];exact qaV _
 ·show wpAny _ _ (if (!(model prog w).w.params.followText "set-order" && (!tb.plain && decide (es.size>1)))=true then _ else _) _ _ _
  rw [qa5 dr]
  refine qaW (qaX ?_)
  unfold setEpoch
  refine qaW (qaW (wpAny_setState_of h1 h3 h7 (qaX ?_)))
  dsimp only
  refine qaW (qaC (qaX ⟨_,rfl,"set_iterator",_,⟨_,qar _ rfl,rfl⟩,zaA.lookup,?_⟩))
  have kp: ∀ (o2:Obj) b ob,s.heap.get? b=some ob->(s.heap.push o2).get? b=some ob:=λo2 b ob e=>qag _ e
  have fpl: ∀ b∈[s.heap.objs.size,a],b=a\/s.heap.objs.size<=b:=λb hb=>by
   simp only [qaP,qaF,or_false] at hb
   rcases hb with z | z
   ·right;rw [z];exact qaV _
   ·exact .inl z
  cases bt:w.params.followText "set-order" with
  | true=>
   exact q _ es ep tb _ [s.heap.objs.size,a] _ _ s.drawn ⟨ob,h1,h2,h3⟩ ⟨λA' hA=>zjs (tb:=tb) (ep:=ep) hA (qaR lta) bt h7,zbR _ _,.head _⟩ ⟨qar _ rfl,sobj (kp _)⟩ (qaV _) (kp _) fpl h6
  | false=>
   have pl:(!tb.plain && decide (es.size>1))=false:=by
    rw [show (model prog w).w.params.followText "set-order"=false from bt] at dr
    simpa using dr
   have led:tb.led=true:=by
    rw [h9.led]
    unfold za6
    rw [bt]
    rfl
   exact q _ es ep tb _ [s.heap.objs.size,a] _ _ s.drawn ⟨ob,h1,h2,h3⟩ ⟨λA' hA=>zi8 (tb:=tb) (ep:=ep) hA (qaR lta) h9.up led bt pl h7,.rfl,.head _⟩ ⟨qar _ rfl,sobj (kp _)⟩ (qaV _) (kp _) fpl h6
theorem zmB {a:Addr} {S:Int->Bool} {n:Nat} {Q:List Value->Shared->Prop} (hh:A.handled=none) (g:zf1 prog w s.heap a S n)
  (q: ∀ vs s' es ep tb,(∃ ob,s.heap.get? a=some ob/\ob.ExactSet/\ob.data= .set es ep tb)->List.Perm vs (es.toList.map (·.2))->(∀ b ob,s.heap.get? b=some ob->s'.heap.get? b=some ob)->s'.gens=s.gens->s'.os=s.os->Q vs s'):wpAny (model prog w) A (collect (.ref a)) Q E s:=by
 have tS: ∀ {h':Heap} {s':Shared},s'.heap=h'->(∀ b ob,s.heap.get? b=some ob->h'.get? b=some ob)->s'.TypeIs (.ref a) "set":=λ{h' s'} e k=>by
  obtain ⟨ob,es,ep,tb,⟨h1,h2,h3⟩,_⟩:=g
  exact ⟨ob,by rw [e];exact k _ _ h1,h2.1⟩
 have lta:a<s.heap.objs.size:=by
  obtain ⟨ob,es,ep,tb,⟨h1,h2,h3⟩,_⟩:=g
  exact qaQ h1
 unfold collect
 refine qaW (wpAny_runValue (codeAny_builtin F.entry_proto_collect ?_))
 rw [qap F.plain_proto_collect _]
 show wpAny _ _ (newList []>>=λl=>again (.builtin "list.__iadd__" ⟨[l,.ref a],[]⟩)) _ _ _
 refine qaW (qaC (qaX ⟨plainId_quiet F.plain_list_iadd _,codeAny_builtin F.entry_list_iadd ?_⟩))
 rw [qap F.plain_list_iadd _]
 show wpAny _ _ (Builtin.List.listExtendWith (.ref s.heap.objs.size) (.ref a) (.ref s.heap.objs.size)) _ _ _
 unfold Builtin.List.listExtendWith
 have k1: ∀ b ob,s.heap.get? b=some ob->(s.heap.push {cls:= .type "list",data:= .seq ([]:List Value).toArray}).get? b=some ob:=λb ob e=>qag _ e
 refine qaW (wpAny_typeOf (tS rfl k1) ?_)
 have nsame:Builtin.List.listSameRef (.ref s.heap.objs.size) (.ref a)=false:=by
  simp only [Builtin.List.listSameRef,beq_eq_false_iff_ne]
  exact λz=>qaN _ (z▸lta)
 have nl:(Value.type "set"==Value.type "list")=false:=by decide
 have nt:(Value.type "set"==Value.type "tuple")=false:=by decide
 simp only [nsame,nl,nt,Bool.or_false,qax,if_false]
 refine qaW (zsQ (g.move (λob e=>k1 _ _ e) (λ_=>rfl) rfl) λit es ep tb ord fp St h2 d hob W st0 lit k2 fpl few=> ?_)
 refine qaW (qaO ?_)
 unfold Builtin.List.listLengthHint
 have k12: ∀ b ob,s.heap.get? b=some ob->h2.get? b=some ob:=λb ob e=>k2 b ob (k1 b ob e)
 refine qaW (wpAny_specialOf (tS rfl k12) F.slot_set_len.lookup ?_)
 have sp:splitId "set.__len__"=some ("set","__len__"):=by decide +kernel
 dsimp only
 rw [sp]
 dsimp only
 refine qaW (wpAny_isInstance (tS rfl k12) sub_set_self ?_)
 rw [qa5 (by decide)]
 rw [qa4 ⋯]
 refine qaW (wpAny_typeOf (tS rfl k12) (qaX ?_))
 rw [qa4 ⋯]
 refine qaW (wpAny_rule ?_)
 have l2:h2.get? s.heap.objs.size=some {cls:= .type "list",data:= .seq ([]:List Value).toArray}:=k2 _ _ (qar _ rfl)
 refine qaW ?_
 unfold Builtin.List.listTouch
 show wpAny _ _ (updateSeq s.heap.objs.size (·.push .none)>>=λ_=>updateSeq s.heap.objs.size (·.pop)) _ _ _
 refine qaW (wpAny_updateSeq l2 rfl ?_)
 have l3:=qal (Obj.mapSeq (·.push Value.none)) l2 rfl
 refine wpAny_updateSeq l3 rfl ?_
 have l4:=qal (Obj.mapSeq (·.pop)) l3 rfl
 have oth: ∀ b ob,b≠s.heap.objs.size->h2.get? b=some ob->((h2.update s.heap.objs.size (Obj.mapSeq (·.push Value.none))).update s.heap.objs.size (Obj.mapSeq (·.pop))).get? b=some ob:=λb ob hb e=>
  (qah _ _ (Ne.symm hb)).trans ((qah _ _ (Ne.symm hb)).trans e)
 have nfp:s.heap.objs.size∉fp:=λz=>by
  rcases fpl _ z with z | z
  ·exact qaN _ (z▸lta)
  ·rw [show ({s with heap:=s.heap.push {cls:= .type "list",data:= .seq ([]:List Value).toArray}}:Shared).heap.objs.size=s.heap.objs.size+1 from qaL ..] at z
   exact qaN _ z
 have fin: ∀ (s':Shared) (vs:Array Value) (c:Nat),(∀ b ob,s.heap.get? b=some ob->s'.heap.get? b=some ob)->s'.gens=s.gens->s'.os=s.os->s'.heap.get? s.heap.objs.size=some {cls:= .type "list",dict:=none,data:= .seq vs c,slots:= #[]}->ItemsOf (λi v=> ∃ e,ord[i]? = some e/\v=e.2) vs es.size->
   wpAny (model prog w) A (load s.heap.objs.size>>=λo=>match o.data with | .seq xs _=>pure xs.toList | _=>unsupported "internal:collect") Q E s':=λs' vs c k g1 g2 e it1=>by
  refine qaW (wpAny_load e (qaX (q vs.toList s' es ep tb ?_ ?_ k g1 g2)))
  ·obtain ⟨ob,o1,o2⟩:=hob
   obtain ⟨ob',es',ep',tb',⟨p1,p2,p3⟩,_⟩:=g
   have:=k1 _ _ p1
   rw [o1] at this
   cases this
   exact ⟨ob,p1,o2⟩
  ·have hl:ord.length=es.size:=by simpa using W.perm.length_eq
   have e2:vs.toList=ord.map (·.2):=by
    apply List.ext_getElem?
    intro i
    by_cases hi:i<es.size
    ·have hv0:i<vs.size:=by rw [it1.1];exact hi
     have hv:vs[i]? = some vs[i]:=by simp [hv0]
     obtain ⟨e,e1,e2⟩:=it1.2 i _ hv
     rw [List.getElem?_map,e1,qaj,hv,e2]
     rfl
    ·rw [List.getElem?_eq_none (by simp [it1.1];omega),List.getElem?_eq_none (by simp [hl];omega)]
   rw [e2]
   exact W.perm.map _
 have Wk:=(W.walks A.in1 hh).toS
 refine qaX ⟨plainId_quiet F.plain_extend_loop _,codeAny_extend_loopS Wk ?_ _ nfp _ es.size 0 _ _ _ rfl (zero_le _) ?_ l4 (ItemsOf.nil _) λs' vs c mv e it1=> ?_⟩
 ·exact fits_of_scanBound few
 ·exact (W.walks A.in1 hh).frame 0 h2 _ st0 λb hb ob e=>oth b ob (λz=>nfp (z▸hb)) e
 ·refine fin s' vs c (λb ob e'=>mv.heap b ob ?_ (oth b ob ?_ (k12 b ob e'))) mv.gens mv.os e it1
  ·intro z
   rcases qaP.mp z with z | z
   ·exact qaN _ (z▸qaQ e')
   ·simp only [qaP,qaF,or_false] at z
    have:=qaQ e'
    rw [z] at this
    exact qaN _ (qaw this (qaS (by rw [qaL];exact le_succ _) lit))
  ·exact λz=>qaN _ (z▸qaQ e')
end
def znv (x:Int):List Int->List Int
 | []=>[x]
 | y::r=>if x<=y then x::y::r else y::znv x r
def zdu:List Int->List Int
 | []=>[]
 | x::r=>znv x (zdu r)
theorem zef (x:Int): ∀ l:List Int,List.Perm (znv x l) (x::l)
 | []=> .rfl
 | y::r=>by
  unfold znv
  split
  ·exact .rfl
  ·exact ((zef x r).cons y).trans (.swap x y r)
theorem zmT {x z:Int} {l:List Int}:z∈znv x l↔z=x\/z∈l:=by rw [(zef x l).mem_iff,qaP]
theorem zkt (x:Int): ∀ l:List Int,l.Pairwise (· <= ·)->(znv x l).Pairwise (· <= ·)
 | [],_=>by unfold znv;simp
 | y::r,h=>by
  obtain ⟨h1,h2⟩:=qay.mp h
  unfold znv
  split
  ·rename_i hxy
   refine qay.mpr ⟨λz hz=> ?_,h⟩
   rcases qaP.mp hz with e | hz
   ·rw [e];exact hxy
   ·exact Int.le_trans hxy (h1 z hz)
  ·rename_i hxy
   refine qay.mpr ⟨λz hz=> ?_,zkt x r h2⟩
   rcases zmT.mp hz with e | hz
   ·rw [e];omega
   ·exact h1 z hz
theorem zaN: ∀ l:List Int,List.Perm (zdu l) l
 | []=> .rfl
 | x::r=>(zef x _).trans ((zaN r).cons x)
theorem zda: ∀ l:List Int,(zdu l).Pairwise (· <= ·)
 | []=> .nil
 | x::r=>zkt x _ (zda r)
theorem zdV {a b:List Int} (hp:a.Perm b) (h:a.Pairwise (· <= ·)):a=zdu b:=W.ksm_same (hp.trans (zaN b).symm) h (zda b)
def zfY (ns:List Int):List Int:=zdu (ns.foldl step_dedup [])
theorem zkF (ns:List Int): ∀ (acc:List Int) (k:Int),(ns.foldl step_dedup acc).any (· == k)=(acc.any (· == k) || ns.any (· == k)):=by
 induction ns with
 | nil=>intro acc k;simp
 | cons x r ih=>
  intro acc k
  rw [foldl_cons,ih,step_any]
  simp only [List.any_cons]
  have:(x==k)=decide (k=x):=by
   by_cases h:k=x
   ·subst h;simp
   ·have h': ¬x=k:=λe=>h e.symm
    simp [h,h']
  rw [this,Bool.or_assoc]
theorem zkI {ns:List Int} {k:Int}:k∈ns.foldl step_dedup []↔k∈ns:=by
 have:=zkF ns [] k
 simp only [List.any_nil,Bool.false_or] at this
 have e: ∀ l:List Int,k∈l↔(l.any λx=>x==k)=true:=λl=>by
  rw [any_eq_true]
  constructor
  ·exact λh=>⟨k,h,by simp⟩
  ·rintro ⟨x,h,c⟩
   have c:x=k:=by simpa using c
   rw [<- c]
   exact h
 rw [e,e,this]
theorem zei (ns:List Int): ∀ acc:List Int,acc.Nodup->(ns.foldl step_dedup acc).Nodup:=by
 induction ns with
 | nil=>intro acc h;exact h
 | cons x r ih=>
  intro acc h
  refine ih _ ?_
  unfold step_dedup
  split
  ·exact h
  ·rename_i hx
   rw [List.nodup_append]
   refine ⟨h,by simp,λa ha b hb=> ?_⟩
   simp only [mem_singleton] at hb
   subst hb
   intro e
   subst e
   exact hx (any_eq_true.mpr ⟨a,ha,by simp⟩)
theorem zb5 {ns:List Int} {k:Int}:k∈zfY ns↔k∈ns:=by unfold zfY;rw [(zaN _).mem_iff,zkI]
theorem zev (ns:List Int):(zfY ns).Pairwise (· < ·):=by
 have h1:=zda (ns.foldl step_dedup [])
 have h2:(zfY ns).Nodup:=(zaN _).nodup_iff.mpr (zei ns [] List.nodup_nil)
 exact (List.Pairwise.and h1 h2).imp λ⟨a,b⟩=>by omega
theorem zhg (ns:List Int):firstMet (λi=>ns.getD i 0) ns.length=ns.foldl step_dedup []:=by
 unfold firstMet
 congr 1
 apply List.ext_getElem?
 intro i
 by_cases hi:i<ns.length
 ·simp [hi,List.getD]
 ·rw [List.getElem?_eq_none (by simp;omega),List.getElem?_eq_none ⋯]
theorem zey: ∀ {fm ms:List Int},fm.Nodup->(∀ k,k∈fm->k∈ms)->ms.length<=fm.length->List.Perm ms fm
 | [],ms,_,_,h=>by
  have:ms=[]:=List.length_eq_zero_iff.mp (by simpa using h)
  subst this
  exact .rfl
 | x::r,ms,nd,hm,h=>by
  obtain ⟨n1,n2⟩:=nodup_cons.mp nd
  have hx:=hm x (.head _)
  have p:=List.perm_cons_erase hx
  have hl:=p.length_eq
  rw [qaE] at hl h
  refine p.trans ((zey n2 (λk hk=> ?_) ⋯).cons x)
  have hne:k≠x:=λe=>n1 (e▸hk)
  rcases qaP.mp (p.mem_iff.mp (hm k (.tail _ hk))) with e | e
  ·exact absurd e hne
  ·exact e
section
variable {prog:Program} {w:World} {A:Around} {E:Value->Shared->Prop} {s:Shared}
theorem zgS {l l':List Value} {ns:List Int} (p:List.Perm l l') (h:IntsAre l' ns): ∃ ms,IntsAre l ms/\List.Perm ms ns:=by
 induction p generalizing ns with
 | nil=>exact ⟨ns,h,.rfl⟩
 | cons x _ ih=>
  cases h with
  | cons n t h=>
   obtain ⟨ms,h1,h2⟩:=ih h
   exact ⟨n::ms,.cons n t h1,h2.cons n⟩
 | swap x y l=>
  cases h with
  | cons n t h=>
   cases h with
   | cons n' t' h=>exact ⟨n'::n::_,.cons n' t' (.cons n t h),.swap _ _ _⟩
 | trans _ _ ih1 ih2=>
  obtain ⟨ms,h1,h2⟩:=ih2 h
  obtain ⟨ms',h3,h4⟩:=ih1 h1
  exact ⟨ms',h3,h4.trans h2⟩
theorem zfc: ∀ {es:List (Int×Value)},ElemsOf (intKind prog w) es-> ∃ ms,IntsAre (es.map (·.2)) ms/\ ∀ k,k∈ms↔ ∃ e∈es,(intKind prog w).is k e.2=true
 | [],_=>⟨[],.nil,λk=>by simp⟩
 | e::r,h=>by
  obtain ⟨ms,h1,h2⟩:=zfc (ElemsOf.tail h)
  obtain ⟨⟨k,hk,_⟩,_⟩:=ElemsOf.head h
  obtain ⟨t,ht⟩:=Value.isInt_shape (k:=k) (v:=e.2) hk
  refine ⟨k::ms,by rw [qaM,ht];exact .cons k t h1,λz=> ?_⟩
  rw [qaP,h2 z]
  constructor
  ·rintro (c | ⟨e',c1,c2⟩)
   ·exact ⟨e,.head _,by rw [c];exact hk⟩
   ·exact ⟨e',.tail _ c1,c2⟩
  ·rintro ⟨e',c1,c2⟩
   rcases qaP.mp c1 with c | c
   ·subst c;exact .inl ((intKind prog w).inj _ _ _ c2 hk)
   ·exact .inr ⟨e',c,c2⟩
theorem zd7 {x:Value} {Q:Value->Shared->Prop} (hc: ∀ E':Value->Shared->Prop,wpAny (model prog w) A.in1 (collect x) (λvs s1=> ∃ ns,IntsAre vs ns/\vs.length<64/\ ∀ out e h',IntsAre out (zdu ns)->(∀ b ob,s1.heap.get? b=some ob->h'.get? b=some ob)->
      h'.get? s1.heap.objs.size=some (seqObj "list" out.toArray e)->Q (.ref s1.heap.objs.size) {s1 with heap:=h'}) E' s):wpAny (model prog w) A (call (.builtin "sorted") [x]) Q E s:=by
 refine Calls.call_function_entry kind_sorted plain_sorted entry_sorted (args_sorted1 _) ?_
 unfold Builtin.«sorted»
 refine qaW (m:=checkCount "sorted" 1 1 _) (qaX ?_)
 refine qaW (m:=collect x) (qaZ (hc _) (λvs s1 ⟨ns,hI,h64,q⟩=> ?_) λ_ _ z=>z)
 have small:vs.length<=sizeLine:=qaS (Nat.le_of_lt h64) (by decide)
 refine qaW (wpAny_newList ?_ small)
 have at0:(s1.heap.push {cls:= .type "list",data:= .seq vs.toArray}).get? s1.heap.objs.size=some (seqObj "list" vs.toArray 0):=qar _ rfl
 refine qaW (qaO (wpAny_call_entry slot_list_sort ⟨_,at0,rfl⟩ entry_list_sort (list_sort_tree (s:={s1 with heap:=s1.heap.push {cls:= .type "list",data:= .seq vs.toArray}}) at0 hI h64 λout ns' a1 a2 a3=>⟨_,rfl,?_⟩) (args_list_sort _)))
 obtain ⟨e,he⟩:=sortedHeap_at (out:=out) at0
 refine qaX ⟨_,rfl,q out.toList e _ ?_ (λb ob eb=> ?_) (by simpa using he)⟩
 ·rw [<- zdV a2 a3];exact a1
 ·have lt:=qaQ eb
  rw [sortedHeap_old (qaR lt) (by rw [qaL];exact lt_succ_of_lt lt)]
  exact qag _ eb
theorem zho {l:Addr} {vs:List Value} {Q:List Value->Shared->Prop} (hl:s.heap.IsTuple l vs.toArray) (small:vs.length<=sizeLine)
  (q: ∀ h',(∀ b ob,s.heap.get? b=some ob->h'.get? b=some ob)->Q vs {s with heap:=h'}):wpAny (model prog w) A (collect (.ref l)) Q E s:=by
 obtain ⟨ob,ho,hc,n,hd⟩:=id hl
 unfold collect
 refine qaW (wpAny_runValue (codeAny_builtin F.entry_proto_collect ?_))
 rw [qap F.plain_proto_collect _]
 show wpAny _ _ (newList []>>=λd=>again (.builtin "list.__iadd__" ⟨[d,.ref l],[]⟩)) _ _ _
 refine qaW (qaC (qaX ⟨plainId_quiet F.plain_list_iadd _,codeAny_builtin F.entry_list_iadd ?_⟩))
 rw [qap F.plain_list_iadd _]
 show wpAny _ _ (Builtin.List.listExtendWith (.ref s.heap.objs.size) (.ref l) (.ref s.heap.objs.size)) _ _ _
 unfold Builtin.List.listExtendWith
 have ho':(s.heap.push {cls:= .type "list",data:= .seq ([]:List Value).toArray}).get? l=some ob:=qag _ ho
 have d0:(s.heap.push {cls:= .type "list",data:= .seq ([]:List Value).toArray}).get? s.heap.objs.size=some (seqObj "list" #[] 0):=qar _ rfl
 refine qaW (wpAny_typeOf (T:="tuple") ⟨ob,ho',hc⟩ ?_)
 rw [qa4 (by simp)]
 refine qaW (listItems_at ho' hd ?_)
 refine qaW (listItems_at d0 rfl ?_)
 rw [qa5 (by simp)]
 refine qaW (listUpdate_at (xs:= #[]) (n:=0) d0 rfl ?_ (zero_le _) (by show (#[]++vs.toArray).size<=sizeLine+1;simp;omega))
 refine qaX ?_
 show wpAny _ _ (load s.heap.objs.size>>=λo=>match o.data with | .seq xs _=>pure xs.toList | _=>unsupported "internal:collect") _ _ _
 refine qaW (wpAny_load (get?_update_seq d0 _) ?_)
 have z:=q ((s.heap.push {cls:= .type "list",data:= .seq ([]:List Value).toArray}).update s.heap.objs.size (Obj.mapSeq λx=>x++vs.toArray)) λb ob e=>(qah _ _ (λz=>qaN _ (z▸qaQ e))).trans (qag _ e)
 show wpAny _ _ (pure ((#[]:Array Value)++vs.toArray).toList) _ _ _
 rw [show ((#[]:Array Value)++vs.toArray).toList=vs by simp]
 exact qaX z
end
end LT
namespace L2
open LT
section
variable {X:Cx}
def zlc (P:Program) (w:World) (p:Addr) (ns:List Int):HO:= .ext λh=>zf1 P w h p (λz=>(ns.foldl step_dedup []).any (· == z)) (ns.foldl step_dedup []).length
theorem zkR (hc:X.calm=true):zaH X (.type "set") (λxs H Q=> ∃ (a:Addr) (ns:List Int),xs=[.ref a]/\(SqL X.K H a (ns.map V.int)\/SqT X.K H a (ns.map V.int))/\ns.length<4000/\ ∀ p,H p=none->Q (.ref p) (upd H p (zlc X.prog X.w p ns))):=by
 intro pins s σ H xs us Q I r h
 obtain ⟨a,ns,rfl,hq,hl,q⟩:=h
 obtain ⟨u,rfl,rx⟩:=zdM r
 cases rx
 have fin: ∀ (items:Array Value),items.size=ns.length-> ∀ (h':Heap) (tk:Nat),zf1 X.prog X.w h' s.heap.objs.size (λz=>(firstMet (λi=>ns.getD i 0) items.size).any (· == z)) (firstMet (λi=>ns.getD i 0) items.size).length->(∀ b ob,s.heap.get? b=some ob->h'.get? b=some ob)->
   EP X pins σ Q (.ref s.heap.objs.size) {s with heap:=h',toks:=tk}:=λitems hz h' tk g k=>by
  rw [hz,zhg] at g
  refine ⟨.ref s.heap.objs.size,_,I.laid (t':=tk) (o:=zlc X.prog X.w s.heap.objs.size ns) k (qaV _) ⟨g,?_,λh1 h2 z e=>z.move e (λ_=>rfl) rfl⟩,rfl,q _ (I.hok.fresh (qaV _))⟩
  obtain ⟨ob,es,ep,tb,⟨h1,_⟩,_⟩:=g
  exact ⟨ob,h1⟩
 have room:ns.length+1<scanBound:=by
  have:scanBound=4096:=rfl
  omega
 rcases hq with hq | hq
 ·obtain ⟨its,r',pl,_⟩:=I.list hq
  have hz:its.toArray.size=ns.length:=by rw [qaA, <-r'.length,qaH]
  exact ztI (I.ok.hd hc) (.inl ⟨rfl,pl.isList⟩) (by simpa using zby r') (by rw [hz];exact room) λh' tk g k=>fin _ hz h' tk g k
 ·obtain ⟨its,r',pl,_⟩:=I.tuple hq
  have hz:its.toArray.size=ns.length:=by rw [qaA, <-r'.length,qaH]
  exact ztI (I.ok.hd hc) (.inr ⟨rfl,pl⟩) (by simpa using zby r') (by rw [hz];exact room) λh' tk g k=>fin _ hz h' tk g k
theorem Inv.grown {pins:List (Addr×Obj)} {σ:St} {H:Hp} {s s':Shared} (I:Inv X pins σ H s) (ho:s'.os=s.os) (hg:s'.gens=s.gens) (k: ∀ b ob,s.heap.get? b=some ob->s'.heap.get? b=some ob):Inv X pins σ H s':=
 I.call' (ch:=[]) ho (Un.kept k) (I.hok.kept k) (by rw [hg];exact I.bare) λb z=>nomatch z
theorem zlB {out:List Value} {ms:List Int} (h:IntsAre out ms):zaS (ms.map V.int) out:=zd6 h
theorem zgy (hc:X.calm=true):zaH X (.builtin "sorted") (λxs H Q=> ∃ (p:Addr) (ns:List Int),xs=[.ref p]/\((((ns.foldl step_dedup []).length<64/\H p=some (zlc X.prog X.w p ns))/\ ∀ l,H l=none->Q (.ref l) (upd H l (.lst ((zfY ns).map V.int))))\/
    ((ns.length<64/\(SqL X.K H p (ns.map V.int)\/SqT X.K H p (ns.map V.int)))/\ ∀ l,H l=none->Q (.ref l) (upd H l (.lst ((zdu ns).map V.int)))))):=by
 intro pins s σ H xs us Q I r h
 obtain ⟨p,ns,rfl,h⟩:=h
 obtain ⟨u,rfl,rx⟩:=zdM r
 cases rx
 have fin: ∀ (s1:Shared) (ms:List Int),ms.length<=64->(∀ b ob,s.heap.get? b=some ob->s1.heap.get? b=some ob)->s1.gens=s.gens->s1.os=s.os->(∀ l,H l=none->Q (.ref l) (upd H l (.lst ((zdu ms).map V.int))))-> ∀ out e h',IntsAre out (zdu ms)->(∀ b ob,s1.heap.get? b=some ob->h'.get? b=some ob)->
   h'.get? s1.heap.objs.size=some (seqObj "list" out.toArray e)->EP X pins σ Q (.ref s1.heap.objs.size) {s1 with heap:=h'}:=λs1 ms hm k g1 o1 q out e h' hi k2 e2=>by
  have I1:=I.grown o1 g1 k
  refine ⟨.ref s1.heap.objs.size,_,I1.laid (t':=s1.toks) (o:= .lst ((zdu ms).map V.int)) k2 (qaV _) ⟨?_,out,e,zlB hi,e2⟩,rfl,q _ (I1.hok.fresh (qaV _))⟩
  rw [qaH,(zaN ms).length_eq]
  exact qaS hm (by decide)
 rcases h with ⟨⟨hl,hs⟩,q⟩ | ⟨⟨hl,hq⟩,q⟩
 ·obtain ⟨g,_⟩:=(show zbB X.prog X.w H s.heap p (zlc X.prog X.w p ns) from I.hok p _ hs)
  refine zd7 λE'=>zmB (show X.A.in1.handled=none from I.ok.hd hc) g λvs s1 es ep tb hob pv k g1 o1=> ?_
  obtain ⟨ob',es',ep',tb',⟨a1,a2,a3⟩,h4,h5,⟨h6,h7,h8⟩,h9⟩:=g
  obtain ⟨ob,b1,b2,b3⟩:=hob
  rw [a1] at b1
  cases b1
  rw [a3] at b3
  cases b3
  obtain ⟨ms,m1,m2⟩:=zfc h4
  obtain ⟨ms',m3,m4⟩:=zgS pv m1
  have len:ms.length=(ns.foldl step_dedup []).length:=by
   rw [<- m1.length,qaH,qas]
   exact h8
  have pm:List.Perm ms (ns.foldl step_dedup []):=zey (zei ns [] List.nodup_nil) (λz hz=>by
    rw [m2 z, <-h5 z]
    exact any_eq_true.mpr ⟨z,hz,by simp⟩) (Nat.le_of_eq len)
  have es1:zdu ms'=zfY ns:=by
   unfold zfY
   exact zdV ((zaN ms').trans (m4.trans pm)) (zda ms')
  have lm:ms'.length<64:=by
   rw [m4.length_eq,len]
   exact hl
  refine ⟨ms',m3,by rw [m3.length];omega,λout e h' hi k2 e2=> ?_⟩
  exact fin s1 ms' ⋯ k g1 o1 (by rw [es1];exact q) out e h' hi k2 e2
 ·rcases hq with hq | hq
  ·obtain ⟨its,r',pl,hz⟩:=I.list hq
   have hi:=zby r'
   have lz:its.length=ns.length:=by rw [<- r'.length,qaH]
   refine zd7 λE'=>collect_list pl.isList ?_ (by rw [lz, <-qaH (f:=V.int)];exact hz)
   refine ⟨ns,hi,⋯,λout e h' hi2 k2 e2=> ?_⟩
   refine fin {s with heap:=(s.heap.push (seqObj "list" #[] 0)).update s.heap.objs.size (Obj.mapSeq λx=>x++its.toArray)} ns ⋯ (λb ob eb=> ?_) rfl rfl q out e h' hi2 k2 e2
   exact (qah _ _ (λz=>qaN _ (z▸qaQ eb))).trans (qag _ eb)
  ·obtain ⟨its,r',pl,hz⟩:=I.tuple hq
   have hi:=zby r'
   have lz:its.length=ns.length:=by rw [<- r'.length,qaH]
   refine zd7 λE'=>zho pl (by rw [lz, <-qaH (f:=V.int)];exact hz) λh1 k1=> ?_
   refine ⟨ns,hi,⋯,λout e h' hi2 k2 e2=> ?_⟩
   exact fin {s with heap:=h1} ns ⋯ k1 rfl rfl q out e h' hi2 k2 e2
theorem zk0 (hc:X.calm=true):zaH X (.builtin "sum") (λxs H Q=> ∃ (a:Addr) (ns:List Int),xs=[.ref a]/\SqL X.K H a (ns.map V.int)/\Q (.int ns.sum) H):=by
 intro pins s σ H xs us Q I r h
 obtain ⟨a,ns,rfl,hq,q⟩:=h
 obtain ⟨u,rfl,rx⟩:=zdM r
 cases rx
 obtain ⟨its,r',pl,hz⟩:=I.list hq
 have hi:=zby r'
 obtain ⟨ys,hy⟩:=hi.allInts.items
 have hl:s.heap.IsList a (intItems ys):=hy▸pl.isList
 refine sum_intListG (I.ok.hd hc) hl λh' tk t' hk=> ?_
 have e1:ns=ys.toList.map (·.1):=by
  rw [<- nums_intItems, <-hy]
  exact (show numsOf its.toArray.toList=ns from hi.numsOf).symm
 have e2:preSum (numAt ys) ys.size=ns.sum:=by rw [preSum_eq,List.take_of_length_le (by simp),e1]
 rw [e2]
 exact ⟨.int ns.sum,H,I.grown (s':={s with heap:=h',toks:=tk}) rfl rfl hk,⟨t',rfl⟩,q⟩
end
end L2
namespace L3
open L2 LT
section
variable {X:Cx} {E:XE} {e:Expr} {es:List Expr} {pos p:Pos} {fs:Sd->M (List D)} {x:Str}
theorem zlv {id:String} {F:List D->M D} (hc:zaH X (.builtin id) (zi9 X.K E F)) (hg:Gl X x) (hm:X.mg x=none) (hv:bootBuiltins x=some (.builtin id)) (ha:SA X E (e::es) fs) (hn:x≠"__name__":=by decide) (hdb:(x==("__debug__":Str))=false:=by decide)
  (he:starEach (e::es) X.env=(false,eval e X.env)::starEach es X.env:=by rfl) (hpl:(backTo pos (starEach es X.env)).any (·.1)=false:=by rfl):SE X E (.Call (.Name x p) (e::es) [] pos) (λsd=>do let ds<-fs sd;F ds):=
 PE.imp (zd0 hc hg hm hv ha hn hdb he hpl) λσ H Q ⟨ι,h,sd,L,hh,q⟩=>⟨ι,h,sd,L,hh,Fin.bind q λds h1 ι1 H1 e1 s1 hr1 q1 vs rv=>⟨ι1,h1,ds,rv,hr1,q1⟩⟩
theorem zlf {T:String} {F:List D->M D} (hc:zaH X (.type T) (zi9 X.K E F)) (hg:Gl X x) (hm:X.mg x=none) (hv:bootBuiltins x=some (.type T)) (ha:SA X E (e::es) fs) (hn:x≠"__name__":=by decide) (hdb:(x==("__debug__":Str))=false:=by decide)
  (he:starEach (e::es) X.env=(false,eval e X.env)::starEach es X.env:=by rfl) (hpl:(backTo pos (starEach es X.env)).any (·.1)=false:=by rfl):SE X E (.Call (.Name x p) (e::es) [] pos) (λsd=>do let ds<-fs sd;F ds):=
 PE.imp (zcs hc hg hm hv ha hn hdb he hpl) λσ H Q ⟨ι,h,sd,L,hh,q⟩=>⟨ι,h,sd,L,hh,Fin.bind q λds h1 ι1 H1 e1 s1 hr1 q1 vs rv=>⟨ι1,h1,ds,rv,hr1,q1⟩⟩
noncomputable def zjl:D->M (List D)
 | .tup ds=>pure ds
 | .lst ds=>pure ds
 | .scr ds=>pure ds
 | .cel n=>zah n
 | _=>M.bad
theorem zb4 {K:W.Frag} {ι:Io} {H:Hp} {h:Hh} {d:D} {v:V} {α:Type} {f:List D->M α} {P:α->Io->Hp->Prop} (hr:zaX K ι H h) (r:Rel K ι H d v) (q:Fin K E ι H ((do let ds<-zjl d;f ds) h) P):
  ∃ a vs ds,v= .ref a/\((SqL K H a vs/\ ∀ ts,d≠ .tup ts)\/(SqT K H a vs/\d= .tup ds))/\zam K ι H ds vs/\Fin K E ι H (f ds h) P:=by
 cases d with
 | tup ds=>
  obtain ⟨a,vs,e,h1,h2⟩:=zbY r
  exact ⟨a,vs,ds,e,.inr ⟨h1,rfl⟩,h2,q⟩
 | lst ds=>
  obtain ⟨a,vs,e,h1,h2⟩:=zez r
  exact ⟨a,vs,ds,e,.inl ⟨h1,λ_ z=>by cases z⟩,h2,q⟩
 | scr ds=>
  obtain ⟨a,vs,e,h1,h2⟩:=zkE r
  exact ⟨a,vs,ds,e,.inl ⟨h1,λ_ z=>by cases z⟩,h2,q⟩
 | cel n=>
  have q':Fin K E ι H (M.bind (zah n) f h) P:=q
  unfold M.bind at q'
  cases z:zah n h with
  | bad=>rw [z] at q';exact qa0 q'
  | exc c h'=>unfold zah at z;split at z<;>cases z
  | ok ds h'=>
   rw [z] at q'
   obtain ⟨rfl,z2⟩:=zbz z
   obtain ⟨a,vs,e,hn,hH,rl⟩:=hr.read r z2
   exact ⟨a,vs,ds,e,.inl ⟨SqL.of hH,λ_ z=>by cases z⟩,rl,q'⟩
 | _=>exact qa0 q
theorem zpa {K:W.Frag} {H:Hp} {a:Addr} {vs:List V} {d:D} {ds:List D} (h:(SqL K H a vs/\ ∀ ts,d≠ .tup ts)\/(SqT K H a vs/\d= .tup ds)):SqL K H a vs\/SqT K H a vs:=h.imp And.left And.left
theorem zs7 {K:W.Frag} {ι:Io} {H:Hp} {d:D} {xs:List V} (h:zam K ι H [d] xs): ∃ v,xs=[v]/\Rel K ι H d v:=by
 simp only [zam] at h
 obtain ⟨v,r,rfl,h1,rfl⟩:=h
 exact ⟨v,rfl,h1⟩
noncomputable def zm0 {α:Type} (f:D->M α):List D->M α
 | [d]=>f d
 | _=>M.bad
theorem zc9 {α:Type} {K:W.Frag} {ι:Io} {H:Hp} {h:Hh} {f:D->M α} {ds:List D} {xs:List V} {P:α->Io->Hp->Prop} (rl:zam K ι H ds xs) (q:Fin K E ι H (zm0 f ds h) P): ∃ d v,xs=[v]/\Rel K ι H d v/\Fin K E ι H (f d h) P:=by
 match ds,rl,q with
 | [d],rl,q=>
  obtain ⟨v,e,r⟩:=zs7 rl
  exact ⟨d,v,e,r,q⟩
 | [],_,q=>exact qa0 q
 | _::_::_,_,q=>exact qa0 q
def zeF:List D->M D:=zm0 λd=>do let ds<-zjl d;pure (.int ds.length)
theorem zay:zaH X (.builtin "len") (zi9 X.K E zeF):=by
 refine zaH.imp zg7 λxs H Q ⟨ι,h,ds,rl,hr,q⟩=> ?_
 obtain ⟨d,v,e,r,q⟩:=zc9 rl q
 obtain ⟨a,vs,ds',e',hs,rl',q⟩:=zb4 hr r q
 exact ⟨a,vs,by rw [e,e'],zpa hs,Fin.out hr q _ (by rw [rl'.length];simp [Rel])⟩
def zc8:List D->M D:=zm0 λd=>do let ds<-zjl d;pure (.tup ds)
theorem zb7:zaH X (.type "tuple") (zi9 X.K E zc8):=by
 refine zaH.imp zfr λxs H Q ⟨ι,h,ds,rl,hr,q⟩=> ?_
 obtain ⟨d,v,e,r,q⟩:=zc9 rl q
 obtain ⟨a,vs,ds',e',hs,rl',q⟩:=zb4 hr r q
 refine ⟨a,vs,by rw [e,e'],?_⟩
 rcases hs with ⟨hs,_⟩ | ⟨hs,hd⟩
 ·exact .inl ⟨hs,λl hl=>zpp hr rl' q hl⟩
 ·exact .inr ⟨hs,Fin.out hr q _ (by rw [<- e', <-hd];exact r)⟩
def zsd:List D->M D:=zm0 λd=>do let ds<-zjl d;pure (.lst ds)
noncomputable def two2 (g:Int->Int->Int):List D->M D
 | [.int i,.int j]=>pure (.int (g i j))
 | _=>M.bad
theorem two2_inv {K:W.Frag} {ι:Io} {H:Hp} {h:Hh} {g:Int->Int->Int} {ds:List D} {xs:List V} {P:D->Io->Hp->Prop} (hr:zaX K ι H h) (rl:zam K ι H ds xs) (q:Fin K E ι H (two2 g ds h) P): ∃ i j,xs=[.int i,.int j]/\P (.int (g i j)) ι H:=by
 unfold two2 at q
 split at q
 ·simp only [zam,Rel] at rl
  obtain ⟨v,r,rfl,rfl,v',r',rfl,rfl,rfl⟩:=rl
  exact ⟨_,_,rfl,Fin.out hr q⟩
 ·exact qa0 q
def zo3:=two2 λi j=>if j>i then j else i
def zoQ:=two2 λi j=>if j<i then j else i
theorem zjf (hc:X.calm=true):zaH X (.builtin "max") (zi9 X.K E zo3):=by
 refine zaH.imp (zku hc) λxs H Q ⟨ι,h,ds,rl,hr,q⟩=> ?_
 obtain ⟨i,j,e,q⟩:=two2_inv hr rl q
 exact ⟨i,j,e,q _ (by simp [Rel])⟩
theorem ziG (hc:X.calm=true):zaH X (.builtin "min") (zi9 X.K E zoQ):=by
 refine zaH.imp (zkA hc) λxs H Q ⟨ι,h,ds,rl,hr,q⟩=> ?_
 obtain ⟨i,j,e,q⟩:=two2_inv hr rl q
 exact ⟨i,j,e,q _ (by simp [Rel])⟩
noncomputable def zcn:List D->Option (List Int)
 | []=>some []
 | .int i::r=>(zcn r).map (i:: ·)
 | _=>none
theorem zdr {K:W.Frag} {ι:Io} {H:Hp}: ∀ {ds:List D} {vs:List V} {bs:List Int},zam K ι H ds vs->zcn ds=some bs->vs=bs.map V.int
 | [],_,_,h,e=>by simp only [zam] at h;subst h;cases e;rfl
 | d::ds,_,bs,h,e=>by
  simp only [zam] at h
  obtain ⟨v,r,rfl,h1,h2⟩:=h
  cases d with
  | int b=>
   unfold zcn at e
   cases z:zcn ds with
   | none=>rw [z] at e;cases e
   | some cs=>
    rw [z] at e
    cases e
    simp only [Rel] at h1
    rw [h1,zdr h2 z]
    rfl
  | _=>cases e
theorem Fin.ofOb {α β:Type} {K:W.Frag} {ι:Io} {H:Hp} {h:Hh} {o:Option α} {f:α->M β} {P:β->Io->Hp->Prop} (q:Fin K E ι H ((do let a<-L3.ofO o;f a) h) P): ∃ a,o=some a/\Fin K E ι H (f a h) P:=by
 cases o with
 | none=>exact qa0 q
 | some a=>exact ⟨a,rfl,q⟩
def ztp:List D->M D:=zm0 λd=>match d with
 | .lst ds=>do let bs<-ofO (zcn ds);pure (.int bs.sum)
 | _=>M.bad
theorem zj6 (hc:X.calm=true):zaH X (.builtin "sum") (zi9 X.K E ztp):=by
 refine zaH.imp (zk0 hc) λxs H Q ⟨ι,h,ds,rl,hr,q⟩=> ?_
 obtain ⟨d,v,e,r,q⟩:=zc9 rl q
 cases d with
 | lst ds=>
  obtain ⟨a,vs,e',h1,h2⟩:=zez r
  obtain ⟨bs,eb,q⟩:=Fin.ofOb q
  have:=zdr h2 eb
  subst this
  exact ⟨a,bs,by rw [e,e'],h1,Fin.out hr q _ (by simp [Rel])⟩
 | _=>exact qa0 q
def zdi (d:D):M D:=do
 let ds<-zjl d
 let ns<-ofO (zcn ds)
 if (ns.foldl step_dedup []).length<64/\ns.length<4000 then pure (.lst ((zfY ns).map D.int)) else M.bad
theorem zjj {p1 p2 pos2:Pos} {f:Sd->M D} (hc:X.calm=true) (hg1:Gl X "sorted") (hm1:X.mg "sorted"=none) (hg2:Gl X "set") (hm2:X.mg "set"=none) (he:SE X E e f)
  (h1:starEach [.Call (.Name "set" p2) [e] [] pos2] X.env=[(false,eval (.Call (.Name "set" p2) [e] [] pos2) X.env)]:=by rfl) (h2:starEach [e] X.env=[(false,eval e X.env)]:=by rfl):
  SE X E (.Call (.Name "sorted" p1) [.Call (.Name "set" p2) [e] [] pos2] [] pos) (λsd=>do let d<-f sd;zdi d):=by
 refine PE.imp (zd0 (zgy hc) hg1 hm1 boot_sorted (zbC (zcs (zkR hc) hg2 hm2 PyProof.Rows.boot_set (zbC he zcN h2) (he:=h2)) zcN h1) (he:=h1)) λσ H Q ⟨ι,h,sd,L,hh,q⟩=>⟨ι,h,sd,L,hh,Fin.bind q λd h1 ι1 H1 e1 s1 hr1 q1 v rv=> ?_⟩
 obtain ⟨a,vs,ds',e',hs,rl',q2⟩:=zb4 hr1 rv q1
 obtain ⟨ns,en,q3⟩:=Fin.ofOb q2
 have:=zdr rl' en
 subst this
 obtain ⟨hl,q4⟩:=Fin.guard q3
 refine ⟨a,ns,by rw [e'],zpa hs,hl.2,λp hp=> ?_⟩
 have hr2:zaX X.K ι1 (upd H1 p (zlc X.prog X.w p ns)) h1:=hr1.laid hp
 exact ⟨p,ns,rfl,.inl ⟨⟨hl.1,zaY⟩,λl hl'=>zoW hr2 (zcy.mpr rfl) (Fin.step (hr1.laidS hp) q4) hl'⟩⟩
end
def tyD:D->M String
 | .non=>pure "NoneType"
 | .bl _=>pure "bool"
 | .int _=>pure "int"
 | .str _=>pure "str"
 | .tup _=>pure "tuple"
 | .lst _=>pure "list"
 | .dct=>pure "dict"
 | .cel n=>do let _<-zah n;pure "list"
 | _=>M.bad
def zjR:List String:=["NoneType","bool","int","str","tuple","list","dict"]
def isB (T t:String):Bool:=t==T || (t=="bool" && T=="int")
def zkd (T:String) (d:D):M D:=do let t<-tyD d;pure (.bl (isB T t))
def zjh (T:String):Prop:= ∀ (K:W.Frag), ∀ t∈zjR,W.kitOne K (.type t) (.type T)=some (isB T t)
def ztP (t T:String):Option Bool:=if ((Value.type t)==(Value.type T))=true then some true else if W.kitMeta T=true then (fastBuiltinMro t).map (·.contains (Value.type T)) else none
theorem zfk {T:String} (h:(zjR.all λt=>ztP t T==some (isB T t))=true):zjh T:=λK t ht=>by
 have:=all_eq_true.mp h t ht
 have e:W.kitOne K (.type t) (.type T)=ztP t T:=rfl
 rw [e]
 exact beq_iff_eq.mp this
theorem zpi:zjh "int":=zfk ⋯
theorem zlz:zjh "bool":=zfk ⋯
theorem zkH:zjh "tuple":=zfk ⋯
section
variable {X:Cx} {E:XE} {α:Type}
theorem zoi {K:W.Frag} {ι:Io} {H:Hp} {h:Hh} {d:D} {v:V} {f:String->M α} {P:α->Io->Hp->Prop} (hr:zaX K ι H h) (r:Rel K ι H d v) (q:Fin K E ι H ((do let t<-tyD d;f t) h) P):
  ∃ t,t∈zjR/\zih K H v (.type t)/\Fin K E ι H (f t h) P:=by
 cases d with
 | non=>simp only [Rel] at r;subst r;exact ⟨_,by decide,.non,q⟩
 | bl b=>simp only [Rel] at r;subst r;exact ⟨_,by decide,.bl b,q⟩
 | int b=>simp only [Rel] at r;subst r;exact ⟨_,by decide,.int b,q⟩
 | str b=>simp only [Rel] at r;subst r;exact ⟨_,by decide,.str b,q⟩
 | tup ds=>
  simp only [Rel] at r
  obtain ⟨a,vs,e,h1,h2⟩:=r
  subst e
  exact ⟨_,by decide,.tup h1.1,q⟩
 | lst ds=>
  simp only [Rel] at r
  obtain ⟨a,vs,e,h1,h2⟩:=r
  subst e
  exact ⟨_,by decide,.lst h1.1,q⟩
 | dct=>
  simp only [Rel] at r
  obtain ⟨a,e,h1,h2⟩:=r
  subst e
  exact ⟨_,by decide,.dK h1,q⟩
 | cel n=>
  have q':Fin K E ι H (M.bind (zah n) (λ_=>f "list") h) P:=by
   have e:(do let t<-tyD (.cel n);f t:M α)=(zah n>>=λ_=>f "list"):=by
    show ((zah n>>=λ_=>pure "list")>>=f)=_
    simp only [bind_assoc,pure_bind]
   rw [e] at q
   exact q
  unfold M.bind at q'
  cases z:zah n h with
  | bad=>rw [z] at q';exact qa0 q'
  | exc c h'=>unfold zah at z;split at z<;>cases z
  | ok ds h'=>
   rw [z] at q'
   obtain ⟨rfl,z2⟩:=zbz z
   obtain ⟨a,vs,e,hn,hH,rl⟩:=hr.read r z2
   subst e
   exact ⟨_,by decide,.lst hH,q'⟩
 | _=>exact qa0 q
theorem zmd:zaH X (.builtin "isinstance") (λxs H Q=> ∃ x t T b,xs=[x,.ty T]/\zih X.K H x t/\W.kitOne X.K t (.type T)=some b/\Q (.bl b) H):=by
 intro pins s σ H xs us Q I r h
 obtain ⟨x,t,T,b,rfl,ty,e,q⟩:=h
 cases r with
 | cons r1 r2=>
  cases r2 with
  | cons r3 r4=>
   cases r4
   cases r3
   exact zjI I r1 ty e λtk=>⟨.bl b,H,I.tok tk,rfl,q⟩
theorem zqj {a:Expr} {x:Str} {T:String} {p1 p2 pos:Pos} {fa:Sd->M D} (hk:zjh T) (hg:Gl X "isinstance") (hm:X.mg "isinstance"=none) (hgT:Gl X x) (hmT:X.mg x=none) (hvT:bootBuiltins x=some (.type T)) (ha:SE X E a fa)
  (hn:x≠"__name__":=by decide) (hd:(x==("__debug__":Str))=false:=by decide)
  (h1:starEach [a,.Name x p2] X.env=(false,eval a X.env)::starEach [.Name x p2] X.env:=by rfl) (h2:starEach [.Name x p2] X.env=[(false,eval (.Name x p2) X.env)]:=by rfl)
  (hpl:(backTo pos (starEach [.Name x p2] X.env)).any (·.1)=false:=by rfl):
  SE X E (.Call (.Name "isinstance" p1) [a,.Name x p2] [] pos) (λsd=>do let d<-fa sd;zkd T d):=by
 refine PE.imp (zd0 zmd hg hm PyProof.Rows.boot_isinstance (zbC ha (zbC (zoF (v:= .ty T) hgT hmT hvT rfl hn hd) zcN h2) h1) (he:=h1) (hpl:=hpl)) λσ H Q ⟨ι,h,sd,L,hh,q⟩=>⟨ι,h,sd,L,hh,Fin.bind q λd h1 ι1 H1 e1 s1 hr1 q1 v rv=> ?_⟩
 obtain ⟨t,ht,ty,q2⟩:=zoi hr1 rv q1
 exact ⟨v,.type t,T,isB T t,rfl,ty,hk X.K t ht,Fin.out hr1 q2 _ (by simp [Rel])⟩
def zhW:D->D->M D
 | .bl a,.bl b=>pure (.bl (a != b))
 | _,_=>M.bad
theorem zj3:OpR X (compareOp .IsNot) (zcw X.K E zhW):=by
 intro pins s σ H x y v u Q I rx ry ⟨ι,h,d1,d2,r1,r2,hr,q⟩
 unfold zhW at q
 split at q
 ·simp only [Rel] at r1 r2
  subst r1 r2
  cases rx
  cases ry
  exact isnot_bool (ze3 I (Fin.out hr q _ (by simp [Rel])) rfl)
 ·exact qa0 q
noncomputable def zfZ (xs:List D) (lo hi:Option Int):List D:=(xs.drop (HT.sIx xs.length 0 lo)).take (HT.sIx xs.length xs.length hi - HT.sIx xs.length 0 lo)
def dSl (d:D) (lo hi:Option Int):M D:=match d with
 | .tup ds=>pure (.tup (zfZ ds lo hi))
 | .lst ds=>pure (.lst (zfZ ds lo hi))
 | _=>M.bad
def zt4 (K:W.Frag) (E:XE) (f:Sd->M (Option Int)):TO:=λσ H Q=> ∃ ι h sd,zcp K ι H sd σ/\zaX K ι H h/\Fin K E ι H (f sd h) λo ι' H'=>Q o H'
abbrev SO (X:Cx) (E:XE) (e:Option Expr) (f:Sd->M (Option Int)):Prop:=PO X e (zt4 X.K E f)
theorem PO.imp {e:Option Expr} {t t':TO} (h:PO X e t) (m: ∀ σ H Q,t' σ H Q->t σ H Q):PO X e t':=λpins s σ H Q I q=>h pins s σ H Q I (m _ _ _ q)
def zeO:Sd->M (Option Int):=λ_=>pure none
def znz:D->M (Option Int)
 | .int i=>pure (some i)
 | _=>M.bad
def zeL (f:Sd->M D):Sd->M (Option Int):=λsd=>do let d<-f sd;znz d
theorem zcX:SO X E none zeO:=PO.imp zpg λσ H Q ⟨ι,h,sd,L,hh,q⟩=>Fin.out hh q
theorem zcR {e:Expr} {f:Sd->M D} (h:SE X E e f):SO X E (some e) (zeL f):=by
 refine PO.imp (zoh h) λσ H Q ⟨ι,h,sd,L,hh,q⟩=>⟨ι,h,sd,L,hh,Fin.bind q λd h1 ι1 H1 e1 s1 hr1 q1 v rv=> ?_⟩
 cases d with
 | int i=>simp only [Rel] at rv;exact ⟨i,rv,Fin.out hr1 q1⟩
 | _=>exact qa0 q1
def cSl (f:Sd->M D) (lo hi:Sd->M (Option Int)):Sd->M D:=λsd=>do let d<-f sd;let l<-lo sd;let u<-hi sd;dSl d l u
theorem zcF {e:Expr} {lo hi:Option Expr} {p2 pos:Pos} {f:Sd->M D} {fl fh:Sd->M (Option Int)} (he:SE X E e f) (hl:SO X E lo fl) (hu:SO X E hi fh):SE X E (.Subscript e (.Slice lo hi none p2) pos) (cSl f fl fh):=by
 refine PE.imp (zh6 (zoe.or (zqi.or zkG)) he hl hu) λσ H Q ⟨ι,h,sd,L,hh,q⟩=>⟨ι,h,sd,L,hh,Fin.bind q λd h1 ι1 H1 e1 s1 hr1 q1 v rv=> ?_⟩
 refine ⟨ι1,h1,sd,L.step s1,hr1,Fin.bind q1 λl h2 ι2 H2 e2 s2 hr2 q2=> ?_⟩
 refine ⟨ι2,h2,sd,(L.step s1).step s2,hr2,Fin.bind q2 λu h3 ι3 H3 e3 s3 hr3 q3=> ?_⟩
 have rv3:=(rv.step s2).step s3
 cases d with
 | tup ds=>
  obtain ⟨a,vs,e,k1,k2⟩:=zbY rv3
  by_cases hw:HT.sIx vs.length 0 l=0/\HT.sIx vs.length vs.length u=vs.length
  ·refine .inl ⟨a,vs,e,k1,hw,?_⟩
   have ec:zfZ ds l u=ds:=by
    unfold zfZ
    rw [k2.length,hw.1,hw.2, <-k2.length]
    simp
   refine Fin.out hr3 q3 _ ?_
   rw [ec, <-e]
   exact rv3
  ·refine .inr (.inl ⟨a,vs,e,k1,hw,λp hp=>zpp hr3 ?_ q3 hp⟩)
   unfold zfZ zmw
   rw [k2.length]
   exact zam.take _ (zam.drop _ k2)
 | lst ds=>
  obtain ⟨a,vs,e,k1,k2⟩:=zez rv3
  refine .inr (.inr ⟨a,vs,e,k1,λp hp=>zoW hr3 ?_ q3 hp⟩)
  unfold zfZ zmw
  rw [k2.length]
  exact zam.take _ (zam.drop _ k2)
 | _=>exact qa0 q3
def ztW:D->M D
 | .tup ds=>pure (.tup ds.reverse)
 | _=>M.bad
def zpf (x y:D):M D:=match x,y with
 | .int i,.int j=>if (zaR i || zaR j)=true then pure (.int (i*j)) else M.bad
 | .tup xs,.int k=>if xs≠[]/\2<=k/\k<1000/\xs.length*k.toNat<=sizeLine then pure (.tup (List.replicate k.toNat xs).flatten) else M.bad
 | _,_=>M.bad
theorem zam.rep {K:W.Frag} {ι:Io} {H:Hp} {ds:List D} {vs:List V} (h:zam K ι H ds vs): ∀ n,zam K ι H (List.replicate n ds).flatten (List.replicate n vs).flatten
 | 0=>zam.nil
 | n+1=>by
  rw [replicate_succ,replicate_succ,flatten_cons,flatten_cons]
  exact zam.append h (zam.rep h n)
theorem zlk:OpR X (binaryOp .Mult) (zcw X.K E zpf):=by
 refine OpR.imp (zrM.or zov) λx y H Q ⟨ι,h,d1,d2,r1,r2,hr,q⟩=> ?_
 unfold zpf at q
 split at q
 ·simp only [Rel] at r1 r2
  obtain ⟨c,q⟩:=Fin.guard q
  refine .inl ⟨_,_,r1,r2,?_,Fin.out hr q _ (by simp [Rel])⟩
  rcases (Bool.or_eq_true _ _).mp c with z | z
  ·exact .inl (zb2 z)
  ·exact .inr (zb2 z)
 ·simp only [Rel] at r2
  obtain ⟨a,vs,e,k1,k2⟩:=zbY r1
  obtain ⟨⟨c1,c2,c3,c4⟩,q⟩:=Fin.guard q
  refine .inr ⟨a,_,vs,e,r2,k1,λz=>c1 ?_,c2,c3,by rw [<- k2.length];exact c4,λp hp=>zpp hr (k2.rep _) q hp⟩
  subst z
  exact List.eq_nil_of_length_eq_zero k2.length
 ·exact qa0 q
mutual
noncomputable def pdH (h:Hh):D->Option PyData
 | .non=>some .none
 | .bl b=>some (.bool b)
 | .int i=>some (.int i)
 | .str x=>some (.str x)
 | .tup xs=>(zml h xs).map .tuple
 | .lst xs=>(zml h xs).map .list
 | .cel n=>match h[n]? with
  | some (.lst ds)=>(pdL ds).map .list
  | _=>none
 | _=>none
noncomputable def zml (h:Hh):List D->Option (List PyData)
 | []=>some []
 | x::xs=>match pdH h x,zml h xs with
  | some a,some r=>some (a::r)
  | _,_=>none
end
mutual
theorem zpE {pins:List (Addr×Obj)} {σ:L2.St} {H:Hp} {s:Shared} {ι:Io} {h:Hh} (I:Inv X pins σ H s) (hr:zaX X.K ι H h): ∀ {d:D} {v:V} {u:Value} {p:PyData},Rel X.K ι H d v->zbp v u->pdH h d=some p-> ∃ as,Reads s.heap u p as
 | .non,v,u,p,r,ru,e=>by simp only [Rel] at r;subst r;cases ru;simp only [pdH] at e;cases e;exact ⟨_,.none⟩
 | .bl b,v,u,p,r,ru,e=>by simp only [Rel] at r;subst r;cases ru;simp only [pdH] at e;cases e;exact ⟨_,.bool _⟩
 | .int i,v,u,p,r,ru,e=>by simp only [Rel] at r;subst r;obtain ⟨t,rfl⟩:=ru;simp only [pdH] at e;cases e;exact ⟨_,.int _ _⟩
 | .str i,v,u,p,r,ru,e=>by simp only [Rel] at r;subst r;obtain ⟨t,rfl⟩:=ru;simp only [pdH] at e;cases e;exact ⟨_,.str _ _⟩
 | .tup ds,v,u,p,r,ru,e=>by
  obtain ⟨a,vs,rfl,h1,h2⟩:=zbY r
  cases ru
  obtain ⟨its,rv,pl,_⟩:=I.tuple h1
  obtain ⟨o,ho,hc,n,hd⟩:=pl
  simp only [pdH] at e
  cases z:zml h ds with
  | none=>rw [z] at e;cases e
  | some ps=>
   rw [z] at e;cases e
   obtain ⟨as,q⟩:=zhb I hr h2 rv z
   exact ⟨_,.tuple ho hc hd (by simpa using q)⟩
 | .lst ds,v,u,p,r,ru,e=>by
  obtain ⟨a,vs,rfl,h1,h2⟩:=zez r
  cases ru
  obtain ⟨its,rv,pl,_⟩:=I.list h1
  obtain ⟨o,ho,hc,n,hd⟩:=pl.isList
  simp only [pdH] at e
  cases z:zml h ds with
  | none=>rw [z] at e;cases e
  | some ps=>
   rw [z] at e;cases e
   obtain ⟨as,q⟩:=zhb I hr h2 rv z
   exact ⟨_,.list ho hc hd (by simpa using q)⟩
 | .cel m,v,u,p,r,ru,e=>by
  simp only [pdH] at e
  cases z0:h[m]? with
  | none=>rw [z0] at e;cases e
  | some c=>
   rw [z0] at e
   cases c with
   | dit ks=>cases e
   | ins _ _=>cases e
   | dead=>cases e
   | dic _=>cases e
   | lst ds=>
    obtain ⟨a,vs,rfl,hn,hH,rl⟩:=hr.read r z0
    cases ru
    obtain ⟨its,rv,pl,_⟩:=I.list (SqL.of hH)
    obtain ⟨o,ho,hc,n,hd⟩:=pl.isList
    cases z:pdL ds with
    | none=>simp only [z] at e;cases e
    | some ps=>
     simp only [z] at e;cases e
     obtain ⟨as,q⟩:=zgO I rl rv z
     exact ⟨_,.list ho hc hd (by simpa using q)⟩
 | .scr ds,_,_,_,_,_,e=>by simp only [pdH] at e;cases e
 | .set xs,_,_,_,_,_,e=>by simp only [pdH] at e;cases e
 | .dct,_,_,_,_,_,e=>by simp only [pdH] at e;cases e
 | .fn _,_,_,_,_,_,e=>by simp only [pdH] at e;cases e
 | .exn _,_,_,_,_,_,e=>by simp only [pdH] at e;cases e
theorem zhb {pins:List (Addr×Obj)} {σ:L2.St} {H:Hp} {s:Shared} {ι:Io} {h:Hh} (I:Inv X pins σ H s) (hr:zaX X.K ι H h): ∀ {ds:List D} {vs:List V} {us:List Value} {ps:List PyData},zam X.K ι H ds vs->zaS vs us->zml h ds=some ps-> ∃ as,ReadsAll s.heap us ps as
 | [],vs,us,ps,r,ru,e=>by simp only [zam] at r;subst r;cases ru;simp only [zml] at e;cases e;exact ⟨_,.nil⟩
 | d::ds,vs,us,ps,r,ru,e=>by
  simp only [zam] at r
  obtain ⟨v,vr,rfl,r1,r2⟩:=r
  cases ru with
  | cons ru1 ru2=>
   simp only [zml] at e
   cases z:pdH h d with
   | none=>rw [z] at e;cases e
   | some a=>
    cases z2:zml h ds with
    | none=>rw [z,z2] at e;cases e
    | some b=>
     rw [z,z2] at e
     cases e
     obtain ⟨as,q1⟩:=zpE I hr r1 ru1 z
     obtain ⟨bs,q2⟩:=zhb I hr r2 ru2 z2
     exact ⟨_,.cons q1 q2⟩
end
end
abbrev FE:=Sd->M D
abbrev FT:=Sd->M Bool
abbrev FA:=Sd->M (List D)
abbrev FS:=Sd->M Out
def cOp (F:D->D->M D) (a b:FE):FE:=λsd=>do let x<-a sd;let y<-b sd;F x y
def cUn (F:D->M D) (a:FE):FE:=λsd=>do let x<-a sd;F x
def zaw (F:List D->M D) (a:FA):FE:=λsd=>do let ds<-a sd;F ds
def zcm (F:D->D->M D) (a b:FE):FT:=λsd=>do let z<-(do let x<-a sd;let y<-b sd;F x y);zcv z
def ziS (a:FE):FT:=λsd=>do let x<-a sd;zcv x
def ziu (t:FT):FT:=λsd=>do let c<-t sd;pure (!c)
def zok (t u:FT):FT:=λsd=>do let c<-t sd;if c=true then u sd else pure false
def tOr (t u:FT):FT:=λsd=>do let c<-t sd;if c=true then pure true else u sd
def zrY (a b:FE):FE:=λsd=>do let c<-(do let x<-a sd;zcv x);if c=true then b sd else pure (.bl false)
def cOr (a b:FE):FE:=λsd=>do let c<-(do let x<-a sd;zcv x);if c=true then pure (.bl true) else b sd
def zsG (a:FE):FE:=λsd=>do let c<-(do let x<-a sd;zcv x);pure (.bl (!c))
def cIf (t:FT) (a b:FE):FE:=λsd=>do let c<-t sd;if c=true then a sd else b sd
def cK (d:D):FE:=λ_=>pure d
def zar:FA:=λ_=>pure []
def zac (a:FE) (r:FA):FA:=λsd=>do let x<-a sd;let r<-r sd;pure (x::r)
def zeS (fs:FA):FE:=λsd=>do let ds<-fs sd;fits ds.length;pure (.tup ds)
def zoI (fs:FA):FE:=λsd=>do let ds<-fs sd;fits ds.length;pure (.lst ds)
def zhE (fs:FA):FE:=λsd=>do let ds<-fs sd;fits ds.length;zd3 ds
def zeD:FS:=λsd=>pure (.nx sd)
def zan (g g':FS):FS:=λsd=>do let o<-g sd;zdt o g'
def zbH (i:Nat) (f:FE):FS:=λsd=>do let d<-f sd;pure (.nx (sd.set i (some d)))
def zb3 (f:FE):FS:=λsd=>do let d<-f sd;pure (.rt d)
def sIf (t:FT) (g g':FS):FS:=λsd=>do let c<-t sd;if c=true then g sd else g' sd
def zlt (fi:FA) (g:D->Sd->M Sd) (gb:FS):FS:=λsd=>do let ds<-fi sd;zba (λx sd=>do let sd1<-g x sd;gb sd1) ds sd
def zrf (f:FE) (g:D->Sd->M Sd):FS:=λsd=>do let d<-f sd;let sd'<-g d sd;pure (.nx sd')
def zdP (f:FE):FS:=λsd=>do let _<-f sd;pure (.nx sd)
def iSq (f:FE):FA:=λsd=>do let d<-f sd;zea d
def zlS (fs:FA):FA:=λsd=>do let ds<-fs sd;zkq ds
def znG (fo fi:FE):D->Sd->M Sd:=λd sd=>do let x<-fo sd;let y<-fi sd;zjM x y d;pure sd
section
variable {X:Cx} {E:XE} {a b e c:Expr} {es:List Expr} {pos p p1 p2:Pos} {fa fb f:FE} {fs:FA} {x:Str}
theorem zab (i:Nat) (hN:X.N[i]? = some x:=by rfl) (hv:Vis X.env.scope x:=by first | exact Or.inl rfl | exact Or.inr (Or.inl rfl) | exact Or.inr (Or.inr rfl)) (hd:(x==("__debug__":Str))=false:=by decide) (hcd:(x==("__classdict__":Str))=false:=by decide):SE X E (.Name x pos) (zaf i):=zqU i hN hv hd hcd
theorem zai {i:Int} {j:Nat}:SE X E (.Constant (.int i) j pos) (cK (.int i)):=zrE
theorem zj1 {i:Bool} {j:Nat}:SE X E (.Constant (.bool i) j pos) (cK (.bl i)):=ztn
theorem zmy {j:Nat}:SE X E (.Constant .none j pos) (cK .non):=zq2
theorem zbW {op:Operator} {F:D->D->M D} (ho:OpR X (binaryOp op) (zcw X.K E F)) (ha:SE X E a fa) (hb:SE X E b fb):SE X E (.BinOp a op b pos) (cOp F fa fb):=ztD ho ha hb
theorem ztA {op:CmpOp} {F:D->D->M D} (ho:OpR X (compareOp op) (zcw X.K E F)) (ha:SE X E a fa) (hb:SE X E b fb) (hm:behindInMarks op b=false:=by rfl):SE X E (.Compare a [op] [b] pos) (cOp F fa fb):=zrq ho ha hb hm
theorem zax {op:CmpOp} {F:D->D->M D} (ho:OpR X (compareOp op) (zcw X.K E F)) (ha:SE X E a fa) (hb:SE X E b fb) (hm:behindInMarks op b=false:=by rfl):ST X E (.Compare a [op] [b] pos) (zcm F fa fb):=zqn ho ha hb hm
theorem zbn (ha:SE X E a fa) (hb:SE X E b fb) (hs:zhq b:=by intro _ _;rfl):SE X E (.Subscript a b pos) (cOp dIx fa fb):=zto zuj ha hb hs
theorem zhl (ha:SE X E a fa):SE X E (.UnaryOp .USub a pos) (cUn zlu fa):=zqD ha
theorem zsh (ha:SE X E a fa):SE X E (.UnaryOp .Not a pos) (zsG fa):=zqg ha
theorem zqf {op:BoolOp} (h:SE X E a fa):SE X E (.BoolOp op [a] pos) fa:=zqO h
theorem zqV {zaT:List Expr} (ha:SE X E a fa) (hb:SE X E (.BoolOp .And (b::zaT) pos) fb):SE X E (.BoolOp .And (a::b::zaT) pos) (zrY fa fb):=zqW ha hb
theorem zdp (h:SE X E e f) (he: ∀ whole,isTrue e X.env whole=(do let v<-whole;standAt e.pos;holding [v] (truthy v)):=by intro _;rfl):ST X E e (ziS f):=zrx h he
theorem zcQ {t:FT} (ha:ST X E a t):ST X E (.UnaryOp .Not a pos) (ziu t):=zpI ha
theorem zhp {t:FT} (ha:ST X E a t):PW X (.BoolOp .And [a] pos) (zfB X.K E t):=znZ ha
theorem zc4 {t:FT} (ha:ST X E a t):PW X (.BoolOp .Or [a] pos) (zfB X.K E t):=zrF ha
theorem zjJ {zaT:List Expr} {t u:FT} (ha:ST X E a t) (hb:PW X (.BoolOp .And (b::zaT) pos) (zfB X.K E u)):PW X (.BoolOp .And (a::b::zaT) pos) (zfB X.K E (zok t u)):=zqE ha hb
theorem zdN {zaT:List Expr} {t u:FT} (ha:ST X E a t) (hb:PW X (.BoolOp .Or (b::zaT) pos) (zfB X.K E u)):PW X (.BoolOp .Or (a::b::zaT) pos) (zfB X.K E (tOr t u)):=zty ha hb
theorem zbo {op:BoolOp} {vs:List Expr} {t:FT} (h:PW X (.BoolOp op vs pos) (zfB X.K E t)):ST X E (.BoolOp op vs pos) t:=znX h
theorem zts {t:FT} (hc:ST X E c t) (ha:SE X E a fa) (hb:SE X E b fb):SE X E (.IfExp c a b pos) (cIf t fa fb):=zlx hc ha hb
theorem zjS {env:Env} (h: ∀ v p,e≠ .Starred v p):starEach (e::es) env=(false,eval e env)::starEach es env:=by
 cases e<;>first | rfl | exact absurd rfl (h _ _)
theorem zad:SA X E [] zar:=zrz
theorem zaa (ha:SE X E e fa) (hr:SA X E es fs) (hs:starEach (e::es) X.env=(false,eval e X.env)::starEach es X.env:=by exact zjS (λ_ _ z=>nomatch z)):SA X E (e::es) (zac fa fs):=znO ha hr hs
theorem zcu {k} (h:SA X E es fs):SE X E (.Tuple es k pos) (zeS fs):=zqd h
theorem zlr (h:SA X E es fs):SE X E (.List es pos) (zoI fs):=zrr h
theorem zgk (h:SA X E es fs):SE X E (.List es pos) (zhE fs):=zoJ h
theorem zaz {id:String} {F:List D->M D} (hc:zaH X (.builtin id) (zi9 X.K E F)) (hv:bootBuiltins x=some (.builtin id)) (hm:X.mg x=none) (ha:SA X E (e::es) fs) (hg:Gl X x:=by rfl) (hn:x≠"__name__":=by decide) (hdb:(x==("__debug__":Str))=false:=by decide)
  (he:starEach (e::es) X.env=(false,eval e X.env)::starEach es X.env:=by rfl) (hpl:(backTo pos (starEach es X.env)).any (·.1)=false:=by rfl):SE X E (.Call (.Name x p) (e::es) [] pos) (zaw F fs):=zlv hc hg hm hv ha hn hdb he hpl
theorem zdU {T:String} {F:List D->M D} (hc:zaH X (.type T) (zi9 X.K E F)) (hv:bootBuiltins x=some (.type T)) (hm:X.mg x=none) (ha:SA X E (e::es) fs) (hg:Gl X x:=by rfl) (hn:x≠"__name__":=by decide) (hdb:(x==("__debug__":Str))=false:=by decide)
  (he:starEach (e::es) X.env=(false,eval e X.env)::starEach es X.env:=by rfl) (hpl:(backTo pos (starEach es X.env)).any (·.1)=false:=by rfl):SE X E (.Call (.Name x p) (e::es) [] pos) (zaw F fs):=zlf hc hg hm hv ha hn hdb he hpl
theorem zos {T:String} (hk:zjh T) (hvT:bootBuiltins x=some (.type T)) (hm:X.mg "isinstance"=none) (hmT:X.mg x=none) (ha:SE X E a fa) (hg:Gl X "isinstance":=by rfl) (hgT:Gl X x:=by rfl)
  (hn:x≠"__name__":=by decide) (hd:(x==("__debug__":Str))=false:=by decide)
  (h1:starEach [a,.Name x p2] X.env=(false,eval a X.env)::starEach [.Name x p2] X.env:=by rfl) (h2:starEach [.Name x p2] X.env=[(false,eval (.Name x p2) X.env)]:=by rfl)
  (hpl:(backTo pos (starEach [.Name x p2] X.env)).any (·.1)=false:=by rfl):SE X E (.Call (.Name "isinstance" p1) [a,.Name x p2] [] pos) (cUn (zkd T) fa):=zqj hk hg hm hgT hmT hvT ha hn hd h1 h2 hpl
theorem zjx {pos2:Pos} (hc:X.calm=true) (hm1:X.mg "sorted"=none) (hm2:X.mg "set"=none) (he:SE X E e f) (hg1:Gl X "sorted":=by rfl) (hg2:Gl X "set":=by rfl)
  (h1:starEach [.Call (.Name "set" p2) [e] [] pos2] X.env=[(false,eval (.Call (.Name "set" p2) [e] [] pos2) X.env)]:=by rfl) (h2:starEach [e] X.env=[(false,eval e X.env)]:=by rfl):
  SE X E (.Call (.Name "sorted" p1) [.Call (.Name "set" p2) [e] [] pos2] [] pos) (cUn zdi f):=zjj hc hg1 hm1 hg2 hm2 he h1 h2
theorem zaj {k:Nat} {g:Addr} {fd:FuncData} {ps:List Str} {n:Nat} {F:List D->M D} (G:zbN X.prog X.w X.K X.mg X.base CX0 k g fd ps (zcc X.K n F)) (hr:zeE k X.A) (hm:X.mg x=some (.ref g)) (hk:W.keepIn X.K (.ref g)=true) (hb:zaJ X.K fd ps [])
  (ha:SA X E0x (e::es) fs) (hg:Gl X x:=by rfl) (hdb:(x==("__debug__":Str))=false:=by decide) (he:starEach (e::es) X.env=(false,eval e X.env)::starEach es X.env:=by rfl) (hpl:(backTo pos (starEach es X.env)).any (·.1)=false:=by rfl):
  SE X E0x (.Call (.Name x p) (e::es) [] pos) (zaw (zal n F) fs):=zot G hr hg hm hk hb ha hdb he hpl
theorem zbc:SSs X E [] zeD:=zqc
theorem zak {st:Stmt} {g:FS} (h1:SS X E st g):SSs X E [st] g:=zrp h1
theorem zag {st:Stmt} {zaT:List Stmt} {g g':FS} (h1:SS X E st g) (h2:SSs X E zaT g'):SSs X E (st::zaT) (zan g g'):=znY h1 h2
theorem zaQ (he:SE X E e f):SS X E (.Return (some e) pos) (zb3 f):=zsD he
theorem ze9 {ys ns:List Stmt} {t:FT} {g g':FS} (hc:ST X E c t) (ha:SSs X E ys g) (hb:SSs X E ns g'):SS X E (.If c ys ns pos) (sIf t g g'):=zt6 hc ha hb
theorem zcP (he:SE X E e f) (hs:swapsWith e none pos.line X.env=pure false:=by rfl):SS X E (.Expr e pos) (zdP f):=zpL he hs
theorem zaV (i:Nat) (hN:X.N.Nodup) (he:SE X E e f) (hi:X.N[i]? = some x:=by rfl) (hx:Loc X.env.scope x:=by first | exact Or.inl rfl | exact Or.inr rfl) (hf:X.fn x=true\/X.env.scope.names.lookup x=some .local:=by first | exact Or.inl rfl | exact Or.inr rfl)
  (hs:swapsWith e (some (.Name x p)) pos.line X.env=pure false:=by rfl):SS X E (.Assign [.Name x p] e pos) (zbH i f):=ztc i hN hi hx hf he hs
theorem zon {tg:Expr} {g:D->Sd->M Sd} (he:SE X E e f) (hg:SG X E tg g) (hs:swapsWithSole [tg] e pos.line X.env=pure false:=by rfl) (hw:swappedStores [tg] e X.env=pure none:=by rfl)
  (h1:(assignEach [tg] X.env).map (·.2)=[assign tg X.env]:=by rfl):SS X E (.Assign [tg] e pos) (zrf f g):=zso he hg hs hw h1
theorem zaE (i:Nat) (hN:X.N.Nodup) (hi:X.N[i]? = some x:=by rfl) (hx:Loc X.env.scope x:=by first | exact Or.inl rfl | exact Or.inr rfl) (hf:X.fn x=true\/X.env.scope.names.lookup x=some .local:=by first | exact Or.inl rfl | exact Or.inr rfl):SG X E (.Name x pos) (zbl i):=zoz i hN hi hx hf
theorem zjG:SGs X E [] zkx:=zoY
theorem zdX {g:D->Sd->M Sd} {gs:List D->Sd->M Sd} (h1:SG X E e g) (h2:SGs X E es gs) (hs:(assignEach (e::es) X.env).map (·.2)=assign e X.env::(assignEach es X.env).map (·.2):=by rfl):SGs X E (e::es) (zd4 g gs):=zl8 h1 h2 hs
theorem znh {k n:Nat} {gs:List D->Sd->M Sd} (hc:X.calm=true) (h:SGs X E es gs) (hn:(assignEach es X.env).length=n:=by rfl) (hst:(assignEach es X.env).findIdx? (·.1)=none:=by rfl):SG X E (.Tuple es k pos) (zke n gs):=zpF hc h hn hst
theorem zqm (ho:SE X E a fa) (hi:SE X E b fb) (ha: ∀ v,assign (.Subscript a b pos) X.env v=(do
      let ov<-holding [v] (eval a X.env)
      let iv<-holding [v,ov] (eval b X.env)
      standAt pos
      holding [v,ov,iv] (setItem ov iv v)
      release [v,ov,iv] []):=by intro _;rfl):SG X E (.Subscript a b pos) (znG fa fb):=zq4 λhs=>zrn ho hi hs ha
theorem zeC {tg:Expr} (he:SE X E e f):SI X E tg e (iSq f):=zp9 he
theorem zje {tg:Expr} (hm:X.mg "range"=none) (ha:SA X E [a] fs) (hg:Gl X "range":=by rfl) (hs:starEach [a] X.env=[(false,eval a X.env)]:=by rfl):SI X E tg (.Call (.Name "range" p) [a] [] pos) (zlS fs):=zou hg hm ha hs
theorem zhz {tg iter:Expr} {body:List Stmt} {fi:FA} {g:D->Sd->M Sd} {gb:FS} (hc:X.calm=true) (hp:PassesOwn (model X.prog X.w) X.A X.env X.xe) (hi:SI X E tg iter fi) (hg:SG X E tg g) (hb:SSs X E body gb)
  (hs: ∀ x,foldedSetIterable iter X.env x=pure x:=by intro _;rfl):SS X E (.For tg iter body [] pos) (zlt fi g gb):=zsp hc hp hi hg hb hs
theorem zkB:SCs X E [] (λ_=>pure true):=zqL
theorem zdF {t:FT} (h:ST X E c t):SCs X E [c] t:=zpC h
theorem zek {scope:Scope} {N:List Str} {src:List (Option Nat)} {tg iter elt:Expr} {ifs:List Expr} {fi:FA} {g:D->Sd->M Sd} {tc:FT} {te:FE} (hc:X.calm=true) (B:BOk X scope N src) (hk:zbf g src) (hi:SI X E tg iter fi)
  (hg: ∀ s H fp,SG (cxB X scope N s H fp) E tg g) (ht: ∀ s H fp,SCs (cxB X scope N s H fp) E ifs tc) (he: ∀ s H fp,SE (cxB X scope N s H fp) E elt te)
  (hs: ∀ x,foldedSetIterable iter X.env x=pure x:=by intro _;rfl):SE X E (.ListComp elt [⟨tg,iter,ifs,0⟩] scope pos) (zaZ fi g tc te src):=zn6 B hk hi hg ht he hs
theorem zdq {scope:Scope} {N:List Str} {src:List (Option Nat)} {tg iter elt:Expr} {ifs:List Expr} {fi:FA} {g:D->Sd->M Sd} {tc:FT} {te:FE} (i:Nat) {y:Str} {py spos:Pos} (hc:X.calm=true) (hN:X.N.Nodup) (B:BOk X scope N src) (hk:zbf g src) (hi:SI X E tg iter fi)
  (hg: ∀ s H fp,SG (cxB X scope N s H fp) E tg g) (ht: ∀ s H fp,SCs (cxB X scope N s H fp) E ifs tc) (he: ∀ s H fp,SE (cxB X scope N s H fp) E elt te)
  (hy:X.N[i]? = some y:=by rfl) (hx:Loc X.env.scope y:=by first | exact Or.inl rfl | exact Or.inr rfl) (hf:X.fn y=true\/X.env.scope.names.lookup y=some .local:=by first | exact Or.inl rfl | exact Or.inr rfl) (hsw:swapsWith (.ListComp elt [⟨tg,iter,ifs,0⟩] scope pos) (some (.Name y py)) spos.line X.env=pure true:=by rfl)
  (hs: ∀ x,foldedSetIterable iter X.env x=pure x:=by intro _;rfl):SS X E (.Assign [.Name y py] (.ListComp elt [⟨tg,iter,ifs,0⟩] scope pos) spos) (zbH i (zaZ fi g tc te src)):=zjV i B hk hi hg ht he hN hy hx hf hsw hs
end
theorem zaX.empty {K:W.Frag} {H:Hp}:zaX K ⟨[],[]⟩ H []:=⟨rfl,λm n a h=>by simp at h,λn a c h=>by simp at h,λn h=>by simp at h,λa h=>by cases h⟩
theorem zsW {K:W.Frag} {F:List D->M D} {H:Hp} {a:Addr} {ns:List Int} (hS:SqL K H a (ns.map V.int)) (hm: ∃ h',F [.scr (ns.map D.int)] []= .ok (.bl true) h'):zcc K 1 F [.ref a] H (λv _=>v= .bl true) λ_ _ _=>False:=by
 obtain ⟨h',e⟩:=hm
 refine ⟨rfl,⟨[],[]⟩,[],[.scr (ns.map D.int)],zam.cons ?_ zam.nil,zaX.empty,?_⟩
 ·simp only [Rel]
  refine ⟨a,ns.map V.int,rfl,?_,zcy.mpr rfl⟩
  rcases hS with h | h
  ·exact .inl ⟨h,λz=>by rcases z with z | z<;>cases z⟩
  ·exact .inr (.inr h)
 ·rw [e]
  intro ι1 H1 s hr v rv
  simpa [Rel] using rv
section
variable {sd:Sd} {a b:FE} {fs:FA} {t u:FT} {g g':FS} {F:D->D->M D}
@[simp] theorem zdQ:cOp F a b sd=(do let x<-a sd;let y<-b sd;F x y):=rfl
@[simp] theorem zoq {F:D->M D}:cUn F a sd=(do let x<-a sd;F x):=rfl
@[simp] theorem zbs {F:List D->M D}:zaw F fs sd=(do let ds<-fs sd;F ds):=rfl
@[simp] theorem ze2:zcm F a b sd=(do let z<-(do let x<-a sd;let y<-b sd;F x y);zcv z):=rfl
@[simp] theorem zir:ziS a sd=(do let x<-a sd;zcv x):=rfl
@[simp] theorem zhK:ziu t sd=(do let c<-t sd;pure (!c)):=rfl
@[simp] theorem zpw:zok t u sd=(do let c<-t sd;if c=true then u sd else pure false):=rfl
@[simp] theorem zn9:tOr t u sd=(do let c<-t sd;if c=true then pure true else u sd):=rfl
@[simp] theorem zm6:zrY a b sd=(do let c<-(do let x<-a sd;zcv x);if c=true then b sd else pure (.bl false)):=rfl
@[simp] theorem ztB:cOr a b sd=(do let c<-(do let x<-a sd;zcv x);if c=true then pure (.bl true) else b sd):=rfl
@[simp] theorem zm7:zsG a sd=(do let c<-(do let x<-a sd;zcv x);pure (.bl (!c))):=rfl
@[simp] theorem ztz:cIf t a b sd=(do let c<-t sd;if c=true then a sd else b sd):=rfl
@[simp] theorem zf0 {d:D}:cK d sd=pure d:=rfl
@[simp] theorem zbb:zar sd=pure []:=rfl
@[simp] theorem zaK:zac a fs sd=(do let x<-a sd;let r<-fs sd;pure (x::r)):=rfl
@[simp] theorem zkM:zeS fs sd=(do let ds<-fs sd;fits ds.length;pure (.tup ds)):=rfl
@[simp] theorem zhO:zoI fs sd=(do let ds<-fs sd;fits ds.length;pure (.lst ds)):=rfl
@[simp] theorem zfD:zhE fs sd=(do let ds<-fs sd;fits ds.length;zd3 ds):=rfl
@[simp] theorem zeo:zeD sd=pure (.nx sd):=rfl
@[simp] theorem zaP:zan g g' sd=(do let o<-g sd;zdt o g'):=rfl
@[simp] theorem zbZ {i:Nat}:zbH i a sd=(do let d<-a sd;pure (.nx (sd.set i (some d)))):=rfl
@[simp] theorem zcl:zb3 a sd=(do let d<-a sd;pure (.rt d)):=rfl
@[simp] theorem zhj:sIf t g g' sd=(do let c<-t sd;if c=true then g sd else g' sd):=rfl
@[simp] theorem zgM {fi:FA} {gt:D->Sd->M Sd}:zlt fi gt g sd=(do let ds<-fi sd;zba (λx sd=>do let sd1<-gt x sd;g sd1) ds sd):=rfl
@[simp] theorem zni {gt:D->Sd->M Sd}:zrf a gt sd=(do let d<-a sd;let sd'<-gt d sd;pure (.nx sd')):=rfl
@[simp] theorem zhw:zdP a sd=(do let _<-a sd;pure (.nx sd)):=rfl
@[simp] theorem znB:iSq a sd=(do let d<-a sd;zea d):=rfl
@[simp] theorem zhS:zlS fs sd=(do let ds<-fs sd;zkq ds):=rfl
@[simp] theorem znD {d:D}:znG a b d sd=(do let x<-a sd;let y<-b sd;zjM x y d;pure sd):=rfl
@[simp] theorem zcJ {i:Nat} {d:D}:zbl i d sd=pure (sd.set i (some d)):=rfl
@[simp] theorem ziA:zdt (.nx sd) g=g sd:=rfl
@[simp] theorem zs4 {d:D}:zdt (.rt d) g=pure (.rt d):=rfl
@[simp] theorem zsM:zcE (.nx sd)=pure .non:=rfl
@[simp] theorem zgs {d:D}:zcE (.rt d)=pure d:=rfl
@[simp] theorem zdj {c:Bool}:zcv (.bl c)=pure c:=rfl
@[simp] theorem ztx {lo hi:Sd->M (Option Int)}:cSl a lo hi sd=(do let d<-a sd;let l<-lo sd;let u<-hi sd;dSl d l u):=rfl
@[simp] theorem zj5:zeO sd=pure none:=rfl
@[simp] theorem zjo:zeL a sd=(do let d<-a sd;znz d):=rfl
@[simp] theorem zne {i:Int}:znz (.int i)=pure (some i):=rfl
@[simp] theorem zr6 {ds:List D} {lo hi:Option Int}:dSl (.tup ds) lo hi=pure (.tup (zfZ ds lo hi)):=rfl
@[simp] theorem zr4 {ds:List D}:ztW (.tup ds)=pure (.tup ds.reverse):=rfl
@[simp] theorem zst {i:Int}:zlu (.int i)=pure (.int (-i)):=rfl
@[simp] theorem zep {i j:Int}:zcK (.int i) (.int j)=pure (.int (i+j)):=rfl
@[simp] theorem zro {xs ys:List D}:zcK (.tup xs) (.tup ys)=(do fits (xs.length+ys.length);pure (.tup (xs++ys))):=rfl
@[simp] theorem znj {xs ys:List D}:zcK (.lst xs) (.lst ys)=(do fits (xs.length+ys.length);pure (.lst (xs++ys))):=rfl
@[simp] theorem zsX {i j:Int}:zrj (.int i) (.int j)=pure (.int (i - j)):=rfl
@[simp] theorem zmt {i j:Int}:dLt (.int i) (.int j)=pure (.bl (decide (i<j))):=rfl
@[simp] theorem zrU {i j:Int}:dLe (.int i) (.int j)=pure (.bl (decide (i<=j))):=rfl
@[simp] theorem zua {i j:Int}:dGt (.int i) (.int j)=pure (.bl (decide (j<i))):=rfl
@[simp] theorem zsn {i j:Int}:dGe (.int i) (.int j)=pure (.bl (decide (j<=i))):=rfl
@[simp] theorem znV {i j:Bool}:zhW (.bl i) (.bl j)=pure (.bl (i != j)):=rfl
@[simp] theorem zqX {ds:List D}:zeF [.tup ds]=pure (.int ds.length):=rfl
@[simp] theorem zp7 {ds:List D}:zeF [.lst ds]=pure (.int ds.length):=rfl
@[simp] theorem znt {ds:List D}:zeF [.scr ds]=pure (.int ds.length):=rfl
@[simp] theorem zqw {ds:List D}:zc8 [.tup ds]=pure (.tup ds):=rfl
@[simp] theorem zm5 {ds:List D}:zc8 [.lst ds]=pure (.tup ds):=rfl
@[simp] theorem zpM {ds:List D}:zsd [.tup ds]=pure (.lst ds):=rfl
@[simp] theorem zqG {ds:List D}:zea (.tup ds)=pure ds:=rfl
@[simp] theorem zqJ {ds:List D}:zea (.lst ds)=pure ds:=rfl
@[simp] theorem zhv {F:List D->M D} {x:D}:zal 1 F [x]=F [x]:=rfl
@[simp] theorem zbT {F:List D->M D} {x y:D}:zal 2 F [x,y]=F [x,y]:=rfl
@[simp] theorem zo4 {F:List D->M D} {x y z:D}:zal 3 F [x,y,z]=F [x,y,z]:=rfl
@[simp] theorem zfo {body:D->Sd->M Out}:zba body [] sd=pure (.nx sd):=rfl
theorem zcB {body:D->Sd->M Out} {x:D} {r:List D}:zba body (x::r) sd=(do let o<-body x sd;match o with | .nx sd'=>zba body r sd' | .ct sd'=>zba body r sd' | .bk sd'=>pure (.nx sd') | .rt d=>pure (.rt d)):=rfl
@[simp] theorem zj9 {gs:List D->Sd->M Sd} {x y:D}:zke 2 gs (.tup [x,y]) sd=gs [x,y] sd:=rfl
@[simp] theorem zjt:zkx [] sd=pure sd:=rfl
@[simp] theorem zim {gt:D->Sd->M Sd} {gs:List D->Sd->M Sd} {x:D} {r:List D}:zd4 gt gs (x::r) sd=(do let sd1<-gt x sd;gs r sd1):=rfl
@[simp] theorem zrD {n:Nat} {k:Int} {d:D}:zjM (.cel n) (.int k) d=(do let ds<-zah n;let j<-ofO (ixN ds.length k);zbe n (ds.set j d)):=rfl
@[simp] theorem zr7 {ds:List D} {i:Int}:dIx (.tup ds) (.int i)=ofO (atI ds i):=rfl
@[simp] theorem zqP {ds:List D} {i:Int}:dIx (.lst ds) (.int i)=ofO (atI ds i):=rfl
@[simp] theorem zr9 {ds:List D} {i:Int}:dIx (.scr ds) (.int i)=ofO (atI ds i):=rfl
@[simp] theorem zqR {n:Nat} {i:Int}:dIx (.cel n) (.int i)=(do let ds<-zah n;ofO (atI ds i)):=rfl
@[simp] theorem zeM {α:Type} {x:α}:ofO (some x)=pure x:=rfl
@[simp] theorem zrB {x:D} {r:List D}:atI (x::r) 0=some x:=by unfold atI ixN;simp
@[simp] theorem zr2 {x y:D} {r:List D}:atI (x::y::r) 1=some y:=by
 have:=zeA (xs:=x::y::r) (j:=1) (v:=y) rfl
 simpa using this
end
theorem zaD {n:Nat} (h:n<=1000):fits n=pure ():=by
 unfold fits
 rw [qa4 (qaS h (by decide))]
theorem zio {i j:Int} (h:(zaR i || zaR j)=true):zpf (.int i) (.int j)=pure (.int (i*j)):=by
 show (if (zaR i || zaR j)=true then _ else _)=_
 rw [qa4 h]
theorem zdY {i:Int} (h: -1000000000000000<i) (h':i<1000000000000000):zaR i=true:=by unfold zaR;simp;omega
theorem zqC {i j:Int} (h: -1000000000000000<i) (h':i<1000000000000000):zpf (.int i) (.int j)=pure (.int (i*j)):=zio (by rw [zdY h h'];rfl)
theorem zqx {i j:Int} (h: -1000000000000000<j) (h':j<1000000000000000):zpf (.int i) (.int j)=pure (.int (i*j)):=zio (by rw [zdY h h'];simp)
theorem zhm {i j:Int} (h:0<j):zqK (.int i) (.int j)=pure (.int (i % j)):=by
 show (if (decide (0<j))=true then _ else _)=_
 rw [qa4 (by simpa using h)]
theorem zlR {i j:Int} (h:0<j) (h':j<2^64):znJ (.int i) (.int j)=pure (.int (i / j)):=by
 show (if (decide (0<j) && decide (j<2^64))=true then _ else _)=_
 rw [qa4 (by rw [qaG];exact ⟨by simpa using h,by simpa using h'⟩)]
theorem zs9 {i j:Int}:dEq (.int i) (.int j)=pure (.bl (i==j)):=by
 unfold dEq zjk
 simp only [pd]
 rw [qa4 (show zh1 (.int i) (.int j)=true from rfl)]
 rfl
theorem zrR {i j:Int}:dNe (.int i) (.int j)=pure (.bl (!(i==j))):=by
 unfold dNe zjk
 simp only [pd]
 rw [qa4 (show zh1 (.int i) (.int j)=true from rfl)]
 rfl
def wp {α:Type} (m:M α) (h:Hh) (P:α->Hh->Prop):Prop:= ∃ a h',m h= .ok a h'/\P a h'
section
variable {α β:Type} {h:Hh} {P P':α->Hh->Prop}
theorem zap {a:α}:wp (pure a:M α) h P↔P a h:=⟨λ⟨b,h',e,q⟩=>by cases (show R.ok a h=R.ok b h' from e);exact q,λq=>⟨a,h,rfl,q⟩⟩
theorem zaq {m:M β} {f:β->M α}:wp (m>>=f) h P↔wp m h λb h'=>wp (f b) h' P:=by
 constructor
 ·rintro ⟨a,h',e,q⟩
  have e:M.bind m f h= .ok a h':=e
  unfold M.bind at e
  cases z:m h with
  | ok b h1=>rw [z] at e;exact ⟨b,h1,z,a,h',e,q⟩
  | exc c h1=>rw [z] at e;cases e
  | bad=>rw [z] at e;cases e
 ·rintro ⟨b,h1,e,a,h',e2,q⟩
  refine ⟨a,h',?_,q⟩
  show M.bind m f h=_
  unfold M.bind
  rw [e]
  exact e2
theorem zkv {m:M α} (q:wp m h P) (k: ∀ a h',P a h'->P' a h'):wp m h P':=by
 obtain ⟨a,h',e,q⟩:=q
 exact ⟨a,h',e,k _ _ q⟩
theorem zcq {n:Nat} {ds:List D} {P:List D->Hh->Prop} (e:h[n]? = some (.lst ds)):wp (zah n) h P↔P ds h:=by
 unfold wp zah
 rw [e]
 exact ⟨λ⟨b,h',e,q⟩=>by cases e;exact q,λq=>⟨_,_,rfl,q⟩⟩
theorem zhQ {n:Nat} {ds:List D} {P:Unit->Hh->Prop}:wp (zbe n ds) h P↔P () (h.set n (.lst ds)):=⟨λ⟨b,h',e,q⟩=>by cases (show R.ok () (h.set n (.lst ds))=R.ok b h' from e);exact q,λq=>⟨_,_,rfl,q⟩⟩
theorem zif {ds:List D} {P:D->Hh->Prop}:wp (zd3 ds) h P↔P (.cel h.length) (h++[.lst ds]):=⟨λ⟨b,h',e,q⟩=>by cases (show R.ok (D.cel h.length) (h++[C.lst ds])=R.ok b h' from e);exact q,λq=>⟨_,_,rfl,q⟩⟩
end
theorem ze5 {f:D->M (Option D)} {k:D->Option D}: ∀ {ds:List D},(∀ x∈ds,f x=pure (k x))->zca f ds=pure (ds.filterMap k)
 | [],_=>rfl
 | x::r,hf=>by
  rw [zca,hf x qau,ze5 λy hy=>hf y (qan _ hy)]
  simp only [pure_bind]
  cases e:k x<;>simp [qat,e]
theorem ziP {fi:FA} {g:D->Sd->M Sd} {tc:FT} {te:FE} {src:List (Option Nat)} {sd:Sd} {ds:List D} {k:D->Option D} (hi:fi sd=pure ds) (hl:ds.length<=1000) (hf: ∀ x∈ds,zbG g tc te (zas src sd) x=pure (k x)):zaZ fi g tc te src sd=pure (.lst (ds.filterMap k)):=by
 unfold zaZ
 rw [hi]
 simp only [pure_bind]
 rw [zaD hl]
 simp only [pure_bind]
 rw [ze5 hf]
 simp only [pure_bind]
theorem zlq {fi:FA} {g:D->Sd->M Sd} {tc:FT} {te:FE} {src:List (Option Nat)} {sd:Sd} {ds:List D} {k:D->D} (hi:fi sd=pure ds) (hl:ds.length<=1000) (hf: ∀ x∈ds,zbG g tc te (zas src sd) x=pure (some (k x))):zaZ fi g tc te src sd=pure (.lst (ds.map k)):=by
 rw [ziP (k:=λx=>some (k x)) hi hl hf]
 simp
theorem zc3: ∀ bs:List Int,zcn (bs.map D.int)=some bs
 | []=>rfl
 | b::r=>by rw [qaM,zcn,zc3 r];rfl
def kn:D->Bool
 | .non | .bl _ | .int _ | .str _ | .tup _ | .lst _ | .dct=>true
 | _=>false
def isT:D->Bool
 | .tup _=>true
 | _=>false
def isI:D->Bool
 | .int _=>true
 | _=>false
theorem zrA {d:D} (k:kn d=true):zkd "tuple" d=pure (.bl (isT d)):=by
 cases d<;>simp [kn] at k<;>simp [zkd,tyD,isB,isT]
theorem zoj {d:D} (k:kn d=true):zkd "int" d=pure (.bl (isI d || (match d with | .bl _=>true | _=>false))):=by
 cases d<;>simp [kn] at k<;>simp [zkd,tyD,isB,isI]
theorem zqH {d:D} (k:kn d=true):zkd "bool" d=pure (.bl (match d with | .bl _=>true | _=>false)):=by
 cases d<;>simp [kn] at k<;>simp [zkd,tyD,isB,isI]
mutual
noncomputable def zkr:D->Bool
 | .non | .bl _ | .int _=>true
 | .str x=>PyData.strOk x
 | .tup ds=>decide (ds.length<64) && zhc ds
 | .lst ds=>decide (ds.length<64) && zhc ds
 | _=>false
noncomputable def zhc:List D->Bool
 | []=>true
 | d::r=>zkr d && zhc r
end
mutual
theorem znE: ∀ {d:D},zkr d=true-> ∃ p,pd d=some p/\p.canLay0=true
 | .non,_=>⟨.none,rfl,rfl⟩
 | .bl b,_=>⟨.bool b,rfl,rfl⟩
 | .int i,_=>⟨.int i,rfl,rfl⟩
 | .str x,g=>⟨.str x,rfl,by simpa [zkr,PyData.canLay0] using g⟩
 | .tup ds,g=>by
  have g2:zhc ds=true:=by simp [zkr] at g;exact g.2
  obtain ⟨ps,e,c⟩:=zfW g2
  exact ⟨.tuple ps,by unfold pd;rw [e];rfl,c⟩
 | .lst ds,g=>by
  have g2:zhc ds=true:=by simp [zkr] at g;exact g.2
  obtain ⟨ps,e,c⟩:=zfW g2
  exact ⟨.list ps,by unfold pd;rw [e];rfl,c⟩
 | .cel _,g=>by simp [zkr] at g
 | .set _,g=>by simp [zkr] at g
 | .dct,g=>by simp [zkr] at g
 | .fn _,g=>by simp [zkr] at g
 | .scr _,g=>by simp [zkr] at g
 | .exn _,g=>by simp [zkr] at g
theorem zfW: ∀ {ds:List D},zhc ds=true-> ∃ ps,pdL ds=some ps/\PyData.canLayAll0 ps=true
 | [],_=>⟨[],rfl,rfl⟩
 | d::r,g=>by
  simp [zhc] at g
  obtain ⟨p,e,c⟩:=znE g.1
  obtain ⟨ps,e2,c2⟩:=zfW g.2
  exact ⟨p::ps,by unfold pdL;rw [e,e2],by simp [PyData.canLayAll0,c,c2]⟩
end
theorem zbK: ∀ xs:List Int,pdL (xs.map D.int)=some (xs.map PyData.int)
 | []=>rfl
 | x::r=>by rw [qaM,pdL,zbK r];rfl
theorem zaU: ∀ xs:List Int,PyData.canLayAll0 (xs.map PyData.int)=true
 | []=>rfl
 | x::r=>by simp [PyData.canLayAll0,PyData.canLay0,zaU r]
theorem zbk: ∀ xs:List Int,PyData.depthAll (xs.map PyData.int)=0
 | []=>rfl
 | x::r=>by simp [PyData.depthAll,PyData.depth,zbk r]
theorem zfQ: ∀ xs ys:List Int,PyData.eqvAll (xs.map PyData.int) (ys.map PyData.int)=(xs==ys)
 | [],[]=>rfl
 | [],_::_=>rfl
 | _::_,[]=>rfl
 | x::xs,y::ys=>by
  simp only [qaM,PyData.eqvAll,PyData.eqv,zfQ xs ys]
  rfl
theorem zfU (k:Int): ∀ xs:List Int,((xs.map PyData.int).any λy=>PyData.eqv y (.int k))=xs.any (· == k)
 | []=>rfl
 | x::r=>by simp only [qaM,List.any_cons,zfU k r];rfl
theorem zh7 (k:Int) (xs:List Int):dIn (.int k) (.tup (xs.map D.int))=pure (.bl (xs.any (· == k))):=by
 show zn1 false (.int k) (.tup (xs.map D.int))=_
 unfold zn1
 simp only [pd]
 rw [zbK]
 have c:zmX (.int k) (xs.map PyData.int)=true:=by
  unfold zmX
  simp [PyData.canLay0,zaU,PyData.depth,zbk]
 simp only [c,if_true,zfU]
 rfl
end L3
namespace L2
open LT
section
variable {X:Cx}
theorem zgz:zaH X (.builtin "divmod") (λxs H Q=> ∃ i j:Int,xs=[.int i,.int j]/\0<j/\j<2^100/\ ∀ p,H p=none->Q (.ref p) (upd H p (.tup [.int (i / j),.int (i % j)]))):=by
 intro pins s σ H xs us Q I r h
 obtain ⟨i,j,rfl,h0,h1,q⟩:=h
 cases r with
 | cons r1 r2=>
  cases r2 with
  | cons r3 r4=>
   cases r4
   obtain ⟨t,rfl⟩:=r1
   obtain ⟨u,rfl⟩:=r3
   refine divmod_int ⋯ ?_ (.inl (PyProof.noPylong_of_log2 ?_))
   ·refine ⟨.ref s.heap.objs.size,_,I.laid (t':=s.toks+1+1) (o:= .tup [.int (i / j),.int (i % j)]) (λb ob q=>qag _ q) (qaV _) ?_,rfl,q _ (I.hok.fresh (qaV _))⟩
    refine ⟨by show 2<=sizeLine;decide,[.int (i.fdiv j) s.toks,.int (i.fmod j) (s.toks+1)],.cons ⟨s.toks,by rw [Int.fdiv_eq_ediv_of_nonneg _ ⋯]⟩ (.cons ⟨s.toks+1,by rw [Int.fmod_eq_emod_of_nonneg _ ⋯]⟩ .nil),zjL.new _ _⟩
   ·have h1:j.natAbs<2^100:=by omega
    have h0:j.natAbs≠0:=by omega
    exact lt_trans ((log2_lt h0).mpr h1) (by decide)
end
end L2
namespace L3
open L2 LT
section
variable {X:Cx} {E:XE} {a b c o e:Expr} {pos apos cpos:Pos} {fa fb fc fo fe:FE}
def zd8:List D->M D
 | [.int i,.int j]=>if 0<j/\j<2^100 then pure (.tup [.int (i / j),.int (i % j)]) else M.bad
 | _=>M.bad
theorem zge:zaH X (.builtin "divmod") (zi9 X.K E zd8):=by
 refine zaH.imp zgz λxs H Q ⟨ι,h,ds,rl,hr,q⟩=> ?_
 unfold zd8 at q
 split at q
 ·simp only [zam,Rel] at rl
  obtain ⟨v,r,rfl,rfl,v',r',rfl,rfl,rfl⟩:=rl
  obtain ⟨⟨c1,c2⟩,q⟩:=Fin.guard q
  refine ⟨_,_,rfl,c1,c2,λp hp=>zpp hr ?_ q hp⟩
  exact zam.cons (by simp [Rel]) (zam.cons (by simp [Rel]) zam.nil)
 ·exact qa0 q
def zf6 (F F':D->D->M D) (a b c:FE):FE:=λsd=>do
 let x<-a sd
 let y<-b sd
 let z<-F x y
 let k<-zcv z
 if k=true then do let w<-c sd;F' y w else pure (.bl false)
theorem zlT {K:W.Frag} {F F':D->D->M D} (σ:St) (H:Hp) (Q:VK) (q:zha K E (zf6 F F' fa fb fc) σ H Q):znn (zcw K E F) (zcw K E F') (zha K E fa) (zha K E fb) (zha K E fc) σ H Q:=by
 obtain ⟨ι,h,sd,L,hh,q⟩:=q
 refine ⟨ι,h,sd,L,hh,Fin.bind q λd1 h1 ι1 H1 e1 s1 hr1 q1 v r1=> ?_⟩
 refine ⟨ι1,h1,sd,L.step s1,hr1,Fin.bind q1 λd2 h2 ι2 H2 e2 s2 hr2 q2 w r2=> ?_⟩
 refine ⟨ι2,h2,d1,d2,r1.step s2,r2,hr2,Fin.bind q2 λz h3 ι3 H3 e3 s3 hr3 q3 u r3=> ?_⟩
 cases z with
 | bl k=>
  simp only [Rel] at r3
  refine ⟨k,r3,?_⟩
  have L3':=((L.step s1).step s2).step s3
  cases k with
  | false=>exact zo0 (Fin.out hr3 q3 _ (by simp [Rel]))
  | true=>
   refine zoU ⟨ι3,h3,sd,L3',hr3,Fin.bind q3 λd4 h4 ι4 H4 e4 s4 hr4 q4 w4 r4=> ?_⟩
   exact ⟨ι4,h4,d2,d4,(r2.step s3).step s4,r4,hr4,q4⟩
 | _=>exact qa0 q3
theorem zlW {op op':CmpOp} {F F':D->D->M D} (ho:OpR X (compareOp op) (zcw X.K E F)) (ho':OpR X (compareOp op') (zcw X.K E F')) (ha:SE X E a fa) (hb:SE X E b fb) (hc:SE X E c fc)
  (hm:lastMarks [op,op'] [b,c]=false:=by with_unfolding_all rfl):ST X E (.Compare a [op,op'] [b,c] pos) (ziS (zf6 F F' fa fb fc)):=by
 refine PT.imp (zlZ ho ho' ha hb hc hm) λσ H Q q=> ?_
 exact zlT σ H _ (zeh (f:=zf6 F F' fa fb fc) σ H Q q)
def zdH:D->M Unit
 | .cel n=>do let _<-zah n;pure ()
 | _=>M.bad
def zcW (x y:D):M D:=match x with
 | .cel n=>do
  let ds<-zah n
  fits (ds.length+1)
  zbe n (ds++[y])
  pure .non
 | _=>M.bad
def zdB (fo fe:FE):FE:=λsd=>do
 let x<-fo sd
 zdH x
 let y<-fe sd
 zcW x y
theorem zfP {α:Type} {K:W.Frag} {ι:Io} {H:Hp} {h:Hh} {n:Nat} {f:List D->M α} {P:α->Io->Hp->Prop} (q:Fin K E ι H ((zah n>>=f) h) P): ∃ ds,h[n]? = some (.lst ds)/\Fin K E ι H (f ds h) P:=by
 have q':Fin K E ι H (M.bind (zah n) f h) P:=q
 unfold M.bind at q'
 cases z:zah n h with
 | bad=>rw [z] at q';exact qa0 q'
 | exc c h'=>unfold zah at z;split at z<;>cases z
 | ok ds h'=>
  rw [z] at q'
  obtain ⟨rfl,z2⟩:=zbz z
  exact ⟨ds,z2,q'⟩
theorem zhR (ho:SE X E o fo) (he:SE X E e fe)
  (hbase:attributeBase o "append" X.env (eval o X.env)=eval o X.env:=by rfl)
  (hfew:((backTo cpos (starEach [e] X.env)).all (λx=> !x.1) && (backToKw cpos (keywordEach [] X.env)).all (λx=>x.1.isSome)
    && decide (([e]:List Expr).length+([]:List Keyword).length+(if ([]:List Keyword).isEmpty then 0 else 1)<30))=true:=by rfl)
  (hline:(apos.endLine==cpos.line)=true:=by rfl) (hs:starEach [e] X.env=(false,eval e X.env)::starEach [] X.env:=by rfl) (hplain:(backTo cpos (starEach [] X.env)).any (·.1)=false:=by rfl):
  SE X E (.Call (.Attribute o "append" apos) [e] [] cpos) (zdB fo fe):=by
 refine PE.imp (zqM PySem.F.plainAttrs_list PySem.F.slot_list_append PySem.F.type_list_append zg2 ho (zbC he zcN hs) hbase hfew hline hs hplain) λσ H Q ⟨ι,h,sd,L,hh,q⟩=>⟨ι,h,sd,L,hh,Fin.bind q λd h1 ι1 H1 e1 s1 hr1 q1 v rv=> ?_⟩
 cases d with
 | cel n=>
  have q2:Fin X.K E ι1 H1 ((zah n>>=λ_=>fe sd>>=λy=>zcW (.cel n) y) h1) (λd ι' H'=> ∀ v,Rel X.K ι' H' d v->Q v H'):=by
   have ee:(zdH (.cel n)>>=λ_=>fe sd>>=λy=>zcW (.cel n) y:M D)=(zah n>>=λ_=>fe sd>>=λy=>zcW (.cel n) y):=by
    show ((zah n>>=λ_=>pure ())>>=λ_=>fe sd>>=λy=>zcW (.cel n) y)=_
    simp only [bind_assoc,pure_bind]
   rw [<- ee]
   exact q1
  obtain ⟨ds,e2,q3⟩:=zfP q2
  obtain ⟨a,vs,rfl,hn,hH,rl⟩:=hr1.read rv e2
  refine ⟨.inl ⟨rfl,vs,SqL.of hH⟩,ι1,h1,sd,L.step s1,hr1,Fin.bind q3 λy h3 ι3 H3 e3 s3 hr3 q4 w rw'=> ?_⟩
  have rv3:=rv.step s3
  have q5:Fin X.K E ι3 H3 ((zah n>>=λds=>fits (ds.length+1)>>=λ_=>zbe n (ds++[y])>>=λ_=>pure D.non) h3) (λd ι' H'=> ∀ v,Rel X.K ι' H' d v->Q v H'):=q4
  obtain ⟨ds3,e4,q6⟩:=zfP q5
  obtain ⟨a3,vs3,ea,hn3,hH3,rl3⟩:=hr3.read rv3 e4
  cases ea
  obtain ⟨z,q7⟩:=Fin.fits q6
  refine ⟨a,vs3,w,rfl,rfl,hH3,by rw [<- rl3.length];omega,?_⟩
  have q8:Fin X.K E ι3 H3 (R.ok D.non (h3.set n (.lst (ds3++[y])))) (λd ι' H'=> ∀ v,Rel X.K ι' H' d v->Q v H'):=q7
  exact q8 ι3 _ (hr3.cellS hn3) (hr3.cell hn3 (rl3.append (zam.cons rw' zam.nil))) _ (by simp [Rel])
 | _=>exact qa0 q1
end
end L3
namespace Att
open PySem.W PySem.Calls
theorem ze0: ∀ {ns:List Int} {i:Int},i∈ns->Builtin.Int.intBits i<=WData.weightAll (ns.map WData.int)
 | n::r,i,h=>by
  rw [qaM,WData.weightAll]
  rcases qaP.mp h with e | e
  ·subst e
   have:WData.weight (.int i)=Builtin.Int.intBits i:=by simp only [WData.weight,Builtin.Int.intBits]
   omega
  ·have:=ze0 e
   omega
theorem zoV {ns:List Int} (h:WData.layableAll [WData.list (ns.map WData.int)]=true): ∀ i∈ns,Builtin.Int.intBits i<=2^20:=by
 intro i hi
 have h2:WData.weight (WData.list (ns.map WData.int))<=2^20:=by
  simp only [WData.layableAll,List.all_cons,List.all_nil,Bool.and_true,WData.layable,qaG,qaD] at h
  exact h.2
 have h3:WData.weight (WData.list (ns.map WData.int))=WData.weightAll (ns.map WData.int):=by simp only [WData.weight]
 have:=ze0 hi
 omega
theorem zgR {l:OpenLaw} {n:Nat} {q:Program} {loose:List Str} {XP:(Str->Option Value)->Heap->Prop} {YP:World->Heap->Prop} {d:DefRec}
  (hn:l.most=some n) (hdf:d.params.defaults=[])
  (call: ∀ (w:World) (s₀ s₁:Shared) (mg mb:Str->Option Value) (fa:Addr) (o:Obj) (pm cd doc:Value) (a:Addr) (vs:List Value) (ns:List Int),
    Ground q loose [] XP w s₀ mg mb s₁.heap->YP w s₁.heap->
    s₁.heap.get? fa=some o->o.data= .func (docDef d.name d.params d.body d.scope pm cd doc)->s₁.heap.CodeRec cd d.name->mg d.name=some (.ref fa)->
    s₁.heap.get? a=some {cls:= .type "list",data:= .seq vs.toArray}->IntsAre vs ns->ns.length<=n->(∀ i∈ns,Builtin.Int.intBits i<=2^20)->s₁.gens= #[]->
    codeAny (model l.prog w) callerA (.call (.ref fa) ⟨[.ref a],[]⟩) (λr s'=>r= .ok (.ret (.bool true))/\OldK s₁.heap s'.heap/\s'.os=s₁.os/\AllBare s'.gens) s₁):
  WalkO q loose XP YP l.row.toRowW d [] (λf vs=>PySem.call f vs):=by
 intro w s₀ s₁ mg mb G Y fa o pm cd doc dV kV ho hd hcd hD hmg hg args vals as hpre hlay hrd hwl hlo
 obtain rfl:dV= .none:=Dflts.none hD hdf
 obtain rfl:kV= .none:=Dflts.noKw hD
 obtain ⟨a,vs,ns,rfl,rfl,hobj,hints,hlen⟩:=zkm hn hpre hwl
 refine enter_call (codeAny_mono (call w s₀ s₁ mg mb fa o pm cd doc a vs ns G Y ho (fd_plain hd) hcd hmg hobj hints hlen (zoV hlay) hg) λr s' hq=> ?_)
 obtain ⟨rfl,h2,h3,h4⟩:=hq
 exact ⟨.inl ⟨.bool true,.bool true,[],rfl,λ_=>rfl,.bool true,zk4 l _,λ_=>⟨List.Pairwise.nil,λ_ hm=>(nomatch hm)⟩⟩,h2,h3,h4⟩
end Att
namespace L2
theorem zmK {l:W.OpenLaw} {n k:Nat} {q:Program} {loose:List Str} {XP:(Str->Option Value)->Heap->Prop} {YP:World->Heap->Prop} {d:DefRec} {K:Params->W.Frag} {CX:World->CXT} {sp:World->Sp} {x:Str}
  (hn:l.most=some n) (hn2:n<=sizeLine) (hdf:d.params.defaults=[]) (hr:zeE k callerA)
  (hY: ∀ (w:World) (h:Heap),YP w h->(K w.params).In h)
  (F: ∀ (w:World) (mg:Str->Option Value) (fa:Addr) (h:Heap),(K w.params).In h->h.Ns mainGlobals mg->mg d.name=some (.ref fa)->
    ∃ fd:FuncData,(∀ (s:Shared) (u:Value),BindsTo s fd ⟨[u],[]⟩ [(x,u)])/\
      ∀ base:Heap,(K w.params).In base->base.Ns mainGlobals mg->zbN l.prog w (K w.params) mg base (CX w) k fa fd [x] (sp w))
  (hsp: ∀ (w:World) (H:Hp) (a:Addr) (ns:List Int),ns.length<=n->(∀ i∈ns,Builtin.Int.intBits i<=2^20)->SqL (K w.params) H a (ns.map V.int)->sp w [.ref a] H (λv _=>v= .bl true) λ_ _ _=>False)
  (hCX: ∀ (w:World) (H:Hp) (s:Shared) (e:Value) (s':Shared),CX w [] H s (λ_ _ _=>False) e s'->False):
  W.WalkO q loose XP YP l.row.toRowW d [] (λf vs=>PySem.call f vs):=by
 refine Att.zgR hn hdf λw s₀ s₁ mg mb fa o pm cd doc a vs ns G Y ho hd hcd hmg hobj hints hlen hbits hg=> ?_
 have KX:=hY w _ Y
 obtain ⟨fd,hb,hF⟩:=F w mg fa _ KX G.T.g hmg
 exact zmh KX G.T.g G.T.b G.T.builtins G.T.nolimit hg hobj hints (qaS hlen hn2) hr hF hb (λH hO hS=>hsp w H a ns hlen hbits hS) λH e s'=>hCX w H s₁ e s'
end L2
namespace L3
open L2 LT
section
variable {X:Cx} {E:XE}
def zgt (i j:Int):Bool:=decide (Builtin.Int.intBits i+Builtin.Int.intBits j<=2^26)
theorem zk6 {i j:Int} (h:zgt i j=true):IntMulOk i j:=by
 unfold zgt at h
 rw [qaD] at h
 unfold IntMulOk
 intro z
 rw [qaG] at z
 have z2:=z.2
 unfold Builtin.Int.intTooBig at z2
 have hb:bitsLine=2^27:=rfl
 rw [qaD,hb] at z2
 omega
theorem zo1:OpR X (binaryOp .Mult) (rI (λi j=>IntMulOk i j) λi j=> .int (i*j)):=opI λ_ _ _ _ _ _ _ hc q=>mul_int q hc
def zfE:=dII (λi j=>zaR i || zaR j || zgt i j) λi j=> .int (i*j)
theorem zeb:OpR X (binaryOp .Mult) (zcw X.K E zfE):=zl2 (zo1) (λi j h=>by
  rw [Bool.or_eq_true] at h
  rcases h with h | h
  · rcases (Bool.or_eq_true _ _).mp h with z | z
    · have:=zb2 z
      exact IntMulOk.of_left (intBits_le_64 this.1 this.2)
    · have:=zb2 z
      exact IntMulOk.of_right (intBits_le_64 this.1 this.2)
  · exact zk6 h) λ_ _ _ _=>by simp [Rel]
end
end L3
namespace PySem
open PySem.Sem (wp)
open PySem.AutoSeq1 (wpAny_loadPart')
section
variable {prog:Program} {w:World} {A:Around} {E:Value->Shared->Prop} {s:Shared}
end
end PySem
namespace L2
open LT
theorem zeB: ∀ (ns:List Int) (us:List Value),ns.length=us.length->(∀ (j:Nat) u,us[j]? = some u-> ∃ t,u=Value.int (ns.getD j 0) t)->zaS (ns.map V.int) us
 | [],[],_,_=> .nil
 | [],_::_,h,_=>by cases h
 | _::_,[],h,_=>by cases h
 | n::ns,u::us,h,hg=>by
  refine .cons ?_ (zeB ns us (by simpa using h) λj w e=> ?_)
  ·obtain ⟨t,e⟩:=hg 0 u rfl
   exact ⟨t,by simpa using e⟩
  ·obtain ⟨t,e⟩:=hg (j+1) w (by simpa using e)
   exact ⟨t,by simpa using e⟩
section
variable {X:Cx}
theorem zhe:zaH X (.type "range") (λxs H Q=> ∃ j:Int,xs=[.int j]/\ ∀ p,H p=none->Q (.ref p) (upd H p (.rng 0 j))):=by
 intro pins s σ H xs us Q I r h
 obtain ⟨j,rfl,q⟩:=h
 obtain ⟨u,rfl,rx⟩:=zdM r
 obtain ⟨t,rfl⟩:=rx
 refine call_range_1 ?_
 exact ⟨.ref s.heap.objs.size,_,I.laid (t':=s.toks+1+1) (o:= .rng 0 j) (λb ob q=>qag _ q) (qaV _) ⟨_,_,_,qar _ rfl⟩,rfl,q _ (I.hok.fresh (qaV _))⟩
theorem zlA {j:Int} (h0:0<=j):Builtin.Range.rangeSize 0 j 1=(j.toNat:Int):=by
 unfold Builtin.Range.rangeSize
 rw [qa4 (by decide)]
 split
 ·rw [Int.ediv_one];omega
 ·omega
end
end L2
namespace L3
open L2 LT
section
variable {X:Cx} {E:XE} {e:Expr} {f:FE}
theorem zlU {K:W.Frag} {ι:Io} {H:Hp} {n:Nat}:zam K ι H (zc0 0 n) (((List.range n).map λ(k:Nat)=>(k:Int)).map V.int):=by
 have:zc0 0 n=((List.range n).map λ(k:Nat)=>(k:Int)).map D.int:=by unfold zc0;simp
 rw [this]
 exact zcy.mpr rfl
end
@[simp] theorem zaI {d:D} {r:Sd}:zaf 0 (some d::r)=pure d:=rfl
@[simp] theorem za2 {n:Nat} {x:Option D} {r:Sd}:zaf (n+1) (x::r)=zaf n r:=rfl
def zci (m:Int):Int->List D->Bool
 | _,[]=>true
 | l,.int i::r=>decide (l<=i) && decide (i<m) && zci m (i+1) r
 | _,_::_=>false
theorem zcC {m:Int}: ∀ {xs:List Int} {l:Int},zci m l (xs.map D.int)=true↔xs.Pairwise (· < ·)/\ ∀ x∈xs,l<=x/\x<m
 | [],l=>by simp [zci]
 | x::r,l=>by
  rw [qaM,zci,qaG,qaG,zcC (xs:=r) (l:=x+1),qay]
  simp only [qaD,qaP,forall_eq_or_imp]
  constructor
  ·rintro ⟨⟨h1,h2⟩,h3,h4⟩
   refine ⟨⟨λy hy=> ?_,h3⟩,⟨h1,h2⟩,λy hy=> ?_⟩
   ·have:=(h4 y hy).1;omega
   ·have:=h4 y hy;omega
  ·rintro ⟨⟨h1,h2⟩,⟨h3,h4⟩,h5⟩
   refine ⟨⟨h3,h4⟩,h2,λy hy=> ?_⟩
   have a1:=h1 y hy
   have a2:=h5 y hy
   omega
theorem zfu {m:Int}: ∀ {ts:List D} {l:Int},zci m l ts=true->l<=m->(ts.length:Int)<=m - l
 | [],l,_,h=>by simp;omega
 | d::r,l,h,hl=>by
  cases d<;>first
   | (simp [zci] at h;done)
   | (rename_i i
      rw [zci,qaG,qaG,qaD,qaD] at h
      have:=zfu h.2 ⋯
      simp
      omega)
def Bx (b:Nat) (h:Hh):Prop:= ∃ z:Int,h[b]? = some (.lst [.int z])
def Ext (b:Nat) (h h':Hh):Prop:=Bx b h'/\ ∀ (n:Nat) (c:C),n≠b->h[n]? = some c->h'[n]? = some c
theorem Ext.refl {b:Nat} {h:Hh} (q:Bx b h):Ext b h h:=⟨q,λ_ _ _ e=>e⟩
theorem Ext.trans {b:Nat} {h h1 h2:Hh} (p:Ext b h h1) (q:Ext b h1 h2):Ext b h h2:=⟨q.1,λn c hn e=>q.2 n c hn (p.2 n c hn e)⟩
theorem Bx.set {b:Nat} {h:Hh} {z:Int} (q:Bx b h):Ext b h (h.set b (.lst [.int z])):=by
 obtain ⟨y,e⟩:=q
 have hl:=(qac.mp e).1
 exact ⟨⟨z,qai hl⟩,λn c hn e=>by rw [qao (Ne.symm hn)];exact e⟩
theorem Bx.push {b:Nat} {h:Hh} {c:C} (q:Bx b h):Ext b h (h++[c]):=by
 obtain ⟨y,e⟩:=q
 have hl:=(qac.mp e).1
 refine ⟨⟨y,by rw [qad hl];exact e⟩,λn c' hn e=> ?_⟩
 rw [qad (qac.mp e).1]
 exact e
theorem zdy {j:Int} (h0:0<=j) (h:j<1000):zkq [.int j]=pure (zc0 0 j.toNat):=by
 show (if zcS j=true then _ else _)=_
 rw [qa4 (by unfold zcS;simp;omega)]
theorem zjT {n:Nat} {d:D} (h:d∈zc0 0 n): ∃ i:Int,d= .int i/\0<=i/\i<n:=by
 unfold zc0 at h
 obtain ⟨k,hk,e⟩:=qaU.mp h
 have:=mem_range.mp hk
 exact ⟨0+(k:Int),e.symm,⋯,⋯⟩
theorem zlh {n:Nat}:(zc0 0 n).length=n:=by unfold zc0;simp
theorem zfN (n:Nat):zc0 0 n=((List.range n).map λ(k:Nat)=>(k:Int)).map D.int:=by unfold zc0;simp
theorem zaB {α:Type} {c:Prop} [Decidable c] {a b:M α} {h:Hh} {P:α->Hh->Prop}:wp (if c then a else b) h P↔if c then wp a h P else wp b h P:=by split<;>exact Iff.rfl
end L3
namespace L2
open L3
structure HS (H H':Hp) (h:Heap):Prop where
 free: ∀ b o,h.get? b=some o->H b=none->H' b=none
 tups: ∀ b xs,H b=some (.tup xs)->H' b=some (.tup xs)
 frzs: ∀ b o u,H b=some (.frz o u)->H' b=some (.frz o u)
 tbls: ∀ b ps,H b=some (.tbl ps)-> ∃ more,H' b=some (.tbl (ps++more))
structure FlB (P:Program) (w:World) (l:List Env) (H:Hp) (h:Heap) (H':Hp) (B:Heap):Prop where
 old: ∀ b o,h.get? b=some o->b∉frs l-> ∃ o',B.get? b=some o'/\(H b=none->o'=o)
 trk: ∀ b u,H' b=some u-> ∃ o,B.get? b=some o
 ok:HOk P w H' B
structure Fl (P:Program) (w:World) (l:List Env) (H:Hp) (s:Shared) (a C:Addr) (fl:Value) (H':Hp) (s':Shared):Prop where
 os:s'.os=s.os
 bare:AllBare s'.gens
 base: ∃ B:Heap,Fly B l a (.ref C) fl s'.heap/\FlB P w l H s.heap H' B
 slot: ∀ b o,s.heap.get? b=some o->H b=none->b∈frs l-> ∃ sl,s'.heap.get? b=some {o with slots:=sl}
 hs:HS H H' s.heap
section
variable {P:Program} {w:World} {l:List Env} {H H':Hp} {s s':Shared} {a C:Addr} {fl:Value}
section
variable {M:Model} {A:Around} {E:Value->Shared->Prop} {env:Env} {outer:List Env} {L:Addr} {Q:Unit->Shared->Prop}
end
end
structure zun (X:Cx):Prop where
 stk:X.stack=X.env::X.outer
 frm:X.env.frame=some X.env.locals
 ex:X.ex=[]
section
variable {X:Cx} {pins:List (Addr×Obj)} {σ:St} {H H':Hp} {s s':Shared} {a C:Addr} {M:Model} {E:Value->Shared->Prop} {Q:Unit->Shared->Prop}
end
def CXE (P:Program) (w:World):CXT:=λouter H s E e s'=> ∃ a C H',e= .ref a/\Fl P w outer H s a C .none H' s'/\E e (some C) H'
end L2
namespace L3
open L2
def zqr (K:W.Frag) (c:String) (C:Addr):Prop:=W.nsIn K mainGlobals (c:Str)=some (some (.ref C))
def zud (K:W.Frag) (E:XK):XE:=λc H'=> ∀ C v,zqr K c C->E v (some C) H'
section
variable {P:Program} {w:World} {K:W.Frag} {mg:Str->Option Value} {base:Heap} {N:List Str} {qual:Str} {scope:Scope} {f:Addr} {cd:Value} {A:Around} {outer:List Env} {s:Shared} {H:Hp} {E:XK}
end
noncomputable def noX {α:Type} (m:M α):M α:=λh=>match m h with
 | .exc _ _=> .bad
 | r=>r
def spE (K:W.Frag) (n:Nat) (F:List D->M D):Sp:=λvs H Q E=>vs.length=n/\ ∃ ι h ds,zam K ι H ds vs/\zaX K ι H h/\Fin K (zud K E) ι H (F ds h) λd ι' H'=> ∀ v,Rel K ι' H' d v->Q v H'
section
variable {P:Program} {w:World} {K:W.Frag} {mg:Str->Option Value} {base:Heap}
end
section
variable {X:Cx} {E:XE} {e:Expr} {es:List Expr} {pos p:Pos}
end
end L3
namespace L2
open L3
structure ztj (k:Nat) (A:Around):Prop where
 dp:A.depth+3*k+5<recursionLimit
 un:A.units+16*k+200<cLine
structure FnH (P:Program) (w:World) (K:W.Frag) (mg:Str->Option Value) (base:Heap) (k:Nat) (f:Addr) (fd:FuncData) (ps:List Str) (sp:Sp):Prop where
 len: ∀ vs H Q E,sp vs H Q E->vs.length=ps.length
 run: ∀ (A:Around) (outer:List Env) (s:Shared) (H:Hp) (args:Args) (us:List Value) (vs:List V) (Q:VK),ztj k A->zp2 P w K mg base A outer s H->BindsTo s fd args (ps.zip us)->zaS vs us->sp vs H Q E0->
  codeAny (model P w) A (.call (.ref f) args) (CR CX0 outer P w H s Q E0) s
section
variable {X:Cx} {pins:List (Addr×Obj)} {σ:St} {H H':Hp} {s s':Shared} {a:Addr} {o:Obj}
end
section
variable {X:Cx} {pins:List (Addr×Obj)} {σ:St} {H H':Hp} {s s':Shared} {a C CE:Addr} {ce en:Str} {pce pos:Pos} {b₀:Stmt} {suite:List Stmt} {j:Nat} {Q:Flow->Shared->Prop} {E:Value->Shared->Prop}
end
abbrev zpB:List Value:=[.type "ValueError",.type "Exception",.type "BaseException",.type "object"]
section
variable {X:Cx} {pins pins':List (Addr×Obj)} {σ:St} {H H':Hp} {s s':Shared} {xe:Value->Shared->Prop}
end
end L2
namespace L3
open L2
section
variable {X:Cx} {pins:List (Addr×Obj)} {σ:L2.St} {H:Hp} {s:Shared} {a C:Addr} {o:Obj} {vs:Array Value} {head:Value} {c:String} {gk en pe:Str} {p1 p2 p3:Pos} {j k:Nat} {fk:Addr} {fdk:FuncData} {Fk:List D->M D} {Qv:VK} {ι:Io} {h:Hh}
end
section
variable {X:Cx} {E:XE} {body:List Stmt} {ce en gk pe x:Str} {pce p1 p2 p3 p4 p5 hp pos:Pos} {CE fk:Addr} {fdk:FuncData} {Fk:List D->M D} {gb:FS} {j k i:Nat} {known:List String}
def zpO (c:String):FS:=λ_ h=> .exc c h
end
end L3
namespace L3
open PySem.W
section
variable {prog:Program} {w:World} {A:Around} {E:Value->Shared->Prop} {s:Shared} {K:Frag} {x D:Addr} {ox:Obj}
end
end L3
namespace L3
open L2
def kxb (K:W.Frag) (C:Addr):Bool:=(W.clsIn K C).isSome && W.findIn K (.ref C) "__getattribute__"==some (some (.builtin "BaseException.__getattribute__")) && W.findIn K (.ref C) "__getattr__"==some none && W.findIn K (.ref C) "__class__"==some (some (.builtin "object.__class__"))
 && W.specialIn K (.builtin "object.__class__") "__get__"==some (some (.builtin "getset_descriptor.__get__")) && W.takesIn K (.builtin "object.__class__")==some true && W.mroIn K C (.type "object")==some true && W.mroIn K C (.type "BaseException")==some true
structure ztY (K:W.Frag) (CE:Addr) (names:List String) (c:String) (C:Addr):Prop where
 exc:W.excIn K C zpB "ValueError.__new__"=true
 cov:W.exmOne K (.ref C) (.ref CE)=some true
 kx:kxb K C=true
 ve:W.kitOne K (.ref C) (.type "ValueError")=some true
 one: ∀ c'∈names, ∀ C',zqr K c' C'->W.kitOne K (.ref C) (.ref C')=some (c==c')
section
variable {X:Cx} {E:XE}
variable {a:Expr} {p1 p2 pos:Pos} {fa:FE} {CE CC:Addr} {names:List String}
end
end L3
namespace L3
section
variable {prog:Program} {w:World} {A:Around} {E:Value->Shared->Prop} {s:Shared}
end
end L3
namespace L2
open L3
section
variable {X:Cx}
theorem ziT:MtM X "list.extend" (λx vs H Q=> ∃ l b xs zs,x= .ref l/\vs=[.ref b]/\H l=some (.lst xs)/\SqT X.K H b zs/\xs.length+zs.length<=sizeLine/\Q .non (upd H l (.lst (xs++zs)))):=by
 intro pins s σ H x vs v us Q I rx rv h
 obtain ⟨l,b,xs,zs,rfl,rfl,hH,hB,hz,q⟩:=h
 cases rx
 obtain ⟨u,rfl,ru⟩:=zdM rv
 cases ru
 obtain ⟨z,its,n,r,hl,e⟩:=I.lstM hH
 obtain ⟨its2,r2,⟨ob,e2,c2,n2,d2⟩,z2⟩:=I.tuple hB
 have l2:=r2.length
 have hsz:its.toArray.size+its2.toArray.size<=sizeLine:=by rw [qaA,qaA];omega
 refine wpAny_call (codeAny_call_builtin F.slot_list_extend.plain F.entry_list_extend (F.slot_list_extend.check _ _ _ _ _ _ _ _ ⟨_,e,rfl⟩ (F.args_list_extend_2 _ _) ?_))
 unfold Builtin.«list.extend»
 refine qaW (qaX ?_)
 unfold Builtin.List.listExtendWith
 refine qaW (wpAny_typeOf ⟨ob,e2,c2⟩ ?_)
 have h1:(Builtin.List.listSameRef (.ref l) (.ref b) || Value.type "tuple"==Value.type "list" || Value.type "tuple"==Value.type "tuple")=true:=by simp
 simp only [h1,if_true]
 unfold Builtin.List.listItems
 refine qaW (qaW (wpAny_seqItems e2 d2 (qaX ?_)))
 refine qaW (qaW (wpAny_seqItems e rfl (qaX ?_)))
 rw [qa5 (by rw [zmA hsz,Bool.and_false];exact Bool.false_ne_true)]
 refine qaW (wpAny_updateSeq e rfl ?_ (by rw [qaA];omega))
 refine qaX ?_
 refine ⟨.non,_,I.lset (its':=its++its2) hH e (by simp) (r.append r2) ?_,rfl,q⟩
 rw [qav]
 omega
end
end L2
namespace L3
open L2
def zub (f:FE):FE:=λsd=>noX (f sd)
def zue (f:FS):FS:=λsd=>noX (f sd)
section
variable {X:Cx} {E:XE} {a e o:Expr} {es:List Expr} {pos p cpos apos:Pos} {f fo fe fa:FE} {fs:FA} {x:Str}
def zcT (x y:D):M D:=match x,y with
 | .cel n,.tup zs=>do
  let ds<-zah n
  fits (ds.length+zs.length)
  zbe n (ds++zs)
  pure .non
 | _,_=>M.bad
def zhA (fo fe:FE):FE:=λsd=>do
 let x<-fo sd
 zdH x
 let y<-fe sd
 zcT x y
theorem zlP (ho:SE X E o fo) (he:SE X E e fe)
  (hbase:attributeBase o "extend" X.env (eval o X.env)=eval o X.env:=by rfl)
  (hfew:((backTo cpos (starEach [e] X.env)).all (λx=> !x.1) && (backToKw cpos (keywordEach [] X.env)).all (λx=>x.1.isSome)
    && decide (([e]:List Expr).length+([]:List Keyword).length+(if ([]:List Keyword).isEmpty then 0 else 1)<30))=true:=by rfl)
  (hline:(apos.endLine==cpos.line)=true:=by rfl) (hs:starEach [e] X.env=(false,eval e X.env)::starEach [] X.env:=by rfl) (hplain:(backTo cpos (starEach [] X.env)).any (·.1)=false:=by rfl):
  SE X E (.Call (.Attribute o "extend" apos) [e] [] cpos) (zhA fo fe):=by
 refine PE.imp (zqM PySem.F.plainAttrs_list PySem.F.slot_list_extend PySem.F.type_list_extend ziT ho (zbC he zcN hs) hbase hfew hline hs hplain) λσ H Q ⟨ι,h,sd,L,hh,q⟩=>⟨ι,h,sd,L,hh,Fin.bind q λd h1 ι1 H1 e1 s1 hr1 q1 v rv=> ?_⟩
 cases d with
 | cel n=>
  have q2:Fin X.K E ι1 H1 ((zah n>>=λ_=>fe sd>>=λy=>zcT (.cel n) y) h1) (λd ι' H'=> ∀ v,Rel X.K ι' H' d v->Q v H'):=by
   have ee:(zdH (.cel n)>>=λ_=>fe sd>>=λy=>zcT (.cel n) y:M D)=(zah n>>=λ_=>fe sd>>=λy=>zcT (.cel n) y):=by
    show ((zah n>>=λ_=>pure ())>>=λ_=>fe sd>>=λy=>zcT (.cel n) y)=_
    simp only [bind_assoc,pure_bind]
   rw [<- ee]
   exact q1
  obtain ⟨ds,e2,q3⟩:=zfP q2
  obtain ⟨a,vs,rfl,hn,hH,rl⟩:=hr1.read rv e2
  refine ⟨.inl ⟨rfl,vs,SqL.of hH⟩,ι1,h1,sd,L.step s1,hr1,Fin.bind q3 λy h3 ι3 H3 e3 s3 hr3 q4 w rw'=> ?_⟩
  have rv3:=rv.step s3
  cases y with
  | tup zs=>
   have q5:Fin X.K E ι3 H3 ((zah n>>=λds=>fits (ds.length+zs.length)>>=λ_=>zbe n (ds++zs)>>=λ_=>pure D.non) h3) (λd ι' H'=> ∀ v,Rel X.K ι' H' d v->Q v H'):=q4
   obtain ⟨ds3,e4,q6⟩:=zfP q5
   obtain ⟨a3,vs3,ea,hn3,hH3,rl3⟩:=hr3.read rv3 e4
   cases ea
   obtain ⟨b,ws,eb,hb,rlb⟩:=zbY rw'
   obtain ⟨z,q7⟩:=Fin.fits q6
   refine ⟨a,b,vs3,ws,rfl,by rw [eb],hH3,hb,by rw [<- rl3.length, <-rlb.length];exact z,?_⟩
   have q8:Fin X.K E ι3 H3 (R.ok D.non (h3.set n (.lst (ds3++zs)))) (λd ι' H'=> ∀ v,Rel X.K ι' H' d v->Q v H'):=q7
   exact q8 ι3 _ (hr3.cellS hn3) (hr3.cell hn3 (rl3.append rlb)) _ (by simp [Rel])
  | _=>exact qa0 q4
 | _=>exact qa0 q1
end
section
variable {P:Program} {w:World} {K:W.Frag} {mg:Str->Option Value} {base:Heap}
end
section
variable {X:Cx} {E:XE} {body:List Stmt} {ce en gk pe x:Str} {pce p1 p2 p3 p4 p5 hp pos:Pos} {CE fk:Addr} {fdk:FuncData} {Fk:List D->M D} {gb:FS} {k:Nat} {known:List String}
end
def zqT (Fs:List (List D->M D)) (i:D):M (List D->M D):=match i with
 | .int j=>(match ixN Fs.length j with
   | some m=>ofO Fs[m]?
   | none=>M.bad)
 | _=>M.bad
def zsU (n:Nat) (Fs:List (List D->M D)) (fi:FE) (fs:FA):FE:=λsd=>do
 let i<-fi sd
 let F<-zqT Fs i
 let ds<-fs sd
 zal n F ds
structure Fns (X:Cx) (n:Nat) (addrs:List Addr) (Fs:List (List D->M D)):Prop where
 len:Fs.length=addrs.length
 ok: ∀ (m:Nat) (F:List D->M D) (a:Addr),Fs[m]? = some F->addrs[m]? = some a-> ∃ k fd ps,zbN X.prog X.w X.K X.mg X.base (CXE X.prog X.w) k a fd ps (spE X.K n F)/\zeE k X.A/\W.keepIn X.K (.ref a)=true/\zaJ X.K fd ps []
section
variable {X:Cx} {E:XE} {e ix:Expr} {es fes:List Expr} {pos p q3 q4:Pos} {fi:FE} {fs:FA} {x:Str}
end
end L3
namespace L2
def Itd (lo:Int) (n:Nat):It:=⟨λi _=>i<n,λi H x H'=>H'=H/\x= .int (lo - i),λi _=>n<=i⟩
theorem zk7 {P:Program} {w:World} {K:W.Frag} {tg:Expr} (it:Addr) (lo:Int) (n:Nat):zpo P w K tg (Itd lo n) [it] it (λi h=>IsRangeIter h it (lo - (i:Nat)) ((n:Int) - (i:Nat)) (-1)) where
 mem:=by simp
 obj:=λi h st b hb=>by
  have e:b=it:=by simpa using hb
  subst e
  exact ⟨_,st,λv z=>by
    have z':Data.fields _=Data.cell v:=z
    cases z'⟩
 keep:=λi h h' st k=>k it (by simp) _ st
 item:=by
  intro X hP hw hK i pins s σ H E I hf st hg
  subst hP hw hK
  obtain ⟨f0,f1,f2,f3,f4,f5⟩:=hf it (by simp)
  refine wpAny_pyNext_range_item st (by have:i<n:=hg;omega) λh' st' kk=> ?_
  have e1:lo - (i:Nat)+ -1=lo - ((i+1:Nat):Int):=by omega
  have e2:(n:Int) - (i:Nat) - 1=(n:Int) - ((i+1:Nat):Int):=by omega
  rw [e1,e2] at st'
  have I1:Inv X pins σ H {s with heap:=h',toks:=s.toks+1}:=I.turned (λb o hb e=>(kk.2 b hb).trans e) f0 f1 f3 f4 f5
  exact ⟨_,rfl,zl5 (s:={s with heap:=h',toks:=s.toks+1}) (n:="range_iterator") st' rfl rfl (by decide) ⟨.int (lo - i),H,I1,⟨s.toks,rfl⟩,⟨rfl,rfl⟩,st',λb hb=>(hf b hb).1⟩⟩
 done:=by
  intro X hP hw hK i pins s σ H E I hf st hg
  subst hP hw hK
  obtain ⟨f0,f1,f2,f3,f4,f5⟩:=hf it (by simp)
  exact L3.zgo I.hand st (by have:n<=i:=hg;omega) λh' eb=>⟨rfl,I.turned (t':=s.toks) (λb o hb e=>eb b o hb e) f0 f1 f3 f4 f5⟩
 self:=λ_ _ _ _ _ st h=>wpAny_pyIter_rangeiter st h
theorem zgK {a b:Int}:Builtin.Range.rangeSize a b (-1)=((a - b).toNat:Int):=by
 unfold Builtin.Range.rangeSize
 rw [qa5 (by decide)]
 split
 ·rw [show (-(-1):Int)=1 by decide,Int.ediv_one];omega
 ·omega
theorem ziX {a b:Int} (ha: -1000<=a) (ha':a<1000) (hb: -1000<=b) (hb':b<1000):Builtin.Range.small a b (-1)=true:=by
 unfold Builtin.Range.small
 rw [zgK]
 simp only [Builtin.Range.rangeFitsLong,qaG,Bool.or_eq_true,qaD,beq_iff_eq,show ¬(-1:Int)>0 by decide,if_false]
 omega
section
variable {X:Cx} {tg:Expr}
def zta (ta:TA):TI:=λσ H R=>ta σ H λvs H1=> ∃ i j:Int,vs=[.int i,.int j,.int (-1)]/\(-1000<=i/\i<1000/\ -1000<=j/\j<1000)/\R (Itd i (i - j).toNat) H1
theorem zkp {a b c:Expr} {ta:TA} {p pos:Pos} (hg:Gl X "range") (hm:X.mg "range"=none) (ha:PA X [a,b,c] ta) (hs:starEach [a,b,c] X.env=[(false,eval a X.env),(false,eval b X.env),(false,eval c X.env)]:=by rfl) (hs2:starEach [b,c] X.env=[(false,eval b X.env),(false,eval c X.env)]:=by rfl):
  PI X tg (.Call (.Name "range" p) [a,b,c] [] pos) (zta ta):=by
 intro pins s σ H R I h
 refine Call_ (zg4 I hg hm boot_range (PyProof.Rows.callWith_type1 (thn (ha pos pins s σ H _ I h) λus s1 ⟨vs,H1,I1,r1,q1⟩=> ?_) (by rw [hs,hs2]) (by rw [hs2];rfl)))
 obtain ⟨i,j,e,⟨q1,q2,q3,q4⟩,q⟩:=q1
 subst e
 cases r1 with
 | cons r rr=>
  cases rr with
  | cons r' rr=>
   cases rr with
   | cons r'' rr=>
    cases rr
    obtain ⟨t,rfl⟩:=r
    obtain ⟨t',rfl⟩:=r'
    obtain ⟨t'',rfl⟩:=r''
    refine call_range_3 (by decide) ?_ (Or.inl (PyProof.noPylong_small (by decide)))
    refine wpAny_pyIter_range (IsRange.new ..) (ziX q1 q2 q3 q4) ?_
    have I2:Inv X pins σ H1 {s1 with heap:=s1.heap.push {cls:= .type "range",data:= .fields #[.int i t,.int j t',.int (-1) t'']},toks:=s1.toks}:=I1.kept λb o e=>qag _ e
    refine ⟨(s1.heap.push {cls:= .type "range",data:= .fields #[.int i t,.int j t',.int (-1) t'']}).objs.size,[(s1.heap.push {cls:= .type "range",data:= .fields #[.int i t,.int j t',.int (-1) t'']}).objs.size],_,_,H1,rfl,
      I2.kept (t':=s1.toks) λb o e=>qag _ e,zk7 _ i (i - j).toNat,?_,λb hb=> ?_,q⟩
    ·have e1:i - ((0:Nat):Int)=i:=by simp
     have e2:(((i - j).toNat:Nat):Int) - ((0:Nat):Int)=Builtin.Range.rangeSize i j (-1):=by rw [zgK];simp
     show IsRangeIter _ _ (i - ((0:Nat):Int)) ((((i - j).toNat:Nat):Int) - ((0:Nat):Int)) (-1)
     rw [e1,e2]
     exact qar _ rfl
    ·have e:b=(s1.heap.push {cls:= .type "range",data:= .fields #[.int i t,.int j t',.int (-1) t'']}).objs.size:=by simpa using hb
     subst e
     exact I2.fpOk (qaV _) (I2.hok.fresh (qaV _))
theorem zgJ (hc:X.calm=true):zaH X (.type "list") (λxs H Q=> ∃ (p:Addr) (j:Int),xs=[.ref p]/\H p=some (.rng 0 j)/\0<=j/\j<1000/\ ∀ l,H l=none->Q (.ref l) (upd H l (.lst (((List.range j.toNat).map λ(k:Nat)=>(k:Int)).map V.int)))):=by
 intro pins s σ H xs us Q I r h
 obtain ⟨p,j,rfl,hp,h0,h1,q⟩:=h
 obtain ⟨u,rfl,rx⟩:=zdM r
 cases rx
 obtain ⟨t,u',v,hr⟩:=(show zbB X.prog X.w H s.heap p (.rng 0 j) from I.hok p _ hp)
 refine call_list_range (I.ok.hd hc) hr (small_one ⋯ ⋯ ⋯ ⋯) (zlA h0) ⋯ λh' tk acc c' hk hS hacc=> ?_
 have hl:acc.toList.length=j.toNat:=by rw [qas];exact hacc.1
 have I2:=I.laid (t':=tk) (h':=h') (a:=s.heap.objs.size) (o:= .lst (((List.range j.toNat).map λ(k:Nat)=>(k:Int)).map V.int)) hk (qaV _)
  (show zbB X.prog X.w _ h' _ (.lst _) from ⟨by rw [qaH,qaH,length_range];exact qaS (show j.toNat<=1000 by omega) (by decide),acc.toList,c',zeB _ _ (by rw [qaH,length_range,hl]) (λk w e=> ?_),by simpa using hS⟩)
 ·exact ⟨.ref s.heap.objs.size,_,I2,rfl,q _ (I.hok.fresh (qaV _))⟩
 ·have hk':k<j.toNat:=by rw [<- hl];exact (qac.mp e).1
  obtain ⟨t,et⟩:=hacc.2 k w (by simpa using e)
  refine ⟨t,?_⟩
  rw [et]
  simp [hk']
end
end L2
namespace L3
open L2
section
variable {X:Cx} {E:XE} {e o:Expr} {f fo fe:FE} {pos apos cpos:Pos}
noncomputable def zeG (tc:FT) (gb:FS):Nat->FS
 | 0,_=>M.bad
 | n+1,sd=>do
  let b<-tc sd
  if b=true then
   let o<-gb sd
   match o with
   | .nx sd'=>zeG tc gb n sd'
   | .ct sd'=>zeG tc gb n sd'
   | .bk sd'=>pure (.nx sd')
   | .rt d=>pure (.rt d)
  else pure (.nx sd)
def znc (n:Nat) (tc:FT) (gb:FS):FS:=zeG tc gb n
theorem znP {c:Expr} {body:List Stmt} {tc:FT} {gb:FS} (n:Nat) (hp:PassesOwn (model X.prog X.w) X.A X.env X.xe) (hc:ST X E c tc) (hb:SSs X E body gb):SS X E (.While c body [] pos) (znc n tc gb):=by
 refine PS.imp (zlC hp hc hb) λD0 σ H ⟨ι,h,sd,L,hh,q⟩=> ?_
 refine ⟨λm σ' H'=> ∃ ι' h' sd',zcp X.K ι' H' sd' σ'/\zaX X.K ι' H' h'/\Fin X.K E ι' H' (zeG tc gb m sd' h') (zf5 X.K D0),⟨n,ι,h,sd,L,hh,q⟩,?_⟩
 rintro m σ2 H2 ⟨ι2,h2,sd2,L2,hr2,q2⟩
 cases m with
 | zero=>exact qa0 q2
 | succ m=>
  refine ⟨ι2,h2,sd2,L2,hr2,Fin.bind q2 λb h3 ι3 H3 e3 s3 hr3 q3=> ?_⟩
  cases b with
  | true=>
   refine ⟨λσ' H'=> ∃ ι' h' sd',zcp X.K ι' H' sd' σ'/\zaX X.K ι' H' h'/\Fin X.K E ι' H' (zeG tc gb m sd' h') (zf5 X.K D0),λσ' H' p=>⟨m,⋯,p⟩,ι3,h3,sd2,L2.step s3,hr3,Fin.bind q3 λo h7 ι7 H7 e7 s7 hr7 q7=> ?_⟩
   cases o with
   | nx sd'=>exact λσ' L'=>⟨ι7,h7,sd',L',hr7,q7⟩
   | ct sd'=>exact λσ' L'=>⟨ι7,h7,sd',L',hr7,q7⟩
   | bk sd'=>exact λσ' L'=>Fin.out (E:=E) (P:=zf5 X.K D0) hr7 q7 σ' L'
   | rt d=>exact λv rv=>Fin.out (E:=E) (P:=zf5 X.K D0) hr7 q7 v rv
  | false=>exact Fin.out (E:=E) (P:=zf5 X.K D0) hr3 q3 σ2 (L2.step s3)
noncomputable def ziN (lo:Int) (n:Nat):List D:=(List.range n).map λ(k:Nat)=>D.int (lo - (k:Int))
theorem zlM {K:W.Frag} {ι:Io} {H:Hp} {lo:Int} {n:Nat}:zps K ι H (Itd lo n) (ziN lo n) where
 go:=λι' H' i s hi=>by show i<n;simpa [ziN] using hi
 yld:=λι' H' _ i x H2 s _ hi ⟨e,y⟩=>by
  subst e y
  have hi:i<n:=by simpa [ziN] using hi
  refine ⟨.inl rfl,.int (lo - i),?_,by simp [Rel]⟩
  simp [ziN,hi]
 stop:=λι' H' s=>by
  show n<=(ziN lo n).length
  simp [ziN]
def zms:List D->M (List D)
 | [.int i,.int j,.int c]=>if (-1000<=i/\i<1000/\ -1000<=j/\j<1000)/\c= -1 then pure (ziN i (i - j).toNat) else M.bad
 | _=>M.bad
def zoA (fs:FA):FA:=λsd=>do let ds<-fs sd;zms ds
theorem zrv {tg a b c:Expr} {p:Pos} {fs:FA} (hm:X.mg "range"=none) (ha:SA X E [a,b,c] fs) (hg:Gl X "range":=by rfl) (hs:starEach [a,b,c] X.env=[(false,eval a X.env),(false,eval b X.env),(false,eval c X.env)]:=by rfl) (hs2:starEach [b,c] X.env=[(false,eval b X.env),(false,eval c X.env)]:=by rfl):
  SI X E tg (.Call (.Name "range" p) [a,b,c] [] pos) (zoA fs):=by
 refine PI.imp (zkp hg hm ha hs hs2) λσ H Q ⟨ι,h,sd,L,hh,q⟩=>⟨ι,h,sd,L,hh,Fin.bind q λds h1 ι1 H1 e1 s1 hr1 q1 vs rv=> ?_⟩
 unfold zms at q1
 split at q1
 ·rename_i i j c'
  simp only [zam,Rel] at rv
  obtain ⟨v,r,rfl,rfl,v',r',rfl,rfl,v'',r'',rfl,rfl,rfl⟩:=rv
  by_cases hj:(-1000<=i/\i<1000/\ -1000<=j/\j<1000)/\c'= -1
  ·rw [qa4 hj] at q1
   obtain ⟨hj,rfl⟩:=hj
   exact ⟨i,j,rfl,hj,Fin.out hr1 q1 _ zlM⟩
  ·rw [qa5 hj] at q1
   exact qa0 q1
 ·exact qa0 q1
def zfC:D->M D
 | .int j=>if 0<=j/\j<1000 then pure (.lst (zc0 0 j.toNat)) else M.bad
 | _=>M.bad
theorem zki {p1 p2 pos pos2:Pos} (hc:X.calm=true) (hm1:X.mg "list"=none) (hm2:X.mg "range"=none) (he:SE X E e f) (hg1:Gl X "list":=by rfl) (hg2:Gl X "range":=by rfl)
  (h1:starEach [.Call (.Name "range" p2) [e] [] pos2] X.env=[(false,eval (.Call (.Name "range" p2) [e] [] pos2) X.env)]:=by rfl) (h2:starEach [e] X.env=[(false,eval e X.env)]:=by rfl):
  SE X E (.Call (.Name "list" p1) [.Call (.Name "range" p2) [e] [] pos2] [] pos) (cUn zfC f):=by
 refine PE.imp (zcs (zgJ hc) hg1 hm1 PyProof.Rows.boot_list (zbC (zcs zhe hg2 hm2 boot_range (zbC he zcN h2) (he:=h2)) zcN h1) (he:=h1)) λσ H Q ⟨ι,h,sd,L,hh,q⟩=>⟨ι,h,sd,L,hh,Fin.bind q λd h1 ι1 H1 e1 s1 hr1 q1 v rv=> ?_⟩
 cases d with
 | int j=>
  simp only [Rel] at rv
  obtain ⟨⟨c1,c2⟩,q2⟩:=Fin.guard q1
  refine ⟨j,by rw [rv],λp hp=> ?_⟩
  have hr2:zaX X.K ι1 (upd H1 p (.rng 0 j)) h1:=hr1.laid hp
  exact ⟨p,j,rfl,zaY,c1,c2,λl hl=>zoW hr2 zlU (Fin.step (hr1.laidS hp) q2) hl⟩
 | _=>exact qa0 q1
end
end L3
namespace L3
open PySem.Sem (wp)
open PySem.AutoSeq1 (wpAny_loadPart')
section
variable {prog:Program} {w:World} {A:Around} {E:Value->Shared->Prop} {s:Shared}
end
end L3
namespace L3
section
variable {prog:Program} {w:World} {A:Around} {E:Value->Shared->Prop} {s:Shared}
end
end L3
namespace L2
section
variable {X:Cx} {pins:List (Addr×Obj)} {σ:St} {H:Hp} {s:Shared} {h':Heap}
end
section
variable {X:Cx} {elts:List Expr} {k:Nat} {tpos:Pos}
end
end L2
namespace L3
open L2
section
variable {X:Cx} {E:XE} {elts:List Expr} {k:Nat} {tpos pos:Pos}
end
end L3
namespace L3
def pLt (p q:Int×List Int):Bool:=if p.1=q.1 then HT.zaO p.2 q.2 else decide (p.1<q.1)
theorem zbg: ∀ xs:List Int,HT.zaO xs xs=false
 | []=>rfl
 | x::r=>by rw [HT.za0,qa4 rfl,zbg r]
section
open PySem.SeqAt
open PySem.AutoSeq1 (wpAny_loadPart')
open PySem.MeetsSeq PySem.MeetsSeq2 PySem.MeetsSeq3
def zrS (A:Around) (s:Shared) (a b:Value) (e l:Bool):Prop:=EqAt A s a b e/\(e=false-> ∀ (prog:Program) (w:World) (E Q:Value->Shared->Prop),Q (.bool l) s->wpAny (model prog w) A (richCompare .Lt a b) Q E s)
theorem zgZ (l b:Addr) (a0 a1 b0 b1:Value) (n n2:Nat) (dd dd2:Option Addr) (sl sl2:Array (Option Value)) (e0 l0 e1 l1:Bool):
  Meets (Builtin.«tuple.__lt__» ⟨[.ref l,.ref b],[]⟩)
   (λA R s=>s.heap.get? l=some {cls:= .type "tuple",dict:=dd,data:= .seq #[a0,a1] n,slots:=sl}/\s.heap.get? b=some {cls:= .type "tuple",dict:=dd2,data:= .seq #[b0,b1] n2,slots:=sl2}/\
     zrS A.in1 s a0 b0 e0 l0/\zrS A.in1 s a1 b1 e1 l1/\R (.ok (.ret (.bool (if e0=true then (if e1=true then false else l1) else l0)))) s):=
 .of_wp λprog w A R s h=>by
  obtain ⟨hp,g,d,tk,os⟩:=s;obtain ⟨hl,hb,c0,c1,h⟩:=h
  have f2:=AutoSeq1.sub_tuple_tuple
  wp_walk using wpAny_loadPart' hl,wpAny_loadPart' hb,wpAny_forIn_list _ (λzaT b s'=>b.1=none/\s'=⟨hp,g,d,tk,os⟩/\
    (zaT=[(a0,b0),(a1,b1)]\/(zaT=[(a1,b1)]/\e0=true)\/(zaT=[]/\e0=true/\e1=true))) _
  case turn=>
   rintro ⟨y,x⟩ zaT b s' ⟨hb',rfl,hz⟩
   rcases hz with hz | ⟨hz,z0⟩ | ⟨hz,_⟩
   ·cases hz
    refine qaW (c0.1 prog w _ _ ?_)
    cases e0 with
    | true=>
     wp_walk
     exact ⟨rfl,rfl,.inr (.inl ⟨rfl,rfl⟩)⟩
    | false=>
     have hri:=c0.2 rfl prog w
     wp_walk using hri
     exact ⟨_,rfl,by simpa using h⟩
   ·cases hz
    subst z0
    refine qaW (c1.1 prog w _ _ ?_)
    cases e1 with
    | true=>
     wp_walk
     exact ⟨rfl,rfl,.inr (.inr ⟨rfl,rfl,rfl⟩)⟩
    | false=>
     have hri:=c1.2 rfl prog w
     wp_walk using hri
     exact ⟨_,rfl,by simpa using h⟩
   ·cases hz
  case fin=>
   rintro ⟨b1',b2'⟩ s' ⟨hb',rfl,hz⟩
   simp only at hb'
   subst hb'
   rcases hz with hz | ⟨hz,_⟩ | ⟨_,z0,z1⟩
   ·cases hz
   ·cases hz
   ·subst z0 z1
    wp_walk
    exact ⟨_,rfl,by simpa [Builtin.Tuple.tupleCompareSizes] using h⟩
  case h=>
   exact ⟨rfl,rfl,.inl rfl⟩
section
variable {prog:Program} {w:World} {A:Around} {E:Value->Shared->Prop} {s:Shared}
theorem zrw {l b:Addr} {a0 a1 b0 b1:Value} {e0 l0 e1 l1:Bool} {Q:Value->Shared->Prop} (hl:IsTup s.heap l #[a0,a1]) (hb:IsTup s.heap b #[b0,b1]) (c0:zrS A.in1 s a0 b0 e0 l0) (c1:zrS A.in1 s a1 b1 e1 l1)
  (hu:A.units<cLine) (h:Q (.bool (if e0=true then (if e1=true then false else l1) else l0)) s):wpAny (model prog w) A (richCompare .Lt (.ref l) (.ref b)) Q E s:=by
 obtain ⟨⟨cls,dd,data,sl⟩,ho,hc,n,hd⟩:=id hl
 obtain ⟨⟨cls2,dd2,data2,sl2⟩,ho2,hc2,n2,hd2⟩:=id hb
 simp only at hc hd hc2 hd2
 subst hc hd hc2 hd2
 exact richCompare_meets_room (op:= .Lt) ⟨_,ho,rfl⟩ ⟨_,ho2,rfl⟩ PySem.F.slot_tuple_lt PySem.F.entry_tuple_lt (PySem.F.args_tuple_lt_2 _ _) (zgZ l b a0 a1 b0 b1 n n2 dd dd2 sl sl2 e0 l0 e1 l1)
  ⟨ho,ho2,c0,c1,show Value.bool _≠Value.notImplemented/\Q (.bool _) s from ⟨(λx=>nomatch x),h⟩⟩ hu
theorem zfX: ∀ {xs:List Value} {ns:List Int},IntsAre xs ns-> ∀ (j:Nat) (h:j<xs.length), ∃ (t:Tok) (i:Int),ns[j]? = some i/\xs[j]= .int i t
 | _,_,.nil,j,h=>by cases h
 | _,_,.cons a t r,0,_=>⟨t,a,rfl,rfl⟩
 | _,_,.cons a t r,j+1,h=>by
  obtain ⟨t',i,e1,e2⟩:=zfX r j (Nat.lt_of_succ_lt_succ h)
  exact ⟨t',i,e1,e2⟩
theorem zdT: ∀ {xs:List Value} {ns ms:List Int},IntsAre xs ns->IntsAre xs ms->ns=ms
 | _,_,_,.nil,h=>by cases h;rfl
 | _,_,_,.cons a t r,h=>by
  cases h with
  | cons _ _ r'=>rw [zdT r r']
theorem zdg {q r:Addr} {xs ys:List Value} {ns ms:List Int} (hq:IsTup s.heap q xs.toArray) (hr:IsTup s.heap r ys.toArray) (hi:IntsAre xs ns) (hj:IntsAre ys ms) (hu:A.units<cLine):EqAt A s (.ref q) (.ref r) (ns==ms):=by
 by_cases hqr:q=r
 ·subst hqr
  obtain ⟨o,e,_,n,d⟩:=hq
  obtain ⟨o',e',_,n',d'⟩:=hr
  rw [e] at e'
  cases e'
  rw [d] at d'
  injection d' with d' _
  have:xs=ys:=by simpa using d'
  subst this
  rw [zdT hi hj]
  simpa using EqAt.same (A:=A) (s:=s) (.ref q)
 ·have l1:=hi.length
  have l2:=hj.length
  have hc:=RcAt.tuples (A:=A) (s:=s) (e:=λj=>ns[j]? == ms[j]?) hq hr hu λj h1 h2=>by
   have h1':j<xs.length:=by simpa using h1
   have h2':j<ys.length:=by simpa using h2
   obtain ⟨t,i,e1,e2⟩:=zfX hi j h1'
   obtain ⟨u,k,e3,e4⟩:=zfX hj j h2'
   have g1:xs.toArray[j]= .int i t:=by simpa using e2
   have g2:ys.toArray[j]= .int k u:=by simpa using e4
   rw [g1,g2,e1,e3]
   have:(some i==some k)=(i==k):=rfl
   rw [this]
   exact EqAt.int_int i t k u
  have he:((List.range (min xs.toArray.size ys.toArray.size)).all (λj=>ns[j]? == ms[j]?) && xs.toArray.size==ys.toArray.size)=(ns==ms):=by
   rw [Bool.eq_iff_iff,qaG,all_eq_true,beq_iff_eq,beq_iff_eq]
   simp only [qaA,beq_iff_eq,mem_range]
   constructor
   ·rintro ⟨h1,h2⟩
    refine List.ext_getElem? λj=> ?_
    by_cases hjl:j<ns.length
    ·exact h1 j ⋯
    ·rw [List.getElem?_eq_none ⋯,List.getElem?_eq_none ⋯]
   ·intro e
    subst e
    exact ⟨λ_ _=>rfl,⋯⟩
  rw [<- he]
  exact EqAt.of_refs hqr hc
end
def zav (h:Heap) (v:Value) (p:Int×List Int):Prop:= ∃ (a q:Addr) (t:Tok) (its:List Value),v= .ref a/\IsTup h a #[.int p.1 t,.ref q]/\IsTup h q its.toArray/\IntsAre its p.2
theorem zav.keep {h h':Heap} {v:Value} {p:Int×List Int} (k: ∀ b o,h.get? b=some o->h'.get? b=some o):zav h v p->zav h' v p:=λ⟨a,q,t,its,e,⟨o,x1,x2⟩,⟨o',y1,y2⟩,z⟩=>⟨a,q,t,its,e,⟨o,k _ _ x1,x2⟩,⟨o',k _ _ y1,y2⟩,z⟩
theorem zhJ {prog:Program} {w:World} {A:Around} {E:Value->Shared->Prop} {s:Shared} {u v:Value} {p q:Int×List Int} {Q:Value->Shared->Prop} (hv:zav s.heap v p) (hu:zav s.heap u q) (hr:A.units+2<cLine) (h:Q (.bool (pLt p q)) s):wpAny (model prog w) A (richCompare .Lt v u) Q E s:=by
 obtain ⟨a,x,t,its,rfl,ha,hx,hi⟩:=hv
 obtain ⟨b,y,t',its',rfl,hb,hy,hj⟩:=hu
 have r1:A.in1.units<cLine:=by rw [Around.in1_units];omega
 refine zrw (e0:=(p.1==q.1)) (l0:=decide (p.1<q.1)) (e1:=(p.2==q.2)) (l1:=HT.zaO p.2 q.2) ha hb ⟨EqAt.int_int _ _ _ _,λ_ prog w E Q hq=>HT.zhT _ _ _ _ _ _ prog w E Q hq⟩
  ⟨zdg hx hy hi hj r1,λ_ prog w E Q hq=>HT.zeR hx hy (by simpa using hi) (by simpa using hj) r1 hq⟩ ⋯ ?_
 have e:(if (p.1==q.1)=true then (if (p.2==q.2)=true then false else HT.zaO p.2 q.2) else decide (p.1<q.1))=pLt p q:=by
  unfold pLt
  by_cases h1:p.1=q.1
  ·rw [qa4 (by simpa using h1),qa4 h1]
   by_cases h2:p.2=q.2
   ·rw [qa4 (by simpa using h2),h2,zbg]
   ·rw [qa5 (by simpa using h2)]
  ·rw [qa5 (by simpa using h1),qa5 h1]
 rw [e]
 exact h
end
end L3
namespace L3
section
variable {prog:Program} {w:World} {A:Around} {R:Result->Shared->Prop} {I:Addr} {fp wr:List Addr} {n:Nat} {P:Nat->Value->Prop} {St:Nat->Heap->Prop} {h0:Heap}
def zpk (prog:Program) (w:World) (A:Around) (h0:Heap) (P:Nat->Value->Prop) (bt:Nat->Nat->Bool):Prop:=
 ∀ i j vi vj (s:Shared) (Q:Value->Shared->Prop) (E:Value->Shared->Prop),(∀ b o,h0.get? b=some o->s.heap.get? b=some o)->P i vi->P j vj->Q (.bool (bt i j)) s->wpAny (model prog w) A (richCompare .Lt vi vj) Q E s
theorem zjK (W:Walks prog w A.in1 I fp wr n P St) (bt:Nat->Nat->Bool) (hcmp:zpk prog w A.in1 h0 P bt) (S:Addr) (hSf:S∉fp) (h0w: ∀ b o,h0.get? b=some o->b∉wr/\b≠S):
  ∀ (k j:Nat) (s:Shared) (vb:Value) (c:Nat),n - (j+1)=k->j+1<=n->St (j+1) s.heap->P (argBest bt j) vb->(∀ b o,h0.get? b=some o->s.heap.get? b=some o)->
  s.heap.get? S=some {cls:= .type "list",dict:=none,data:= .seq #[vb,vb] c,slots:= #[]}->
  (∀ v h' tk,P (argBest bt (n - 1)) v->(∀ b o,b∉wr->b≠S->s.heap.get? b=some o->h'.get? b=some o)->R (.ok (.ret v)) {s with heap:=h',toks:=tk})->
  codeAny (model prog w) A (.builtin "min.loop" ⟨[.ref I,.none,.ref S],[]⟩) R s:=by
 have hSw:S∉wr:=λh=>hSf (W.sub _ h)
 have hname:(toString "min"++toString ".loop":String)="min.loop":=by decide
 intro k
 induction k with
 | zero=>
  intro j s vb c hk hj hst hPb hx hS hR
  have hin:j+1=n:=by omega
  refine codeAny_builtin F.entry_min_loop ?_
  rw [qap F.plain_min_loop _]
  show wpAny _ A.in1 (seqItems? (.ref S)>>=_) _ _ s
  refine qaW (wpAny_seqItems hS rfl ?_)
  show wpAny _ A.in1 (tryCatch (pyNext (.ref I)) _>>=_) _ _ s
  refine qaW (wpAny_tryCatch (W.done s _ _ (hin▸hst) λh' tk hk'=> ?_))
  show wpAny _ A.in1 (updateSeq S (λ_=> #[])>>=_) _ _ _
  refine qaW (wpAny_updateSeq (hk' S _ hSw hS) rfl (qaW (wpAny_letGo (qaX ?_))))
  exact hR vb _ tk (by rw [<- hin];exact hPb) λb o hbw hbS e=>(qah _ _ (Ne.symm hbS)).trans (hk' b o hbw e)
 | succ k ih=>
  intro j s vb c hk hj hst hPb hx hS hR
  have hlt:j+1<n:=by omega
  refine codeAny_builtin F.entry_min_loop ?_
  rw [qap F.plain_min_loop _]
  show wpAny _ A.in1 (seqItems? (.ref S)>>=_) _ _ s
  refine qaW (wpAny_seqItems hS rfl ?_)
  show wpAny _ A.in1 (tryCatch (pyNext (.ref I)) _>>=_) _ _ s
  refine qaW (wpAny_tryCatch (W.item (j+1) s _ _ hlt hst λv h' tk hP hst' hk'=> ?_))
  have hS':=hk' S _ hSw hS
  have hx': ∀ b o,h0.get? b=some o->h'.get? b=some o:=λb o e=>hk' b o (h0w b o e).1 (hx b o e)
  show wpAny _ A.in1 (tryCatch (holding [v,v] (richCompare .Lt v vb>>=_)) _>>=_) _ _ _
  refine qaW (wpAny_tryCatch (qaO (qaW (hcmp (j+1) (argBest bt j) v vb _ _ _ hx' hP hPb ?_))))
  refine qaW (qaO (wpAny_truthy_bool ?_))
  refine qaW (wpAny_letGo (qaX ?_))
  cases hb:bt (j+1) (argBest bt j) with
  | true=>
   simp only [if_true]
   refine qaW (wpAny_updateSeq hS' rfl (qaW (wpAny_letGo ?_)))
   rw [hname]
   refine qaX ⟨plainId_quiet F.plain_min_loop _,ih (j+1) _ v _ ⋯ hlt (W.frame _ _ _ hst' λb hbf o e=> ?_) (by simp only [argBest,hb,if_true];exact hP) (λb o e=> ?_) (qal _ hS' rfl)
     λv' h'' tk'' hP' hk''=> ?_⟩
   ·exact (qah _ _ (λh:S=b=>hSf (by rw [h];exact hbf))).trans e
   ·exact (qah _ _ (Ne.symm (h0w b o e).2)).trans (hx' b o e)
   ·exact hR v' h'' tk'' hP' λb o hbw hbS e=>hk'' b o hbw hbS ((qah _ _ (Ne.symm hbS)).trans (hk' b o hbw e))
  | false=>
   simp only [qax,if_false]
   refine qaW (wpAny_letGo ?_)
   rw [hname]
   exact qaX ⟨plainId_quiet F.plain_min_loop _,ih (j+1) _ vb c ⋯ hlt hst' (by simp only [argBest,hb,qax,if_false];exact hPb) hx' hS' λv' h'' tk'' hP' hk''=>
     hR v' h'' tk'' hP' λb o hbw hbS e=>hk'' b o hbw hbS (hk' b o hbw e)⟩
end
section
variable {prog:Program} {w:World} {A:Around} {E:Value->Shared->Prop} {s:Shared}
theorem zrs {x:Value} {Q:Value->Shared->Prop}
  (h:wpAny (model prog w) A.in1 (pyIter x) (λit s₂=> ∃ I fp wr n P St bt h0,it= .ref I/\Walks prog w A.in1 I fp wr n P St/\St 0 s₂.heap/\(∀ b∈fp,b<s₂.heap.objs.size)/\0<n/\zpk prog w A.in1 h0 P bt/\(∀ b o,h0.get? b=some o->b∉wr/\s₂.heap.get? b=some o)/\
    ∀ v h' tk,P (argBest bt (n - 1)) v->(∀ b o,b∉wr->s₂.heap.get? b=some o->h'.get? b=some o)->Q v {s₂ with heap:=h',toks:=tk}) E s):
  wpAny (model prog w) A (call (.builtin "min") [x]) Q E s:=by
 have hname:(toString "min"++toString ".loop":String)="min.loop":=by decide
 refine call_function_tree F.kind_min F.plain_min F.entry_min (F.args_min1 _) ?_
 show wpAny _ A.in1 (Builtin.Builtins.bindParams "min" ["key","default"] 0 ⟨[],[]⟩>>=_) _ _ s
 refine qaW (wpAny_of_eq (show Builtin.Builtins.bindParams "min" ["key","default"] 0 ⟨[],[]⟩=pure [none,none] from rfl) ?_)
 refine qaW (qaX ?_)
 refine qaW (qaZ h (λit s₂ h₂=> ?_) λ_ _ e=>e)
 obtain ⟨I,fp,wr,n,P,St,bt,h0,rfl,W,hst,hfp,hn,hcmp,hx,hQ⟩:=h₂
 refine qaW (qaC ?_)
 have hSf:s₂.heap.objs.size∉fp:=λhm=>qaN _ (hfp _ hm)
 have hSw:s₂.heap.objs.size∉wr:=λh=>hSf (W.sub _ h)
 have h0w: ∀ b o,h0.get? b=some o->b∉wr/\b≠s₂.heap.objs.size:=λb o e=>⟨(hx b o e).1,qaR (qaQ (hx b o e).2)⟩
 rw [hname]
 refine qaX ⟨plainId_quiet F.plain_min_loop _,?_⟩
 refine codeAny_builtin F.entry_min_loop ?_
 rw [qap F.plain_min_loop _]
 show wpAny _ A.in1 (seqItems? (.ref s₂.heap.objs.size)>>=_) _ _ _
 refine qaW (wpAny_seqItems (qar _ rfl) rfl ?_)
 show wpAny _ A.in1 (tryCatch (pyNext (.ref I)) _>>=_) _ _ _
 refine qaW (wpAny_tryCatch (W.item 0 _ _ _ hn (W.frame _ _ _ hst λb _ o e=>qag _ e) λv h' tk hP hst' hk'=> ?_))
 have hS':=hk' s₂.heap.objs.size _ hSw (qar _ rfl)
 show wpAny _ A.in1 (updateSeq s₂.heap.objs.size (λ_=> #[v,v])>>=_) _ _ _
 refine qaW (wpAny_updateSeq hS' rfl ?_)
 rw [hname]
 refine qaX ⟨plainId_quiet F.plain_min_loop _,zjK W bt hcmp s₂.heap.objs.size hSf h0w _ 0 _ v _ rfl hn (W.frame _ _ _ hst' λb hbf o e=> ?_) hP (λb o e=> ?_) (qal _ hS' rfl) λv' h'' tk'' hP' hk''=> ?_⟩
 ·exact (qah _ _ (λh:s₂.heap.objs.size=b=>hSf (by rw [h];exact hbf))).trans e
 ·exact (qah _ _ (Ne.symm (h0w b o e).2)).trans (hk' b o (h0w b o e).1 (qag _ (hx b o e).2))
 ·exact hQ v' h'' tk'' hP' λb o hbw e=>hk'' b o hbw (qaR (qaQ e)) ((qah _ _ (Ne.symm (qaR (qaQ e)))).trans (hk' b o hbw (qag _ e)))
theorem zmp {l:Addr} {items:Array Value} {bt:Nat->Nat->Bool} {Q:Value->Shared->Prop} (hh:zpq A s.heap) (hl:s.heap.IsList l items) (hn:0<items.size) (hc:zpk prog w A.in1 s.heap (λi v=>items[i]? = some v) bt)
  (k: ∀ v h' tk,items[argBest bt (items.size - 1)]? = some v->(∀ b o,s.heap.get? b=some o->h'.get? b=some o)->Q v {s with heap:=h',toks:=tk}):wpAny (model prog w) A (call (.builtin "min") [.ref l]) Q E s:=by
 have hlt:l<s.heap.objs.size:=by obtain ⟨_,e,_⟩:=hl;exact qaQ e
 have hlI:l≠s.heap.objs.size:=qaR hlt
 refine zrs (wpAny_pyIter_list hl ?_)
 have hfp: ∀ b∈[s.heap.objs.size,l],b<(s.heap.push {cls:= .type "list_iterator",data:= .fields #[.ref l,.int 0 0]}).objs.size:=λb hb=>by
  rw [qaL]
  simp only [qaP,qaF,or_false] at hb
  rcases hb with rfl | rfl
  ·exact Nat.lt_succ_self _
  ·exact lt_succ_of_lt hlt
 have st1:(s.heap.push {cls:= .type "list_iterator",data:= .fields #[.ref l,.int 0 0]}).IsListIter s.heap.objs.size l 0:=⟨_,qar _ rfl,rfl,rfl⟩
 have hx: ∀ b o,s.heap.get? b=some o->b∉[s.heap.objs.size]/\(s.heap.push {cls:= .type "list_iterator",data:= .fields #[.ref l,.int 0 0]}).get? b=some o:=λb o e=>
  ⟨λhm=>qaN _ (by simp only [qaP,qaF,or_false] at hm;exact hm▸qaQ e),qag _ e⟩
 rcases hh with hh | ⟨ha,cls,head,hh,hX⟩
 ·exact ⟨_,_,_,_,_,_,bt,s.heap,rfl,Walks.list (A:=A.in1) hh _ l hlI items,⟨st1,hl.push _⟩,hfp,hn,hc,hx,λv h' tk hv hk=>k v h' tk hv λb o e=>hk b o (hx b o e).1 (hx b o e).2⟩
 ·obtain ⟨ob,vs,x1,x2⟩:=id hX
  have hX2:=hX.keep (h':=s.heap.push {cls:= .type "list_iterator",data:= .fields #[.ref l,.int 0 0]}) λo e=>qag _ e
  refine ⟨_,_,_,_,_,_,bt,s.heap,rfl,ziV (A:=A.in1) (ha:=ha) (cls:=cls) (head:=head) hh _ l hlI (qaR (qaQ x1)) items,⟨st1,hl.push _,hX2⟩,λb hb=> ?_,hn,hc,hx,λv h' tk hv hk=>k v h' tk hv λb o e=>hk b o (hx b o e).1 (hx b o e).2⟩
  simp only [qaP,qaF,or_false] at hb
  rcases hb with z | z | z
  ·exact hfp b (by simp [z])
  ·exact hfp b (by simp [z])
  ·rw [z]
   show ha<(s.heap.push _).objs.size
   rw [qaL]
   exact lt_succ_of_lt (qaQ x1)
end
end L3
namespace L2
open L3
section
variable {X:Cx}
def zi7 (K:W.Frag) (H:Hp) (v:V) (p:Int×List Int):Prop:= ∃ a q,v= .ref a/\SqT K H a [.int p.1,.ref q]/\SqT K H q (p.2.map V.int)
theorem zbF {pins:List (Addr×Obj)} {σ:St} {H:Hp} {s:Shared} (I:Inv X pins σ H s) {v:V} {u:Value} {p:Int×List Int} (h:zi7 X.K H v p) (r:zbp v u):zav s.heap u p:=by
 obtain ⟨a,q,rfl,h1,h2⟩:=h
 cases r
 obtain ⟨its,r1,p1,_⟩:=I.tuple h1
 obtain ⟨its2,r2,p2,_⟩:=I.tuple h2
 obtain ⟨u1,u2,rfl,e1,e2⟩:=zoZ r1
 obtain ⟨t,rfl⟩:=e1
 cases e2
 exact ⟨a,q,t,its2,rfl,p1,p2,zby r2⟩
theorem zjN (hu:X.A.units+60<cLine):zaH X (.builtin "min") (λxs H Q=> ∃ (a:Addr) (vs:List V) (ps:List (Int×List Int)),xs=[.ref a]/\SqL X.K H a vs/\ps.length=vs.length/\0<vs.length/\(∀ (i:Nat) v p,vs[i]? = some v->ps[i]? = some p->zi7 X.K H v p)/\
    ∀ v,vs[argBest (λi j=>pLt (ps.getD i (0,[])) (ps.getD j (0,[]))) (ps.length - 1)]? = some v->Q v H):=by
 intro pins s σ H xs us Q I r h
 obtain ⟨a,vs,ps,rfl,hq,hlen,hpos,hp,q⟩:=h
 obtain ⟨u,rfl,rx⟩:=zdM r
 cases rx
 obtain ⟨its,r',pl,hz⟩:=I.list hq
 have hlen':=r'.length
 have back: ∀ (i:Nat) u,its.toArray[i]? = some u-> ∃ v,vs[i]? = some v/\zbp v u:=λi u e=>by
  have e':its[i]? = some u:=by simpa using e
  have hi:i<vs.length:=by have:=(qac.mp e').1;omega
  obtain ⟨u',hu',ru⟩:=r'.get (x:=vs[i]) (i:=i) (by simp [hi])
  rw [e'] at hu'
  cases hu'
  exact ⟨vs[i],by simp [hi],ru⟩
 have key: ∀ (i:Nat) u,its.toArray[i]? = some u->zav s.heap u (ps.getD i (0,[])):=λi u e=>by
  obtain ⟨v,ev,ru⟩:=back i u e
  have hi:i<ps.length:=by have:=(qac.mp ev).1;omega
  refine zbF I (hp i v _ ev ?_) ru
  simp [List.getD,hi]
 refine L3.zmp I.hand pl.isList (by simp;omega) (bt:=λi j=>pLt (ps.getD i (0,[])) (ps.getD j (0,[]))) (λi j vi vj s' Q E hk hi hj hQ=>zhJ ((key i vi hi).keep hk) ((key j vj hj).keep hk) (by rw [Around.in1_units];omega) hQ) λv h' tk hv hk=> ?_
 have hs:its.toArray.size - 1=ps.length - 1:=by simp;omega
 rw [hs] at hv
 obtain ⟨v0,ev,ru⟩:=back _ _ hv
 exact ⟨v0,H,I.grown (s':={s with heap:=h',toks:=tk}) rfl rfl hk,ru,q v0 ev⟩
end
end L2
namespace L3
open L2
section
variable {X:Cx} {E:XE}
def zbr:D->Option (Int×List Int)
 | .tup [.int i,.tup ds]=>(zcn ds).map λns=>(i,ns)
 | _=>none
def zbL:List D->Option (List (Int×List Int))
 | []=>some []
 | d::r=>(zbr d).bind λp=>(zbL r).map λps=>p::ps
def zco (ps:List (Int×List Int)):Nat:=argBest (λi j=>pLt (ps.getD i (0,[])) (ps.getD j (0,[]))) (ps.length - 1)
def zmG:List D->M D:=zm0 λd=>do
 let ds<-zjl d
 let ps<-ofO (match d with | .tup _=>none | _=>zbL ds)
 ofO (ds[zco ps]?)
theorem zbx {K:W.Frag} {ι:Io} {H:Hp} {d:D} {v:V} {p:Int×List Int} (r:Rel K ι H d v) (e:zbr d=some p):zi7 K H v p:=by
 unfold zbr at e
 split at e
 ·rename_i i ds
  cases z:zcn ds with
  | none=>rw [z] at e;cases e
  | some ns=>
   rw [z] at e
   cases e
   obtain ⟨a,vs,rfl,h1,h2⟩:=zbY r
   simp only [zam] at h2
   obtain ⟨v1,r1,rfl,g1,v2,r2,rfl,g2,rfl⟩:=h2
   simp only [Rel] at g1
   subst g1
   obtain ⟨q,ws,rfl,k1,k2⟩:=zbY g2
   have:=zdr k2 z
   subst this
   exact ⟨a,q,rfl,h1,k1⟩
 ·cases e
theorem zds {K:W.Frag} {ι:Io} {H:Hp}: ∀ {ds:List D} {vs:List V} {ps:List (Int×List Int)},zam K ι H ds vs->zbL ds=some ps->ps.length=vs.length/\ ∀ (i:Nat) v p,vs[i]? = some v->ps[i]? = some p->zi7 K H v p
 | [],vs,ps,h,e=>by
  simp only [zam] at h
  subst h
  cases e
  exact ⟨rfl,λi v p e1=>by simp at e1⟩
 | d::r,vs,ps,h,e=>by
  simp only [zam] at h
  obtain ⟨v,r',rfl,h1,h2⟩:=h
  unfold zbL at e
  cases z:zbr d with
  | none=>rw [z] at e;cases e
  | some p=>
   rw [z] at e
   cases z2:zbL r with
   | none=>rw [z2] at e;cases e
   | some qs=>
    rw [z2] at e
    cases e
    obtain ⟨g1,g2⟩:=zds h2 z2
    refine ⟨by simp [g1],λi v' p' e1 e2=> ?_⟩
    cases i with
    | zero=>
     simp at e1 e2
     subst e1 e2
     exact zbx h1 z
    | succ i=>
     simp at e1 e2
     exact g2 i v' p' e1 e2
theorem zeW (hu:X.A.units+60<cLine):zaH X (.builtin "min") (zi9 X.K E zmG):=by
 refine zaH.imp (zjN hu) λxs H Q ⟨ι,h,ds,rl,hr,q⟩=> ?_
 obtain ⟨d,v,e,r,q⟩:=zc9 rl q
 obtain ⟨a,vs,ds',e',hs,rl',q⟩:=zb4 hr r q
 obtain ⟨ps,ep,q⟩:=Fin.ofOb q
 obtain ⟨x,ex⟩: ∃ x,ds'[zco ps]? = some x:=by
  cases ex:ds'[zco ps]? with
  | none=>rw [ex] at q;exact qa0 q
  | some x=>exact ⟨x,rfl⟩
 rw [ex] at q
 rcases hs with ⟨hs,hd⟩ | ⟨hs,hd⟩
 ·have ep':zbL ds'=some ps:=by
   cases d with
   | tup ts=>exact absurd rfl (hd ts)
   | _=>exact ep
  obtain ⟨g1,g2⟩:=zds rl' ep'
  have hlt:=(qac.mp ex).1
  have hl:=rl'.length
  refine ⟨a,vs,ps,by rw [e,e'],hs,g1,⋯,g2,λv0 ev=> ?_⟩
  obtain ⟨w,ew,rw'⟩:=zam.get rl' ex
  have ev':vs[zco ps]? = some v0:=ev
  rw [ew] at ev'
  cases ev'
  exact Fin.out hr q _ rw'
 ·subst hd
  cases ep
def znf:FS:=λ_=>M.bad
theorem zhs {st:Stmt}:SS X E st znf:=λpins s σ H D I h=>by
 obtain ⟨ι,h,sd,L,hh,q⟩:=h
 exact qa0 q
end
section
variable {X:Cx} {E:XE}
def zsL (d:D):M Bool:=do let ds<-zjl d;pure (!ds.isEmpty)
def zpr (f:FE):FT:=λsd=>do let d<-f sd;zsL d
theorem zpK {e:Expr} {f:FE} (h:SE X E e f) (he: ∀ whole,isTrue e X.env whole=(do let v<-whole;standAt e.pos;holding [v] (truthy v)):=by intro _;rfl):ST X E e (zpr f):=by
 refine PT.imp (zmo h he) λσ H Q ⟨ι,h,sd,L,hh,q⟩=>⟨ι,h,sd,L,hh,Fin.bind q λd h1 ι1 H1 e1 s1 hr1 q1 v rv=> ?_⟩
 obtain ⟨a,vs,ds',e',hs,rl',q2⟩:=zb4 hr1 rv q1
 have hl:=rl'.length
 have ee:(!ds'.isEmpty)= !vs.isEmpty:=by
  cases ds' with
  | nil=>
   cases vs with
   | nil=>rfl
   | cons _ _=>simp at hl
  | cons _ _=>
   cases vs with
   | nil=>simp at hl
   | cons _ _=>rfl
 rw [ee] at q2
 refine ⟨!vs.isEmpty,?_,Fin.out hr1 q2⟩
 rw [e']
 rcases zpa hs with z | z
 ·exact .inl ⟨vs,z,rfl⟩
 ·exact .inr (.inl ⟨vs,z,rfl⟩)
end
end L3
section
namespace TS
set_option autoImplicit false
open PyProof
abbrev Ga:Bool->Keyed->Array Keyed->Nat->Nat->Nat->StateT SortSt Sem (Option Nat):=sortPriv% PySem.Builtin.gallop
abbrev Lt:Keyed->Keyed->StateT SortSt Sem (Option Bool):=sortPriv% PySem.Builtin.lt
abbrev El:Array Keyed->Nat->StateT SortSt Sem Keyed:=sortPriv% PySem.Builtin.elem
structure Cx where
 prog:Program
 w:World
 A:Around
 E:Value->Shared->Prop
 s:Shared
 kd:SortKind
 O:KeyOrd
 ky:Value->O.α
 ok:Value->Prop
 cmp: ∀ (E':Value->Shared->Prop) (x y:Value) (Q:Bool->Shared->Prop),ok x->ok y->Q (O.blt (ky x) (ky y)) s->wpAny (model prog w) A (keyLt' kd x y) Q E' s
abbrev Cx.wp (c:Cx) {α:Type} (m:StateT SortSt Sem α) (Q:α->SortSt->Prop) (st:SortSt):Prop:=wpS (model c.prog c.w) c.A c.E c.s m Q st
noncomputable def Cx.lt (c:Cx) (x y:Keyed):Bool:=c.O.blt (c.ky x.1) (c.ky y.1)
def Cx.le (c:Cx) (x y:Keyed):Prop:=c.lt y x=false
section
variable {c:Cx}
theorem Cx.le_refl (x:Keyed):c.le x x:=c.O.irrefl _
theorem Cx.le_of_lt {x y:Keyed} (h:c.lt x y=true):c.le x y:=KeyOrd.klt_asymm (O:=c.O) h
theorem Cx.le_trans {x y z:Keyed} (h:c.le x y) (h2:c.le y z):c.le x z:=KeyOrd.kle_trans (O:=c.O) h h2
theorem Cx.lt_of_le_lt {x y z:Keyed} (h:c.le x y) (h2:c.lt y z=true):c.lt x z=true:=KeyOrd.klt_of_kle_of_klt (O:=c.O) h h2
theorem zjC {x y:Keyed} {Q:Option Bool->SortSt->Prop} {st:SortSt} (hk:kindOf st=c.kd) (hx:c.ok x.1) (hy:c.ok y.1) (h:Q (some (c.lt x y)) st):c.wp (Lt x y) Q st:=by
 have e:=lt'_eq x y
 unfold lt' at e
 show wpS _ _ _ _ (Lt x y) Q st
 unfold Lt
 rw [e]
 refine qa2 (wpS_get ?_)
 rw [hk]
 refine qa2 (wpS_lift (wpAny_attempt (c.cmp _ _ _ _ hx hy ⟨rfl,?_⟩)))
 exact qa3 h
theorem zbD {arr:Array Keyed} {i:Nat} {x:Keyed} {Q:Keyed->SortSt->Prop} {st:SortSt} (hx:arr[i]? = some x) (h:Q x st):c.wp (El arr i) Q st:=by
 have e:=elem'_eq arr i
 unfold elem' at e
 show wpS _ _ _ _ (El arr i) Q st
 unfold El
 rw [e,hx]
 exact qa3 h
noncomputable def pb (c:Cx) (left:Bool) (key x:Keyed):Bool:=if left then c.lt x key else !c.lt key x
theorem zh4 {left:Bool} {key:Keyed} {arr:Array Keyed} {i:Nat} {x:Keyed} {Q:Option Bool->SortSt->Prop} {st:SortSt} (hk:kindOf st=c.kd) (hx:arr[i]? = some x) (okk:c.ok key.1) (okx:c.ok x.1)
  (h:Q (some (pb c left key x)) st):
  c.wp (El arr i>>=λx=>if left=true then Lt x key else Lt key x>>=λr=>pure (Option.map (λx=> !x) r)) Q st:=by
 refine qa2 (zbD hx ?_)
 unfold pb at h
 cases left with
 | true=>exact zjC hk okx okk h
 | false=>exact qa2 (zjC hk okk okx (qa3 h))
theorem zf9 {left:Bool} {key:Keyed} {arr:Array Keyed} {base n hint:Nat} {Q:Option Nat->SortSt->Prop} {st:SortSt} (f:Nat->Keyed) (hk:kindOf st=c.kd) (okk:c.ok key.1)
  (hf: ∀ i,i<n->arr[base+i]? = some (f i)/\c.ok (f i).1)
  (hm: ∀ i j,i<=j->j<n->pb c left key (f j)=true->pb c left key (f i)=true) (hh:hint<n)
  (h: ∀ k,k<=n->(∀ i,i<k->pb c left key (f i)=true)->(∀ i,k<=i->i<n->pb c left key (f i)=false)->Q (some k) st):
  c.wp (Ga left key arr base n hint) Q st:=by
 show wpS _ _ _ _ (Ga left key arr base n hint) Q st
 have hmf: ∀ i j,i<=j->j<n->pb c left key (f i)=false->pb c left key (f j)=false:=by
  intro i j hij hj hi
  cases e:pb c left key (f j) with
  | false=>rfl
  | true=>rw [hm i j hij hj e] at hi;exact hi
 have third: ∀ (lo hi:Nat) (st':SortSt),st'=st->lo<=hi->hi<=n->(∀ i,i<lo->pb c left key (f i)=true)->(∀ i,hi<=i->i<n->pb c left key (f i)=false)->
   c.wp (forIn [:n] ((none:Option (Option Nat)),lo,hi) λx __s=>
       if __s.snd.fst>=__s.snd.snd then pure (ForInStep.done (none,__s.snd.fst,__s.snd.snd))
       else (El arr (base+(__s.snd.fst+(__s.snd.snd - __s.snd.fst) / 2))>>=λx=>if left=true then Lt x key else Lt key x>>=λr=>pure (Option.map (λx=> !x) r))>>=λ__x=>
         match __x with
           | some more=>
             if more=true then pure (ForInStep.yield (none,__s.snd.fst+(__s.snd.snd - __s.snd.fst) / 2+1,__s.snd.snd))
             else pure (ForInStep.yield (none,__s.snd.fst,__s.snd.fst+(__s.snd.snd - __s.snd.fst) / 2))
           | x=>pure (ForInStep.done (some none,__s.snd.fst,__s.snd.snd)))
    (λr st'=>st'=st/\r.1=none/\r.2.2<=n/\(∀ i,i<r.2.2->pb c left key (f i)=true)/\(∀ i,r.2.2<=i->i<n->pb c left key (f i)=false)) st':=by
  intro lo hi st' est hlh hhn h1 h2
  refine wpS_forRange (I:=λx r st'=>st'=st/\r.1=none/\r.2.1<=r.2.2/\r.2.2<=n/\r.2.2 - r.2.1<=n - x/\(∀ i,i<r.2.1->pb c left key (f i)=true)/\(∀ i,r.2.2<=i->i<n->pb c left key (f i)=false)) ?_ ?_ ⟨est,rfl,hlh,hhn,by show hi - lo<=n - 0;omega,h1,h2⟩
  ·rintro i ⟨r,lo,hi⟩ st' _ hi2 ⟨rfl,rfl,a1,a2,a3,a4,a5⟩
   dsimp only at a1 a2 a3 a4 a5 ⊢
   split
   ·refine qa3 ⟨rfl,rfl,a2,?_,a5⟩
    intro j hj
    exact a4 j (by dsimp only at hj;omega)
   ·obtain ⟨g1,g2⟩:=hf (lo+(hi - lo) / 2) ⋯
    refine qa2 (zh4 hk g1 okk g2 ?_)
    dsimp only
    cases e:pb c left key (f (lo+(hi - lo) / 2)) with
    | true=>
     rw [qa4 rfl]
     refine qa3 ⟨rfl,rfl,?_,a2,?_,?_,a5⟩
     ·dsimp only;omega
     ·dsimp only;omega
     ·intro j hj;exact hm j _ (by dsimp only at hj;omega) ⋯ e
    | false=>
     rw [qa5 (by simp)]
     refine qa3 ⟨rfl,rfl,?_,?_,?_,a4,?_⟩
     ·dsimp only;omega
     ·dsimp only;omega
     ·dsimp only;omega
     ·intro j hj hjn;exact hmf _ j hj hjn e
  ·rintro ⟨r,lo,hi⟩ st' ⟨rfl,rfl,a1,a2,a3,a4,a5⟩
   refine ⟨rfl,rfl,a2,?_,a5⟩
   dsimp only at a1 a3 a4 ⊢
   intro j hj;exact a4 j ⋯
 obtain ⟨g1,g2⟩:=hf hint hh
 refine qa2 ?_
 dsimp only
 refine zh4 hk g1 okk g2 ?_
 dsimp only
 cases e:pb c left key (f hint) with
 | true=>
  rw [qa4 rfl]
  refine qa2 (wpS_mono (wpS_forRange (I:=λx r st'=>st'=st/\r.1=(none:Option (Option Nat))/\x+1<=r.2.2/\r.2.1<r.2.2/\hint+r.2.1<n/\pb c left key (f (hint+r.2.1))=true)
    (Q:=λr st'=>st'=st/\r.1=none/\r.2.1<r.2.2/\hint+r.2.1<n/\pb c left key (f (hint+r.2.1))=true/\(n<=hint+r.2.2\/pb c left key (f (hint+r.2.2))=false)) ?_ ?_ ⟨rfl,rfl,qaV _,Nat.zero_lt_one,hh,by exact e⟩) ?_)
  ·rintro i ⟨r,lo,hi⟩ st' _ hi2 ⟨rfl,rfl,a1,a2,a3,a4⟩
   dsimp only at a1 a2 a3 a4 ⊢
   split
   ·exact qa3 ⟨rfl,rfl,a2,a3,a4,.inl (by dsimp only;omega)⟩
   ·obtain ⟨g1,g2⟩:=hf (hint+hi) ⋯
    refine qa2 (zh4 hk g1 okk g2 ?_)
    dsimp only
    cases e:pb c left key (f (hint+hi)) with
    | true=>
     rw [qa5 (by simp)]
     exact qa3 ⟨rfl,rfl,by dsimp only;omega,by dsimp only;omega,by dsimp only;omega,e⟩
    | false=>
     rw [qa4 (by simp)]
     exact qa3 ⟨rfl,rfl,a2,a3,a4,.inr e⟩
  ·rintro ⟨r,lo,hi⟩ st' ⟨rfl,rfl,a1,a2,a3,a4⟩
   exact ⟨rfl,rfl,a2,a3,a4,.inl (by dsimp only at a1 ⊢; omega)⟩
  ·rintro ⟨r,lo,hi⟩ st' ⟨rfl,rfl,a2,a3,a4,a5⟩
   dsimp only at a2 a3 a4 a5 ⊢
   refine qa2 (wpS_mono (third _ _ _ rfl ⋯ ⋯ (λi hi2=>hm i _ ⋯ a3 a4) ?_) ?_)
   ·intro i h1 h2
    rcases a5 with a5 | a5
    ·omega
    ·by_cases hq:hint+hi<n
     ·exact hmf _ i ⋯ h2 a5
     ·omega
   ·rintro ⟨r,lo,hi⟩ st' ⟨rfl,rfl,b1,b2,b3⟩
    exact qa3 (h _ b1 b2 b3)
 | false=>
  rw [qa5 (by simp)]
  refine qa2 (wpS_mono (wpS_forRange (I:=λx r st'=>st'=st/\r.1=(none:Option (Option Nat))/\x+1<=r.2.2/\r.2.1<r.2.2/\r.2.1<=hint/\pb c left key (f (hint - r.2.1))=false)
    (Q:=λr st'=>st'=st/\r.1=none/\r.2.1<r.2.2/\r.2.1<=hint/\pb c left key (f (hint - r.2.1))=false/\(hint<r.2.2\/pb c left key (f (hint - r.2.2))=true)) ?_ ?_ ⟨rfl,rfl,qaV _,Nat.zero_lt_one,zero_le _,by exact e⟩) ?_)
  ·rintro i ⟨r,lo,hi⟩ st' _ hi2 ⟨rfl,rfl,a1,a2,a3,a4⟩
   dsimp only at a1 a2 a3 a4 ⊢
   split
   ·exact qa3 ⟨rfl,rfl,a2,a3,a4,.inl (by dsimp only;omega)⟩
   ·obtain ⟨g1,g2⟩:=hf (hint - hi) ⋯
    refine qa2 (zh4 hk g1 okk g2 ?_)
    dsimp only
    cases e:pb c left key (f (hint - hi)) with
    | false=>
     rw [qa5 (by simp)]
     exact qa3 ⟨rfl,rfl,by dsimp only;omega,by dsimp only;omega,by dsimp only;omega,e⟩
    | true=>
     rw [qa4 rfl]
     exact qa3 ⟨rfl,rfl,a2,a3,a4,.inr e⟩
  ·rintro ⟨r,lo,hi⟩ st' ⟨rfl,rfl,a1,a2,a3,a4⟩
   exact ⟨rfl,rfl,a2,a3,a4,.inl (by dsimp only at a1 ⊢; omega)⟩
  ·rintro ⟨r,lo,hi⟩ st' ⟨rfl,rfl,a2,a3,a4,a5⟩
   dsimp only at a2 a3 a4 a5 ⊢
   refine qa2 (wpS_mono (third _ _ _ rfl ⋯ ⋯ ?_ (λi h1 h2=>hmf _ i h1 h2 a4)) ?_)
   ·intro i h1
    rcases a5 with a5 | a5
    ·omega
    ·exact hm i _ ⋯ ⋯ a5
   ·rintro ⟨r,lo,hi⟩ st' ⟨rfl,rfl,b1,b2,b3⟩
    exact qa3 (h _ b1 b2 b3)
end
end TS
end
section
namespace TS
set_option autoImplicit false
open PyProof
abbrev ML:Array Keyed->Array Keyed->StateT SortSt Sem (Array Keyed):=sortPriv% PySem.Builtin.mergeLo
abbrev MH:Array Keyed->Array Keyed->StateT SortSt Sem (Array Keyed):=sortPriv% PySem.Builtin.mergeHi
abbrev Sg:Nat->StateT SortSt Sem Unit:=sortPriv% PySem.Builtin.setMinGallop
structure Sm (st st':SortSt):Prop where
 k:kindOf st'=kindOf st
 a:arrOf st'=arrOf st
 p:pendingOf st'=pendingOf st
 f:failedOf st'=failedOf st
theorem Sm.refl (st:SortSt):Sm st st:=⟨rfl,rfl,rfl,rfl⟩
theorem Sm.g {st st':SortSt} (h:Sm st st') (n:Nat):Sm st (SortSt.mk' (kindOf st') (arrOf st') (pendingOf st') n (failedOf st')):=⟨h.k,h.a,h.p,h.f⟩
structure Mg (r:Keyed->Keyed->Prop) (O L R T:List Keyed):Prop where
 s:O.Pairwise r
 l: ∀ x,x∈O-> ∀ y,y∈L->r x y
 r: ∀ x,x∈O-> ∀ y,y∈R->r x y
 p:(O++(L++R)).Perm T
section
variable {r:Keyed->Keyed->Prop} {O L R T X:List Keyed}
theorem Mg.symm (h:Mg r O L R T):Mg r O R L T:=⟨h.s,h.r,h.l,(List.Perm.append_left O List.perm_append_comm).trans h.p⟩
theorem Mg.stepL (h:Mg r O (X++L) R T) (hX:(X++L).Pairwise r) (hR: ∀ x,x∈X-> ∀ y,y∈R->r x y):Mg r (O++X) L R T:=by
 rw [qaq] at hX
 refine ⟨?_,?_,?_,?_⟩
 ·rw [qaq]
  exact ⟨h.s,hX.1,λx hx y hy=>h.l x hx y (List.mem_append_left _ hy)⟩
 ·intro x hx y hy
  rcases qaK.mp hx with hx | hx
  ·exact h.l x hx y (qak _ hy)
  ·exact hX.2.2 x hx y hy
 ·intro x hx y hy
  rcases qaK.mp hx with hx | hx
  ·exact h.r x hx y hy
  ·exact hR x hx y hy
 ·have:=h.p
  simpa [List.append_assoc] using this
theorem Mg.fin (h:Mg r O L R T) (hs:(L++R).Pairwise r):(O++(L++R)).Pairwise r/\(O++(L++R)).Perm T:=by
 refine ⟨?_,h.p⟩
 rw [qaq]
 refine ⟨h.s,hs,λx hx y hy=> ?_⟩
 rcases qaK.mp hy with hy | hy
 ·exact h.l x hx y hy
 ·exact h.r x hx y hy
end
section
variable {c:Cx}
theorem ziW {g:Nat} {Q:Unit->SortSt->Prop} {st:SortSt} (h:Q () (SortSt.mk' (kindOf st) (arrOf st) (pendingOf st) g (failedOf st))):c.wp (Sg g) Q st:=by
 exact wpS_modify h
theorem zdC {n:String} {Q:Unit->SortSt->Prop} {st:SortSt} (h:Q () st):c.wp (liftM (rule n):StateT SortSt Sem Unit) Q st:=
 wpS_lift (wpAny_rule ⟨rfl,h⟩)
def srt (c:Cx) (a:Array Keyed):Prop:=a.toList.Pairwise c.le
def okA (c:Cx) (a:Array Keyed):Prop:= ∀ x,x∈a.toList->c.ok x.1
theorem zbh {a:Array Keyed} (h:okA c a) {i:Nat} (hi:i<a.size): ∃ x,a[i]? = some x/\c.ok x.1:=
 ⟨a[i],getElem?_pos a i hi,h _ (by simp)⟩
theorem zdK {a:Array Keyed} (h:srt c a) {i j:Nat} {x y:Keyed} (hij:i<=j) (hx:a[i]? = some x) (hy:a[j]? = some y):c.le x y:=by
 rcases Nat.lt_or_ge i j with hlt | hge
 ·obtain ⟨hj,rfl⟩:=qab.mp hy
  obtain ⟨hi,rfl⟩:=qab.mp hx
  have:=List.pairwise_iff_getElem.mp h i j (by simpa using hi) (by simpa using hj) hlt
  simpa using this
 ·have:i=j:=by omega
  subst this
  rw [hx] at hy
  cases hy
  exact Cx.le_refl _
structure MgA (c:Cx) (a b out:Array Keyed) (ia ib:Nat):Prop where
 m:Mg c.le out.toList (a.toList.drop ia) (b.toList.drop ib) (a.toList++b.toList)
 z:out.size=ia+ib
 la:ia<=a.size
 lb:ib<=b.size
def Fi (c:Cx) (a b res:Array Keyed):Prop:=srt c res/\res.toList.Perm (a.toList++b.toList)
theorem zdc {l:List Keyed} {i k:Nat} {x:Keyed} (h:x∈(l.drop i).take k): ∃ j,j<k/\l[i+j]? = some x:=by
 obtain ⟨j,hj,e⟩:=getElem_of_mem h
 refine ⟨j,by simp at hj;omega,?_⟩
 rw [List.getElem_take,List.getElem_drop] at e
 rw [qaf (by simp at hj;omega),e]
theorem zfq {l:List Keyed} {i:Nat} {x:Keyed} (h:x∈l.drop i): ∃ j,l[i+j]? = some x:=by
 obtain ⟨j,hj,e⟩:=getElem_of_mem h
 refine ⟨j,?_⟩
 rw [List.getElem_drop] at e
 rw [qaf (by simp at hj;omega),e]
variable {a b out:Array Keyed} {ia ib k:Nat}
theorem MgA.appA (h:MgA c a b out ia ib) (ha:srt c a) (hb:srt c b) {y:Keyed} (hy:b[ib]? = some y) (hk:ia+k<=a.size)
  (hx: ∀ i x,i<k->a[ia+i]? = some x->c.le x y):MgA c a b (out++a.extract ia (ia+k)) (ia+k) ib:=by
 refine ⟨?_,?_,hk,h.lb⟩
 ·have e:a.toList.drop ia=(a.toList.drop ia).take k++a.toList.drop (ia+k):=by
   rw [<- List.drop_drop];exact (qam k _).symm
  have hm:=h.m
  rw [e] at hm
  have e2:(out++a.extract ia (ia+k)).toList=out.toList++(a.toList.drop ia).take k:=by
   simp [List.extract,Nat.add_sub_cancel_left]
  rw [e2]
  refine hm.stepL (by rw [<- e];exact List.Pairwise.sublist (drop_sublist _ _) ha) ?_
  intro x hxm z hz
  obtain ⟨j,hj,ej⟩:=zdc hxm
  obtain ⟨i,ei⟩:=zfq hz
  rw [qaj] at ej ei
  exact Cx.le_trans (hx j x hj ej) (zdK hb (Nat.le_add_right _ _) hy ei)
 ·rw [Array.size_append,qaz,h.z]
  omega
theorem MgA.appB (h:MgA c a b out ia ib) (ha:srt c a) (hb:srt c b) {x:Keyed} (hx:a[ia]? = some x) (hk:ib+k<=b.size)
  (hy: ∀ i y,i<k->b[ib+i]? = some y->c.le y x):MgA c a b (out++b.extract ib (ib+k)) ia (ib+k):=by
 refine ⟨?_,?_,h.la,hk⟩
 ·have e:b.toList.drop ib=(b.toList.drop ib).take k++b.toList.drop (ib+k):=by
   rw [<- List.drop_drop];exact (qam k _).symm
  have hm:=h.m.symm
  rw [e] at hm
  have e2:(out++b.extract ib (ib+k)).toList=out.toList++(b.toList.drop ib).take k:=by
   simp [List.extract,Nat.add_sub_cancel_left]
  rw [e2]
  refine (hm.stepL (by rw [<- e];exact List.Pairwise.sublist (drop_sublist _ _) hb) ?_).symm
  intro x hxm z hz
  obtain ⟨j,hj,ej⟩:=zdc hxm
  obtain ⟨i,ei⟩:=zfq hz
  rw [qaj] at ej ei
  exact Cx.le_trans (hy j x hj ej) (zdK ha (Nat.le_add_right _ _) hx ei)
 ·rw [Array.size_append,qaz,h.z]
  omega
theorem zfJ {i:Nat} {x:Keyed} (hx:a[i]? = some x):out.push x=out++a.extract i (i+1):=by
 obtain ⟨hi,rfl⟩:=qab.mp hx
 apply Array.ext'
 simp only [Array.toList_push,Array.toList_append,Array.toList_extract,List.extract,Nat.add_sub_cancel_left]
 rw [qae (by simpa using hi)]
 simp
theorem MgA.pushA (h:MgA c a b out ia ib) (ha:srt c a) (hb:srt c b) {x y:Keyed} (hx:a[ia]? = some x) (hy:b[ib]? = some y) (hxy:c.le x y):MgA c a b (out.push x) (ia+1) ib:=by
 rw [zfJ hx]
 refine h.appA ha hb hy (qab.mp hx).1 ?_
 intro i z hi hz
 have:i=0:=by omega
 subst this
 rw [add_zero,hx] at hz
 cases hz
 exact hxy
theorem MgA.pushB (h:MgA c a b out ia ib) (ha:srt c a) (hb:srt c b) {x y:Keyed} (hx:a[ia]? = some x) (hy:b[ib]? = some y) (hxy:c.le y x):MgA c a b (out.push y) ia (ib+1):=by
 rw [zfJ hy]
 refine h.appB ha hb hx (qab.mp hy).1 ?_
 intro i z hi hz
 have:i=0:=by omega
 subst this
 rw [add_zero,hy] at hz
 cases hz
 exact hxy
theorem MgA.done (h:MgA c a b out ia ib) (ha:srt c a) (hb:srt c b) (he:ia=a.size\/ib=b.size):Fi c a b (out++a.extract ia++b.extract ib):=by
 have e:(out++a.extract ia++b.extract ib).toList=out.toList++(a.toList.drop ia++b.toList.drop ib):=by
  simp [List.extract,List.take_of_length_le]
 have hs:(a.toList.drop ia++b.toList.drop ib).Pairwise c.le:=by
  rcases he with he | he
  ·rw [List.drop_eq_nil_of_le (by simp [he]),nil_append]
   exact List.Pairwise.sublist (drop_sublist _ _) hb
  ·rw [List.drop_eq_nil_of_le (as:=b.toList) (by simp [he]),append_nil]
   exact List.Pairwise.sublist (drop_sublist _ _) ha
 obtain ⟨h1,h2⟩:=h.m.fin hs
 exact ⟨by unfold srt;rw [e];exact h1,by rw [e];exact h2⟩
theorem MgA.last (h:MgA c a b out ia ib) (_ha:srt c a) (hb:srt c b) (he:ia+1=a.size) (hl: ∀ x,a[ia]? = some x-> ∀ y,y∈b.toList->c.le y x):Fi c a b (out++b.extract ib++a.extract ia):=by
 have e:(out++b.extract ib++a.extract ia).toList=out.toList++(b.toList.drop ib++a.toList.drop ia):=by
  simp [List.extract,List.take_of_length_le]
 have ed:a.toList.drop ia=[a[ia]]:=by
  rw [qae (by simp;omega),List.drop_eq_nil_of_le (by simp;omega)]
  simp
 have hs:(b.toList.drop ib++a.toList.drop ia).Pairwise c.le:=by
  rw [ed,qaq]
  refine ⟨List.Pairwise.sublist (drop_sublist _ _) hb,List.pairwise_singleton _ _,?_⟩
  intro x hx y hy
  rw [mem_singleton.mp hy]
  exact hl _ (getElem?_pos a ia ⋯) x (List.mem_of_mem_drop hx)
 obtain ⟨h1,h2⟩:=h.m.symm.fin hs
 exact ⟨by unfold srt;rw [e];exact h1,by rw [e];exact h2⟩
end
end TS
end
section
namespace TS
set_option autoImplicit false
open PyProof
section
variable {c:Cx} {a b:Array Keyed}
theorem zaB {α:Type} {p:Prop} [Decidable p] {x y:StateT SortSt Sem α} {Q:α->SortSt->Prop} {st:SortSt} (h1:p->c.wp x Q st) (h2: ¬p->c.wp y Q st):c.wp (if p then x else y) Q st:=by
 by_cases h:p
 ·rw [qa4 h];exact h1 h
 ·rw [qa5 h];exact h2 h
theorem za4 {α:Type} {i j:Nat} {x y:StateT SortSt Sem α} {Q:α->SortSt->Prop} {st:SortSt} (h1:i=j->c.wp x Q st) (h2: ¬i=j->c.wp y Q st):c.wp (if (i==j)=true then x else y) Q st:=
 zaB (λh=>h1 (by simpa using h)) (λh=>h2 (by simpa using h))
theorem zpd {st:SortSt} {base n hint:Nat} {y:Keyed} {Q:Option Nat->SortSt->Prop} (hk:kindOf st=c.kd) (oy:c.ok y.1) (hi:hint<n)
  (ha: ∀ i j x z,i<=j->j<n->a[base+i]? = some x->a[base+j]? = some z->c.le x z) (oa: ∀ i,i<n-> ∃ x,a[base+i]? = some x/\c.ok x.1)
  (h: ∀ k,k<=n->(∀ i x,i<k->a[base+i]? = some x->c.le x y)->(∀ i x,k<=i->i<n->a[base+i]? = some x->c.lt y x=true)->Q (some k) st):
  c.wp (Ga false y a base n hint) Q st:=by
 refine zf9 (λi=>a[base+i]?.getD y) hk oy ?_ ?_ hi ?_
 ·intro i hi2
  obtain ⟨x,ex,ox⟩:=oa i hi2
  exact ⟨by rw [ex];rfl,by rw [ex];exact ox⟩
 ·intro i j hij hj hp
  obtain ⟨x,ex,ox⟩:=oa i ⋯
  obtain ⟨z,ez,oz⟩:=oa j hj
  rw [ez] at hp
  rw [ex]
  have hxz:=ha i j x z hij hj ex ez
  simp only [pb,qax,if_false,Bool.not_eq_true',Option.getD_some] at hp ⊢
  exact Cx.le_trans (c:=c) hxz hp
 ·intro k hk1 h1 h2
  refine h k hk1 ?_ ?_
  ·intro i x hi2 ex
   have:=h1 i hi2
   rw [ex] at this
   simpa [pb,Cx.le] using this
  ·intro i x hi2 hin ex
   have:=h2 i hi2 hin
   rw [ex] at this
   simpa [pb] using this
theorem zqv {st:SortSt} {ib n hint:Nat} {x:Keyed} {Q:Option Nat->SortSt->Prop} (hk:kindOf st=c.kd) (ox:c.ok x.1) (hi:hint<n)
  (hb: ∀ i j y z,i<=j->j<n->b[ib+i]? = some y->b[ib+j]? = some z->c.le y z) (ob: ∀ i,i<n-> ∃ y,b[ib+i]? = some y/\c.ok y.1)
  (h: ∀ k,k<=n->(∀ i y,i<k->b[ib+i]? = some y->c.lt y x=true)->(∀ i y,k<=i->i<n->b[ib+i]? = some y->c.le x y)->Q (some k) st):
  c.wp (Ga true x b ib n hint) Q st:=by
 refine zf9 (λi=>b[ib+i]?.getD x) hk ox ?_ ?_ hi ?_
 ·intro i hi2
  obtain ⟨y,ey,oy⟩:=ob i ⋯
  exact ⟨by rw [ey];rfl,by rw [ey];exact oy⟩
 ·intro i j hij hj hp
  obtain ⟨y,ey,oy⟩:=ob i ⋯
  obtain ⟨z,ez,oz⟩:=ob j ⋯
  rw [ez] at hp
  rw [ey]
  have hyz:=hb i j y z hij hj ey ez
  simp only [pb,if_true,Option.getD_some] at hp ⊢
  exact Cx.lt_of_le_lt (c:=c) hyz hp
 ·intro k hk1 h1 h2
  refine h k hk1 ?_ ?_
  ·intro i y hi2 ey
   have:=h1 i hi2
   rw [ey] at this
   simpa [pb] using this
  ·intro i y hi2 hin ey
   have:=h2 i hi2 hin
   rw [ey] at this
   simpa [pb,Cx.le] using this
theorem zmY {st:SortSt} {ia:Nat} {y:Keyed} {Q:Option Nat->SortSt->Prop} (hk:kindOf st=c.kd) (ha:srt c a) (oa:okA c a) (oy:c.ok y.1) (hi:ia<a.size)
  (h: ∀ k,ia+k<=a.size->(∀ i x,i<k->a[ia+i]? = some x->c.le x y)->(∀ i x,k<=i->a[ia+i]? = some x->c.lt y x=true)->Q (some k) st):
  c.wp (Ga false y a ia (a.size - ia) 0) Q st:=
 zpd hk oy ⋯ (λi j x z hij _ hx hz=>zdK ha ⋯ hx hz) (λi hi=>zbh oa ⋯) λk h1 h2 h3=>h k ⋯ h2 (λi x hi hx=>h3 i x hi (by have:=(qab.mp hx).1;omega) hx)
theorem zhY {st:SortSt} {ib n hint:Nat} {x:Keyed} {Q:Option Nat->SortSt->Prop} (hk:kindOf st=c.kd) (hb:srt c b) (ob:okA c b) (ox:c.ok x.1) (hi:hint<n) (hn:ib+n<=b.size)
  (h: ∀ k,k<=n->(∀ i y,i<k->b[ib+i]? = some y->c.lt y x=true)->(∀ i y,k<=i->i<n->b[ib+i]? = some y->c.le x y)->Q (some k) st):
  c.wp (Ga true x b ib n hint) Q st:=
 zqv hk ox hi (λi j x z hij _ hx hz=>zdK hb ⋯ hx hz) (λi hi=>zbh ob ⋯) h
abbrev StL:=ForInStep (Option (Array Keyed)×Array Keyed×Nat×Nat×Nat×Nat×Nat)
structure Ex (c:Cx) (a b:Array Keyed) (N:Nat) (Q:StL->SortSt->Prop) (st:SortSt):Prop where
 d1: ∀ res t,Fi c a b res->Q (.done (some res,t)) st
 d2: ∀ o i j t,MgA c a b o i j->i+1<a.size->j<b.size->N<=o.size->Q (.done (none,o,i,j,t)) st/\Q (.yield (none,o,i,j,t)) st
 hl: ∀ (o:Array Keyed) (i j:Nat),MgA c a b o i j->i+1=a.size->Fi c a b (o++b.extract j++a.extract i)
 ha:srt c a
 hb:srt c b
 oa:okA c a
 ob:okA c b
 hk:kindOf st=c.kd
noncomputable def T4 (a b o:Array Keyed) (i j g k l:Nat):StateT SortSt Sem StL:=El a i>>=λz=>
 if (i+1+1==a.size)=true then pure (.done (some (o.push z++b.extract j++a.extract (i+1)),o.push z,i+1,j,g,k,l))
 else if (decide (k<7) && decide (l<7))=true then pure (.done (none,o.push z,i+1,j,g,k,l)) else pure (.yield (none,o.push z,i+1,j,g,k,l))
noncomputable def T3 (a b o:Array Keyed) (i j g k v:Nat):StateT SortSt Sem StL:=El b j>>=λy=>
 if (j+1==b.size)=true then pure (.done (some (o.push y++a.extract i++b.extract (j+1)),o.push y,i,j+1,g,k,v))
 else El a i>>=λz=>Ga true z b (j+1) (b.size - (j+1)) 0>>=λx=>match x with
  | some l=>if l>0 then
    if (j+1+l==b.size)=true then pure (.done (some (o.push y++b.extract (j+1) (j+1+l)++a.extract i++b.extract (j+1+l)),o.push y++b.extract (j+1) (j+1+l),i,j+1+l,g,k,l))
    else T4 a b (o.push y++b.extract (j+1) (j+1+l)) i (j+1+l) g k l
   else T4 a b (o.push y) i (j+1) g k l
  | _=>pure (.done (some (o.push y++a.extract i++b.extract (j+1)),o.push y,i,j+1,g,k,v))
noncomputable def T2 (a b o:Array Keyed) (i j g u v:Nat):StateT SortSt Sem StL:=El b j>>=λy=>Ga false y a i (a.size - i) 0>>=λx=>match x with
  | some k=>if k>0 then
    if (i+k+1==a.size)=true then pure (.done (some (o++a.extract i (i+k)++b.extract j++a.extract (i+k)),o++a.extract i (i+k),i+k,j,g,k,v))
    else if (i+k==a.size)=true then pure (.done (some (o++a.extract i (i+k)++a.extract (i+k)++b.extract j),o++a.extract i (i+k),i+k,j,g,k,v))
    else T3 a b (o++a.extract i (i+k)) (i+k) j g k v
   else T3 a b o i j g k v
  | _=>pure (.done (some (o++a.extract i++b.extract j),o,i,j,g,u,v))
section
variable {N:Nat} {Q:StL->SortSt->Prop} {st:SortSt} {o:Array Keyed} {i j g k l u v:Nat}
theorem zrb (x:Ex c a b N Q st) (m:MgA c a b o i j) (b1:i+1<a.size) (b2:j<b.size) (b3:N<=o.size) {z w:Keyed} (ew:b[j]? = some w) (ez:a[i]? = some z) (lzw:c.le z w):c.wp (T4 a b o i j g k l) Q st:=by
 refine qa2 (zbD ez ?_)
 have m2:=m.pushA x.ha x.hb ez ew lzw
 have d:=λb1=>x.d2 _ _ _ (g,k,l) m2 b1 b2 (by rw [Array.size_push];omega)
 refine za4 (λp3=>qa3 (x.d1 _ _ (x.hl _ _ _ m2 p3))) (λp3=>zaB (λ_=>qa3 (d ⋯).1) (λ_=>qa3 (d ⋯).2))
theorem zrC (x:Ex c a b N Q st) (m:MgA c a b o i j) (b1:i+1<a.size) (b2:j<b.size) (b3:N<=o.size) {y z:Keyed} (ey:b[j]? = some y) (ez:a[i]? = some z) (oz:c.ok z.1) (lyz:c.le y z):c.wp (T3 a b o i j g k v) Q st:=by
 refine qa2 (zbD ey ?_)
 have m2:=m.pushB x.ha x.hb ez ey lyz
 have b4:N<=(o.push y).size:=by rw [Array.size_push];omega
 refine za4 (λp=>qa3 (x.d1 _ _ (m2.done x.ha x.hb (.inr p)))) (λp=> ?_)
 refine qa2 (zbD ez (qa2 (zhY x.hk x.hb x.ob oz ⋯ ⋯ ?_)))
 intro l hl1 hl2 hl3
 have m3:=m2.appB x.ha x.hb ez ⋯ (λi y hi hy=>Cx.le_of_lt (hl2 i y hi hy))
 refine zaB (λl0=>za4 (λp2=>qa3 (x.d1 _ _ (m3.done x.ha x.hb (.inr p2)))) (λp2=> ?_)) (λl0=> ?_)
 ·obtain ⟨w,ew,ow⟩:=zbh x.ob (i:=j+1+l) ⋯
  exact zrb x m3 b1 ⋯ (by rw [Array.size_append];omega) ew ez (hl3 l w (qaV _) ⋯ ew)
 ·have el:l=0:=by omega
  subst el
  obtain ⟨w,ew,ow⟩:=zbh x.ob (i:=j+1) ⋯
  exact zrb x m2 b1 ⋯ b4 ew ez (hl3 0 w (qaV _) ⋯ ew)
theorem zqY (x:Ex c a b N Q st) (m:MgA c a b o i j) (b1:i+1<a.size) (b2:j<b.size) (b3:N<=o.size):c.wp (T2 a b o i j g u v) Q st:=by
 obtain ⟨y,ey,oy⟩:=zbh x.ob b2
 refine qa2 (zbD ey (qa2 (zmY x.hk x.ha x.oa oy ⋯ ?_)))
 intro k hk1 hk2 hk3
 have m2:=m.appA x.ha x.hb ey hk1 hk2
 refine zaB (λk0=>za4 (λq=>qa3 (x.d1 _ _ (x.hl _ _ _ m2 q))) (λq=>za4 (λq2=>qa3 (x.d1 _ _ (m2.done x.ha x.hb (.inl q2)))) (λq2=> ?_))) (λk0=> ?_)
 ·obtain ⟨z,ez,oz⟩:=zbh x.oa (i:=i+k) ⋯
  exact zrC x m2 ⋯ b2 (by rw [Array.size_append];omega) ey ez oz (Cx.le_of_lt (hk3 k z (qaV _) ez))
 ·have ek:k=0:=by omega
  subst ek
  obtain ⟨z,ez,oz⟩:=zbh x.oa (i:=i) ⋯
  exact zrC x m b1 b2 b3 ey ez oz (Cx.le_of_lt (hk3 0 z (qaV _) ez))
end
abbrev S5:=Option (Array Keyed)×Array Keyed×Nat×Nat×Nat
abbrev S6:=Option (Array Keyed)×Array Keyed×Nat×Nat×Nat×Nat
abbrev S7:=Option (Array Keyed)×Array Keyed×Nat×Nat×Nat×Nat×Nat
noncomputable def ztO (st:SortSt):Nat:=(sortPriv% PySem.Builtin.SortState.minGallop) st
noncomputable def A1 (a b:Array Keyed) (g:Nat) (o:Array Keyed) (i j u v:Nat):StateT SortSt Sem (ForInStep S6):=El b j>>=λy=>El a i>>=λz=>Lt y z>>=λx=>match x with
 | some w=>if w=true then El b j>>=λy=>if (j+1==b.size)=true then pure (.done (some (o.push y++a.extract i++b.extract (j+1)),o.push y,i,j+1,0,v+1)) else if v+1>=g then pure (.done (none,o.push y,i,j+1,0,v+1)) else pure (.yield (none,o.push y,i,j+1,0,v+1))
  else El a i>>=λz=>if (i+1+1==a.size)=true then pure (.done (some (o.push z++b.extract j++a.extract (i+1)),o.push z,i+1,j,u+1,0)) else if u+1>=g then pure (.done (none,o.push z,i+1,j,u+1,0)) else pure (.yield (none,o.push z,i+1,j,u+1,0))
 | _=>pure (.done (some (o++a.extract i++b.extract j),o,i,j,u,v))
noncomputable def A2 (a b:Array Keyed) (o:Array Keyed) (i j g u v:Nat):StateT SortSt Sem (ForInStep S7):=
 if g>1 then Sg (g - 1)>>=λ_=>T2 a b o i j (g - 1) u v else Sg g>>=λ_=>T2 a b o i j g u v
noncomputable def A5 (r:S7):StateT SortSt Sem (ForInStep S5):=match r.1 with
 | some x=>pure (.done (some x,r.2.1,r.2.2.1,r.2.2.2.1,r.2.2.2.2.1))
 | none=>Sg (r.2.2.2.2.1+1)>>=λ_=>pure (.yield (none,r.2.1,r.2.2.1,r.2.2.2.1,r.2.2.2.2.1+1))
noncomputable def A4 (a b:Array Keyed) (g:Nat) (r:S6):StateT SortSt Sem (ForInStep S5):=match r.1 with
 | some x=>pure (.done (some x,r.2.1,r.2.2.1,r.2.2.2.1,g))
 | none=>(liftM (rule "list.sort.gallop"):StateT SortSt Sem Unit)>>=λ_=>forIn [0:a.size+b.size] ((none,r.2.1,r.2.2.1,r.2.2.2.1,g+1,r.2.2.2.2.1,r.2.2.2.2.2):S7) (λ_ r=>A2 a b r.2.1 r.2.2.1 r.2.2.2.1 r.2.2.2.2.1 r.2.2.2.2.2.1 r.2.2.2.2.2.2)>>=λr=>A5 r
noncomputable def A3 (a b:Array Keyed) (o:Array Keyed) (i j g:Nat):StateT SortSt Sem (ForInStep S5):=
 forIn [0:a.size+b.size] ((none,o,i,j,0,0):S6) (λ_ r=>A1 a b g r.2.1 r.2.2.1 r.2.2.2.1 r.2.2.2.2.1 r.2.2.2.2.2)>>=λr=>A4 a b g r
noncomputable def ML' (a b:Array Keyed):StateT SortSt Sem (Array Keyed):=(liftM (rule "list.sort.merge-lo"):StateT SortSt Sem Unit)>>=λ_=>El b 0>>=λy=>
 if (1==b.size)=true then pure (#[y]++a.extract 0++b.extract 1) else if (0+1==a.size)=true then pure (#[y]++b.extract 1++a.extract 0)
 else get>>=λst=>forIn [0:a.size+b.size] ((none, #[y],0,1,ztO st):S5) (λ_ r=>A3 a b r.2.1 r.2.2.1 r.2.2.2.1 r.2.2.2.2)>>=λr=>match r.1 with
  | some x=>pure x
  | none=>liftM (unsupported "internal:list.sort.merge-bound":Sem (Array Keyed))
theorem bnd {α β:Type} {m m':StateT SortSt Sem α} {f f':α->StateT SortSt Sem β} (h:m=m') (h2: ∀ x,f x=f' x):(m>>=f)=(m'>>=f'):=by
 rw [h,funext h2]
theorem zpt {β:Type} {n:Nat} {x:β} {f f':Nat->β->StateT SortSt Sem (ForInStep β)} (h: ∀ i r,f i r=f' i r):forIn [0:n] x f=forIn [0:n] x f':=by
 rw [show f=f' from funext λi=>funext (h i)]
theorem zs5 (a b:Array Keyed):ML a b=ML' a b:=by
 refine bnd rfl λ_=>bnd rfl λy=> ?_
 by_cases h1:(1==b.size)=true
 ·exact (qa4 h1).trans (qa4 h1).symm
 refine (qa5 h1).trans (Eq.trans ?_ (qa5 h1).symm)
 by_cases h2:(0+1==a.size)=true
 ·exact (qa4 h2).trans (qa4 h2).symm
 refine (qa5 h2).trans (Eq.trans ?_ (qa5 h2).symm)
 refine bnd rfl λst=>bnd (zpt λ_ r=> ?_) λr=> ?_
 ·refine bnd (zpt λ_ r=> ?_) λr'=> ?_
  ·rfl
  ·obtain ⟨q,r'⟩:=r'
   cases q with
   | some x=>rfl
   | none=>
    refine bnd rfl λ_=>bnd (zpt λ_ r=> ?_) λr3=> ?_
    ·rfl
    ·obtain ⟨q,r'⟩:=r3
     cases q with
     | some x=>rfl
     | none=>rfl
 ·obtain ⟨q,r⟩:=r
  cases q with
  | some x=>rfl
  | none=>rfl
def Lo (c:Cx) (a b:Array Keyed) (N:Nat) (o:Array Keyed) (i j:Nat):Prop:=MgA c a b o i j/\i+1<a.size/\j<b.size/\N<=o.size
theorem zr3 {st1:SortSt} {o:Array Keyed} {i j g u v N:Nat} {Q:ForInStep S6->SortSt->Prop} (hk:kindOf st1=c.kd) (ha:srt c a) (hb:srt c b) (oa:okA c a) (ob:okA c b)
  (hl: ∀ (o:Array Keyed) (i j:Nat),MgA c a b o i j->i+1=a.size->Fi c a b (o++b.extract j++a.extract i)) (m:Lo c a b N o i j)
  (d1: ∀ res t,Fi c a b res->Q (.done (some res,t)) st1) (d2: ∀ o i j t,Lo c a b (N+1) o i j->Q (.done (none,o,i,j,t)) st1/\Q (.yield (none,o,i,j,t)) st1):c.wp (A1 a b g o i j u v) Q st1:=by
 obtain ⟨m1,b1,b2,b3⟩:=m
 obtain ⟨y,ey,oy⟩:=zbh ob b2
 obtain ⟨z,ez,oz⟩:=zbh oa (i:=i) ⋯
 refine qa2 (zbD ey (qa2 (zbD ez (qa2 (zjC hk oy oz ?_)))))
 refine zaB (λeq=>qa2 (zbD ey ?_)) (λeq=>qa2 (zbD ez ?_))
 ·have m2:=m1.pushB ha hb ez ey (Cx.le_of_lt eq)
  have d:=λt q=>d2 _ _ _ t ⟨m2,b1,q,by rw [Array.size_push];omega⟩
  exact za4 (λq=>qa3 (d1 _ _ (m2.done ha hb (.inr q)))) (λq=>zaB (λ_=>qa3 (d _ ⋯).1) (λ_=>qa3 (d _ ⋯).2))
 ·have m2:=m1.pushA ha hb ez ey (by simpa [Cx.le] using eq)
  have d:=λt q=>d2 _ _ _ t ⟨m2,q,b2,by rw [Array.size_push];omega⟩
  exact za4 (λq=>qa3 (d1 _ _ (hl _ _ _ m2 q))) (λq=>zaB (λ_=>qa3 (d _ ⋯).1) (λ_=>qa3 (d _ ⋯).2))
theorem zsJ {st st1:SortSt} {o:Array Keyed} {i j g u v N:Nat} {Q:ForInStep S7->SortSt->Prop} (s0:Sm st st1) (hk:kindOf st=c.kd) (ha:srt c a) (hb:srt c b) (oa:okA c a) (ob:okA c b)
  (hl: ∀ (o:Array Keyed) (i j:Nat),MgA c a b o i j->i+1=a.size->Fi c a b (o++b.extract j++a.extract i)) (m:Lo c a b N o i j)
  (d1: ∀ st' res t,Sm st st'->Fi c a b res->Q (.done (some res,t)) st') (d2: ∀ st' o i j t,Sm st st'->Lo c a b N o i j->Q (.done (none,o,i,j,t)) st'/\Q (.yield (none,o,i,j,t)) st'):c.wp (A2 a b o i j g u v) Q st1:=by
 have E:=λg=>Ex.mk (c:=c) (a:=a) (b:=b) (N:=N) (st:=SortSt.mk' (kindOf st1) (arrOf st1) (pendingOf st1) g (failedOf st1)) (Q:=Q) (λres t f=>d1 _ res t (s0.g _) f) (λo i j t m b1 b2 b3=>d2 _ o i j t (s0.g _) ⟨m,b1,b2,b3⟩) hl ha hb oa ob ((s0.g g).k.trans hk)
 exact zaB (λ_=>qa2 (ziW (zqY (E _) m.1 m.2.1 m.2.2.1 m.2.2.2))) (λ_=>qa2 (ziW (zqY (E _) m.1 m.2.1 m.2.2.1 m.2.2.2)))
theorem zr1 {st:SortSt} {Q:Array Keyed->SortSt->Prop} (hk:kindOf st=c.kd) (ha:srt c a) (hb:srt c b) (oa:okA c a) (ob:okA c b) (na:0<a.size) (nb:0<b.size)
  (hfirst: ∀ x y,a[0]? = some x->b[0]? = some y->c.le y x) (hlast: ∀ x,a[a.size - 1]? = some x-> ∀ y,y∈b.toList->c.le y x)
  (h: ∀ res st',Sm st st'->Fi c a b res->Q res st'):c.wp (ML a b) Q st:=by
 rw [zs5]
 obtain ⟨y0,ey0,oy0⟩:=zbh ob nb
 obtain ⟨x0,ex0,ox0⟩:=zbh oa na
 have hl: ∀ (o:Array Keyed) (i j:Nat),MgA c a b o i j->i+1=a.size->Fi c a b (o++b.extract j++a.extract i):=by
  intro o i j hm hi
  refine hm.last ha hb hi ?_
  intro x hx
  exact hlast x (by rw [<- hi];exact hx)
 have hst:MgA c a b #[y0] 0 1:=by
  have:=(MgA.mk (c:=c) (a:=a) (b:=b) (out:= #[]) (ia:=0) (ib:=0) ⟨List.Pairwise.nil,by simp,by simp,by simp⟩ rfl (zero_le _) (zero_le _)).pushB ha hb ex0 ey0 (hfirst _ _ ex0 ey0)
  exact this
 refine qa2 (zdC (qa2 (zbD ey0 (za4 (λh1=>qa3 (h _ _ (Sm.refl _) (hst.done ha hb (.inr h1)))) (λh1=>za4 (λh2=>qa3 (h _ _ (Sm.refl _) (hl _ _ _ hst h2))) (λh2=> ?_))))))
 refine qa2 (wpS_get ?_)
 refine qa2 (wpS_mono (wpS_forRange (I:=λx r st'=>r.1=none/\Sm st st'/\Lo c a b (x+1) r.2.1 r.2.2.1 r.2.2.2.1) (Q:=λr st'=> ∃ res,r.1=some res/\Sm st st'/\Fi c a b res) ?_ ?_ ⟨rfl,Sm.refl _,hst,show 0+1<a.size by omega,show 1<b.size by omega,qaV _⟩) ?_)
 ·rintro xo r st1 - hx1 ⟨-, s1,m1⟩
  refine qa2 (wpS_mono (wpS_forRange (I:=λx r st'=>r.1=none/\Sm st st'/\Lo c a b (xo+1+x) r.2.1 r.2.2.1 r.2.2.2.1)
    (Q:=λr st'=>(∃ res,r.1=some res/\Sm st st'/\Fi c a b res)\/(r.1=none/\Sm st st'/\Lo c a b (xo+2) r.2.1 r.2.2.1 r.2.2.2.1)) ?_ ?_ ⟨rfl,s1,m1⟩) ?_)
  ·rintro x r st1 - hx2 ⟨-, s1,m1⟩
   refine zr3 (s1.k.trans hk) ha hb oa ob hl m1 (λres t f=> .inl ⟨res,rfl,s1,f⟩) λo i j t m=>⟨.inr ⟨rfl,s1,m.1,m.2.1,m.2.2.1,?_⟩,⟨rfl,s1,m⟩⟩
   have:=m.2.2.2
   show xo+2<=o.size
   omega
  ·rintro r st1 ⟨e,s1,m1,b1,b2,b3⟩
   refine .inr ⟨e,s1,m1,b1,b2,?_⟩
   omega
  ·rintro ⟨r,t⟩ st1 (⟨res,e,s1,f1⟩ | ⟨e,s1,m1⟩)
   ·cases e
    exact qa3 ⟨res,rfl,s1,f1⟩
   cases e
   refine qa2 (zdC ?_)
   refine qa2 (wpS_mono (wpS_forRange (I:=λx r st'=>r.1=none/\Sm st st'/\Lo c a b (xo+2) r.2.1 r.2.2.1 r.2.2.2.1)
     (Q:=λr st'=>(∃ res,r.1=some res/\Sm st st'/\Fi c a b res)\/(r.1=none/\Sm st st'/\Lo c a b (xo+2) r.2.1 r.2.2.1 r.2.2.2.1)) ?_ ?_ ⟨rfl,s1,m1⟩) ?_)
   ·rintro x r st1 - hx2 ⟨-, s0,m1⟩
    exact zsJ s0 hk ha hb oa ob hl m1 (λst' res t s0 f=> .inl ⟨res,rfl,s0,f⟩) (λst' o i j t s0 m=>⟨.inr ⟨rfl,s0,m⟩,⟨rfl,s0,m⟩⟩)
   ·rintro r st1 ⟨e,s1,m1⟩
    exact .inr ⟨e,s1,m1⟩
   ·rintro ⟨r,t⟩ st1 (⟨res,e,s1,f1⟩ | ⟨e,s1,m1⟩)
    ·cases e
     exact qa3 ⟨res,rfl,s1,f1⟩
    cases e
    exact qa2 (ziW (qa3 ⟨rfl,s1.g _,m1⟩))
 ·rintro r st1 ⟨e,s1,m1,b1,b2,b3⟩
  have z1:=m1.z
  omega
 ·rintro ⟨r,t⟩ st1 ⟨res,e,s1,f1⟩
  cases e
  exact qa3 (h _ _ s1 f1)
end
end TS
end
section
namespace TS
set_option autoImplicit false
open PyProof
section
variable {c:Cx} {a b out:Array Keyed} {na nb at':Nat}
structure MgH (c:Cx) (a b out:Array Keyed) (na nb:Nat):Prop where
 m:Mg (λx y=>c.le y x) out.toList (a.toList.take na).reverse (b.toList.take nb).reverse (a.toList++b.toList)
 z:out.size+na+nb=a.size+b.size
 la:na<=a.size
 lb:nb<=b.size
theorem ze7 {l:List Keyed} {i n:Nat} (h:i<=n):(l.take n).reverse=((l.take n).drop i).reverse++(l.take i).reverse:=by
 rw [<- List.reverse_append]
 congr 1
 have:l.take i=(l.take n).take i:=by rw [List.take_take,Nat.min_eq_left h]
 rw [this,qam]
theorem zgc {l:Array Keyed} (n:Nat) (h:srt c l):((l.toList.take n).reverse).Pairwise (λx y=>c.le y x):=by
 rw [List.pairwise_reverse]
 exact List.Pairwise.sublist (List.take_sublist _ _) h
theorem zcr {l:List Keyed} {i n:Nat} {x:Keyed} (h:x∈((l.take n).drop i).reverse): ∃ j,i<=j/\j<n/\l[j]? = some x:=by
 rw [List.mem_reverse] at h
 obtain ⟨j,e⟩:=zfq h
 have hj:=qac.mp e
 obtain ⟨hj,e2⟩:=hj
 rw [length_take] at hj
 rw [List.getElem_take] at e2
 exact ⟨i+j,⋯,⋯,by rw [qaf ⋯,e2]⟩
theorem zdG {l:List Keyed} {n:Nat} {x:Keyed} (h:x∈(l.take n).reverse): ∃ j,j<n/\l[j]? = some x:=by
 obtain ⟨j,_,h2,h3⟩:=zcr (i:=0) (by simpa using h)
 exact ⟨j,h2,h3⟩
theorem zjA {i n:Nat}:(out++(a.extract i n).reverse).toList=out.toList++((a.toList.take n).drop i).reverse:=by
 simp [List.extract,List.drop_take]
theorem MgH.appA (h:MgH c a b out na nb) (ha:srt c a) (hb:srt c b) {y:Keyed} (n0:0<nb) (hy:b[nb - 1]? = some y) (hk:at'<=na)
  (hx: ∀ i x,at'<=i->i<na->a[i]? = some x->c.le y x):MgH c a b (out++(a.extract at' na).reverse) at' nb:=by
 have hla:=h.la
 refine ⟨?_,?_,⋯,h.lb⟩
 ·have hm:=h.m
  have hp:=zgc na ha
  rw [ze7 hk] at hm hp
  rw [zjA]
  refine hm.stepL hp ?_
  intro x hxm z hz
  obtain ⟨j,j1,j2,ej⟩:=zcr hxm
  obtain ⟨i,i1,ei⟩:=zdG hz
  rw [qaj] at ej ei
  exact Cx.le_trans (zdK hb ⋯ ei hy) (hx j x j1 j2 ej)
 ·have:=h.z
  rw [Array.size_append,Array.size_reverse,qaz]
  omega
theorem MgH.appB (h:MgH c a b out na nb) (ha:srt c a) (hb:srt c b) {x:Keyed} (n0:0<na) (hx:a[na - 1]? = some x) (hk:at'<=nb)
  (hy: ∀ i y,at'<=i->i<nb->b[i]? = some y->c.le x y):MgH c a b (out++(b.extract at' nb).reverse) na at':=by
 have hlb:=h.lb
 refine ⟨?_,?_,h.la,⋯⟩
 ·have hm:=h.m.symm
  have hp:=zgc nb hb
  rw [ze7 hk] at hm hp
  rw [zjA]
  refine (hm.stepL hp ?_).symm
  intro y hym z hz
  obtain ⟨j,j1,j2,ej⟩:=zcr hym
  obtain ⟨i,i1,ei⟩:=zdG hz
  rw [qaj] at ej ei
  exact Cx.le_trans (zdK ha ⋯ ei hx) (hy j y j1 j2 ej)
 ·have:=h.z
  rw [Array.size_append,Array.size_reverse,qaz]
  omega
theorem ziC {x:Keyed} (n0:0<na) (hx:a[na - 1]? = some x):out.push x=out++(a.extract (na - 1) na).reverse:=by
 rw [zfJ hx,Nat.sub_add_cancel n0]
 congr 1
 apply Array.ext'
 obtain ⟨hi,rfl⟩:=qab.mp hx
 rw [Array.toList_reverse]
 simp only [Array.toList_extract,List.extract]
 rw [show na - (na - 1)=1 by omega,qae (by simpa using hi)]
 simp
theorem MgH.pushA (h:MgH c a b out na nb) (ha:srt c a) (hb:srt c b) {x y:Keyed} (n0:0<nb) (n1:0<na) (hx:a[na - 1]? = some x) (hy:b[nb - 1]? = some y) (hxy:c.le y x):MgH c a b (out.push x) (na - 1) nb:=by
 rw [ziC n1 hx]
 refine h.appA ha hb n0 hy (Nat.sub_le _ _) ?_
 intro i z h1 h2 hz
 have:i=na - 1:=by omega
 subst this
 rw [hx] at hz
 cases hz
 exact hxy
theorem MgH.pushB (h:MgH c a b out na nb) (ha:srt c a) (hb:srt c b) {x y:Keyed} (n0:0<nb) (n1:0<na) (hx:a[na - 1]? = some x) (hy:b[nb - 1]? = some y) (hxy:c.le x y):MgH c a b (out.push y) na (nb - 1):=by
 rw [ziC n0 hy]
 refine h.appB ha hb n1 hx (Nat.sub_le _ _) ?_
 intro i z h1 h2 hz
 have:i=nb - 1:=by omega
 subst this
 rw [hy] at hz
 cases hz
 exact hxy
theorem zk5 {r:List Keyed} {O L R T:List Keyed} (h:Mg (λx y=>c.le y x) O L R T) (hs:(L++R).Pairwise (λx y=>c.le y x)) (e:r=(O++(L++R)).reverse):r.Pairwise c.le/\r.Perm T:=by
 obtain ⟨h1,h2⟩:=h.fin hs
 subst e
 exact ⟨by rw [List.pairwise_reverse];exact h1,(List.reverse_perm _).trans h2⟩
theorem MgH.done (h:MgH c a b out na nb) (ha:srt c a) (hb:srt c b) (he:na=0\/nb=0):Fi c a b (a.extract 0 na++b.extract 0 nb++out.reverse):=by
 have hs:((b.toList.take nb).reverse++(a.toList.take na).reverse).Pairwise (λx y=>c.le y x):=by
  rcases he with he | he
  ·subst he;simpa using zgc nb hb
  ·subst he;simpa using zgc na ha
 exact zk5 h.m.symm hs (by simp [List.extract])
theorem MgH.first (h:MgH c a b out na nb) (ha:srt c a) (_hb:srt c b) (he:nb=1) (hl: ∀ y,b[0]? = some y-> ∀ x,x∈a.toList->c.le y x):Fi c a b (b.extract 0 nb++a.extract 0 na++out.reverse):=by
 subst he
 have hlb:=h.lb
 have ed:b.toList.take 1=[b[0]]:=by
  obtain ⟨l⟩:=b
  cases l with
  | nil=>simp at hlb
  | cons x l=>simp
 have hs:((a.toList.take na).reverse++(b.toList.take 1).reverse).Pairwise (λx y=>c.le y x):=by
  rw [ed,qaq]
  refine ⟨zgc na ha,List.pairwise_singleton _ _,?_⟩
  intro x hx y hy
  rw [mem_singleton.mp hy]
  exact hl _ (getElem?_pos b 0 ⋯) x (List.mem_of_mem_take (List.mem_reverse.mp hx))
 exact zk5 h.m hs (by simp [List.extract])
abbrev H5:=Option (Array Keyed)×Nat×Nat×Array Keyed×Nat
abbrev H6:=Option (Array Keyed)×Nat×Nat×Array Keyed×Nat×Nat
abbrev H7:=Option (Array Keyed)×Nat×Nat×Array Keyed×Nat×Nat×Nat
def Hi (c:Cx) (a b:Array Keyed) (N:Nat) (p q:Nat) (o:Array Keyed):Prop:=MgH c a b o p q/\0<p/\1<q/\N<=o.size
structure Ey (c:Cx) (a b:Array Keyed) (N:Nat) (Q:ForInStep H7->SortSt->Prop) (st:SortSt):Prop where
 d1: ∀ res t,Fi c a b res->Q (.done (some res,t)) st
 d2: ∀ p q o t,Hi c a b N p q o->Q (.done (none,p,q,o,t)) st/\Q (.yield (none,p,q,o,t)) st
 hl: ∀ (o:Array Keyed) (i j:Nat),MgH c a b o i j->j=1->Fi c a b (b.extract 0 j++a.extract 0 i++o.reverse)
 ha:srt c a
 hb:srt c b
 oa:okA c a
 ob:okA c b
 hk:kindOf st=c.kd
noncomputable def U4 (a b:Array Keyed) (p q:Nat) (o:Array Keyed) (g k l:Nat):StateT SortSt Sem (ForInStep H7):=El a (p - 1)>>=λz=>
 if (p - 1==0)=true then pure (.done (some (a.extract 0 (p - 1)++b.extract 0 q++(o.push z).reverse),p - 1,q,o.push z,g,k,l))
 else if (decide (k<7) && decide (l<7))=true then pure (.done (none,p - 1,q,o.push z,g,k,l)) else pure (.yield (none,p - 1,q,o.push z,g,k,l))
noncomputable def U3 (a b:Array Keyed) (p q:Nat) (o:Array Keyed) (g k v:Nat):StateT SortSt Sem (ForInStep H7):=El b (q - 1)>>=λy=>
 if (q - 1==1)=true then pure (.done (some (b.extract 0 (q - 1)++a.extract 0 p++(o.push y).reverse),p,q - 1,o.push y,g,k,v))
 else El a (p - 1)>>=λz=>Ga true z b 0 (q - 1) (q - 1 - 1)>>=λx=>match x with
  | some l=>if q - 1 - l>0 then
    if (l==1)=true then pure (.done (some (b.extract 0 l++a.extract 0 p++(o.push y++(b.extract l (q - 1)).reverse).reverse),p,l,o.push y++(b.extract l (q - 1)).reverse,g,k,q - 1 - l))
    else if (l==0)=true then pure (.done (some (a.extract 0 p++b.extract 0 l++(o.push y++(b.extract l (q - 1)).reverse).reverse),p,l,o.push y++(b.extract l (q - 1)).reverse,g,k,q - 1 - l))
    else U4 a b p l (o.push y++(b.extract l (q - 1)).reverse) g k (q - 1 - l)
   else U4 a b p (q - 1) (o.push y) g k (q - 1 - l)
  | _=>pure (.done (some (a.extract 0 p++b.extract 0 (q - 1)++(o.push y).reverse),p,q - 1,o.push y,g,k,v))
noncomputable def U2 (a b:Array Keyed) (p q:Nat) (o:Array Keyed) (g u v:Nat):StateT SortSt Sem (ForInStep H7):=El b (q - 1)>>=λy=>Ga false y a 0 p (p - 1)>>=λx=>match x with
  | some k=>if p - k>0 then
    if (k==0)=true then pure (.done (some (a.extract 0 k++b.extract 0 q++(o++(a.extract k p).reverse).reverse),k,q,o++(a.extract k p).reverse,g,p - k,v))
    else U3 a b k q (o++(a.extract k p).reverse) g (p - k) v
   else U3 a b p q o g (p - k) v
  | _=>pure (.done (some (a.extract 0 p++b.extract 0 q++o.reverse),p,q,o,g,u,v))
noncomputable def Z1 (a b:Array Keyed) (g:Nat) (p q:Nat) (o:Array Keyed) (u v:Nat):StateT SortSt Sem (ForInStep H6):=El b (q - 1)>>=λy=>El a (p - 1)>>=λz=>Lt y z>>=λx=>match x with
 | some w=>if w=true then El a (p - 1)>>=λz=>if (p - 1==0)=true then pure (.done (some (a.extract 0 (p - 1)++b.extract 0 q++(o.push z).reverse),p - 1,q,o.push z,u+1,0)) else if u+1>=g then pure (.done (none,p - 1,q,o.push z,u+1,0)) else pure (.yield (none,p - 1,q,o.push z,u+1,0))
  else El b (q - 1)>>=λy=>if (q - 1==1)=true then pure (.done (some (b.extract 0 (q - 1)++a.extract 0 p++(o.push y).reverse),p,q - 1,o.push y,0,v+1)) else if v+1>=g then pure (.done (none,p,q - 1,o.push y,0,v+1)) else pure (.yield (none,p,q - 1,o.push y,0,v+1))
 | _=>pure (.done (some (a.extract 0 p++b.extract 0 q++o.reverse),p,q,o,u,v))
noncomputable def Z2 (a b:Array Keyed) (p q:Nat) (o:Array Keyed) (g u v:Nat):StateT SortSt Sem (ForInStep H7):=
 if g>1 then Sg (g - 1)>>=λ_=>U2 a b p q o (g - 1) u v else Sg g>>=λ_=>U2 a b p q o g u v
noncomputable def Z5 (r:H7):StateT SortSt Sem (ForInStep H5):=match r.1 with
 | some x=>pure (.done (some x,r.2.1,r.2.2.1,r.2.2.2.1,r.2.2.2.2.1))
 | none=>Sg (r.2.2.2.2.1+1)>>=λ_=>pure (.yield (none,r.2.1,r.2.2.1,r.2.2.2.1,r.2.2.2.2.1+1))
noncomputable def Z4 (a b:Array Keyed) (g:Nat) (r:H6):StateT SortSt Sem (ForInStep H5):=match r.1 with
 | some x=>pure (.done (some x,r.2.1,r.2.2.1,r.2.2.2.1,g))
 | none=>(liftM (rule "list.sort.gallop"):StateT SortSt Sem Unit)>>=λ_=>forIn [0:a.size+b.size] ((none,r.2.1,r.2.2.1,r.2.2.2.1,g+1,r.2.2.2.2.1,r.2.2.2.2.2):H7) (λ_ r=>Z2 a b r.2.1 r.2.2.1 r.2.2.2.1 r.2.2.2.2.1 r.2.2.2.2.2.1 r.2.2.2.2.2.2)>>=λr=>Z5 r
noncomputable def Z3 (a b:Array Keyed) (p q:Nat) (o:Array Keyed) (g:Nat):StateT SortSt Sem (ForInStep H5):=
 forIn [0:a.size+b.size] ((none,p,q,o,0,0):H6) (λ_ r=>Z1 a b g r.2.1 r.2.2.1 r.2.2.2.1 r.2.2.2.2.1 r.2.2.2.2.2)>>=λr=>Z4 a b g r
noncomputable def MH' (a b:Array Keyed):StateT SortSt Sem (Array Keyed):=(liftM (rule "list.sort.merge-hi"):StateT SortSt Sem Unit)>>=λ_=>El a (a.size - 1)>>=λz=>
 if (a.size - 1==0)=true then pure (a.extract 0 (a.size - 1)++b.extract 0 b.size++(#[z]:Array Keyed).reverse) else if (b.size==1)=true then pure (b.extract 0 b.size++a.extract 0 (a.size - 1)++(#[z]:Array Keyed).reverse)
 else get>>=λst=>forIn [0:a.size+b.size] ((none,a.size - 1,b.size, #[z],ztO st):H5) (λ_ r=>Z3 a b r.2.1 r.2.2.1 r.2.2.2.1 r.2.2.2.2)>>=λr=>match r.1 with
  | some x=>pure x
  | none=>liftM (unsupported "internal:list.sort.merge-bound":Sem (Array Keyed))
theorem zs6 (a b:Array Keyed):MH a b=MH' a b:=by
 refine bnd rfl λ_=>bnd rfl λy=> ?_
 by_cases h1:(a.size - 1==0)=true
 ·exact (qa4 h1).trans (qa4 h1).symm
 refine (qa5 h1).trans (Eq.trans ?_ (qa5 h1).symm)
 by_cases h2:(b.size==1)=true
 ·exact (qa4 h2).trans (qa4 h2).symm
 refine (qa5 h2).trans (Eq.trans ?_ (qa5 h2).symm)
 refine bnd rfl λst=>bnd (zpt λ_ r=> ?_) λr=> ?_
 ·refine bnd (zpt λ_ r=> ?_) λr'=> ?_
  ·rfl
  ·obtain ⟨q,r'⟩:=r'
   cases q with
   | some x=>rfl
   | none=>
    refine bnd rfl λ_=>bnd (zpt λ_ r=> ?_) λr3=> ?_
    ·rfl
    ·obtain ⟨q,r'⟩:=r3
     cases q with
     | some x=>rfl
     | none=>rfl
 ·obtain ⟨q,r⟩:=r
  cases q with
  | some x=>rfl
  | none=>rfl
section
variable {N:Nat} {Q:ForInStep H7->SortSt->Prop} {st:SortSt} {o:Array Keyed} {p q g k l u v:Nat}
theorem zpA (x:Ey c a b N Q st) (m:Hi c a b N p q o) {z w:Keyed} (ew:b[q - 1]? = some w) (ez:a[p - 1]? = some z) (lwz:c.le w z):c.wp (U4 a b p q o g k l) Q st:=by
 obtain ⟨m,b1,b2,b3⟩:=m
 refine qa2 (zbD ez ?_)
 have m2:=m.pushA x.ha x.hb ⋯ b1 ez ew lwz
 have d:=λb1=>x.d2 _ _ _ (g,k,l) ⟨m2,b1,b2,by rw [Array.size_push];omega⟩
 exact za4 (λp3=>qa3 (x.d1 _ _ (m2.done x.ha x.hb (.inl p3)))) (λp3=>zaB (λ_=>qa3 (d ⋯).1) (λ_=>qa3 (d ⋯).2))
theorem zpZ (x:Ey c a b N Q st) (m:Hi c a b N p q o) {y z:Keyed} (ey:b[q - 1]? = some y) (ez:a[p - 1]? = some z) (oz:c.ok z.1) (lzy:c.le z y):c.wp (U3 a b p q o g k v) Q st:=by
 obtain ⟨m,b1,b2,b3⟩:=m
 have lb:=m.lb
 refine qa2 (zbD ey ?_)
 have m2:=m.pushB x.ha x.hb ⋯ b1 ez ey lzy
 have b4:N<=(o.push y).size:=by rw [Array.size_push];omega
 refine za4 (λt=>qa3 (x.d1 _ _ (x.hl _ _ _ m2 t))) (λt=> ?_)
 refine qa2 (zbD ez (qa2 (zhY x.hk x.hb x.ob oz ⋯ ⋯ ?_)))
 intro l hl1 hl2 hl3
 simp only [zero_add] at hl2 hl3
 have m3:=m2.appB x.ha x.hb b1 ez hl1 (λi y h1 h2 hy=>hl3 i y h1 h2 hy)
 refine zaB (λl0=>za4 (λt2=>qa3 (x.d1 _ _ (x.hl _ _ _ m3 t2))) (λt2=>za4 (λt3=>qa3 (x.d1 _ _ (m3.done x.ha x.hb (.inr t3)))) (λt3=> ?_))) (λl0=> ?_)
 ·obtain ⟨f,ef,of⟩:=zbh x.ob (i:=l - 1) ⋯
  exact zpA x ⟨m3,b1,⋯,by rw [Array.size_append];omega⟩ ef ez (Cx.le_of_lt (hl2 (l - 1) f ⋯ ef))
 ·have el:l=q - 1:=by omega
  subst el
  obtain ⟨f,ef,of⟩:=zbh x.ob (i:=q - 1 - 1) ⋯
  exact zpA x ⟨m2,b1,⋯,b4⟩ ef ez (Cx.le_of_lt (hl2 _ f ⋯ ef))
theorem zru (x:Ey c a b N Q st) (m:Hi c a b N p q o):c.wp (U2 a b p q o g u v) Q st:=by
 obtain ⟨m,b1,b2,b3⟩:=m
 have la:=m.la
 have lb:=m.lb
 obtain ⟨y,ey,oy⟩:=zbh x.ob (i:=q - 1) ⋯
 refine qa2 (zbD ey (qa2 (zpd x.hk oy ⋯ (λi j x' z hij _ hx hz=>zdK x.ha ⋯ hx hz) (λi hi=>zbh x.oa ⋯) ?_)))
 intro k hk1 hk2 hk3
 simp only [zero_add] at hk2 hk3
 have m2:=m.appA x.ha x.hb ⋯ ey hk1 (λi x h1 h2 hx=>Cx.le_of_lt (hk3 i x h1 h2 hx))
 refine zaB (λk0=>za4 (λw=>qa3 (x.d1 _ _ (m2.done x.ha x.hb (.inl w)))) (λw=> ?_)) (λk0=> ?_)
 ·obtain ⟨z,ez,oz⟩:=zbh x.oa (i:=k - 1) ⋯
  exact zpZ x ⟨m2,⋯,b2,by rw [Array.size_append];omega⟩ ey ez oz (hk2 (k - 1) z ⋯ ez)
 ·have ek:k=p:=by omega
  subst ek
  obtain ⟨z,ez,oz⟩:=zbh x.oa (i:=k - 1) ⋯
  exact zpZ x ⟨m,b1,b2,b3⟩ ey ez oz (hk2 (k - 1) z ⋯ ez)
end
theorem zsr {st1:SortSt} {o:Array Keyed} {p q g u v N:Nat} {Q:ForInStep H6->SortSt->Prop} (hk:kindOf st1=c.kd) (ha:srt c a) (hb:srt c b) (oa:okA c a) (ob:okA c b)
  (hl: ∀ (o:Array Keyed) (i j:Nat),MgH c a b o i j->j=1->Fi c a b (b.extract 0 j++a.extract 0 i++o.reverse)) (m:Hi c a b N p q o)
  (d1: ∀ res t,Fi c a b res->Q (.done (some res,t)) st1) (d2: ∀ p q o t,Hi c a b (N+1) p q o->Q (.done (none,p,q,o,t)) st1/\Q (.yield (none,p,q,o,t)) st1):c.wp (Z1 a b g p q o u v) Q st1:=by
 obtain ⟨m1,b1,b2,b3⟩:=m
 have la:=m1.la
 have lb:=m1.lb
 obtain ⟨y,ey,oy⟩:=zbh ob (i:=q - 1) ⋯
 obtain ⟨z,ez,oz⟩:=zbh oa (i:=p - 1) ⋯
 refine qa2 (zbD ey (qa2 (zbD ez (qa2 (zjC hk oy oz ?_)))))
 refine zaB (λeq=>qa2 (zbD ez ?_)) (λeq=>qa2 (zbD ey ?_))
 ·have m2:=m1.pushA ha hb ⋯ b1 ez ey (Cx.le_of_lt eq)
  have d:=λt w=>d2 _ _ _ t ⟨m2,w,b2,by rw [Array.size_push];omega⟩
  exact za4 (λw=>qa3 (d1 _ _ (m2.done ha hb (.inl w)))) (λw=>zaB (λ_=>qa3 (d _ ⋯).1) (λ_=>qa3 (d _ ⋯).2))
 ·have m2:=m1.pushB ha hb ⋯ b1 ez ey (by simpa [Cx.le] using eq)
  have d:=λt w=>d2 _ _ _ t ⟨m2,b1,w,by rw [Array.size_push];omega⟩
  exact za4 (λw=>qa3 (d1 _ _ (hl _ _ _ m2 w))) (λw=>zaB (λ_=>qa3 (d _ ⋯).1) (λ_=>qa3 (d _ ⋯).2))
theorem zsi {st st1:SortSt} {o:Array Keyed} {p q g u v N:Nat} {Q:ForInStep H7->SortSt->Prop} (s0:Sm st st1) (hk:kindOf st=c.kd) (ha:srt c a) (hb:srt c b) (oa:okA c a) (ob:okA c b)
  (hl: ∀ (o:Array Keyed) (i j:Nat),MgH c a b o i j->j=1->Fi c a b (b.extract 0 j++a.extract 0 i++o.reverse)) (m:Hi c a b N p q o)
  (d1: ∀ st' res t,Sm st st'->Fi c a b res->Q (.done (some res,t)) st') (d2: ∀ st' p q o t,Sm st st'->Hi c a b N p q o->Q (.done (none,p,q,o,t)) st'/\Q (.yield (none,p,q,o,t)) st'):c.wp (Z2 a b p q o g u v) Q st1:=by
 have E:=λg=>Ey.mk (c:=c) (a:=a) (b:=b) (N:=N) (st:=SortSt.mk' (kindOf st1) (arrOf st1) (pendingOf st1) g (failedOf st1)) (Q:=Q) (λres t f=>d1 _ res t (s0.g _) f) (λp q o t m=>d2 _ p q o t (s0.g _) m) hl ha hb oa ob ((s0.g g).k.trans hk)
 exact zaB (λ_=>qa2 (ziW (zru (E _) m))) (λ_=>qa2 (ziW (zru (E _) m)))
theorem zsV {st:SortSt} {Q:Array Keyed->SortSt->Prop} (hk:kindOf st=c.kd) (ha:srt c a) (hb:srt c b) (oa:okA c a) (ob:okA c b) (na:0<a.size) (nb:0<b.size)
  (hfirst: ∀ y,b[0]? = some y-> ∀ x,x∈a.toList->c.le y x) (hlast: ∀ x y,a[a.size - 1]? = some x->b[b.size - 1]? = some y->c.le y x)
  (h: ∀ res st',Sm st st'->Fi c a b res->Q res st'):c.wp (MH a b) Q st:=by
 rw [zs6]
 obtain ⟨y0,ey0,oy0⟩:=zbh ob (i:=b.size - 1) ⋯
 obtain ⟨x0,ex0,ox0⟩:=zbh oa (i:=a.size - 1) ⋯
 have hl: ∀ (o:Array Keyed) (i j:Nat),MgH c a b o i j->j=1->Fi c a b (b.extract 0 j++a.extract 0 i++o.reverse):=λo i j hm hi=>hm.first ha hb hi hfirst
 have hst:MgH c a b #[x0] (a.size - 1) b.size:=by
  have:=(MgH.mk (c:=c) (a:=a) (b:=b) (out:= #[]) (na:=a.size) (nb:=b.size) ⟨List.Pairwise.nil,by simp,by simp,by
    simp only [nil_append]
    rw [<- qas, <-qas,List.take_length,List.take_length]
    exact (List.reverse_perm _).append (List.reverse_perm _)⟩ (by simp) (qaV _) (qaV _)).pushA ha hb nb na ex0 ey0 (hlast _ _ ex0 ey0)
  exact this
 refine qa2 (zdC (qa2 (zbD ex0 (za4 (λh1=>qa3 (h _ _ (Sm.refl _) (hst.done ha hb (.inl h1)))) (λh1=>za4 (λh2=>qa3 (h _ _ (Sm.refl _) (hl _ _ _ hst h2))) (λh2=> ?_))))))
 refine qa2 (wpS_get ?_)
 refine qa2 (wpS_mono (wpS_forRange (I:=λx r st'=>r.1=none/\Sm st st'/\Hi c a b (x+1) r.2.1 r.2.2.1 r.2.2.2.1) (Q:=λr st'=> ∃ res,r.1=some res/\Sm st st'/\Fi c a b res) ?_ ?_ ⟨rfl,Sm.refl _,hst,show 0<a.size - 1 by omega,show 1<b.size by omega,qaV _⟩) ?_)
 ·rintro xo r st1 - hx1 ⟨-, s1,m1⟩
  refine qa2 (wpS_mono (wpS_forRange (I:=λx r st'=>r.1=none/\Sm st st'/\Hi c a b (xo+1+x) r.2.1 r.2.2.1 r.2.2.2.1)
    (Q:=λr st'=>(∃ res,r.1=some res/\Sm st st'/\Fi c a b res)\/(r.1=none/\Sm st st'/\Hi c a b (xo+2) r.2.1 r.2.2.1 r.2.2.2.1)) ?_ ?_ ⟨rfl,s1,m1⟩) ?_)
  ·rintro x r st1 - hx2 ⟨-, s1,m1⟩
   refine zsr (s1.k.trans hk) ha hb oa ob hl m1 (λres t f=> .inl ⟨res,rfl,s1,f⟩) λp q o t m=>⟨.inr ⟨rfl,s1,m.1,m.2.1,m.2.2.1,?_⟩,⟨rfl,s1,m⟩⟩
   have:=m.2.2.2
   show xo+2<=o.size
   omega
  ·rintro r st1 ⟨e,s1,m1,b1,b2,b3⟩
   refine .inr ⟨e,s1,m1,b1,b2,?_⟩
   omega
  ·rintro ⟨r,t⟩ st1 (⟨res,e,s1,f1⟩ | ⟨e,s1,m1⟩)
   ·cases e
    exact qa3 ⟨res,rfl,s1,f1⟩
   cases e
   refine qa2 (zdC ?_)
   refine qa2 (wpS_mono (wpS_forRange (I:=λx r st'=>r.1=none/\Sm st st'/\Hi c a b (xo+2) r.2.1 r.2.2.1 r.2.2.2.1)
     (Q:=λr st'=>(∃ res,r.1=some res/\Sm st st'/\Fi c a b res)\/(r.1=none/\Sm st st'/\Hi c a b (xo+2) r.2.1 r.2.2.1 r.2.2.2.1)) ?_ ?_ ⟨rfl,s1,m1⟩) ?_)
   ·rintro x r st1 - hx2 ⟨-, s0,m1⟩
    exact zsi s0 hk ha hb oa ob hl m1 (λst' res t s0 f=> .inl ⟨res,rfl,s0,f⟩) (λst' p q o t s0 m=>⟨.inr ⟨rfl,s0,m⟩,⟨rfl,s0,m⟩⟩)
   ·rintro r st1 ⟨e,s1,m1⟩
    exact .inr ⟨e,s1,m1⟩
   ·rintro ⟨r,t⟩ st1 (⟨res,e,s1,f1⟩ | ⟨e,s1,m1⟩)
    ·cases e
     exact qa3 ⟨res,rfl,s1,f1⟩
    cases e
    exact qa2 (ziW (qa3 ⟨rfl,s1.g _,m1⟩))
 ·rintro r st1 ⟨e,s1,m1,b1,b2,b3⟩
  have z1:=m1.z
  omega
 ·rintro ⟨r,t⟩ st1 ⟨res,e,s1,f1⟩
  cases e
  exact qa3 (h _ _ s1 f1)
end
end TS
end
section
namespace TS
set_option autoImplicit false
open PyProof
abbrev MAt:Nat->StateT SortSt Sem Bool:=sortPriv% PySem.Builtin.mergeAt
theorem zmZ {s:Nat}: ∀ (l:List Keyed) (n:Nat) (xs:Array Keyed),s+n+l.length<=xs.size-> ∀ k:Nat,
  ((l.zipIdx n).foldl (λa x=>a.setIfInBounds (s+x.2) x.1) xs)[k]? = if s+n<=k/\k<s+n+l.length then l[k - (s+n)]? else xs[k]?
 | [],n,xs,_,k=>by rw [qa5 (by simp)];rfl
 | x::l,n,xs,h,k=>by
  rw [qaE] at h
  rw [List.zipIdx_cons,foldl_cons,zmZ l (n+1) _ (by rw [Array.size_setIfInBounds];omega)]
  dsimp only
  rw [qaE,Array.getElem?_setIfInBounds]
  by_cases h1:k=s+n
  ·subst h1
   rw [qa5 ⋯,qa4 rfl,qa4 ⋯,qa4 ⋯,Nat.sub_self]
   rfl
  ·by_cases h2:s+n<=k/\k<s+n+(l.length+1)
   ·rw [qa4 h2,qa4 ⋯]
    obtain ⟨d,hd⟩: ∃ d,k - (s+n)=d+1:=⟨k - (s+n) - 1,⋯⟩
    rw [hd,List.getElem?_cons_succ]
    congr 1
    omega
   ·rw [qa5 h2,qa5 ⋯,qa5 ⋯]
structure Loc (xs ys:Array Keyed) (lo hi:Nat):Prop where
 p:ys.toList.Perm xs.toList
 o: ∀ i,i<lo\/hi<=i->ys[i]? = xs[i]?
theorem Loc.refl (xs:Array Keyed) (lo hi:Nat):Loc xs xs lo hi:=⟨List.Perm.refl _,λ_ _=>rfl⟩
theorem Loc.trans {xs ys zs:Array Keyed} {lo hi:Nat} (h:Loc xs ys lo hi) (h2:Loc ys zs lo hi):Loc xs zs lo hi:=⟨h2.p.trans h.p,λi hi=>(h2.o i hi).trans (h.o i hi)⟩
theorem Loc.size {xs ys:Array Keyed} {lo hi:Nat} (h:Loc xs ys lo hi):ys.size=xs.size:=by simpa using h.p.length_eq
theorem Loc.wide {xs ys:Array Keyed} {lo hi lo' hi':Nat} (h:Loc xs ys lo hi) (h1:lo'<=lo) (h2:hi<=hi'):Loc xs ys lo' hi':=⟨h.p,λi hi=>h.o i ⋯⟩
section
variable {c:Cx}
def sg (c:Cx) (xs:Array Keyed) (lo hi:Nat):Prop:= ∀ i j x y,lo<=i->i<=j->j<hi->xs[i]? = some x->xs[j]? = some y->c.le x y
theorem zjU {xs:Array Keyed} {lo hi:Nat} (h:sg c xs lo hi) (hi2:hi<=xs.size):srt c (xs.extract lo hi):=by
 unfold srt
 rw [List.pairwise_iff_getElem]
 intro i j hi1 hj1 hij
 simp only [qas,qaz] at hi1 hj1
 have e: ∀ m (hm:m<(xs.extract lo hi).toList.length),xs[lo+m]? = some (xs.extract lo hi).toList[m]:=by
  intro m hm
  simp only [qas,qaz] at hm
  rw [Array.getElem_toList,Array.getElem_extract]
  exact getElem?_pos _ _ _
 exact h (lo+i) (lo+j) _ _ ⋯ ⋯ ⋯ (e i _) (e j _)
theorem zes {xs:Array Keyed} {lo hi:Nat} {x:Keyed} (h:x∈(xs.extract lo hi).toList): ∃ p,lo<=p/\p<hi/\xs[p]? = some x:=by
 obtain ⟨m,hm,e⟩:=getElem_of_mem h
 simp only [qas,qaz] at hm
 rw [Array.getElem_toList,Array.getElem_extract] at e
 exact ⟨lo+m,⋯,⋯,by rw [<- e];exact getElem?_pos _ _ _⟩
theorem zdw {xs:Array Keyed} {lo hi i:Nat} {x:Keyed} (h:(xs.extract lo hi)[i]? = some x):lo+i<hi/\xs[lo+i]? = some x:=by
 obtain ⟨hm,e⟩:=qab.mp h
 simp only [qaz] at hm
 rw [Array.getElem_extract] at e
 exact ⟨⋯,by rw [<- e];exact getElem?_pos _ _ _⟩
theorem zhI {xs:Array Keyed} {lo hi:Nat} (h:okA c xs):okA c (xs.extract lo hi):=by
 intro x hx
 obtain ⟨p,_,_,e⟩:=zes hx
 obtain ⟨hp,rfl⟩:=qab.mp e
 exact h _ (by simp)
noncomputable def zme (xs m:Array Keyed) (s:Nat):Array Keyed:=m.toList.zipIdx.foldl (λa x=>a.setIfInBounds (s+x.2) x.1) xs
theorem zfv {xs m:Array Keyed} {s:Nat} (h:s+m.size<=xs.size) (k:Nat):(zme xs m s)[k]? = if s<=k/\k<s+m.size then m[k - s]? else xs[k]? := by
 have:=zmZ (s:=s) m.toList 0 xs (by simpa using h) k
 simpa [zme] using this
theorem zit {xs m:Array Keyed} {s mid e:Nat} (h1:s<=mid) (h2:mid<=e) (he:e<=xs.size) (hm:m.toList.Perm ((xs.extract s mid).toList++(xs.extract mid e).toList)):Loc xs (zme xs m s) s e/\m.size=e - s:=by
 have hs:m.size=e - s:=by
  have:=hm.length_eq
  simp only [qav,qas,qaz] at this
  omega
 refine ⟨⟨?_,?_⟩,hs⟩
 ·have e1:(zme xs m s).toList=xs.toList.take s++(m.toList++xs.toList.drop e):=by
   apply List.ext_getElem?
   intro k
   rw [qaj,zfv ⋯]
   by_cases a1:k<s
   ·rw [qa5 ⋯,qad (by simp;omega),List.getElem?_take,qa4 a1,qaj]
   ·rw [qaa (by simp;omega)]
    have e3:(xs.toList.take s).length=s:=by simp;omega
    rw [e3]
    by_cases a2:k<e
    ·rw [qa4 ⋯,qad (by simp;omega),qaj]
    ·rw [qa5 ⋯,qaa (by simp;omega),List.getElem?_drop,qaj]
     congr 1
     simp only [qas]
     omega
  have e2:xs.toList=xs.toList.take s++(((xs.extract s mid).toList++(xs.extract mid e).toList)++xs.toList.drop e):=by
   apply List.ext_getElem?
   intro k
   by_cases a1:k<s
   ·rw [qad (by simp;omega),List.getElem?_take,qa4 a1]
   ·rw [qaa (by simp;omega)]
    have e3:(xs.toList.take s).length=s:=by simp;omega
    rw [e3]
    by_cases a2:k<e
    ·rw [qad (by simp;omega)]
     by_cases a3:k<mid
     ·rw [qad (by simp;omega),qaj,qaj,Array.getElem?_extract,qa4 ⋯]
      congr 1;omega
     ·rw [qaa (by simp;omega),qaj,qaj,Array.getElem?_extract,qa4 (by simp;omega)]
      congr 1;simp;omega
    ·rw [qaa (by simp;omega),List.getElem?_drop]
     congr 1
     simp
     omega
  rw [e1]
  conv=>rhs;rw [e2]
  exact List.Perm.append_left _ (List.Perm.append_right _ hm)
 ·intro i hi
  rw [zfv ⋯,qa5 ⋯]
theorem zn4 {xs m:Array Keyed} {sa s mid e hi:Nat} (h0:sa<=s) (h1:s<=mid) (h2:mid<=e) (h3:e<=hi) (he:hi<=xs.size) (hm:m.toList.Perm ((xs.extract s mid).toList++(xs.extract mid e).toList)) (hsr:srt c m)
  (ha:sg c xs sa mid) (hb:sg c xs mid hi)
  (g1: ∀ i j x y,sa<=i->i<s->mid<=j->j<hi->xs[i]? = some x->xs[j]? = some y->c.le x y)
  (g2: ∀ i j x y,sa<=i->i<mid->e<=j->j<hi->xs[i]? = some x->xs[j]? = some y->c.le x y):sg c (zme xs m s) sa hi:=by
 obtain ⟨hl,hs⟩:=zit h1 h2 ⋯ hm
 have mem: ∀ i x,s<=i->i<e->(zme xs m s)[i]? = some x-> ∃ p,s<=p/\p<e/\xs[p]? = some x:=by
  intro i x i1 i2 ex
  rw [zfv ⋯,qa4 ⋯] at ex
  obtain ⟨hx,rfl⟩:=qab.mp ex
  have:=hm.mem_iff.mp (show m[i - s]∈m.toList by simp)
  rcases qaK.mp this with h | h
  ·obtain ⟨p,p1,p2,p3⟩:=zes h
   exact ⟨p,p1,⋯,p3⟩
  ·obtain ⟨p,p1,p2,p3⟩:=zes h
   exact ⟨p,⋯,p2,p3⟩
 have fir: ∀ i p x y,sa<=i->i<s->s<=p->p<hi->xs[i]? = some x->xs[p]? = some y->c.le x y:=by
  intro i p x y i1 i2 p1 p2 ex ey
  by_cases hp:p<mid
  ·exact ha i p x y i1 ⋯ hp ex ey
  ·exact g1 i p x y i1 i2 ⋯ p2 ex ey
 have las: ∀ p j x y,sa<=p->p<e->e<=j->j<hi->xs[p]? = some x->xs[j]? = some y->c.le x y:=by
  intro p j x y p1 p2 j1 j2 ex ey
  by_cases hp:p<mid
  ·exact g2 p j x y p1 hp j1 j2 ex ey
  ·exact hb p j x y ⋯ ⋯ j2 ex ey
 intro i j x y i1 i2 i3 ex ey
 by_cases a1:i<s
 ·rw [hl.o i (.inl a1)] at ex
  by_cases b1:j<s
  ·rw [hl.o j (.inl b1)] at ey
   exact ha i j x y i1 i2 ⋯ ex ey
  ·by_cases b2:j<e
   ·obtain ⟨p,p1,p2,p3⟩:=mem j y ⋯ b2 ey
    exact fir i p x y i1 a1 p1 ⋯ ex p3
   ·rw [hl.o j (.inr ⋯)] at ey
    exact fir i j x y i1 a1 ⋯ i3 ex ey
 ·by_cases a2:i<e
  ·by_cases b2:j<e
   ·rw [zfv ⋯,qa4 ⋯] at ex ey
    exact zdK hsr ⋯ ex ey
   ·obtain ⟨p,p1,p2,p3⟩:=mem i x ⋯ a2 ex
    rw [hl.o j (.inr ⋯)] at ey
    exact las p j x y ⋯ p2 ⋯ i3 p3 ey
  ·rw [hl.o i (.inr ⋯)] at ex
   rw [hl.o j (.inr ⋯)] at ey
   exact hb i j x y ⋯ i2 i3 ex ey
theorem zo6 {Q:PUnit->SortSt->Prop} {st st1:SortSt} (h:Q ⟨⟩ st1):c.wp (set st1:StateT SortSt Sem PUnit) Q st:=by
 show wpS _ _ _ _ _ _ _
 unfold wpS;rw [StateT.run_set];exact qaX ⟨rfl,h⟩
theorem zsA {st:SortSt} {i sa na nb pa pb:Nat} {Q:Bool->SortSt->Prop} (hk:kindOf st=c.kd) (hfl:failedOf st=none) (hok:okA c (arrOf st))
  (hi:(pendingOf st)[i]? = some (sa,na,pa)) (hj:(pendingOf st)[i+1]? = some (sa+na,nb,pb)) (n1:0<na) (n2:0<nb) (hsz:sa+na+nb<=(arrOf st).size)
  (ha:sg c (arrOf st) sa (sa+na)) (hb:sg c (arrOf st) (sa+na) (sa+na+nb))
  (h: ∀ st',kindOf st'=c.kd->failedOf st'=none->pendingOf st'=((pendingOf st).setIfInBounds i (sa,na+nb,pa)).eraseIdxIfInBounds (i+1)->Loc (arrOf st) (arrOf st') sa (sa+na+nb)->sg c (arrOf st') sa (sa+na+nb)->Q true st'):
  c.wp (MAt i) Q st:=by
 refine qa2 (wpS_get ?_)
 dsimp only
 rw [hi,hj]
 dsimp only
 refine qa2 (zo6 ?_)
 refine (λH: ∀ st1,kindOf st1=c.kd->failedOf st1=none->arrOf st1=arrOf st->pendingOf st1=((pendingOf st).setIfInBounds i (sa,na+nb,pa)).eraseIdxIfInBounds (i+1)->c.wp _ Q st1=>H (SortSt.mk' (kindOf st) (arrOf st) (((pendingOf st).setIfInBounds i (sa,na+nb,pa)).eraseIdxIfInBounds (i+1)) (gallopOf st) (failedOf st)) hk hfl rfl rfl) ?_
 intro st1 k1 f1 a1 p1
 clear hi hj
 obtain ⟨y,ey,oy⟩:=zbh hok (i:=sa+na) ⋯
 refine qa2 (zbD ey (qa2 (zpd k1 oy n1 (λi j x z hij hj hx hz=>ha _ _ x z ⋯ ⋯ ⋯ hx hz) (λi hi=>zbh hok ⋯) ?_)))
 intro k hk1 hk2 hk3
 have g1: ∀ p q x z,sa<=p->p<sa+k->sa+na<=q->q<sa+na+nb->(arrOf st)[p]? = some x->(arrOf st)[q]? = some z->c.le x z:=by
  intro p q x z h1 h2 h3 h4 ex ez
  exact Cx.le_trans (hk2 (p - sa) x ⋯ (by rw [show sa+(p - sa)=p by omega];exact ex)) (hb (sa+na) q y z ⋯ h3 h4 ey ez)
 refine za4 (λq=> ?_) (λq=> ?_)
 ·refine qa3 (h st1 k1 f1 p1 (by rw [a1];exact Loc.refl _ _ _) ?_)
  rw [a1]
  intro p r x z h1 h2 h3 ex ez
  by_cases hr:r<sa+na
  ·exact ha p r x z h1 h2 hr ex ez
  ·by_cases hp:p<sa+na
   ·exact g1 p r x z h1 ⋯ ⋯ h3 ex ez
   ·exact hb p r x z ⋯ h2 h3 ex ez
 obtain ⟨z,ez,oz⟩:=zbh hok (i:=sa+na - 1) ⋯
 have ez':(arrOf st)[sa+k+(na - k) - 1]? = some z:=by rw [<- ez];congr 1;omega
 refine qa2 (zbD ez' (qa2 (zqv k1 oz ⋯ (λi j x z hij hj hx hz=>hb _ _ x z ⋯ ⋯ ⋯ hx hz) (λi hi=>zbh hok ⋯) ?_)))
 intro l hl1 hl2 hl3
 have g2: ∀ p q x w,sa<=p->p<sa+na->sa+na+l<=q->q<sa+na+nb->(arrOf st)[p]? = some x->(arrOf st)[q]? = some w->c.le x w:=by
  intro p q x w h1 h2 h3 h4 ex ew
  exact Cx.le_trans (ha p (sa+na - 1) x z h1 ⋯ ⋯ ex ez) (hl3 (q - (sa+na)) w ⋯ ⋯ (by rw [show sa+na+(q - (sa+na))=q by omega];exact ew))
 refine za4 (λq2=> ?_) (λq2=> ?_)
 ·refine qa3 (h st1 k1 f1 p1 (by rw [a1];exact Loc.refl _ _ _) ?_)
  rw [a1]
  intro p r x w h1 h2 h3 ex ew
  by_cases hr:r<sa+na
  ·exact ha p r x w h1 h2 hr ex ew
  ·by_cases hp:p<sa+na
   ·exact g2 p r x w h1 hp ⋯ h3 ex ew
   ·exact hb p r x w ⋯ h2 h3 ex ew
 have sA:srt c ((arrOf st).extract (sa+k) (sa+na)):=zjU (λi j x y h1 h2 h3=>ha i j x y ⋯ h2 h3) ⋯
 have sB:srt c ((arrOf st).extract (sa+na) (sa+na+l)):=zjU (λi j x y h1 h2 h3=>hb i j x y h1 h2 ⋯) ⋯
 have zA:((arrOf st).extract (sa+k) (sa+na)).size=na - k:=by rw [qaz];omega
 have zB:((arrOf st).extract (sa+na) (sa+na+l)).size=l:=by rw [qaz];omega
 have pA:0<((arrOf st).extract (sa+k) (sa+na)).size:=by omega
 have pB:0<((arrOf st).extract (sa+na) (sa+na+l)).size:=by omega
 have fstB: ∀ p x,sa+k<=p->p<sa+na->(arrOf st)[p]? = some x->c.le y x:=by
  intro p x h1 h2 ex
  exact Cx.le_of_lt (hk3 (p - sa) x ⋯ ⋯ (by rw [show sa+(p - sa)=p by omega];exact ex))
 have lstA: ∀ p x,sa+na<=p->p<sa+na+l->(arrOf st)[p]? = some x->c.le x z:=by
  intro p x h1 h2 ex
  exact Cx.le_of_lt (hl2 (p - (sa+na)) x ⋯ (by rw [show sa+na+(p - (sa+na))=p by omega];exact ex))
 have fin: ∀ (res:Array Keyed) (st':SortSt),Sm st1 st'->Fi c ((arrOf st).extract (sa+k) (sa+na)) ((arrOf st).extract (sa+na) (sa+na+l)) res->
   c.wp (modify (λs=>SortSt.mk' (kindOf s) (zme (arrOf s) res (sa+k)) (pendingOf s) (gallopOf s) (failedOf s))>>=λ_=>get>>=λs=>pure (failedOf s).isNone) Q st':=by
  intro res st' hs hf
  refine qa2 (wpS_modify (qa2 (wpS_get (qa3 ?_))))
  have e:(failedOf st').isNone=true:=by rw [hs.f,f1];rfl
  show Q (failedOf st').isNone _
  rw [e]
  refine h _ (hs.k.trans k1) (hs.f.trans f1) (hs.p.trans p1) ?_ ?_
  ·show Loc _ (zme (arrOf st') res (sa+k)) _ _
   rw [hs.a,a1]
   exact (zit ⋯ ⋯ ⋯ hf.2).1.wide ⋯ ⋯
  ·show sg c (zme (arrOf st') res (sa+k)) _ _
   rw [hs.a,a1]
   exact zn4 ⋯ ⋯ ⋯ ⋯ hsz hf.2 hf.1 ha hb g1 g2
 refine zaB (λ_=> ?_) (λ_=> ?_)
 ·refine qa2 (zr1 k1 sA sB (zhI hok) (zhI hok) pA pB ?_ ?_ fin)
  ·intro x w ex ew
   obtain ⟨_,ex⟩:=zdw ex
   obtain ⟨_,ew⟩:=zdw ew
   rw [add_zero,ey] at ew
   cases ew
   exact fstB _ x ⋯ ⋯ ex
  ·intro x ex w hw
   obtain ⟨_,ex⟩:=zdw ex
   rw [show sa+k+(((arrOf st).extract (sa+k) (sa+na)).size - 1)=sa+na - 1 by omega,ez] at ex
   cases ex
   obtain ⟨p,p1,p2,p3⟩:=zes hw
   exact lstA p w p1 p2 p3
 ·refine qa2 (zsV k1 sA sB (zhI hok) (zhI hok) pA pB ?_ ?_ fin)
  ·intro w ew x hx
   obtain ⟨_,ew⟩:=zdw ew
   rw [add_zero,ey] at ew
   cases ew
   obtain ⟨p,p1,p2,p3⟩:=zes hx
   exact fstB p x p1 p2 p3
  ·intro x w ex ew
   obtain ⟨_,ex⟩:=zdw ex
   obtain ⟨_,ew⟩:=zdw ew
   rw [show sa+k+(((arrOf st).extract (sa+k) (sa+na)).size - 1)=sa+na - 1 by omega,ez] at ex
   cases ex
   exact lstA _ w ⋯ ⋯ ew
end
end TS
end
section
namespace TS
set_option autoImplicit false
open PyProof
abbrev CR:Nat->Nat->StateT SortSt Sem (Option Nat):=sortPriv% PySem.Builtin.countRun
abbrev BS:Nat->Nat->Nat->StateT SortSt Sem Bool:=sortPriv% PySem.Builtin.binarySort
abbrev LtA:Nat->Nat->StateT SortSt Sem (Option Bool):=sortPriv% PySem.Builtin.ltAt
abbrev RS:Nat->Nat->StateT SortSt Sem Unit:=sortPriv% PySem.Builtin.reverseSlice
abbrev MD:Nat->Nat->StateT SortSt Sem Unit:=sortPriv% PySem.Builtin.moveDown
structure St (c:Cx) (a0:Array Keyed) (p0:Array (Nat×Nat×Nat)) (lo hi:Nat) (st:SortSt):Prop where
 k:kindOf st=c.kd
 f:failedOf st=none
 p:pendingOf st=p0
 l:Loc a0 (arrOf st) lo hi
section
variable {c:Cx} {a0:Array Keyed} {p0:Array (Nat×Nat×Nat)} {lo hi:Nat}
noncomputable def KV (c:Cx) (xs:Array Keyed) (i:Nat):c.O.α:=c.ky (xs[i]?.getD (.none,.none)).1
def up (c:Cx) (xs:Array Keyed) (lo hi:Nat):Prop:= ∀ i j,lo<=i->i<=j->j<hi->c.O.kle (KV c xs i) (KV c xs j)
def dn (c:Cx) (xs:Array Keyed) (lo hi:Nat):Prop:= ∀ i j,lo<=i->i<=j->j<hi->c.O.kle (KV c xs j) (KV c xs i)
def ek (c:Cx) (xs:Array Keyed) (lo hi:Nat):Prop:= ∀ i,lo<=i->i<hi->KV c xs i=KV c xs (hi - 1)
theorem ztf {xs:Array Keyed} (h:up c xs lo hi):sg c xs lo hi:=by
 intro i j x y h1 h2 h3 ex ey
 have:=h i j h1 h2 h3
 unfold KV at this
 rw [ex,ey] at this
 exact this
theorem zc6 {xs ys:Array Keyed} {i j:Nat} (h:xs[i]? = ys[j]?):KV c xs i=KV c ys j:=by unfold KV;rw [h]
theorem zqy {xs:Array Keyed} {n:Nat} (n0:0<n) (h:up c xs lo (lo+n)) (hl:c.O.blt (KV c xs (lo+n)) (KV c xs (lo+n - 1))=false):up c xs lo (lo+(n+1)):=by
 intro i j h1 h2 h3
 by_cases hj:j<lo+n
 ·exact h i j h1 h2 hj
 ·have:j=lo+n:=by omega
  subst this
  by_cases hi:i=lo+n
  ·subst hi;exact KeyOrd.kle_refl _
  ·exact KeyOrd.kle_trans (h i (lo+n - 1) h1 ⋯ ⋯) hl
theorem ziB {xs:Array Keyed} {n:Nat} (n0:0<n) (h:dn c xs lo (lo+n)) (hl:c.O.kle (KV c xs (lo+n)) (KV c xs (lo+n - 1))):dn c xs lo (lo+(n+1)):=by
 intro i j h1 h2 h3
 by_cases hj:j<lo+n
 ·exact h i j h1 h2 hj
 ·have:j=lo+n:=by omega
  subst this
  by_cases hi:i=lo+n
  ·subst hi;exact KeyOrd.kle_refl _
  ·exact KeyOrd.kle_trans hl (h i (lo+n - 1) h1 ⋯ ⋯)
theorem zkN {xs:Array Keyed} {i j:Nat} (hj:j<=xs.size) (k:Nat):KV c (mirror xs i j ((j - i) / 2)) k=if i<=k/\k<j then KV c xs (i+j - 1 - k) else KV c xs k:=by
 have e:=getElem?_mirror_all (i:=i) hj k
 by_cases h:i<=k/\k<j
 ·rw [qa4 h] at e ⊢; exact zc6 e
 ·rw [qa5 h] at e ⊢; exact zc6 e
theorem zex {xs:Array Keyed} {i j:Nat} (hj:j<=xs.size) (h:ek c xs i j) (k:Nat):KV c (mirror xs i j ((j - i) / 2)) k=KV c xs k:=by
 rw [zkN hj]
 by_cases h1:i<=k/\k<j
 ·rw [qa4 h1,h (i+j - 1 - k) ⋯ ⋯,h k h1.1 h1.2]
 ·rw [qa5 h1]
theorem zfR {xs:Array Keyed} {i j:Nat} (hj:j<=xs.size) (h1:lo<=i) (h2:j<=hi):Loc xs (mirror xs i j ((j - i) / 2)) lo hi:=by
 refine ⟨Array.perm_iff_toList_perm.mp (mirror_perm _ _ _ _),λk hk=> ?_⟩
 rw [getElem?_mirror_all hj,qa5 ⋯]
theorem St.set {st:SortSt} {xs:Array Keyed} (h:St c a0 p0 lo hi st) (hl:Loc (arrOf st) xs lo hi):St c a0 p0 lo hi (setArr st xs):=⟨h.k,h.f,h.p,h.l.trans hl⟩
theorem St.ok {st:SortSt} (h:St c a0 p0 lo hi st) (ho:okA c a0):okA c (arrOf st):=λx hx=>ho x (h.l.p.mem_iff.mp hx)
theorem zgC {st:SortSt} {i j:Nat} {Q:Option Bool->SortSt->Prop} (h:St c a0 p0 lo hi st) (ho:okA c a0) (hi:i<a0.size) (hj:j<a0.size)
  (hq:Q (some (c.O.blt (KV c (arrOf st) i) (KV c (arrOf st) j))) st):c.wp (LtA i j) Q st:=by
 have hz:=h.l.size
 obtain ⟨x,ex,ox⟩:=zbh (h.ok ho) (i:=i) ⋯
 obtain ⟨y,ey,oy⟩:=zbh (h.ok ho) (i:=j) ⋯
 refine qa2 (wpS_get ?_)
 refine qa2 (zbD ex (qa2 (zbD ey (zjC h.k ox oy ?_))))
 unfold KV at hq
 rw [ex,ey] at hq
 exact hq
theorem zl0 {st:SortSt} {i j:Nat} {Q:Unit->SortSt->Prop} (h:Q () (setArr st (mirror (arrOf st) i j ((j - i) / 2)))):c.wp (RS i j) Q st:=wpS_modify h
theorem zsT {st:SortSt} {i j:Nat} {Q:Unit->SortSt->Prop} (h:Q () (setArr st (bubble (arrOf st) i (i - j)))):c.wp (MD i j) Q st:=wpS_modify h
theorem zjq {st:SortSt} {nrem n:Nat} (h:St c a0 p0 lo (lo+nrem) st) (ho:okA c a0) (hz:lo+nrem<=a0.size) (n0:0<n) (hn:n<=nrem) (hu:up c (arrOf st) lo (lo+n)):
  c.wp (forIn [n:nrem] ((none:Option (Option Nat)),n) λ_ r=>LtA (lo+r.2) (lo+r.2 - 1)>>=λy=>match y with
    | some s=>if s=true then pure (ForInStep.done (none,r.2)) else pure (ForInStep.yield (none,r.2+1))
    | _=>pure (ForInStep.done (some none,r.2)))
   (λr st'=>st'=st/\r.1=none/\n<=r.2/\r.2<=nrem/\up c (arrOf st) lo (lo+r.2)/\(r.2=nrem\/c.O.klt (KV c (arrOf st) (lo+r.2)) (KV c (arrOf st) (lo+r.2 - 1)))) st:=by
 refine wpS_forRange (I:=λx r st'=>st'=st/\r.1=none/\r.2=x/\n<=r.2/\up c (arrOf st) lo (lo+r.2)) ?_ ?_ ⟨rfl,rfl,rfl,qaV _,hu⟩
 ·rintro x ⟨r,m⟩ st' h1 h2 ⟨e1,e2,e3,e4,e5⟩
  dsimp only at e1 e2 e3 e4 e5 ⊢
  subst e1 e2 e3
  refine qa2 (zgC h ho ⋯ ⋯ ?_)
  refine zaB (λq=> ?_) (λq=> ?_)
  ·exact qa3 ⟨rfl,rfl,e4,by dsimp only;omega,e5,.inr q⟩
  ·exact qa3 ⟨rfl,rfl,rfl,by dsimp only;omega,zqy ⋯ e5 (by simpa using q)⟩
 ·rintro ⟨r,m⟩ st' ⟨e1,e2,e3,e4,e5⟩
  dsimp only at e1 e2 e3 e4 e5 ⊢
  have:m=nrem:=by omega
  exact ⟨e1,e2,e4,⋯,e5,.inl this⟩
theorem zlw {st:SortSt} {nrem:Nat} {Q:Option Nat->SortSt->Prop} (h:St c a0 p0 lo (lo+nrem) st) (ho:okA c a0) (hz:lo+nrem<=a0.size) (hn:0<nrem)
  (hq: ∀ n st',0<n->n<=nrem->St c a0 p0 lo (lo+nrem) st'->up c (arrOf st') lo (lo+n)->Q (some n) st'):c.wp (CR lo nrem) Q st:=by
 refine qa2 (wpS_mono (zjq h ho hz Nat.zero_lt_one hn ?_) ?_)
 ·intro i j h1 h2 h3
  have:i=j:=by omega
  subst this
  exact KeyOrd.kle_refl _
 rintro ⟨r,n⟩ st1 ⟨e1,e2,e3,e4,e5,e6⟩
 dsimp only at e1 e2 e3 e4 e5 e6 ⊢
 subst e1 e2
 refine za4 (λq=> ?_) (λq=> ?_)
 ·exact qa3 (hq _ _ ⋯ e4 h e5)
 rcases e6 with e6 | e6
 ·exact absurd e6 q
 have d1: ∀ xs:Array Keyed,(∀ k,KV c xs k=KV c (arrOf st1) k)->(∀ i,lo<=i->i<lo+n->KV c (arrOf st1) i=KV c (arrOf st1) (lo+n - 1))->dn c xs lo (lo+(n+1)):=by
  intro xs h1 h2
  refine ziB ⋯ ?_ ?_
  ·intro i j i1 i2 i3
   rw [h1,h1,h2 i i1 ⋯,h2 j ⋯ i3]
   exact KeyOrd.kle_refl _
  ·rw [h1,h1]
   exact KeyOrd.kle_of_klt e6
 have hzz:=h.l.size
 refine zaB (λq2=>qa2 (zgC h ho ⋯ ⋯ (zaB (λq3=> ?_) (λq3=>qa2 (zl0 ?_))))) (λq2=> ?_)
 ·exact qa3 (hq _ _ ⋯ e4 h e5)
 have hek:ek c (arrOf st1) lo (lo+n):=by
  intro i i1 i2
  refine KeyOrd.kle_antisymm (e5 i _ i1 ⋯ ⋯) ?_
  exact KeyOrd.kle_trans (by simpa [KeyOrd.kle] using q3) (e5 lo i (qaV _) i1 i2)
 have b1:=h.set (zfR (xs:=arrOf st1) (i:=lo) (j:=lo+n) ⋯ (qaV _) ⋯)
 have b2:=d1 _ (zex ⋯ hek) hek
 replace b2:dn c (arrOf (setArr st1 (mirror (arrOf st1) lo (lo+n) ((lo+n - lo) / 2)))) lo (lo+(n+1)):=b2
 generalize setArr st1 (mirror (arrOf st1) lo (lo+n) ((lo+n - lo) / 2))=st2 at b1 b2 ⊢
 rotate_left
 have b1:=h
 have b2:dn c (arrOf st1) lo (lo+(n+1)):=d1 _ (λ_=>rfl) (λi i1 i2=>by
   have:i=lo+n - 1:=by omega
   rw [this])
 generalize st1=st2 at b1 b2 ⊢
 all_goals
  refine qa2 (zdC ?_)
  refine qa2 (wpS_mono (wpS_forRange
    (I:=λx r st'=>r.1=none/\r.2.1=x/\St c a0 p0 lo (lo+nrem) st'/\0<r.2.1/\r.2.2<r.2.1/\dn c (arrOf st') lo (lo+r.2.1)/\ek c (arrOf st') (lo+r.2.1 - (r.2.2+1)) (lo+r.2.1))
    (Q:=λr st'=>r.1=none/\r.2.1<=nrem/\St c a0 p0 lo (lo+nrem) st'/\0<r.2.1/\r.2.2<r.2.1/\dn c (arrOf st') lo (lo+r.2.1)/\ek c (arrOf st') (lo+r.2.1 - (r.2.2+1)) (lo+r.2.1)) ?_ ?_
    ⟨rfl,rfl,b1,succ_pos _,succ_pos _,b2,?_⟩) ?_)
  ·rintro x ⟨r,m,u⟩ st3 x1 x2 ⟨g1,g2,g3,g4,g5,g6,g7⟩
   dsimp only at g1 g2 g3 g4 g5 g6 g7 ⊢
   subst g1 g2
   have z3:=g3.l.size
   refine qa2 (zgC g3 ho ⋯ ⋯ ?_)
   refine zaB (λw=>zaB (λw2=>qa2 (zl0 (qa3 ?_))) (λw2=>qa3 ?_)) (λw=>qa2 (zgC g3 ho ⋯ ⋯ (zaB (λw2=>qa3 ?_) (λw2=>qa3 ?_))))
   ·have kk:=zex (c:=c) (xs:=arrOf st3) ⋯ g7
    refine ⟨rfl,rfl,g3.set (zfR ⋯ ⋯ ⋯),succ_pos _,succ_pos _,ziB g4 ?_ ?_,?_⟩
    ·intro i j i1 i2 i3
     show c.O.kle (KV c (mirror _ _ _ _) j) (KV c (mirror _ _ _ _) i)
     rw [kk,kk]
     exact g6 i j i1 i2 i3
    ·show c.O.kle (KV c (mirror _ _ _ _) _) (KV c (mirror _ _ _ _) _)
     rw [kk,kk]
     exact KeyOrd.kle_of_klt w
    ·intro i i1 i2
     dsimp only at i1 i2 ⊢
     rw [show i=lo+(m+1) - 1 by omega]
   ·refine ⟨rfl,rfl,g3,succ_pos _,succ_pos _,ziB g4 g6 (KeyOrd.kle_of_klt w),?_⟩
    intro i i1 i2
    dsimp only at i1 i2 ⊢
    rw [show i=lo+(m+1) - 1 by omega]
   ·exact ⟨rfl,by dsimp only;omega,g3,g4,g5,g6,g7⟩
   ·have w1:c.O.blt (KV c (arrOf st3) (lo+m)) (KV c (arrOf st3) (lo+m - 1))=false:=by simpa using w
    have w3:c.O.blt (KV c (arrOf st3) (lo+m - 1)) (KV c (arrOf st3) (lo+m))=false:=by simpa using w2
    have ee:=c.O.total _ _ w1 w3
    refine ⟨rfl,rfl,g3,succ_pos _,by dsimp only;omega,ziB g4 g6 w3,?_⟩
    intro i i1 i2
    dsimp only at i1 i2 ⊢
    rw [show lo+(m+1) - 1=lo+m by omega]
    by_cases hi:i=lo+m
    ·rw [hi]
    ·rw [g7 i ⋯ ⋯,ee]
  ·rintro ⟨r,m,u⟩ st3 ⟨g1,g2,g3,g4,g5,g6,g7⟩
   exact ⟨g1,by dsimp only at g2 ⊢; omega,g3,g4,g5,g6,g7⟩
  ·intro i i1 i2
   dsimp only at i1 i2 ⊢
   rw [show i=lo+(n+1) - 1 by omega]
  ·rintro ⟨r,m,u⟩ st3 ⟨g1,g2,g3,g4,g5,g6,g7⟩
   dsimp only at g1 g2 g3 g4 g5 g6 g7 ⊢
   subst g1
   have z3:=g3.l.size
   refine zaB (λw2=>qa2 (zl0 ?_)) (λw2=> ?_)
   have kk:=zex (c:=c) (xs:=arrOf st3) ⋯ g7
   have c1:=g3.set (zfR (xs:=arrOf st3) (i:=lo+m - (u+1)) (j:=lo+m) ⋯ ⋯ ⋯)
   have c2:dn c (arrOf (setArr st3 (mirror (arrOf st3) (lo+m - (u+1)) (lo+m) ((lo+m - (lo+m - (u+1))) / 2)))) lo (lo+m):=by
    intro i j i1 i2 i3
    show c.O.kle (KV c (mirror _ _ _ _) j) (KV c (mirror _ _ _ _) i)
    rw [kk,kk]
    exact g6 i j i1 i2 i3
   generalize setArr st3 (mirror (arrOf st3) (lo+m - (u+1)) (lo+m) ((lo+m - (lo+m - (u+1))) / 2))=st4 at c1 c2 ⊢
   rotate_left
   have c1:=g3
   have c2:=g6
   generalize st3=st4 at c1 c2 ⊢
   all_goals
    have z4:=c1.l.size
    refine qa2 (zl0 ?_)
    have c3:=c1.set (zfR (xs:=arrOf st4) (i:=lo) (j:=lo+m) ⋯ (qaV _) ⋯)
    refine qa2 (wpS_mono (zjq c3 ho hz g4 g2 ?_) ?_)
    ·intro i j i1 i2 i3
     show c.O.kle (KV c (mirror _ _ _ _) i) (KV c (mirror _ _ _ _) j)
     rw [zkN ⋯,zkN ⋯,qa4 ⋯,qa4 ⋯]
     exact c2 _ _ ⋯ ⋯ ⋯
    ·rintro ⟨r,k⟩ st5 ⟨f1,f2,f3,f4,f5,f6⟩
     dsimp only at f1 f2 f3 f4 f5 ⊢
     subst f1 f2
     exact qa3 (hq _ _ ⋯ f4 c3 f5)
theorem zm8 {xs:Array Keyed} {src d:Nat} (hs:src<xs.size) (hd:d<=src) (k:Nat):
  KV c (bubble xs src d) k=if k=src - d then KV c xs src else if src - d<k/\k<=src then KV c xs (k - 1) else KV c xs k:=by
 have e:=getElem?_bubble hs d hd k
 by_cases h1:k=src - d
 ·rw [qa4 h1] at e ⊢; exact zc6 e
 ·rw [qa5 h1] at e ⊢
  by_cases h2:src - d<k/\k<=src
  ·rw [qa4 h2] at e ⊢; exact zc6 e
  ·rw [qa5 h2] at e ⊢; exact zc6 e
theorem zqh {st:SortSt} {n ok:Nat} {Q:Bool->SortSt->Prop} (h:St c a0 p0 lo hi st) (ho:okA c a0) (hz:hi<=a0.size) (h0:0<ok) (hok:ok<=n) (hn:lo+n<=hi) (hu:up c (arrOf st) lo (lo+ok))
  (hq: ∀ st',St c a0 p0 lo hi st'->up c (arrOf st') lo (lo+n)->Q true st'):c.wp (BS lo n ok) Q st:=by
 refine qa2 (wpS_mono (wpS_forRange (I:=λk r st'=>r.1=none/\St c a0 p0 lo hi st'/\up c (arrOf st') lo (lo+k))
   (Q:=λr st'=>r.1=none/\St c a0 p0 lo hi st'/\up c (arrOf st') lo (lo+n)) ?_ ?_ ⟨rfl,h,by rw [Nat.max_eq_left h0];exact hu⟩) ?_)
 ·rintro k ⟨r,u⟩ st1 k1 k2 ⟨e1,e2,e3⟩
  dsimp only at e1 e2 e3 ⊢
  subst e1
  have hzz:=e2.l.size
  refine qa2 (wpS_mono (wpS_forRange (I:=λx r st'=>r.1=(none:Option Bool)/\st'=st1/\r.2.1<=r.2.2/\r.2.2<=k/\r.2.2 - r.2.1<=k - x/\
      (∀ i,i<r.2.1->c.O.kle (KV c (arrOf st1) (lo+i)) (KV c (arrOf st1) (lo+k)))/\(∀ i,r.2.2<=i->i<k->c.O.kle (KV c (arrOf st1) (lo+k)) (KV c (arrOf st1) (lo+i))))
    (Q:=λr st'=>r.1=none/\st'=st1/\r.2.1<=k/\
      (∀ i,i<r.2.1->c.O.kle (KV c (arrOf st1) (lo+i)) (KV c (arrOf st1) (lo+k)))/\(∀ i,r.2.1<=i->i<k->c.O.kle (KV c (arrOf st1) (lo+k)) (KV c (arrOf st1) (lo+i)))) ?_ ?_
    ⟨rfl,rfl,zero_le _,qaV _,qaV _,by intro i hi;dsimp only at hi;omega,by intro i hi;dsimp only at hi;omega⟩) ?_)
  ·rintro x ⟨r,a,b⟩ st2 x1 x2 ⟨g1,g2,g3,g4,g5,g6,g7⟩
   dsimp only at g1 g2 g3 g4 g5 g6 g7 ⊢
   subst g1 g2
   refine zaB (λw=>qa3 ?_) (λw=>qa2 (zgC e2 ho ⋯ ⋯ (zaB (λv=>qa3 ?_) (λv=>qa3 ?_))))
   ·have:a=b:=by omega
    subst this
    exact ⟨rfl,rfl,g4,g6,g7⟩
   ·refine ⟨rfl,rfl,by dsimp only;omega,by dsimp only;omega,by dsimp only;omega,g6,?_⟩
    intro i i1 i2
    dsimp only at i1
    exact KeyOrd.kle_trans (KeyOrd.kle_of_klt v) (e3 _ _ ⋯ ⋯ ⋯)
   ·refine ⟨rfl,rfl,by dsimp only;omega,g4,by dsimp only;omega,?_,g7⟩
    intro i i1
    dsimp only at i1
    exact KeyOrd.kle_trans (e3 _ _ ⋯ ⋯ ⋯) (KeyOrd.kle_of_not_klt v)
  ·rintro ⟨r,a,b⟩ st2 ⟨g1,g2,g3,g4,g5,g6,g7⟩
   dsimp only at g1 g2 g3 g4 g5 g6 g7 ⊢
   have:a=b:=by omega
   subst this
   exact ⟨g1,g2,g4,g6,g7⟩
  ·rintro ⟨r,a,b⟩ st2 ⟨g1,g2,g3,g4,g5⟩
   dsimp only at g1 g2 g3 g4 g5 ⊢
   subst g1 g2
   refine qa2 (zsT (qa3 ⟨rfl,e2.set ⟨Array.perm_iff_toList_perm.mp (bubble_perm _ _ _),λi hi=> ?_⟩,?_⟩))
   ·rw [getElem?_bubble ⋯ _ ⋯,qa5 ⋯,qa5 ⋯]
   ·intro i j i1 i2 i3
    show c.O.kle (KV c (bubble _ _ _) i) (KV c (bubble _ _ _) j)
    have hl:lo+k - (lo+k - (lo+a))=lo+a:=by omega
    rw [zm8 ⋯ ⋯,zm8 ⋯ ⋯,hl]
    have o1: ∀ p,lo<=p->p<lo+a->c.O.kle (KV c (arrOf st2) p) (KV c (arrOf st2) (lo+k)):=by
     intro p p1 p2
     have:=g4 (p - lo) ⋯
     rwa [show lo+(p - lo)=p by omega] at this
    have o2: ∀ p,lo+a<=p->p<lo+k->c.O.kle (KV c (arrOf st2) (lo+k)) (KV c (arrOf st2) p):=by
     intro p p1 p2
     have:=g5 (p - lo) ⋯ ⋯
     rwa [show lo+(p - lo)=p by omega] at this
    by_cases q1:i=lo+a
    ·rw [qa4 q1]
     by_cases q2:j=lo+a
     ·rw [qa4 q2];exact KeyOrd.kle_refl _
     ·rw [qa5 q2,qa4 ⋯]
      exact o2 _ ⋯ ⋯
    ·rw [qa5 q1]
     by_cases q3:i<lo+a
     ·rw [qa5 ⋯]
      by_cases q2:j=lo+a
      ·rw [qa4 q2];exact o1 _ i1 q3
      ·rw [qa5 q2]
       by_cases q4:j<lo+a
       ·rw [qa5 ⋯]
        exact e3 _ _ i1 i2 ⋯
       ·rw [qa4 ⋯]
        exact e3 _ _ i1 ⋯ ⋯
     ·rw [qa4 ⋯,qa5 ⋯,qa4 ⋯]
      exact e3 _ _ ⋯ ⋯ ⋯
 ·rintro ⟨r,u⟩ st1 ⟨e1,e2,e3⟩
  refine ⟨e1,e2,?_⟩
  rw [show max (max ok 1) n=n by omega] at e3
  exact e3
 ·rintro ⟨r,u⟩ st1 ⟨e1,e2,e3⟩
  dsimp only at e1 ⊢
  subst e1
  exact qa3 (hq _ e2 e3)
end
end TS
end
section
namespace TS
set_option autoImplicit false
open PyProof
abbrev SR:StateT SortSt Sem Unit:=sortPriv% PySem.Builtin.sortRuns
section
variable {c:Cx}
noncomputable def chn (c:Cx) (xs:Array Keyed):List (Nat×Nat×Nat)->Nat->Nat->Prop
 | [],a,b=>a=b
 | t::r,a,b=>t.1=a/\0<t.2.1/\sg c xs a (a+t.2.1)/\chn c xs r (a+t.2.1) b
theorem zft {xs:Array Keyed}: ∀ {p q:List (Nat×Nat×Nat)} {a b:Nat},chn c xs (p++q) a b↔ ∃ m,chn c xs p a m/\chn c xs q m b
 | [],q,a,b=>⟨λh=>⟨a,rfl,h⟩,λ⟨m,e,h⟩=>by cases e;exact h⟩
 | t::r,q,a,b=>by
  show (_/\_/\_/\chn c xs (r++q) _ b)↔ ∃ m,(_/\_/\_/\chn c xs r _ m)/\_
  rw [zft]
  constructor
  ·rintro ⟨h1,h2,h3,m,h4,h5⟩;exact ⟨m,⟨h1,h2,h3,h4⟩,h5⟩
  ·rintro ⟨m,⟨h1,h2,h3,h4⟩,h5⟩;exact ⟨h1,h2,h3,m,h4,h5⟩
theorem zen {xs:Array Keyed}: ∀ {p:List (Nat×Nat×Nat)} {a b:Nat},chn c xs p a b->a+p.length<=b
 | [],a,b,h=>by cases h;simp
 | t::r,a,b,h=>by
  have:=zen h.2.2.2
  have:=h.2.1
  rw [qaE];omega
theorem zdk {xs ys:Array Keyed}: ∀ {p:List (Nat×Nat×Nat)} {a b:Nat},chn c xs p a b->(∀ i,a<=i->i<b->ys[i]? = xs[i]?)->chn c ys p a b
 | [],a,b,h,_=>h
 | t::r,a,b,h,he=>by
  have hl:=zen h.2.2.2
  refine ⟨h.1,h.2.1,?_,zdk h.2.2.2 (λi i1 i2=>he i ⋯ i2)⟩
  intro i j x y i1 i2 i3 ex ey
  rw [he i i1 ⋯] at ex
  rw [he j ⋯ ⋯] at ey
  exact h.2.2.1 i j x y i1 i2 i3 ex ey
theorem zkV {xs:Array Keyed} {f:Nat×Nat×Nat->Nat×Nat×Nat} (hf: ∀ t,(f t).1=t.1/\(f t).2.1=t.2.1): ∀ {p:List (Nat×Nat×Nat)} {i a b:Nat},chn c xs p a b->chn c xs (p.modify i f) a b
 | [],i,a,b,h=>by cases i<;>exact h
 | t::r,0,a,b,h=>by
  show chn c xs (f t::r) a b
  refine ⟨(hf t).1.trans h.1,?_,?_,?_⟩
  ·rw [(hf t).2];exact h.2.1
  ·rw [(hf t).2];exact h.2.2.1
  ·rw [(hf t).2];exact h.2.2.2
 | t::r,i+1,a,b,h=>by
  show chn c xs (t::r.modify i f) a b
  exact ⟨h.1,h.2.1,h.2.2.1,zkV hf h.2.2.2⟩
structure Rn (c:Cx) (a0:Array Keyed) (lo:Nat) (st:SortSt):Prop where
 k:kindOf st=c.kd
 f:failedOf st=none
 p:(arrOf st).toList.Perm a0.toList
 h:chn c (arrOf st) (pendingOf st).toList 0 lo
theorem Rn.size {a0:Array Keyed} {lo:Nat} {st:SortSt} (h:Rn c a0 lo st):(arrOf st).size=a0.size:=by simpa using h.p.length_eq
theorem Rn.ok {a0:Array Keyed} {lo:Nat} {st:SortSt} (h:Rn c a0 lo st) (ho:okA c a0):okA c (arrOf st):=λx hx=>ho x (h.p.mem_iff.mp hx)
theorem zqS {α:Type} {l:List α} {i:Nat} (h:i+1<l.length): ∃ P x y S,l=P++x::y::S/\P.length=i:=by
 refine ⟨l.take i,l[i],l[i+1],l.drop (i+2),?_,by rw [length_take];omega⟩
 rw [<- qae, <-qae,qam]
theorem znx {a0:Array Keyed} {st:SortSt} {lo i:Nat} {Q:Bool->SortSt->Prop} (h:Rn c a0 lo st) (ho:okA c a0) (hlo:lo<=a0.size) (hi:i+1<(pendingOf st).size)
  (hq: ∀ st',Rn c a0 lo st'->(pendingOf st').size+1=(pendingOf st).size->Loc (arrOf st) (arrOf st') 0 lo->Q true st'):c.wp (MAt i) Q st:=by
 obtain ⟨P,⟨sa,na,pa⟩,⟨sb,nb,pb⟩,S,eL,eP⟩:=zqS (l:=(pendingOf st).toList) (i:=i) (by simpa using hi)
 have hh:=h.h
 rw [eL,zft] at hh
 obtain ⟨m,h1,h2,h3,h4,h5,h6,h7,h8⟩:=hh
 dsimp only at h2 h3 h4 h5 h6 h7 h8
 subst h2 h5
 have hl1:=zen h1
 have hl2:=zen h8
 have hz:=h.size
 have g1:(pendingOf st)[i]? = some (sa,na,pa):=by
  rw [<- qaj,eL,qaa ⋯,eP,Nat.sub_self];rfl
 have g2:(pendingOf st)[i+1]? = some (sa+na,nb,pb):=by
  rw [<- qaj,eL,qaa ⋯,eP,show i+1 - i=1 by omega];rfl
 refine zsA h.k h.f (h.ok ho) g1 g2 h3 h6 ⋯ h4 h7 ?_
 intro st' k1 k2 k3 k4 k5
 have e3:(pendingOf st').toList=P++(sa,na+nb,pa)::S:=by
  rw [k3]
  simp only [Array.toList_eraseIdxIfInBounds,Array.toList_setIfInBounds]
  rw [eL, <-eP]
  simp only [List.set_append_right _ _ (qaV _),Nat.sub_self,List.set_cons_zero]
  rw [List.eraseIdx_append_of_length_le ⋯,show P.length+1 - P.length=1 by omega]
  rfl
 refine hq st' ⟨k1,k2,k4.p.trans h.p,?_⟩ ?_ (k4.wide (zero_le _) ⋯)
 ·rw [e3,zft]
  refine ⟨sa,zdk h1 (λi _ i2=>k4.o i (.inl i2)),rfl,?_,?_,?_⟩
  ·dsimp only;omega
  ·show sg c (arrOf st') sa (sa+(na+nb))
   rw [<- Nat.add_assoc];exact k5
  ·show chn c (arrOf st') S (sa+(na+nb)) lo
   rw [<- Nat.add_assoc]
   exact zdk h8 (λi i1 _=>k4.o i (.inr i1))
 ·have l1:(pendingOf st').size=(pendingOf st').toList.length:=by simp
  have l2:(pendingOf st).size=(pendingOf st).toList.length:=by simp
  rw [l1,l2,e3,eL]
  simp only [qav,qaE]
  omega
theorem zsl {a0:Array Keyed} {st:SortSt} {Q:Unit->SortSt->Prop} (hk:kindOf st=c.kd) (hf:failedOf st=none) (hp:pendingOf st= #[]) (ha:arrOf st=a0) (ho:okA c a0)
  (hq: ∀ st',failedOf st'=none->(arrOf st').toList.Perm a0.toList->sg c (arrOf st') 0 a0.size->Q () st'):c.wp SR Q st:=by
 refine qa2 (wpS_get ?_)
 have ez:(arrOf st).size=a0.size:=by rw [ha]
 generalize hN:(arrOf st).size=N at ez
 dsimp only
 generalize (sortPriv% PySem.Builtin.minRun) N N 0=mr
 refine qa2 (wpS_mono (wpS_forRange (I:=λx r st'=>r.1=none/\Rn c a0 r.2 st'/\r.2<=N/\(x<=r.2\/r.2=N))
   (Q:=λr st'=>r.1=none/\Rn c a0 N st') ?_ ?_ ⟨rfl,⟨hk,hf,by rw [ha],by rw [hp];rfl⟩,zero_le _,.inl (qaV _)⟩) ?_)
 ·rintro x ⟨r,lo⟩ st1 x1 x2 ⟨e1,e2,e3,e4⟩
  dsimp only at e1 e2 e3 e4 ⊢
  subst e1
  have z1:=e2.size
  refine zaB (λw=>qa3 ⟨rfl,?_⟩) (λw=> ?_)
  ·have:lo=N:=by omega
   rw [<- this]
   exact e2
  refine qa2 (zlw (a0:=arrOf st1) (p0:=pendingOf st1) ⟨e2.k,e2.f,rfl,Loc.refl _ _ _⟩ (e2.ok ho) ⋯ ⋯ ?_)
  intro n st2 n1 n2 s2 u2
  dsimp only
  have fin: ∀ (n:Nat) (st3:SortSt),0<n->n<=N - lo->St c (arrOf st1) (pendingOf st1) lo (lo+(N - lo)) st3->up c (arrOf st3) lo (lo+n)->Rn c a0 lo st3/\sg c (arrOf st3) lo (lo+n):=by
   intro n st3 m1 m2 m3 m4
   refine ⟨⟨m3.k,m3.f,m3.l.p.trans e2.p,?_⟩,ztf m4⟩
   rw [m3.p]
   exact zdk e2.h (λi _ i2=>m3.l.o i (.inl i2))
  refine zaB (λw2=>qa2 (zdC (qa2 (zqh s2 (e2.ok ho) ⋯ n1 (n:=min (N - lo) mr) ⋯ ⋯ u2 ?_)))) (λw2=> ?_)
  intro st3 s3 u3
  rw [qa5 (by simp)]
  have hm:0<min (N - lo) mr/\min (N - lo) mr<=N - lo:=by omega
  obtain ⟨r3,g3⟩:=fin _ st3 hm.1 hm.2 s3 u3
  generalize min (N - lo) mr=m at hm g3 ⊢
  rotate_left
  obtain ⟨r3,g3⟩:=fin _ st2 n1 n2 s2 u2
  have hm:0<n/\n<=N - lo:=⟨n1,n2⟩
  generalize n=m at hm g3 ⊢
  generalize st2=st3 at r3 g3 ⊢
  all_goals
   have push: ∀ st4:SortSt,Rn c a0 lo st4->sg c (arrOf st4) lo (lo+m)->Rn c a0 (lo+m) (SortSt.mk' (kindOf st4) (arrOf st4) ((pendingOf st4).push (lo,m,0)) (gallopOf st4) (failedOf st4)):=by
    intro st4 r4 g4
    refine ⟨r4.k,r4.f,r4.p,?_⟩
    show chn c (arrOf st4) ((pendingOf st4).push (lo,m,0)).toList 0 (lo+m)
    rw [Array.toList_push,zft]
    exact ⟨lo,r4.h,rfl,hm.1,g4,rfl⟩
   refine qa2 (wpS_get ?_)
   split
   ·refine qa2 (wpS_mono (wpS_forRange (I:=λ_ r st'=>r.1=none/\Rn c a0 lo st'/\sg c (arrOf st') lo (lo+m))
      (Q:=λr st'=>r.1=none/\Rn c a0 lo st'/\sg c (arrOf st') lo (lo+m)) ?_ ?_ ⟨rfl,r3,g3⟩) ?_)
    ·rintro y ⟨r,u⟩ st4 y1 y2 ⟨f1,f2,f3⟩
     dsimp only at f1 f2 f3 ⊢
     subst f1
     refine qa2 (wpS_get ?_)
     split
     ·rename_i hs
      have hs2:(pendingOf st4).size>1:=by
       by_cases hc:(pendingOf st4).size>1
       ·exact hc
       ·rw [qa5 hc] at hs;cases hs
      refine zaB (λ_=>qa3 ⟨rfl,f2,f3⟩) (λ_=>qa2 (znx f2 ho ⋯ (by show (pendingOf st4).size - 2+1<(pendingOf st4).size;omega) ?_))
      intro st5 r5 _ l5
      rw [qa5 (by simp)]
      refine qa3 ⟨rfl,r5,?_⟩
      intro i j a b i1 i2 i3 ea eb
      rw [l5.o i (.inr i1)] at ea
      rw [l5.o j (.inr ⋯)] at eb
      exact f3 i j a b i1 i2 i3 ea eb
     ·exact qa3 ⟨rfl,f2,f3⟩
    ·intro r st4 hh
     exact hh
    ·rintro ⟨r,u⟩ st4 ⟨f1,f2,f3⟩
     dsimp only at f1 f2 f3 ⊢
     subst f1
     refine qa2 (wpS_modify (qa2 (wpS_modify (qa3 ⟨rfl,?_,by dsimp only;omega,by dsimp only;omega⟩))))
     refine push _ ⟨f2.k,f2.f,f2.p,?_⟩ f3
     show chn c (arrOf st4) ((pendingOf st4).modify _ _).toList 0 lo
     rw [Array.toList_modify]
     refine zkV ?_ f2.h
     exact λ_=>⟨rfl,rfl⟩
   ·exact qa2 (wpS_modify (qa3 ⟨rfl,push _ r3 g3,by dsimp only;omega,by dsimp only;omega⟩))
 ·rintro ⟨r,lo⟩ st1 ⟨e1,e2,e3,e4⟩
  dsimp only at e1 e2 e3 e4 ⊢
  have:lo=N:=by omega
  exact ⟨e1,this▸e2⟩
 ·rintro ⟨r,lo⟩ st1 ⟨e1,e2⟩
  dsimp only at e1 e2 ⊢
  subst e1
  refine qa2 (wpS_mono (wpS_forRange (I:=λx r st'=>r.1=none/\Rn c a0 N st'/\((pendingOf st').size<=1\/(pendingOf st').size+x<=N))
    (Q:=λr st'=>r.1=none/\Rn c a0 N st'/\(pendingOf st').size<=1) ?_ ?_ ⟨rfl,e2,.inr ?_⟩) ?_)
  ·rintro x ⟨r,u⟩ st2 x1 x2 ⟨f1,f2,f3⟩
   dsimp only at f1 f2 f3 ⊢
   subst f1
   refine qa2 (wpS_get ?_)
   refine zaB (λw=>qa3 ⟨rfl,f2,w⟩) (λw=>qa2 (znx f2 ho ⋯ ?_ ?_))
   ·replace w: ¬(pendingOf st2).size<=1:=w
    have hx: ∀ (p:Prop) [Decidable p],(if p then (pendingOf st2).size - 2 - 1 else (pendingOf st2).size - 2)+1<(pendingOf st2).size:=by
     intro p _
     split<;>omega
    exact hx _
   ·intro st3 r3 p3 _
    rw [qa5 (by simp)]
    exact qa3 ⟨rfl,r3,⋯⟩
  ·rintro ⟨r,u⟩ st2 ⟨f1,f2,f3⟩
   exact ⟨f1,f2,⋯⟩
  ·have:=zen e2.h
   simp only [qas] at this
   omega
  ·rintro ⟨r,u⟩ st2 ⟨f1,f2,f3⟩
   dsimp only at f1 f2 f3 ⊢
   subst f1
   refine qa3 (hq _ f2.f f2.p ?_)
   have hh:=f2.h
   have hl:(pendingOf st2).toList.length<=1:=by simpa using f3
   rw [<- ez]
   match hL:(pendingOf st2).toList,hl with
   | [],_=>
    rw [hL] at hh
    have:0=N:=hh
    intro i j x y i1 i2 i3
    omega
   | [t],_=>
    rw [hL] at hh
    obtain ⟨t1,t2,t3,t4⟩:=hh
    have t5:0+t.2.1=N:=t4
    rw [t5] at t3
    exact t3
end
end TS
end
section
namespace TS
set_option autoImplicit false
open PyProof
noncomputable def h6 (h:Heap) (a:Addr) (vs:List Value):Heap:=((h.update a (Obj.mapSeq λ_=> #[])).push (seqObj "tuple" vs.toArray 0)).push (seqObj "list" #[] 0)
theorem zmr (c:Cx) {s:Shared} {a:Addr} {vs:List Value} {n:Nat} {P:Fin->Shared->Prop} (ho:s.heap.get? a=some (seqObj "list" vs.toArray n)) (hs:c.s={s with heap:=h6 s.heap a vs})
  (hok: ∀ v,v∈vs->c.ok v) (hkk:2<=vs.length-> ∀ Q:SortKind->Shared->Prop,Q c.kd c.s->wpAny (model c.prog c.w) c.A (keyKind' vs.toArray) Q c.E c.s) (hz:vs.length<=sizeLine)
  (h: ∀ xs:Array Keyed,xs.toList.Perm (pairsOf vs).toList->sg c xs 0 vs.length->P (.done (.ret .none)) {s with heap:=sortedHeap s.heap a vs (xs.map (·.2))}):
  wpAny (model c.prog c.w) c.A (Builtin.«list.sort» ⟨[.ref a],[]⟩) P c.E s:=by
 rw [list_sort_plain]
 have ha:a<s.heap.objs.size:=qaQ ho
 have zz:vs.toArray.size=vs.length:=by simp
 refine qaW (listItems_at ho rfl ?_)
 refine qaW (listUpdate_at ho rfl ?_ (by rw [zz];exact hz) (zero_le _))
 obtain ⟨e1,ho1⟩: ∃ e1,(s.heap.update a (Obj.mapSeq λ_=> #[])).get? a=some (seqObj "list" #[] e1):=⟨_,get?_update_seq ho (λ_=> #[])⟩
 refine qaW (seqEpoch_at ho1 rfl ?_)
 refine qaW (wpAny_newTuple ?_ (by simpa using hz))
 refine qaW (wpAny_newList ?_)
 refine qaO ?_
 have ho6:(h6 s.heap a vs).get? a=some (seqObj "list" #[] e1):=by
  unfold h6
  rw [Heap.get?_push_ne _ _ _ (by rw [size_push',Heap.size_update];exact qaR (lt_succ_of_lt ha)),Heap.get?_push_ne _ _ _ (by rw [Heap.size_update];exact qaR ha)]
  exact ho1
 show wpAny (model c.prog c.w) c.A _ P c.E {s with heap:=h6 s.heap a vs}
 rw [<- hs]
 have ho7:c.s.heap.get? a=some (seqObj "list" #[] e1):=by rw [hs];exact ho6
 dsimp only
 have zx: ∀ xs:Array Keyed,xs.toList.Perm (pairsOf vs).toList->(xs.map (·.2)).size<=sizeLine+1:=by
  intro xs hp
  have:=hp.length_eq
  simp only [qas,pairsOf_size] at this
  rw [Array.size_map];omega
 have e2: ∀ out:Array Value,({c.s with heap:=c.s.heap.update a (Obj.mapSeq λ_=>out)}:Shared)={s with heap:=sortedHeap s.heap a vs out}:=by
  intro out;rw [hs];rfl
 by_cases h2:vs.toArray.size<2
 ·rw [qa4 h2,qa4 h2]
  refine qaW (qaX ?_)
  rw [StateT.run_pure]
  refine qaW (qaX ?_)
  dsimp only
  refine qaW (seqEpoch_at ho7 rfl ?_)
  refine qaW (listUpdate_at ho7 rfl ?_ (hsz2:=zx _ (List.Perm.refl _)))
  simp only [bne_self_eq_false,qax,if_false]
  refine qaX ?_
  rw [e2]
  refine h (vs.toArray.zip vs.toArray) (List.Perm.refl _) ?_
  intro i j x y i1 i2 i3 ex ey
  have:i=j:=by omega
  subst this
  rw [ex] at ey
  cases ey
  exact Cx.le_refl _
 ·rw [qa5 h2,qa5 h2]
  refine qaW (hkk ⋯ _ ?_)
  refine qaW (qaZ (zsl (c:=c) (a0:=pairsOf vs) (st:=SortSt.mk' c.kd (vs.toArray.zip vs.toArray) #[] 7 none) (Q:=λ_ st'=>failedOf st'=none/\(arrOf st').toList.Perm (pairsOf vs).toList/\sg c (arrOf st') 0 (pairsOf vs).size)
    rfl rfl rfl rfl ?_ λst' b1 b2 b3=>⟨b1,b2,b3⟩) ?_ λ_ _ e=>e)
  ·intro x hx
   rw [pairsOf_toList] at hx
   exact hok _ (mem_zip_self hx).2
  rintro ⟨⟨⟩,st'⟩ s' ⟨rfl,hf,hp,hg⟩
  rw [pairsOf_size] at hg
  dsimp only
  refine qaW (seqEpoch_at ho7 rfl ?_)
  refine qaW (listUpdate_at ho7 rfl ?_ (hsz2:=zx _ hp))
  rw [hf]
  simp only [bne_self_eq_false,qax,if_false]
  refine qaX ?_
  rw [e2]
  exact h _ hp hg
theorem ztE {c:Cx} {xs:Array Keyed} (h:sg c xs 0 xs.size):xs.toList.Pairwise c.le:=by
 have:=zjU h (qaV _)
 unfold srt at this
 rwa [Array.extract_size] at this
def Srt (prog:Program) (w:World) (A:Around) (vs:List Value) (s1:Shared) (kd:SortKind) (O:KeyOrd) (ky:Value->O.α) (ok:Value->Prop):Prop:=
 (∀ v,v∈vs->ok v)/\ ∀ s2:Shared,(∀ b o,s1.heap.get? b=some o->s2.heap.get? b=some o)->
  (2<=vs.length-> ∀ (E:Value->Shared->Prop) (Q:SortKind->Shared->Prop),Q kd s2->wpAny (model prog w) A (keyKind' vs.toArray) Q E s2)/\
  ∀ (E:Value->Shared->Prop) (x y:Value) (Q:Bool->Shared->Prop),ok x->ok y->Q (O.blt (ky x) (ky y)) s2->wpAny (model prog w) A (keyLt' kd x y) Q E s2
theorem zi5 {prog:Program} {w:World} {A:Around} {E:Value->Shared->Prop} {s:Shared} {x:Value} {Q:Value->Shared->Prop} (hc: ∀ E':Value->Shared->Prop,wpAny (model prog w) A.in1 (collect x) (λvs s1=>
      vs.length<=sizeLine/\ ∃ kd O ky ok,Srt prog w A.in1.in1 vs s1 kd O ky ok/\
      ∀ (out:List Value) e h',out.Perm vs->out.Pairwise (λx y=>O.kle (ky x) (ky y))->(∀ b ob,s1.heap.get? b=some ob->h'.get? b=some ob)->h'.get? s1.heap.objs.size=some (seqObj "list" out.toArray e)->Q (.ref s1.heap.objs.size) {s1 with heap:=h'}) E' s):
  wpAny (model prog w) A (call (.builtin "sorted") [x]) Q E s:=by
 refine Calls.call_function_entry kind_sorted plain_sorted entry_sorted (args_sorted1 _) ?_
 unfold Builtin.«sorted»
 refine qaW (m:=checkCount "sorted" 1 1 _) (qaX ?_)
 refine qaW (m:=collect x) (qaZ (hc _) (λvs s1 ⟨hz,kd,O,ky,ok,⟨hS,hS2⟩,q⟩=> ?_) λ_ _ z=>z)
 refine qaW (wpAny_newList ?_ hz)
 have at0:(s1.heap.push {cls:= .type "list",data:= .seq vs.toArray}).get? s1.heap.objs.size=some (seqObj "list" vs.toArray 0):=qar _ rfl
 have keep: ∀ b ob,s1.heap.get? b=some ob->(h6 (s1.heap.push {cls:= .type "list",data:= .seq vs.toArray}) s1.heap.objs.size vs).get? b=some ob:=by
  intro b ob eb
  have lt:=qaQ eb
  unfold h6
  refine qag _ (qag _ ?_)
  exact (qah _ _ (Ne.symm (qaR lt))).trans (qag _ eb)
 obtain ⟨g1,g2⟩:=hS2 {s1 with heap:=h6 (s1.heap.push {cls:= .type "list",data:= .seq vs.toArray}) s1.heap.objs.size vs} keep
 refine qaW (qaO (wpAny_call_entry slot_list_sort ⟨_,at0,rfl⟩ entry_list_sort (zmr (s:={s1 with heap:=s1.heap.push {cls:= .type "list",data:= .seq vs.toArray}})
   ⟨prog,w,A.in1.in1,_,_,kd,O,ky,ok,g2⟩ at0 rfl hS (λh2 Q hQ=>g1 h2 _ Q hQ) hz λxs hp hg=>⟨_,rfl,?_⟩) (args_list_sort _)))
 obtain ⟨e,he⟩:=sortedHeap_at (out:=xs.map (·.2)) at0
 have hl:xs.size=vs.length:=by
  have:=hp.length_eq
  simpa [pairsOf_size] using this
 rw [<- hl] at hg
 have hpw:=ztE hg
 have hmem: ∀ p,p∈xs.toList->p.1=p.2:=λp hp'=>(mem_zip_self (by rw [<- pairsOf_toList];exact hp.mem_iff.mp hp')).1
 refine qaX ⟨_,rfl,q (xs.map (·.2)).toList e _ ?_ ?_ (λb ob eb=> ?_) (by rw [Array.toArray_toList];exact he)⟩
 ·rw [Array.toList_map]
  have:=hp.map (·.2)
  rw [pairsOf_toList] at this
  refine this.trans (List.Perm.of_eq ?_)
  exact List.map_snd_zip (qaV _)
 ·rw [Array.toList_map,pairwise_map]
  refine List.Pairwise.imp_of_mem ?_ hpw
  intro u v hu hv huv
  rw [<- hmem u hu, <-hmem v hv]
  exact huv
 ·have lt:=qaQ eb
  rw [sortedHeap_old (qaR lt) (by rw [qaL];exact lt_succ_of_lt lt)]
  exact qag _ eb
end TS
end
namespace TS
set_option autoImplicit false
open PyProof PySem.SeqAt
open PySem.MeetsSeq PySem.MeetsSeq2 PySem.MeetsSeq3
inductive Rs (A:Around) (s:Shared) (b:Bool):List ((Value×Value)×Nat)->Bool->Bool->Prop
 | nil (d:Bool):Rs A s b [] d d
 | eq {p q:Value} {i:Nat} {zaT:List ((Value×Value)×Nat)} {d r:Bool} (h:EqAt A s p q true) (t:Rs A s b zaT d r):Rs A s b (((p,q),i)::zaT) d r
 | ne {p q:Value} {i:Nat} {zaT:List ((Value×Value)×Nat)} {d l:Bool} (h:EqAt A s p q false) (t: ∀ (prog:Program) (w:World) (E:Value->Shared->Prop) (Q:Bool->Shared->Prop),Q l s->wpAny (model prog w) A (oneLt' (b && i==0) p q) Q E s):Rs A s b (((p,q),i)::zaT) d l
section
variable {prog:Program} {w:World} {A:Around} {s:Shared}
theorem zjW {b:Bool} {F:((Value×Value)×Nat)->(Option Bool×Unit)->Sem (ForInStep (Option Bool×Unit))}
  (hF: ∀ p q i c,F ((p,q),i) c=(eqBool p q>>=λe=>if (!e)=true then oneLt' (b && i==0) p q>>=λr=>pure (.done (some r,())) else pure (.yield (none,())))) {E:Value->Shared->Prop}:
  ∀ {L:List ((Value×Value)×Nat)} {d r:Bool},Rs A s b L d r->wpAny (model prog w) A (forIn L ((none:Option Bool),()) F) (λc s'=>s'=s/\(c.1=some r\/(c.1=none/\d=r))) E s
 | _,_,_,.nil d=>by
  rw [forIn_nil]
  exact qaX ⟨rfl,.inr ⟨rfl,rfl⟩⟩
 | _,_,_,.eq h t=>by
  rw [forIn_cons,hF,bind_assoc]
  refine qaW (h prog w _ _ ?_)
  rw [qa5 (by simp),pure_bind]
  exact zjW hF t
 | _,_,_,.ne h t=>by
  rw [forIn_cons,hF,bind_assoc]
  refine qaW (h prog w _ _ ?_)
  rw [qa4 (by simp),bind_assoc]
  refine qaW (t prog w _ _ ?_)
  rw [pure_bind]
  exact qaX ⟨rfl,.inl rfl⟩
theorem zkg {b r:Bool} {E:Value->Shared->Prop} {Q:Bool->Shared->Prop} {a q:Addr} {xs ys:Array Value} (hx:IsTup s.heap a xs) (hy:IsTup s.heap q ys) (h:Rs A s b (xs.toList.zip ys.toList).zipIdx (decide (xs.size<ys.size)) r) (hq:Q r s):
  wpAny (model prog w) A (keyLt' (tuples' b) (.ref a) (.ref q)) Q E s:=by
 obtain ⟨o1,e1,_,n1,d1⟩:=hx
 obtain ⟨o2,e2,_,n2,d2⟩:=hy
 refine qaW (listItems_at e1 d1 (qaW (listItems_at e2 d2 ?_)))
 refine qaW (qaZ (zjW (b:=b) ?_ h) ?_ λ_ _ e=>e)
 ·exact λp q i c=>rfl
 ·rintro ⟨c,u⟩ s' ⟨rfl,e | ⟨e,e3⟩⟩
  ·cases e
   exact qaX hq
  ·cases e
   subst e3
   exact qaX hq
theorem zlH {x y:Value} {l:Bool} (h: ∀ (prog:Program) (w:World) (E Q:Value->Shared->Prop),Q (.bool l) s->wpAny (model prog w) A (richCompare .Lt x y) Q E s) {E:Value->Shared->Prop} {Q:Bool->Shared->Prop} (hq:Q l s):
  wpAny (model prog w) A (oneLt' false x y) Q E s:=by
 rw [oneLt'_eq]
 simp only [qax,if_false]
 exact qaW (h prog w _ _ (wpAny_truthy_bool hq))
theorem ziH {E:Value->Shared->Prop} {Q:Bool->Shared->Prop} {u v:Value} {p q:Int×List Int} (hv:L3.zav s.heap v p) (hu:L3.zav s.heap u q) (hr:A.units+2<cLine) (h:Q (L3.pLt p q) s):
  wpAny (model prog w) A (keyLt' (tuples' true) v u) Q E s:=by
 obtain ⟨a,x,t,its,rfl,ha,hx,hi⟩:=hv
 obtain ⟨b,y,t',its',rfl,hb,hy,hj⟩:=hu
 refine zkg ha hb (r:=L3.pLt p q) ?_ h
 show Rs A s true [((.int p.1 t,.int q.1 t'),0),((.ref x,.ref y),1)] (decide (2<2)) _
 unfold L3.pLt
 have c0:EqAt A s (.int p.1 t) (.int q.1 t') (p.1==q.1):=EqAt.int_int _ _ _ _
 have c1:EqAt A s (.ref x) (.ref y) (p.2==q.2):=L3.zdg hx hy hi hj ⋯
 by_cases h1:p.1=q.1
 ·rw [qa4 h1]
  rw [show (p.1==q.1)=true by simpa using h1] at c0
  refine .eq c0 ?_
  by_cases h2:p.2=q.2
  ·rw [show (p.2==q.2)=true by simpa using h2] at c1
   rw [h2,L3.zbg]
   exact .eq c1 (.nil _)
  ·rw [show (p.2==q.2)=false by simpa using h2] at c1
   exact .ne c1 (λprog w E Q hq=>zlH (λprog w E Q hq=>HT.zeR hx hy (by simpa using hi) (by simpa using hj) ⋯ hq) hq)
 ·rw [qa5 h1]
  rw [show (p.1==q.1)=false by simpa using h1] at c0
  exact .ne c0 (λprog w E Q hq=>oneLt_int hq)
end
end TS
namespace TS
set_option autoImplicit false
open PyProof PySem.SeqAt
def zgL (h:Heap) (v:Value):Prop:= ∃ (a:Addr) (xs:Array Value) (n:Int) (t:Tok),v= .ref a/\IsTup h a xs/\xs[0]? = some (.int n t)
section
variable {prog:Program} {w:World} {A:Around} {s:Shared}
theorem zmD {v:Value} (h:zgL s.heap v) {E:Value->Shared->Prop}:wpAny (model prog w) A (firstOfTuple' v) (λr s'=>s'=s/\ ∃ n t,r=some (.int n t)) E s:=by
 obtain ⟨a,xs,n,t,rfl,⟨o,e1,e2,m,d⟩,hx⟩:=h
 refine qaW (wpAny_typeOf (T:="tuple") ⟨o,e1,e2⟩ ?_)
 have:(Value.type "tuple" != Value.type "tuple")=false:=by rfl
 rw [this]
 refine qaW (listItems_at e1 d (qaX ⟨rfl,n,t,hx⟩))
theorem zgu {E:Value->Shared->Prop}: ∀ (vs:List Value),(∀ v,v∈vs->zgL s.heap v)->wpAny (model prog w) A (vs.mapM firstOfTuple') (λr s'=>s'=s/\ ∃ us ns,IntsAre us ns/\r=us.map some/\us.length=vs.length) E s
 | [],_=>by rw [List.mapM_nil];exact qaX ⟨rfl,[],[],.nil,rfl,rfl⟩
 | v::vs,h=>by
  rw [List.mapM_cons]
  refine qaW (qaZ (zmD (h v (qau ..))) ?_ λ_ _ e=>e)
  rintro r s' ⟨es,n,t,rfl⟩
  rw [es]
  refine qaW (qaZ (zgu vs λu hu=>h u (qan _ hu)) ?_ λ_ _ e=>e)
  rintro r s' ⟨es,us,ns,h1,rfl,h3⟩
  rw [es]
  exact qaX ⟨rfl,.int n t::us,n::ns,.cons n t h1,rfl,by simp [h3]⟩
theorem zpm {vs:List Value} (h: ∀ v,v∈vs->zgL s.heap v) (h0:2<=vs.length) {E:Value->Shared->Prop} {Q:SortKind->Shared->Prop} (hq:Q (tuples' true) s):wpAny (model prog w) A (keyKind' vs.toArray) Q E s:=by
 rw [keyKind'_eq,List.mapM_toArray,map_eq_pure_bind,bind_assoc]
 refine qaW (qaZ (zgu vs h) ?_ λ_ _ e=>e)
 rintro r s' ⟨rfl,us,ns,h1,rfl,h3⟩
 rw [pure_bind]
 rw [qa4 (by simp)]
 refine qaW (wpAny_rule ?_)
 have e1:Array.filterMap id (us.map some).toArray=us.toArray:=by simp
 rw [e1,oneTypeOnly'_eq,List.mapM_toArray,mapM_typeOf_ints h1]
 simp only [map_pure,pure_bind]
 obtain ⟨u,us',rfl⟩: ∃ u us',us=u::us':=by
  cases us with
  | nil=>simp at h3;omega
  | cons u us'=>exact ⟨u,us',rfl⟩
 have hall:((List.map (λ_=>Value.type "int") (u::us')).toArray.all λx=>x==Value.type "int")=true:=by
  simp only [List.all_toArray,List.all_map,all_eq_true]
  intro _ _
  rfl
 have h0':(List.map (λ_=>Value.type "int") (u::us')).toArray[0]? = some (Value.type "int"):=by simp
 rw [h0']
 simp only [hall,if_true,pure_bind]
 exact qaX hq
end
theorem zns: ∀ a b c:List Int,HT.zaO a b=true->HT.zaO b c=true->HT.zaO a c=true
 | [],[],_,h,_=>by cases h
 | [],_::_,[],_,h=>by cases h
 | [],_::_,_::_,_,_=>rfl
 | _::_,[],_,h,_=>by cases h
 | _::_,_::_,[],_,h=>by cases h
 | x::a,y::b,z::c,h1,h2=>by
  rw [HT.za0] at h1 h2 ⊢
  have ih:=zns a b c
  split at h1<;>split at h2<;>split<;>simp_all<;>omega
theorem znd: ∀ a b c:List Int,HT.zaO a c=true->HT.zaO a b=true\/HT.zaO b c=true
 | [],_,[],h=>by cases h
 | [],[],_::_,_=> .inr rfl
 | [],_::_,_::_,_=> .inl rfl
 | _::_,_,[],h=>by cases h
 | _::_,[],_::_,_=> .inr rfl
 | x::a,y::b,z::c,h=>by
  rw [HT.za0] at h ⊢
  rw [HT.za0]
  have ih:=znd a b c
  split at h<;>split<;>split<;>simp_all<;>omega
theorem zno: ∀ a b:List Int,HT.zaO a b=false->HT.zaO b a=false->a=b
 | [],[],_,_=>rfl
 | [],_::_,h,_=>by cases h
 | _::_,[],_,h=>by cases h
 | x::a,y::b,h1,h2=>by
  rw [HT.za0] at h1 h2
  have ih:=zno a b
  split at h1<;>split at h2<;>simp_all<;>omega
theorem zn5 (a:Int×List Int):L3.pLt a a=false:=by unfold L3.pLt;rw [qa4 rfl,L3.zbg]
theorem zpH (a b c:Int×List Int) (h1:L3.pLt a b=true) (h2:L3.pLt b c=true):L3.pLt a c=true:=by
 unfold L3.pLt at*
 have:=zns a.2 b.2 c.2
 split at h1<;>split at h2<;>split<;>simp_all<;>omega
theorem zqq (a b c:Int×List Int) (h:L3.pLt a c=true):L3.pLt a b=true\/L3.pLt b c=true:=by
 unfold L3.pLt at*
 have:=znd a.2 b.2 c.2
 split at h<;>split<;>split<;>simp_all<;>omega
theorem zpz (a b:Int×List Int) (h1:L3.pLt a b=false) (h2:L3.pLt b a=false):a=b:=by
 unfold L3.pLt at*
 have:=zno a.2 b.2
 split at h1<;>split at h2<;>simp_all<;>first | omega | exact Prod.ext (Eq.symm (by assumption)) (by assumption)
noncomputable def znI:KeyOrd:=⟨Int×List Int,L3.pLt,zn5,zpH,zqq,zpz⟩
theorem zmV {h:Heap} {v:Value} {p q:Int×List Int} (h1:L3.zav h v p) (h2:L3.zav h v q):p=q:=by
 obtain ⟨a,x,t,its,rfl,⟨o,e1,_,n1,d1⟩,⟨o2,e2,_,n2,d2⟩,hi⟩:=h1
 obtain ⟨b,y,t',its',eb,⟨o',e1',_,n1',d1'⟩,⟨o2',e2',_,n2',d2'⟩,hj⟩:=h2
 cases eb
 rw [e1] at e1'
 cases e1'
 rw [d1] at d1'
 injection d1' with z1 _
 have z2:[Value.int p.1 t,.ref x]=[.int q.1 t',.ref y]:=by simpa using congrArg Array.toList z1
 injection z2 with y1 z3
 injection z3 with y2 _
 injection y1 with y1 _
 injection y2 with y2
 subst y2
 rw [e2] at e2'
 cases e2'
 rw [d2] at d2'
 injection d2' with z4 _
 have z5:its=its':=by simpa using congrArg Array.toList z4
 subst z5
 exact Prod.ext y1 (L3.zdT hi hj)
theorem zi0 {h:Heap} {v:Value} {p:Int×List Int} (h1:L3.zav h v p):zgL h v:=by
 obtain ⟨a,x,t,its,rfl,ha,_,_⟩:=h1
 exact ⟨a,_,p.1,t,rfl,ha,rfl⟩
structure KR where
 O:KeyOrd
 dflt:O.α
 At:Heap->Value->O.α->Prop
 inj: ∀ {h v p q},At h v p->At h v q->p=q
 keep: ∀ {h h':Heap} {v p},(∀ b o,h.get? b=some o->h'.get? b=some o)->At h v p->At h' v p
 first: ∀ {h v p},At h v p->zgL h v
 lt: ∀ {prog:Program} {w:World} {A:Around} {s:Shared} {E:Value->Shared->Prop} {Q:Bool->Shared->Prop} {u v p q},At s.heap v p->At s.heap u q->A.units+2<cLine->Q (O.blt p q) s->wpAny (model prog w) A (keyLt' (tuples' true) v u) Q E s
noncomputable def krP:KR:=⟨znI,(0,[]),L3.zav,zmV,L3.zav.keep,zi0,ziH⟩
open Classical in
noncomputable def KR.ky (k:KR) (h:Heap) (v:Value):k.O.α:=if e: ∃ p,k.At h v p then e.choose else k.dflt
theorem KR.ky_eq {k:KR} {h:Heap} {v:Value} {p:k.O.α} (e:k.At h v p):k.ky h v=p:=by
 unfold KR.ky
 rw [dif_pos ⟨p,e⟩]
 exact k.inj (Exists.choose_spec ⟨p,e⟩) e
theorem KR.srt (k:KR) {prog:Program} {w:World} {A:Around} {vs:List Value} {s1:Shared} (hr:A.units+2<cLine) (h: ∀ v,v∈vs-> ∃ p,k.At s1.heap v p):Srt prog w A vs s1 (tuples' true) k.O (k.ky s1.heap) (λv=> ∃ p,k.At s1.heap v p):=by
 refine ⟨h,λs2 hk=>⟨λh2 E Q hq=>zpm (λv hv=> ?_) h2 hq,λE x y Q hx hy hq=> ?_⟩⟩
 ·obtain ⟨p,hp⟩:=h v hv
  exact k.first (k.keep hk hp)
 ·obtain ⟨p,hp⟩:=hx
  obtain ⟨q,hq'⟩:=hy
  rw [KR.ky_eq hp,KR.ky_eq hq'] at hq
  exact k.lt (k.keep hk hp) (k.keep hk hq') hr hq
end TS
namespace TS
set_option autoImplicit false
theorem zkP {α β:Type} {R:α->β->Prop} {l l':List β} (hp:l'.Perm l): ∀ {as:List α},PySem.Paired R as l-> ∃ as',as'.Perm as/\PySem.Paired R as' l':=by
 induction hp with
 | nil=>intro as h;exact ⟨as,.refl _,h⟩
 | cons x _ ih=>
  intro as h
  cases h with
  | cons r t=>
   obtain ⟨as',h1,h2⟩:=ih t
   exact ⟨_::as',h1.cons _,.cons r h2⟩
 | swap x y l=>
  intro as h
  cases h with
  | cons r t=>
   cases t with
   | cons r2 t2=>exact ⟨_,.swap _ _ _,.cons r2 (.cons r t2)⟩
 | trans _ _ ih1 ih2=>
  intro as h
  obtain ⟨a1,g1,g2⟩:=ih2 h
  obtain ⟨a2,g3,g4⟩:=ih1 g2
  exact ⟨a2,g3.trans g1,g4⟩
noncomputable def zpu {α:Type} (lt:α->α->Bool) (x:α):List α->List α
 | []=>[x]
 | y::r=>if lt x y then x::y::r else y::zpu lt x r
noncomputable def zcZ {α:Type} (lt:α->α->Bool):List α->List α
 | []=>[]
 | x::r=>zpu lt x (zcZ lt r)
theorem zet {α:Type} (lt:α->α->Bool) (x:α): ∀ l:List α,(zpu lt x l).Perm (x::l)
 | []=> .refl _
 | y::r=>by
  unfold zpu
  split
  ·exact .refl _
  ·exact ((zet lt x r).cons y).trans (.swap _ _ _)
theorem zbX {α:Type} (lt:α->α->Bool): ∀ l:List α,(zcZ lt l).Perm l
 | []=> .refl _
 | x::r=>(zet lt x _).trans ((zbX lt r).cons x)
theorem zkc (O:KeyOrd) (x:O.α): ∀ l:List O.α,l.Pairwise O.kle->(zpu O.blt x l).Pairwise O.kle
 | [],_=>List.pairwise_singleton _ _
 | y::r,h=>by
  unfold zpu
  have h':=qay.mp h
  split
  ·rename_i hl
   refine qay.mpr ⟨λz hz=> ?_,h⟩
   rcases qaP.mp hz with rfl | hz
   ·exact KeyOrd.kle_of_klt hl
   ·exact KeyOrd.kle_trans (KeyOrd.kle_of_klt hl) (h'.1 z hz)
  ·rename_i hl
   refine qay.mpr ⟨λz hz=> ?_,zkc O x r h'.2⟩
   rcases qaP.mp ((zet _ _ _).mem_iff.mp hz) with rfl | hz
   ·exact KeyOrd.kle_of_not_klt hl
   ·exact h'.1 z hz
theorem zde (O:KeyOrd): ∀ l:List O.α,(zcZ O.blt l).Pairwise O.kle
 | []=> .nil
 | x::r=>zkc O x _ (zde O r)
theorem zfy (O:KeyOrd) {l l':List O.α} (hp:l'.Perm l) (hs:l'.Pairwise O.kle):l'=zcZ O.blt l:=
 List.Perm.eq_of_pairwise (le:=O.kle) (λa b _ _ h1 h2=>KeyOrd.kle_antisymm h1 h2) hs (zde O l) (hp.trans (zbX _ _).symm)
end TS
namespace L2
open TS
section
variable {X:L2.Cx}
theorem zg8 (k:KR) {VA:W.Frag->Hp->V->k.O.α->Prop} (of: ∀ {pins:List (Addr×Obj)} {σ:L2.St} {H:Hp} {s:Shared} {v:V} {u:Value} {p:k.O.α},Inv X pins σ H s->VA X.K H v p->zbp v u->k.At s.heap u p) (hu:X.A.units+60<cLine):
  zaH X (.builtin "sorted") (λxs H Q=> ∃ (a:Addr) (zs:List (V×k.O.α)),xs=[.ref a]/\SqL X.K H a (zs.map (·.1))/\(∀ z,z∈zs->VA X.K H z.1 z.2)/\
    ∀ zs':List (V×k.O.α),zs'.Perm zs->zs'.Pairwise (λx y=>k.O.kle x.2 y.2)-> ∀ l,H l=none->Q (.ref l) (upd H l (.lst (zs'.map (·.1))))):=by
 intro pins s σ H xs us Q I r h
 obtain ⟨a,zs,rfl,hq,hv,q⟩:=h
 obtain ⟨u,rfl,rx⟩:=zdM r
 cases rx
 obtain ⟨its,r',pl,hz⟩:=I.list hq
 have lz:its.length=zs.length:=by rw [<- r'.length,qaH]
 have mk: ∀ {zs:List (V×k.O.α)} {its:List Value},zaS (zs.map (·.1)) its->(∀ z,z∈zs->VA X.K H z.1 z.2)->PySem.Paired (λz u=>zbp z.1 u/\k.At s.heap u z.2) zs its:=by
  intro zs
  induction zs with
  | nil=>intro its h _;cases h;exact .nil
  | cons z zs ih=>
   intro its h hv
   cases h with
   | cons r t=>exact .cons ⟨r,of I (hv z (qau ..)) r⟩ (ih t λy hy=>hv y (qan _ hy))
 have hp:=mk r' hv
 have back: ∀ {zs:List (V×k.O.α)} {its:List Value},PySem.Paired (λz u=>zbp z.1 u/\k.At s.heap u z.2) zs its->zaS (zs.map (·.1)) its/\(its.Pairwise (λx y=>k.O.kle (k.ky s.heap x) (k.ky s.heap y))->zs.Pairwise (λx y=>k.O.kle x.2 y.2))/\(∀ u,u∈its-> ∃ p,k.At s.heap u p)/\ ∀ y,y∈zs-> ∃ u,u∈its/\k.ky s.heap u=y.2:=by
  intro zs its h
  induction h with
  | nil=>exact ⟨.nil,λ_=> .nil,λu hu=>(qaF hu).elim,λu hu=>(qaF hu).elim⟩
  | cons r t ih=>
   obtain ⟨i1,i2,i3,i4⟩:=ih
   refine ⟨.cons r.1 i1,λhh=> ?_,λu hu=> ?_,λy hy=> ?_⟩
   ·have hh':=qay.mp hh
    refine qay.mpr ⟨λy hy=> ?_,i2 hh'.2⟩
    obtain ⟨u,u1,u2⟩:=i4 y hy
    have:=hh'.1 u u1
    rw [u2,KR.ky_eq r.2] at this
    exact this
   ·rcases qaP.mp hu with rfl | hu
    ·exact ⟨_,r.2⟩
    ·exact i3 u hu
   ·rcases qaP.mp hy with rfl | hy
    ·exact ⟨_,qau .., KR.ky_eq r.2⟩
    ·obtain ⟨u,u1,u2⟩:=i4 y hy
     exact ⟨u,qan _ u1,u2⟩
 have zl:its.length<=sizeLine:=by rw [lz, <-qaH (f:=(·.1))];exact hz
 refine zi5 λE'=>collect_list pl.isList ?_ zl
 have kp: ∀ b ob,s.heap.get? b=some ob->((s.heap.push (seqObj "list" #[] 0)).update s.heap.objs.size (Obj.mapSeq λx=>x++its.toArray)).get? b=some ob:=λb ob eb=>
  (qah _ _ (λz=>qaN _ (z▸qaQ eb))).trans (qag _ eb)
 refine ⟨zl,_,_,_,_,k.srt (by rw [Around.in1_units,Around.in1_units];omega) (λv hv=> ?_),λout e h' ho hs k2 e2=> ?_⟩
 ·obtain ⟨p,hp'⟩:=(back hp).2.2.1 v hv
  exact ⟨p,k.keep kp hp'⟩
 ·obtain ⟨zs',g1,g2⟩:=zkP ho hp
  obtain ⟨b1,b2,b3,_⟩:=back g2
  have I1:=I.grown (s':={s with heap:=(s.heap.push (seqObj "list" #[] 0)).update s.heap.objs.size (Obj.mapSeq λx=>x++its.toArray)}) rfl rfl kp
  refine ⟨.ref _,_,I1.laid (t':=s.toks) (o:= .lst (zs'.map (·.1))) k2 (qaV _) ⟨?_,out,e,b1,e2⟩,rfl,q zs' g1 (b2 ?_) _ (I1.hok.fresh (qaV _))⟩
  ·rw [qaH,g1.length_eq, <-lz]
   exact zl
  ·refine List.Pairwise.imp_of_mem ?_ hs
   intro x y hx hy hxy
   obtain ⟨p,hp'⟩:=b3 x hx
   obtain ⟨q',hq'⟩:=b3 y hy
   rw [KR.ky_eq (k.keep kp hp'),KR.ky_eq (k.keep kp hq')] at hxy
   rw [KR.ky_eq hp',KR.ky_eq hq']
   exact hxy
end
end L2
namespace L3
open L2 TS
section
variable {X:L2.Cx} {E:XE}
def mkP (p:Int×List Int):D:= .tup [.int p.1,.tup (p.2.map D.int)]
theorem zii: ∀ {ds:List D} {ns:List Int},zcn ds=some ns->ds=ns.map D.int
 | [],ns,e=>by cases e;rfl
 | d::r,ns,e=>by
  unfold zcn at e
  cases d with
  | int i=>
   dsimp only at e
   cases z:zcn r with
   | none=>rw [z] at e;cases e
   | some ms=>
    rw [z] at e
    cases e
    rw [qaM,zii z]
  | _=>cases e
theorem zkS {d:D} {p:Int×List Int} (e:zbr d=some p):d=mkP p:=by
 unfold zbr at e
 split at e
 ·rename_i i ds
  cases z:zcn ds with
  | none=>rw [z] at e;cases e
  | some ns=>
   rw [z] at e
   cases e
   rw [zii z]
   rfl
 ·cases e
def zfS {α:Type} (f:D->Option α):List D->Option (List α)
 | []=>some []
 | d::r=>(f d).bind λp=>(zfS f r).map λps=>p::ps
theorem zd5: ∀ ds:List D,zfS zbr ds=zbL ds
 | []=>rfl
 | d::r=>by unfold zfS zbL;rw [zd5 r]
def zkl {α:Type} (f:D->Option α) (mk:α->D) (lt:α->α->Bool):List D->M D:=zm0 λd=>do
 let ds<-zjl d
 let ps<-ofO (match d with | .tup _=>none | _=>zfS f ds)
 pure (.lst ((zcZ lt ps).map mk))
def zgj:List D->M D:=zkl zbr mkP pLt
theorem zgT {α:Type} {f:D->Option α} {mk:α->D} {K:W.Frag} {ι:Io} {H:Hp} {VA:V->α->Prop} (hf: ∀ {d v p},Rel K ι H d v->f d=some p->d=mk p/\VA v p): ∀ {ds:List D} {vs:List V} {ps:List α},zam K ι H ds vs->zfS f ds=some ps->
  ∃ zs:List (V×α),zs.map (·.1)=vs/\zs.map (·.2)=ps/\ ∀ z,z∈zs->VA z.1 z.2/\Rel K ι H (mk z.2) z.1
 | [],vs,ps,h,e=>by
  simp only [zam] at h
  subst h
  cases e
  exact ⟨[],rfl,rfl,λz hz=>(qaF hz).elim⟩
 | d::r,vs,ps,h,e=>by
  simp only [zam] at h
  obtain ⟨v,r',rfl,h1,h2⟩:=h
  unfold zfS at e
  cases z:f d with
  | none=>rw [z] at e;cases e
  | some p=>
   rw [z] at e
   cases z2:zfS f r with
   | none=>rw [z2] at e;cases e
   | some qs=>
    rw [z2] at e
    cases e
    obtain ⟨zs,g1,g2,g3⟩:=zgT hf h2 z2
    obtain ⟨k1,k2⟩:=hf h1 z
    refine ⟨(v,p)::zs,by rw [qaM,g1],by rw [qaM,g2],λy hy=> ?_⟩
    rcases qaP.mp hy with rfl | hy
    ·exact ⟨k2,k1▸h1⟩
    ·exact g3 y hy
theorem zh9 {α:Type} {mk:α->D} {K:W.Frag} {ι:Io} {H:Hp}: ∀ {zs:List (V×α)},(∀ z,z∈zs->Rel K ι H (mk z.2) z.1)->zam K ι H ((zs.map (·.2)).map mk) (zs.map (·.1))
 | [],_=>by simp [zam]
 | z::zs,h=>by
  simp only [qaM,zam]
  exact ⟨_,_,rfl,h z (qau ..),zh9 λy hy=>h y (qan _ hy)⟩
theorem zht (k:KR) {f:D->Option k.O.α} {mk:k.O.α->D} {VA:W.Frag->Hp->V->k.O.α->Prop} (of: ∀ {pins:List (Addr×Obj)} {σ:L2.St} {H:Hp} {s:Shared} {v:V} {u:Value} {p:k.O.α},Inv X pins σ H s->VA X.K H v p->zbp v u->k.At s.heap u p)
  (hf: ∀ {ι:Io} {H:Hp} {d:D} {v:V} {p:k.O.α},Rel X.K ι H d v->f d=some p->d=mk p/\VA X.K H v p) (hu:X.A.units+60<cLine):zaH X (.builtin "sorted") (zi9 X.K E (zkl f mk k.O.blt)):=by
 refine zaH.imp (zg8 k of hu) λxs H Q ⟨ι,h,ds,rl,hr,q⟩=> ?_
 obtain ⟨d,v,e,r,q⟩:=zc9 rl q
 obtain ⟨a,vs,ds',e',hs,rl',q⟩:=zb4 hr r q
 obtain ⟨ps,ep,q⟩:=Fin.ofOb q
 rcases hs with ⟨hs,hd⟩ | ⟨hs,hd⟩
 ·have ep':zfS f ds'=some ps:=by
   cases d with
   | tup ts=>exact absurd rfl (hd ts)
   | _=>exact ep
  obtain ⟨zs,g1,g2,g3⟩:=zgT (VA:=VA X.K H) hf rl' ep'
  refine ⟨a,zs,by rw [e,e'],by rw [g1];exact hs,λz hz=>(g3 z hz).1,λzs' hp hw l hl=> ?_⟩
  have e3:zs'.map (·.2)=zcZ k.O.blt ps:=by
   refine zfy k.O ?_ ?_
   ·rw [<- g2];exact hp.map _
   ·rw [pairwise_map];exact hw
  refine zoW (E:=E) hr (zh9 (mk:=mk) (zs:=zs') λz hz=>(g3 z (hp.mem_iff.mp hz)).2) ?_ hl
  rw [e3]
  exact q
 ·subst hd
  cases ep
theorem zeg (hu:X.A.units+60<cLine):zaH X (.builtin "sorted") (zi9 X.K E zgj):=
 zht krP (VA:=zi7) (λI h r=>zbF I h r) (λr e=>⟨zkS e,zbx r e⟩) hu
end
end L3
namespace L3
open L2
section
variable {X:Cx} {E:XE}
def zl7:D->Option Bool
 | .non=>some true
 | .int _=>some false
 | .tup _=>some false
 | .lst _=>some false
 | _=>none
def zsB (x y:D):M D:=match y with
 | .non=>do let b<-ofO (zl7 x);pure (.bl b)
 | _=>M.bad
def zjF (x y:D):M D:=match y with
 | .non=>do let b<-ofO (zl7 x);pure (.bl (!b))
 | _=>M.bad
theorem zin {K:W.Frag} {ι:Io} {H:Hp} {x:D} {v:V} {u:Value} {b:Bool} (r:Rel K ι H x v) (rv:zbp v u) (e:zl7 x=some b):(u=Value.none/\b=true)\/(u≠Value.none/\b=false):=by
 cases x with
 | non=>
  simp only [Rel] at r
  subst r
  cases rv
  cases e
  exact .inl ⟨rfl,rfl⟩
 | int i=>
  simp only [Rel] at r
  subst r
  obtain ⟨t,rfl⟩:=rv
  cases e
  exact .inr ⟨(λz=>by cases z),rfl⟩
 | tup ds=>
  obtain ⟨a,vs,rfl,_,_⟩:=zbY r
  cases rv
  cases e
  exact .inr ⟨(λz=>by cases z),rfl⟩
 | lst ds=>
  obtain ⟨a,vs,rfl,_,_⟩:=zez r
  cases rv
  cases e
  exact .inr ⟨(λz=>by cases z),rfl⟩
 | _=>cases e
theorem znw:OpR X (compareOp .Is) (zcw X.K E zsB):=by
 intro pins s σ H x y v u Q I rx ry ⟨ι,h,d1,d2,r1,r2,hr,q⟩
 cases d2 with
 | non=>
  obtain ⟨b,eb,q⟩:=Fin.ofOb (show Fin X.K E ι H ((do let b<-ofO (zl7 d1);pure (.bl b):M D) h) _ from q)
  simp only [Rel] at r2
  subst r2
  cases ry
  rcases zin r1 rx eb with ⟨rfl,rfl⟩ | ⟨hv,rfl⟩
  ·exact is_none_none (ze3 I (Fin.out hr q _ (by simp [Rel])) rfl)
  ·exact is_none_ne hv (ze3 I (Fin.out hr q _ (by simp [Rel])) rfl)
 | _=>exact qa0 q
theorem zjP:OpR X (compareOp .IsNot) (zcw X.K E zjF):=by
 intro pins s σ H x y v u Q I rx ry ⟨ι,h,d1,d2,r1,r2,hr,q⟩
 cases d2 with
 | non=>
  obtain ⟨b,eb,q⟩:=Fin.ofOb (show Fin X.K E ι H ((do let b<-ofO (zl7 d1);pure (.bl (!b)):M D) h) _ from q)
  simp only [Rel] at r2
  subst r2
  cases ry
  rcases zin r1 rx eb with ⟨rfl,rfl⟩ | ⟨hv,rfl⟩
  ·exact isnot_none_none (ze3 I (Fin.out hr q _ (by simp [Rel])) rfl)
  ·exact isnot_none_ne hv (ze3 I (Fin.out hr q _ (by simp [Rel])) rfl)
 | _=>exact qa0 q
end
section
variable {X:Cx} {E:XE} {scope:Scope} {N:List Str} {src:List (Option Nat)} {tg iter elt:Expr} {ifs:List Expr} {pos:Pos}
end
end L3
namespace L3
open PySem.Sem (wp)
open PySem.AutoSeq1 (wpAny_loadPart')
section
variable {prog:Program} {w:World} {A:Around} {E:Value->Shared->Prop} {s:Shared}
end
end L3
namespace L2
section
variable {X:Cx} {elts:List Expr} {k:Nat} {tpos:Pos}
end
end L2
namespace L3
open L2
section
variable {X:Cx} {E:XE} {elts:List Expr} {k:Nat} {tpos pos:Pos}
end
end L3
namespace L2
section
variable {κ:Type} [DecidableEq κ]
end
section
variable {X:Cx}
end
end L2
namespace L3
open L2
section
variable {X:L2.Cx} {E:XE}
end
open LT
section
variable {h:Hh}
end
end L3
namespace L3
open L2
structure Fd (K:W.Frag) (x:Str) (st:Stmt) (a:Addr) (d:FuncData):Prop where
 e:W.nsIn K mainGlobals x=some (some (.ref a))
 F:Fun K x x st a d
section
variable {X:Cx} {E:XE}
end
end L3
namespace L3
open HT
theorem zia (A:Around) (s:Shared) (a:Int) (t:Tok) (c:Int) (u:Tok) (prog:Program) (w:World) (E:Value->Shared->Prop) (Q:Value->Shared->Prop) (h:Q (.bool (decide (c<a))) s):
  wpAny (model prog w) A (richCompare .Gt (.int a t) (.int c u)) Q E s:=(gt_int h:wpAny (model prog w) A (compareOp .Gt (.int a t) (.int c u)) Q E s)
section
open PySem.SeqAt
open PySem.AutoSeq1 (wpAny_loadPart')
open PySem.MeetsSeq PySem.MeetsSeq2 PySem.MeetsSeq3
theorem zfT (l b:Addr) (items items2:Array Value) (n n2:Nat) (dd dd2:Option Addr) (sl sl2:Array (Option Value)) (ns ms:List Int) (hi:IntsAre items.toList ns) (hj:IntsAre items2.toList ms):
  Meets (Builtin.«tuple.__gt__» ⟨[.ref l,.ref b],[]⟩)
   (λ_ R s=>s.heap.get? l=some {cls:= .type "tuple",dict:=dd,data:= .seq items n,slots:=sl}/\s.heap.get? b=some {cls:= .type "tuple",dict:=dd2,data:= .seq items2 n2,slots:=sl2}/\
     R (.ok (.ret (.bool (zaO ms ns)))) s):=
 .of_wp λprog w A R s h=>by
  obtain ⟨hp,g,d,tk,os⟩:=s;obtain ⟨hl,hb,h⟩:=h
  have f2:=AutoSeq1.sub_tuple_tuple
  have z1:items.size=ns.length:=by rw [<- hi.length];simp
  have z2:items2.size=ms.length:=by rw [<- hj.length];simp
  wp_walk using wpAny_loadPart' hl,wpAny_loadPart' hb,wpAny_forIn_list _ (λzaT b s'=>b.1=none/\s'=⟨hp,g,d,tk,os⟩/\ ∃ (vs ws:List Value) (ns' ms':List Int),zaT=vs.zip ws/\
    IntsAre vs ns'/\IntsAre ws ms'/\ns'.length+items2.size=ms'.length+items.size/\R (.ok (.ret (.bool (zaO ms' ns')))) ⟨hp,g,d,tk,os⟩) _
  case turn=>
   rintro ⟨y,x⟩ zaT b s' ⟨hb',rfl,vs,ws,ns',ms',hz,hvi,hwi,hlen,hR⟩
   cases hvi with
   | nil=>rw [List.zip_nil_left] at hz;cases hz
   | cons a t hvi'=>
    cases hwi with
    | nil=>rw [List.zip_nil_right] at hz;cases hz
    | cons c u hwi'=>
     rw [List.zip_cons_cons] at hz
     injection hz with hyx hrest
     injection hyx with hy hx
     subst hy hx
     rw [za0] at hR
     simp only [qaE] at hlen
     obtain ⟨e,he,hiff⟩:=zhU A.in1 ⟨hp,g,d,tk,os⟩ a t c u
     refine qaW (he prog w _ _ ?_)
     cases e with
     | true=>
      rw [qa4 ((hiff.mp rfl).symm)] at hR
      wp_walk
      exact ⟨rfl,rfl,_,_,_,_,hrest,hvi',hwi',⋯,hR⟩
     | false=>
      rw [qa5 (λq=>absurd (hiff.mpr q.symm) Bool.false_ne_true)] at hR
      have hri:=zia A.in1 ⟨hp,g,d,tk,os⟩ a t c u prog w
      wp_walk using hri
      exact ⟨_,rfl,by simpa using hR⟩
  case fin=>
   rintro ⟨b1,b2⟩ s' ⟨hb',rfl,vs,ws,ns',ms',hz,hvi,hwi,hlen,hR⟩
   simp only at hb'
   subst hb'
   have hv:zaO ms' ns'=decide (items.size>items2.size):=by
    cases hvi with
    | nil=>
     cases hwi with
     | nil=>
      simp only [qaJ] at hlen
      rw [zdo]
      exact (decide_eq_false ⋯).symm
     | cons c u hw=>
      simp only [qaJ,qaE] at hlen
      rw [zcL]
      exact (decide_eq_false ⋯).symm
    | cons a t hv=>
     cases hwi with
     | nil=>
      simp only [qaJ,qaE] at hlen
      rw [zcO]
      exact (decide_eq_true ⋯).symm
     | cons c u hw=>
      rw [List.zip_cons_cons] at hz
      cases hz
   rw [hv] at hR
   wp_walk
   exact ⟨_,rfl,by simpa [Builtin.Tuple.tupleCompareSizes] using hR⟩
  case h=>
   exact ⟨rfl,rfl,items.toList,items2.toList,ns,ms,rfl,hi,hj,⋯,h⟩
end
section
variable {prog:Program} {w:World} {A:Around} {E:Value->Shared->Prop} {s:Shared}
theorem ziF {l b:Addr} {items items2:Array Value} {ns ms:List Int} {Q:Value->Shared->Prop} (hl:IsTup s.heap l items) (hb:IsTup s.heap b items2) (hi:IntsAre items.toList ns) (hj:IntsAre items2.toList ms)
  (hu:A.units<cLine) (h:Q (.bool (zaO ms ns)) s):wpAny (model prog w) A (compareOp .Gt (.ref l) (.ref b)) Q E s:=by
 obtain ⟨⟨cls,dd,data,sl⟩,ho,hc,n,hd⟩:=id hl
 obtain ⟨⟨cls2,dd2,data2,sl2⟩,ho2,hc2,n2,hd2⟩:=id hb
 simp only at hc hd hc2 hd2
 subst hc hd hc2 hd2
 exact richCompare_meets_room (op:= .Gt) ⟨_,ho,rfl⟩ ⟨_,ho2,rfl⟩ PySem.F.slot_tuple_gt PySem.F.entry_tuple_gt (PySem.F.args_tuple_gt_2 _ _) (zfT l b items items2 n n2 dd dd2 sl sl2 ns ms hi hj)
  ⟨ho,ho2,show Value.bool (zaO ms ns)≠Value.notImplemented/\Q (.bool (zaO ms ns)) s from ⟨(λx=>nomatch x),h⟩⟩ hu
end
end L3
namespace L3
section
open PySem.SeqAt
open PySem.AutoSeq1 (wpAny_loadPart')
open PySem.MeetsSeq PySem.MeetsSeq2 PySem.MeetsSeq3
def zrW (A:Around) (s:Shared) (a b:Value) (e l:Bool):Prop:=EqAt A s a b e/\(e=false-> ∀ (prog:Program) (w:World) (E Q:Value->Shared->Prop),Q (.bool l) s->wpAny (model prog w) A (richCompare .Gt a b) Q E s)
theorem zgI (l b:Addr) (a0 a1 b0 b1:Value) (n n2:Nat) (dd dd2:Option Addr) (sl sl2:Array (Option Value)) (e0 l0 e1 l1:Bool):
  Meets (Builtin.«tuple.__gt__» ⟨[.ref l,.ref b],[]⟩)
   (λA R s=>s.heap.get? l=some {cls:= .type "tuple",dict:=dd,data:= .seq #[a0,a1] n,slots:=sl}/\s.heap.get? b=some {cls:= .type "tuple",dict:=dd2,data:= .seq #[b0,b1] n2,slots:=sl2}/\
     zrW A.in1 s a0 b0 e0 l0/\zrW A.in1 s a1 b1 e1 l1/\R (.ok (.ret (.bool (if e0=true then (if e1=true then false else l1) else l0)))) s):=
 .of_wp λprog w A R s h=>by
  obtain ⟨hp,g,d,tk,os⟩:=s;obtain ⟨hl,hb,c0,c1,h⟩:=h
  have f2:=AutoSeq1.sub_tuple_tuple
  wp_walk using wpAny_loadPart' hl,wpAny_loadPart' hb,wpAny_forIn_list _ (λzaT b s'=>b.1=none/\s'=⟨hp,g,d,tk,os⟩/\
    (zaT=[(a0,b0),(a1,b1)]\/(zaT=[(a1,b1)]/\e0=true)\/(zaT=[]/\e0=true/\e1=true))) _
  case turn=>
   rintro ⟨y,x⟩ zaT b s' ⟨hb',rfl,hz⟩
   rcases hz with hz | ⟨hz,z0⟩ | ⟨hz,_⟩
   ·cases hz
    refine qaW (c0.1 prog w _ _ ?_)
    cases e0 with
    | true=>
     wp_walk
     exact ⟨rfl,rfl,.inr (.inl ⟨rfl,rfl⟩)⟩
    | false=>
     have hri:=c0.2 rfl prog w
     wp_walk using hri
     exact ⟨_,rfl,by simpa using h⟩
   ·cases hz
    subst z0
    refine qaW (c1.1 prog w _ _ ?_)
    cases e1 with
    | true=>
     wp_walk
     exact ⟨rfl,rfl,.inr (.inr ⟨rfl,rfl,rfl⟩)⟩
    | false=>
     have hri:=c1.2 rfl prog w
     wp_walk using hri
     exact ⟨_,rfl,by simpa using h⟩
   ·cases hz
  case fin=>
   rintro ⟨b1',b2'⟩ s' ⟨hb',rfl,hz⟩
   simp only at hb'
   subst hb'
   rcases hz with hz | ⟨hz,_⟩ | ⟨_,z0,z1⟩
   ·cases hz
   ·cases hz
   ·subst z0 z1
    wp_walk
    exact ⟨_,rfl,by simpa [Builtin.Tuple.tupleCompareSizes] using h⟩
  case h=>
   exact ⟨rfl,rfl,.inl rfl⟩
section
variable {prog:Program} {w:World} {A:Around} {E:Value->Shared->Prop} {s:Shared}
theorem zp8 {l b:Addr} {a0 a1 b0 b1:Value} {e0 l0 e1 l1:Bool} {Q:Value->Shared->Prop} (hl:IsTup s.heap l #[a0,a1]) (hb:IsTup s.heap b #[b0,b1]) (c0:zrW A.in1 s a0 b0 e0 l0) (c1:zrW A.in1 s a1 b1 e1 l1)
  (hu:A.units<cLine) (h:Q (.bool (if e0=true then (if e1=true then false else l1) else l0)) s):wpAny (model prog w) A (richCompare .Gt (.ref l) (.ref b)) Q E s:=by
 obtain ⟨⟨cls,dd,data,sl⟩,ho,hc,n,hd⟩:=id hl
 obtain ⟨⟨cls2,dd2,data2,sl2⟩,ho2,hc2,n2,hd2⟩:=id hb
 simp only at hc hd hc2 hd2
 subst hc hd hc2 hd2
 exact richCompare_meets_room (op:= .Gt) ⟨_,ho,rfl⟩ ⟨_,ho2,rfl⟩ PySem.F.slot_tuple_gt PySem.F.entry_tuple_gt (PySem.F.args_tuple_gt_2 _ _) (zgI l b a0 a1 b0 b1 n n2 dd dd2 sl sl2 e0 l0 e1 l1)
  ⟨ho,ho2,c0,c1,show Value.bool _≠Value.notImplemented/\Q (.bool _) s from ⟨(λx=>nomatch x),h⟩⟩ hu
theorem zk3 {u v:Value} {p q:Int×List Int} {Q:Value->Shared->Prop} (hv:zav s.heap v p) (hu:zav s.heap u q) (hr:A.units+2<cLine) (h:Q (.bool (pLt q p)) s):wpAny (model prog w) A (richCompare .Gt v u) Q E s:=by
 obtain ⟨a,x,t,its,rfl,ha,hx,hi⟩:=hv
 obtain ⟨b,y,t',its',rfl,hb,hy,hj⟩:=hu
 have r1:A.in1.units<cLine:=by rw [Around.in1_units];omega
 refine zp8 (e0:=(p.1==q.1)) (l0:=decide (q.1<p.1)) (e1:=(p.2==q.2)) (l1:=HT.zaO q.2 p.2) ha hb ⟨EqAt.int_int _ _ _ _,λ_ prog w E Q hq=>zia _ _ _ _ _ _ prog w E Q hq⟩
  ⟨zdg hx hy hi hj r1,λ_ prog w E Q hq=>ziF hx hy (by simpa using hi) (by simpa using hj) r1 hq⟩ ⋯ ?_
 have e:(if (p.1==q.1)=true then (if (p.2==q.2)=true then false else HT.zaO q.2 p.2) else decide (q.1<p.1))=pLt q p:=by
  unfold pLt
  by_cases h1:p.1=q.1
  ·rw [qa4 (by simpa using h1),qa4 h1.symm]
   by_cases h2:p.2=q.2
   ·rw [qa4 (by simpa using h2),h2,zbg]
   ·rw [qa5 (by simpa using h2)]
  ·rw [qa5 (by simpa using h1),qa5 (Ne.symm h1)]
 rw [e]
 exact h
end
end
open L2
section
variable {X:Cx} {E:XE}
def zrc (x y:D):M D:=do
 let p<-ofO (zbr x)
 let q<-ofO (zbr y)
 pure (.bl (pLt p q))
def zqs (x y:D):M D:=do
 let p<-ofO (zbr x)
 let q<-ofO (zbr y)
 pure (.bl (pLt q p))
theorem zpD (hu:X.A.units+60<cLine):OpR X (compareOp .Lt) (zcw X.K E zrc):=by
 intro pins s σ H x y v u Q I rx ry ⟨ι,h,d1,d2,r1,r2,hr,q⟩
 unfold zrc at q
 obtain ⟨p,ep,q⟩:=Fin.ofOb q
 obtain ⟨p2,ep2,q⟩:=Fin.ofOb q
 exact zhJ (zbF I (zbx r1 ep) rx) (zbF I (zbx r2 ep2) ry) ⋯ ⟨.bl (pLt p p2),H,I,rfl,Fin.out hr q _ (by simp [Rel])⟩
theorem zq1 (hu:X.A.units+60<cLine):OpR X (compareOp .Gt) (zcw X.K E zqs):=by
 intro pins s σ H x y v u Q I rx ry ⟨ι,h,d1,d2,r1,r2,hr,q⟩
 unfold zqs at q
 obtain ⟨p,ep,q⟩:=Fin.ofOb q
 obtain ⟨p2,ep2,q⟩:=Fin.ofOb q
 exact zk3 (zbF I (zbx r1 ep) rx) (zbF I (zbx r2 ep2) ry) ⋯ ⟨.bl (pLt p2 p),H,I,rfl,Fin.out hr q _ (by simp [Rel])⟩
end
end L3
namespace LT
open SetTable
structure Tc (t:SetTable) (n:Nat) (led:Bool):Prop where
 up:Up t.place
 nod:t.dummies= #[]
 led:t.led=led
 sz:t.place.size=n
 le: ∀ j∈t.place.toList,j<=t.mask
 mm:t.mask=7\/t.mask=31
structure Tb (t:SetTable) (n:Nat) (led:Bool):Prop extends Tc t n led where
 room:n*5<t.mask*3
theorem zmR {xs:Array Nat} (h:Up xs) {j:Nat} (m:j∈xs.toList):xs[below xs j]? = some j:=by
 obtain ⟨i0,e0⟩:=List.mem_iff_getElem?.mp m
 have e0:xs[i0]? = some j:=by simpa using e0
 obtain ⟨h1,h2,h3⟩:=zcG h j
 by_cases c:i0<below xs j
 ·exact absurd (h2 i0 j c e0) (qaN _)
 ·by_cases c2:i0=below xs j
  ·rw [<- c2,e0]
  ·have hl:=(qab.mp e0).1
   have e1:xs[below xs j]? = some xs[below xs j]:=by
    have:below xs j<xs.size:=by omega
    simp [this]
   have a1:=h3 _ _ (qaV _) e1
   have a2:=h.lt e1 e0 ⋯
   omega
theorem zkz: ∀ {a b:List Nat},a.Nodup->(∀ x∈a,x∈b)->a.length<=b.length
 | [],_,_,_=>zero_le _
 | x::r,b,hn,hs=>by
  obtain ⟨h1,h2⟩:=nodup_cons.mp hn
  have hx:=hs x qau
  have ih:=zkz (b:=b.erase x) h2 λy hy=>(List.mem_erase_of_ne (λ(e:y=x)=>h1 (by rw [<- e];exact hy))).mpr (hs y (qan _ hy))
  rw [List.length_erase_of_mem hx] at ih
  have:=List.length_pos_of_mem hx
  rw [qaE]
  omega
section
variable {t:SetTable} {n:Nat} {led:Bool}
theorem Tb.slot (g:Tb t n led) (j:Nat):(t.slot j= .empty/\j∉t.place.toList)\/ ∃ i,t.slot j= .live i/\t.place[i]? = some j:=by
 unfold SetTable.slot
 dsimp only
 by_cases c:t.place[below t.place j]? = some j
 ·rw [qa4 (by simpa using c)]
  exact .inr ⟨_,rfl,c⟩
 ·rw [qa5 (by simpa using c),g.nod,zd1]
  exact .inl ⟨rfl,λm=>c (zmR g.up m)⟩
theorem Tb.free (g:Tb t n led): ∃ s,s<=t.mask/\t.slot s= .empty:=by
 by_cases c: ∀ s∈List.range (t.mask+1),s∈t.place.toList
 ·exfalso
  have:=zkz List.nodup_range c
  rw [length_range,qas,g.sz] at this
  have:=g.room
  omega
 ·have ⟨s,hs⟩:=Classical.not_forall.mp c
  have ⟨h1,h2⟩:=Classical.not_imp.mp hs
  refine ⟨s,by rw [mem_range] at h1;omega,?_⟩
  rcases g.slot s with z | ⟨i,z,e⟩
  ·exact z.1
  ·exact absurd (Array.mem_toList_iff.mpr (Array.mem_of_getElem? e)) h2
end
def lpN (mask:Nat):Nat->Nat×Nat->Nat×Nat
 | 0,q=>q
 | k+1,q=>lpN mask k (leap mask q.1 q.2)
theorem zkD {mask:Nat}: ∀ {a b:Nat} {q:Nat×Nat},lpN mask (a+b) q=lpN mask b (lpN mask a q)
 | 0,b,q=>by rw [zero_add];rfl
 | a+1,b,q=>by rw [Nat.add_right_comm];exact zkD (a:=a)
theorem zkJ {mask:Nat}: ∀ {k:Nat} {q:Nat×Nat},(lpN mask k q).2=q.2 / 32^k
 | 0,q=>by simp [lpN]
 | k+1,q=>by
  show (lpN mask k (leap mask q.1 q.2)).2=_
  rw [zkJ,Nat.pow_succ,Nat.mul_comm, <-Nat.div_div_eq_div_mul]
  rfl
theorem zm9 {mask:Nat}: ∀ {k:Nat} {q:Nat×Nat},q.1<=mask->(lpN mask k q).1<=mask
 | 0,q,h=>h
 | k+1,q,h=>zm9 (k:=k) (Nat.le_of_lt_succ (mod_lt _ (succ_pos _)))
theorem zp5: ∀ i,i<8-> ∀ s,s<8-> ∃ r,r<8/\(lpN 7 r (i,0)).1=s:=by decide +kernel
theorem zoo: ∀ i,i<32-> ∀ s,s<32-> ∃ r,r<32/\(lpN 31 r (i,0)).1=s:=by decide +kernel
theorem zq7 {mask:Nat} (hm:mask=7\/mask=31) {i p s:Nat} (hi:i<=mask) (hp:p<2^64) (hs:s<=mask): ∃ k,k<turns mask/\(lpN mask k (i,p)).1=s:=by
 have h0:(lpN mask 13 (i,p)).2=0:=by
  rw [zkJ]
  exact Nat.div_eq_of_lt (lt_trans hp ⋯)
 have h1:(lpN mask 13 (i,p)).1<=mask:=zm9 hi
 have h2: ∃ r,r<mask+1/\(lpN mask r ((lpN mask 13 (i,p)).1,0)).1=s:=by
  rcases hm with rfl | rfl
  ·exact zp5 _ ⋯ _ ⋯
  ·exact zoo _ ⋯ _ ⋯
 obtain ⟨r,hr,e⟩:=h2
 refine ⟨13+r,by unfold turns;omega,?_⟩
 rw [zkD, <-e, <-h0]
theorem zm2 (h:Int):bits h<2^64:=by
 unfold bits
 omega
def adv (t:SetTable):Nat->Probe->Probe
 | 0,p=>p
 | k+1,p=>adv t k (t.advance p)
theorem zhi {t:SetTable}: ∀ {a b:Nat} {p:Probe},adv t (a+b) p=adv t b (adv t a p)
 | 0,b,p=>by rw [zero_add];rfl
 | a+1,b,p=>by rw [Nat.add_right_comm];exact zhi (a:=a)
def lpP (t:SetTable) (p:Probe):Probe:={p with j:=(leap t.mask p.i p.perturb).1,more:=runEnd t.mask (leap t.mask p.i p.perturb).1 - (leap t.mask p.i p.perturb).1,i:=(leap t.mask p.i p.perturb).1,perturb:=(leap t.mask p.i p.perturb).2}
theorem zjD {t:SetTable}: ∀ {k:Nat} {p:Probe},p.more=k->adv t (k+1) p=lpP t p
 | 0,p,e=>by
  show t.advance p=_
  unfold SetTable.advance
  rw [qa5 ⋯]
  rfl
 | k+1,p,e=>by
  show adv t (k+1) (t.advance p)=_
  have e2:t.advance p={p with j:=p.j+1,more:=p.more - 1}:=by
   unfold SetTable.advance
   rw [qa4 ⋯]
  rw [e2,zjD (by show p.more - 1=k;omega)]
  rfl
theorem zf2 {t:SetTable}: ∀ (k:Nat) (p:Probe),p.more<=9->p.j=p.i-> ∃ N,N<=10*k/\(adv t N p).j=(lpN t.mask k (p.i,p.perturb)).1
 | 0,p,_,hj=>⟨0,qaV _,hj⟩
 | k+1,p,hm,hj=>by
  have hr: ∀ i,runEnd t.mask i - i<=9:=λi=>by unfold runEnd;split<;>omega
  obtain ⟨N,h1,h2⟩:=zf2 k (lpP t p) (hr _) rfl
  refine ⟨p.more+1+N,⋯,?_⟩
  rw [zhi,zjD rfl,h2]
  rfl
theorem zeu {t:SetTable}: ∀ {k:Nat} {p:Probe},p.dummy=none->(adv t k p).dummy=none
 | 0,p,h=>h
 | k+1,p,h=>zeu (k:=k) (by unfold SetTable.advance;split<;>exact h)
theorem zkj {t:SetTable}: ∀ {k:Nat} {p:Probe},p.j+p.more<=t.mask->(adv t k p).j+(adv t k p).more<=t.mask
 | 0,p,h=>h
 | k+1,p,h=>zkj (k:=k) (by
   unfold SetTable.advance
   split
   · show p.j+1+(p.more - 1)<=_
     omega
   · show (leap t.mask p.i p.perturb).1+(runEnd t.mask (leap t.mask p.i p.perturb).1 - (leap t.mask p.i p.perturb).1)<=_
     have:(leap t.mask p.i p.perturb).1<=t.mask:=Nat.le_of_lt_succ (mod_lt _ (succ_pos _))
     unfold runEnd
     split<;>omega)
theorem zmg {t:SetTable} {h:Int}:(t.probeStart h).j+(t.probeStart h).more<=t.mask:=by
 show bits h % (t.mask+1)+(runEnd t.mask (bits h % (t.mask+1)) - bits h % (t.mask+1))<=_
 have:bits h % (t.mask+1)<=t.mask:=Nat.le_of_lt_succ (mod_lt _ (succ_pos _))
 unfold runEnd
 split<;>omega
section
variable {t:SetTable} {n:Nat} {led:Bool}
theorem Tb.hit (g:Tb t n led) (h:Int): ∃ N,N<10*turns t.mask/\t.slot (adv t N (t.probeStart h)).j= .empty:=by
 obtain ⟨s,hs,es⟩:=g.free
 have hi:bits h % (t.mask+1)<=t.mask:=Nat.le_of_lt_succ (mod_lt _ (succ_pos _))
 obtain ⟨k,hk,ek⟩:=zq7 g.mm hi (zm2 h) hs
 have hr: ∀ i,runEnd t.mask i - i<=9:=λi=>by unfold runEnd;split<;>omega
 obtain ⟨N,h1,h2⟩:=zf2 (t:=t) k (t.probeStart h) (hr _) rfl
 refine ⟨N,⋯,?_⟩
 rw [h2]
 show t.slot (lpN t.mask k (bits h % (t.mask+1),bits h)).1=_
 rw [ek,es]
theorem Tb.go (g:Tb t n led) (f:Nat->Int) (h:Int): ∀ (N fuel:Nat) (p:Probe),N<fuel->p.dummy=none->p.j+p.more<=t.mask->t.slot (adv t N p).j= .empty->
  (∃ j,probe.go t f h fuel p=some (.empty j none)/\t.slot j= .empty/\j<=t.mask)\/ ∃ k j i,k<N/\probe.go t f h fuel p=some (.candidate j i (adv t (k+1) p))/\t.slot j= .live i
 | N,0,p,hf,_,_,_=>absurd hf (not_lt_zero _)
 | N,fuel+1,p,hf,hd,hj,he=>by
  unfold probe.go
  rcases g.slot p.j with ⟨z,_⟩ | ⟨i,z,e⟩
  ·rw [z]
   exact .inl ⟨p.j,by rw [hd],z,⋯⟩
  ·rw [z]
   dsimp only
   cases N with
   | zero=>
    have he:t.slot p.j= .empty:=he
    rw [z] at he
    cases he
   | succ N=>
    by_cases c:(f i==h)=true
    ·rw [qa4 c]
     exact .inr ⟨0,p.j,i,succ_pos _,rfl,z⟩
    ·rw [qa5 c]
     rcases g.go f h N fuel (t.advance p) ⋯ (zeu (k:=1) hd) (zkj (k:=1) hj) he with q | ⟨k,j,i',h1,h2,h3⟩
     ·exact .inl q
     ·exact .inr ⟨k+1,j,i',⋯,h2,h3⟩
theorem Tb.put (g:Tb t n led) {j:Nat} (h:t.slot j= .empty) (hj:j<=t.mask) (pl:Bool):Tc {(t.put j).1 with plain:=pl} (n+1) led where
 up:=zgb g.up (zgE ⟨g.up,g.nod,g.led⟩ h)
 nod:=by
  show (if SetTable.has t.dummies j then _ else t.dummies)= #[]
  rw [g.nod,zd1]
  rfl
 led:=g.led
 sz:=by
  show (SetTable.insertAt t.place (SetTable.below t.place j) j).size=n+1
  have e:=congrArg List.length (SetTable.toList_insertAt t.place (SetTable.below t.place j) j)
  rw [qas] at e
  rw [e]
  have:=g.sz
  have:=(zcG g.up j).1
  simp
  omega
 le:=λx hx=>by
  have hx:x∈(SetTable.insertAt t.place (SetTable.below t.place j) j).toList:=hx
  rw [SetTable.toList_insertAt] at hx
  rcases qaK.mp hx with z | z
  ·exact g.le x (List.mem_of_mem_take z)
  ·rcases qaP.mp z with z | z
   ·rw [z];exact hj
   ·exact g.le x (List.mem_of_mem_drop z)
 mm:=g.mm
end
theorem ziw {mask:Nat} {owner:Array (Option Nat)}: ∀ (k fuel i p:Nat),k<fuel->owner.getD (lpN mask k (i,p)).1 (some 0)=none-> ∃ j,layClean.free mask owner fuel i p=some j/\owner.getD j (some 0)=none
 | k,0,_,_,h,_=>absurd h (not_lt_zero _)
 | k,fuel+1,i,p,h,e=>by
  unfold layClean.free
  cases q:(List.range (runEnd mask i+1 - i)).find? λk=>(owner.getD (i+k) (some 0)).isNone with
  | some k'=>
   have:=List.find?_some q
   exact ⟨i+k',rfl,by simpa using this⟩
  | none=>
   cases k with
   | zero=>
    exfalso
    have:=List.find?_eq_none.mp q 0 (by rw [mem_range];unfold runEnd;split<;>omega)
    rw [add_zero] at this
    exact this (by have e:owner.getD i (some 0)=none:=e;rw [e];rfl)
   | succ k=>exact ziw k fuel _ _ ⋯ e
theorem zis {k:Nat}: ∀ {l:List (Option Nat)} {j:Nat},l[j]? = some none->List.Perm ((l.set j (some k)).filterMap id) (k::l.filterMap id)
 | [],j,h=>by simp at h
 | x::l,0,h=>by
  have:x=none:=by simpa using h
  subst this
  exact .refl _
 | x::l,j+1,h=>by
  have ih:=zis (k:=k) (l:=l) (j:=j) (by simpa using h)
  rw [List.set_cons_succ,qat,qat]
  cases x with
  | none=>exact ih
  | some y=>exact (ih.cons y).trans (.swap ..)
theorem zhN: ∀ {l:List (Option Nat)},(∀ j:Nat,l[j]? ≠ some none)->(l.filterMap id).length=l.length
 | [],_=>rfl
 | none::l,h=>absurd rfl (h 0)
 | some y::l,h=>by
  show ((some y::l).filterMap id).length=_
  rw [qat]
  show (l.filterMap id).length+1=l.length+1
  rw [zhN λj=>h (j+1)]
theorem zhX {mask:Nat} (hm:mask=7\/mask=31): ∀ (hs:List Int) (owner:Array (Option Nat)) (k:Nat),owner.size=mask+1->List.Perm (owner.toList.filterMap id) (List.range k)->k+hs.length<=mask->
  ∃ o',hs.foldl (λacc h=>do
    let (owner,k)<-acc
    let j<-layClean.free mask owner (turns mask) (bits h % (mask+1)) (bits h)
    pure (owner.setIfInBounds j (some k),k+1)) (some (owner,k))=some (o',k+hs.length)/\o'.size=mask+1/\List.Perm (o'.toList.filterMap id) (List.range (k+hs.length))
 | [],owner,k,h1,h2,_=>⟨owner,rfl,h1,h2⟩
 | h::hs,owner,k,h1,h2,h3=>by
  rw [qaE] at h3
  have ex: ∃ s,s<=mask/\owner.getD s (some 0)=none:=by
   by_cases c: ∀ j:Nat,owner.toList[j]? ≠ some none
   ·have e:=zhN c
    rw [h2.length_eq,length_range,qas] at e
    omega
   ·obtain ⟨s,hs'⟩:=Classical.not_forall.mp c
    have e:owner[s]? = some none:=by simpa using hs'
    have:=(qab.mp e).1
    refine ⟨s,⋯,?_⟩
    rw [Array.getD_eq_getD_getElem?, e]
    rfl
  obtain ⟨s,s1,s2⟩:=ex
  obtain ⟨n,n1,n2⟩:=zq7 hm (i:=bits h % (mask+1)) (p:=bits h) (Nat.le_of_lt_succ (mod_lt _ (succ_pos _))) (zm2 h) s1
  obtain ⟨j,j1,j2⟩:=ziw n (turns mask) (bits h % (mask+1)) (bits h) n1 (by rw [n2];exact s2)
  have j3:owner.toList[j]? = some none:=by
   rw [Array.getD_eq_getD_getElem?] at j2
   rw [qaj]
   cases q:owner[j]? with
   | none=>rw [q] at j2;cases j2
   | some x=>rw [q] at j2;exact congrArg some j2
  have p2:List.Perm ((owner.setIfInBounds j (some k)).toList.filterMap id) (List.range (k+1)):=by
   rw [Array.toList_setIfInBounds]
   refine (zis j3).trans ?_
   rw [range_succ]
   exact (h2.cons k).trans (List.perm_append_comm (l₁:=[k]))
  obtain ⟨o',o1,o2,o3⟩:=zhX hm hs (owner.setIfInBounds j (some k)) (k+1) (by rw [Array.size_setIfInBounds];exact h1) p2 ⋯
  have ek:k+(hs.length+1)=k+1+hs.length:=by omega
  refine ⟨o',?_,o2,by rw [qaE,ek];exact o3⟩
  rw [foldl_cons,qaE,ek, <-o1]
  congr 1
  simp only [Option.bind_eq_bind,Option.bind_some,j1]
  rfl
theorem ziK {owner:Array (Option Nat)} {m:Nat} (h:owner.size=m):(List.range m).filterMap (λj=>owner.getD j none)=owner.toList.filterMap id:=by
 have e:(List.range m).map (λj=>owner.getD j none)=owner.toList:=by
  refine List.ext_getElem (by simp [h]) λi h1 h2=> ?_
  have h2':i<owner.size:=by simpa using h2
  simp [Array.getD,h2']
 rw [<- e,List.filterMap_map]
 rfl
theorem zjy {t:SetTable} {led:Bool} (h0:zg9 t led) (es:Array (Int×Value)) (hn:es.size=5): ∃ t' o,t.relaid (es.map (·.1)) (grown 5)=some (t',o)/\Tb t' 5 led/\List.Perm (o.filterMap (es[·]?)).toList es.toList:=by
 have em:sizeAbove (grown 5) - 1=31:=by decide +kernel
 unfold SetTable.relaid
 rw [em]
 obtain ⟨ow,w1,w2,w3⟩:=zhX (.inr rfl) (es.map (·.1)).toList (Array.replicate 32 none) 0 (by simp) (by
   rw [Array.toList_replicate]
   have: ∀ n,(List.replicate n (none:Option Nat)).filterMap id=[]:=λn=>by induction n<;>simp_all [replicate_succ]
   rw [this]
   exact .nil) (by simp [hn])
 have hl:(es.map (·.1)).toList.length=5:=by simp [hn]
 rw [hl,zero_add] at w1 w3
 have lc:layClean 31 (es.map (·.1))=some ow:=by
  unfold layClean
  rw [<- Array.foldl_toList]
  exact (congrArg (Option.map (·.1)) w1)
 have ee:laid 31 t.finger (t.movedTo 31) t.led t.plain (es.map (·.1))=some (({mask:=31,place:=(((List.range (31+1)).filterMap λj=>(ow.getD j none).map (j, ·)).map (·.1)).toArray,dummies:= #[],finger:=t.finger,led:=t.led,moves:=t.movedTo 31,plain:=t.plain}:SetTable),(((List.range (31+1)).filterMap λj=>(ow.getD j none).map (j, ·)).map (·.2)).toArray):=by
  unfold laid
  rw [lc]
  rfl
 have g2:=zgi ee
 have m2:((List.range (31+1)).filterMap λj=>(ow.getD j none).map (j, ·)).map (·.2)=ow.toList.filterMap id:=by
  rw [List.map_filterMap, <-ziK w2]
  congr 1
  funext j
  cases ow.getD j none<;>rfl
 refine ⟨_,_,ee,⟨⟨g2.up,rfl,h0.led,?_,?_,.inr rfl⟩,show 5*5<31*3 by decide⟩,?_⟩
 ·have:=congrArg List.length m2
  rw [w3.length_eq,length_range,qaH] at this
  simpa using this
 ·intro j hj
  have hj:j∈(((List.range (31+1)).filterMap λj=>(ow.getD j none).map (j, ·)).map (·.1)).toArray.toList:=hj
  rw [List.toList_toArray,List.map_filterMap,List.mem_filterMap] at hj
  obtain ⟨i,h1,h2⟩:=hj
  cases q:ow.getD i none with
  | none=>rw [q] at h2;cases h2
  | some y=>
   rw [q] at h2
   have:i=j:=by simpa using h2
   rw [mem_range] at h1
   show j<=31
   omega
 ·rw [Array.toList_filterMap,List.toList_toArray,m2]
  refine (w3.filterMap _).trans ?_
  have e:(List.range 5).filterMap (es[·]?)=es.toList:=by
   refine List.ext_getElem? λi=> ?_
   rw [<- hn]
   have:(List.range es.size).filterMap (es[·]?)=es.toList:=by
    have e1:(List.range es.size).map (es[·]?)=es.toList.map some:=by
     refine List.ext_getElem (by simp) λi h1 h2=> ?_
     have:i<es.size:=by simpa using h2
     simp [this]
    have e2:(List.range es.size).filterMap (es[·]?)=((List.range es.size).map (es[·]?)).filterMap id:=by rw [List.filterMap_map];rfl
    rw [e2,e1,List.filterMap_map]
    exact List.filterMap_some
   rw [this]
  rw [e]
end LT
namespace L3
open LT
open PySem.SeqAt PySem.MeetsSeq PySem.MeetsSeq2 PySem.MeetsSeq3
section
variable {prog:Program} {w:World} {A:Around} {E:Value->Shared->Prop} {s:Shared}
def zpR (prog:Program) (w:World) (p:Int×List Int):Int:=reduceHash (Builtin.Tuple.tupleHashOf [(intKind prog w).hash p.1,tupleKeyHash (intKind prog w) p.2])
theorem zid: ∀ {its:List Value} {ns:List Int},IntsAre its ns->ItemsAre (intKind prog w) ns its
 | _,_,.nil=> .nil
 | _,_,.cons a t r=> .cons (intKind_is _ _ _ _) (zid r)
theorem zhM {q:Addr} {its:List Value} {ns:List Int} {h:Heap} (hq:IsTup h q its.toArray) (hi:IntsAre its ns):IsTupleKey (intKind prog w) h ns q:=by
 obtain ⟨o,e,c,n,d⟩:=hq
 exact ⟨o,_,n,e,c,d,zid (by simpa using hi)⟩
theorem zko {v:Value} {p:Int×List Int} {Q:Int->Shared->Prop} (hu:A.units+2<cLine) (hv:zav s.heap v p) (h: ∀ tk,s.toks<=tk->Q (zpR prog w p) {s with toks:=tk}):wpAny (model prog w) A (pyHash v) Q E s:=by
 obtain ⟨a,q,t,its,rfl,⟨o,ho,hc,n,hd⟩,hq,hi⟩:=hv
 have hT:s.TypeIs (.ref a) "tuple":=⟨o,ho,hc⟩
 have hk:=zhM (prog:=prog) (w:=w) hq hi
 unfold pyHash
 first | unfold pyHashByItsType | skip
 first | refine qaW (wpAny_cRoomFor_or (.inr ⋯) ?_) | skip
 refine qaW (wpAny_specialOf hT F.slot_tuple_hash.lookup ?_)
 show wpAny _ _ (if (some (Value.builtin "tuple.__hash__")==some Value.none)=true then _ else _) Q E s
 rw [qa5 (by rw [beq_builtin_none];exact Bool.false_ne_true)]
 refine qaW (wpAny_specialOf hT F.slot_tuple_hash.lookup ?_)
 show wpAny _ _ (callSpecialIfBoundUnlessNone? (.ref a) "__hash__" _>>=_) Q E s
 refine qaW (wpAny_callSpecialIfBoundUnlessNone?_slot hT F.slot_tuple_hash (wpAny_call_entry F.slot_tuple_hash hT F.entry_tuple_hash ?_ (F.args_tuple_hash_1 _)))
 show wpAny _ _ (Builtin.Tuple.tupleItemsOf (.ref a)>>=_) _ _ s
 refine qaW (wpAny_tupleItemsOf ho hd ?_)
 refine qaW ?_
 rw [<- Array.forIn_toList]
 simp only [forIn_cons,forIn_nil]
 refine qaW (qaW ((intKind prog w).pyHash (k:=p.1) (intKind_is _ _ _ _) ?_))
 refine qaX (qaW (qaW (wpAny_pyHash_tuple (by rw [Around.in1_units];omega) hk (qaX (qaX ?_)))))
 refine wpAny_ret_mkInt ?_
 show wpAny _ _ (if (decide (-(2:Int)^63<=Builtin.Tuple.tupleHashOf [(intKind prog w).hash p.1,tupleKeyHash (intKind prog w) p.2]) && decide (Builtin.Tuple.tupleHashOf [(intKind prog w).hash p.1,tupleKeyHash (intKind prog w) p.2]<2^63))=true then _ else _) Q E _
 have h:=h
 unfold zpR reduceHash at h
 split
 ·rename_i c
  rw [qa4 c] at h
  exact qaX (h _ (by show s.toks<=_;simp only;omega))
 ·rename_i c
  rw [qa5 c] at h
  exact qaW (wpAny_rule (qaX (h _ (by show s.toks<=_;simp only;omega))))
theorem zom {u v:Value} {p q:Int×List Int} (hv:zav s.heap v p) (hu:zav s.heap u q) (hr:A.units+2<cLine) (ne:p≠q):EqAt A s v u false:=by
 obtain ⟨a,x,t,its,rfl,ha,hx,hi⟩:=hv
 obtain ⟨b,y,t',its',rfl,hb,hy,hj⟩:=hu
 have r1:A.in1.units<cLine:=by rw [Around.in1_units];omega
 have hc:=RcAt.tuples (A:=A) (s:=s) (e:=λj=>if j=0 then p.1==q.1 else p.2==q.2) ha hb ⋯ λj h1 h2=>by
  have h1':j<2:=h1
  match j,h1' with
  | 0,_=>exact EqAt.int_int _ _ _ _
  | 1,_=>exact zdg hx hy hi hj r1
 have he:((List.range (min #[Value.int p.1 t,.ref x].size #[Value.int q.1 t',.ref y].size)).all (λj=>if j=0 then p.1==q.1 else p.2==q.2) && #[Value.int p.1 t,.ref x].size== #[Value.int q.1 t',.ref y].size)=false:=by
  show ((List.range 2).all (λj=>if j=0 then p.1==q.1 else p.2==q.2) && true)=false
  rw [Bool.and_true, <-Bool.not_eq_true,all_eq_true]
  intro z
  refine ne (Prod.ext ?_ ?_)
  ·simpa using z 0 (by decide)
  ·simpa using z 1 (by decide)
 rw [he] at hc
 refine EqAt.of_refs (λe=> ?_) hc
 subst e
 obtain ⟨o,e,_,n,d⟩:=ha
 obtain ⟨o',e',_,n',d'⟩:=hb
 rw [e] at e'
 cases e'
 rw [d] at d'
 injection d' with d' _
 have d2:[Value.int p.1 t,.ref x]=[Value.int q.1 t',.ref y]:=congrArg Array.toList d'
 injection d2 with d3 d4
 injection d3 with d5 _
 injection d4 with d6 _
 injection d6 with d7
 subst d7
 obtain ⟨o,e,_,n,d⟩:=hx
 obtain ⟨o',e',_,n',d'⟩:=hy
 rw [e] at e'
 cases e'
 rw [d] at d'
 injection d' with d' _
 have:its=its':=by simpa using d'
 subst this
 exact ne (Prod.ext d5 (zdT hi hj))
theorem zi4 (k:Nat) {q:Addr} {its:List Value} {ns:List Int} {Q:Bool->Shared->Prop} (hq:IsTup s.heap q its.toArray) (hi:IntsAre its ns) (h:Q true s):wpAny (model prog w) A (eqIsQuiet (k+1) (.ref q)) Q E s:=by
 have hk:=zhM (prog:=prog) (w:=w) hq hi
 have hT:=hk.typeIs
 obtain ⟨o,items,n,ho,_,hd,hi⟩:=hk
 unfold eqIsQuiet
 refine qaW (wpAny_specialOf hT F.slot_tuple_eq.lookup ?_)
 show wpAny _ _ (isInstance (.ref q) (.type "tuple")>>=_) _ _ s
 refine qaW (wpAny_isInstance hT isSubtype_tuple_tuple ?_)
 simp only [Bool.not_true,qax,if_false]
 refine qaW (wpAny_seqItems ho hd ?_)
 refine qaW ?_
 show wpAny _ _ (forIn items _ _) _ _ s
 rw [<- Array.forIn_toList]
 refine wpAny_forIn_list _ (λzaT r s'=>r.1=none/\s'=s/\ ∀ v∈zaT,carriedByValue v=true) _ ?_ ?_ _ _ ⟨rfl,rfl,hi.byValue⟩
 ·rintro v zaT r s' ⟨hr,rfl,hall⟩
  rw [eqIsQuiet_byValue _ (hall v qau)]
  refine qaW (qaX ?_)
  simp only [Bool.not_true,qax,if_false]
  exact qaX ⟨rfl,rfl,λu hu'=>hall u (qan _ hu')⟩
 ·rintro ⟨r1,r2⟩ s' ⟨hr,rfl,_⟩
  simp only at hr
  subst hr
  exact qaX h
theorem ze4 {v:Value} {p:Int×List Int} {Q:Bool->Shared->Prop} (hv:zav s.heap v p) (h:Q true s):wpAny (model prog w) A (eqIsQuiet 8 v) Q E s:=by
 obtain ⟨a,q,t,its,rfl,⟨o,ho,hc,n,hd⟩,hq,hi⟩:=hv
 have hT:s.TypeIs (.ref a) "tuple":=⟨o,ho,hc⟩
 unfold eqIsQuiet
 refine qaW (wpAny_specialOf hT F.slot_tuple_eq.lookup ?_)
 show wpAny _ _ (isInstance (.ref a) (.type "tuple")>>=_) _ _ s
 refine qaW (wpAny_isInstance hT isSubtype_tuple_tuple ?_)
 simp only [Bool.not_true,qax,if_false]
 refine qaW (wpAny_seqItems ho hd ?_)
 refine qaW ?_
 show wpAny _ _ (forIn #[Value.int p.1 t,.ref q] _ _) _ _ s
 rw [<- Array.forIn_toList]
 simp only [forIn_cons,forIn_nil]
 rw [eqIsQuiet_byValue _ (v:= .int p.1 t) rfl]
 refine qaW (qaW (qaX ?_))
 simp only [Bool.not_true,qax,if_false]
 refine qaX (qaW (qaW (zi4 6 hq hi ?_)))
 simp only [Bool.not_true,qax,if_false]
 exact qaX (qaX (qaX h))
theorem zi3 (k:Nat) {q:Addr} {its:List Value} {ns:List Int} {Q:Bool->Shared->Prop} (hq:IsTup s.heap q its.toArray) (hi:IntsAre its ns) (h:Q false s):wpAny (model prog w) A (ofAClassStatement (k+1) (.ref q)) Q E s:=by
 have hk:=zhM (prog:=prog) (w:=w) hq hi
 have hT:=hk.typeIs
 obtain ⟨o,items,n,ho,_,hd,hi⟩:=hk
 unfold ofAClassStatement
 refine qaW (wpAny_typeOf hT ?_)
 show wpAny _ _ (seqItems? (.ref q)>>=_) _ _ s
 refine qaW (wpAny_seqItems ho hd ?_)
 show wpAny _ _ (forIn items _ _>>=_) _ _ s
 rw [<- Array.forIn_toList]
 refine qaW (wpAny_forIn_list _ (λzaT r s'=>r.1=none/\s'=s/\ ∀ v∈zaT,carriedByValue v=true) _ ?_ ?_ _ _ ⟨rfl,rfl,hi.byValue⟩)
 ·rintro v zaT r s' ⟨hr,rfl,hall⟩
  have:ofAClassStatement k v=pure false:=by
   have:=hall v qau
   cases v with
   | ref a=>cases this
   | _=>first | rfl | (unfold ofAClassStatement;rfl)
  rw [this]
  refine qaW (qaX ?_)
  exact qaX ⟨rfl,rfl,λu hu'=>hall u (qan _ hu')⟩
 ·rintro ⟨r1,r2⟩ s' ⟨hr,rfl,_⟩
  simp only at hr
  subst hr
  exact qaX h
theorem zeX {v:Value} {p:Int×List Int} {Q:Bool->Shared->Prop} (hv:zav s.heap v p) (h:Q false s):wpAny (model prog w) A (ofAClassStatement 8 v) Q E s:=by
 obtain ⟨a,q,t,its,rfl,⟨o,ho,hc,n,hd⟩,hq,hi⟩:=hv
 have hT:s.TypeIs (.ref a) "tuple":=⟨o,ho,hc⟩
 unfold ofAClassStatement
 refine qaW (wpAny_typeOf hT ?_)
 show wpAny _ _ (seqItems? (.ref a)>>=_) _ _ s
 refine qaW (wpAny_seqItems ho hd ?_)
 show wpAny _ _ (forIn #[Value.int p.1 t,.ref q] _ _>>=_) _ _ s
 rw [<- Array.forIn_toList]
 simp only [forIn_cons,forIn_nil]
 refine qaW (qaW (qaW (show wpAny _ _ (pure false) _ _ _ from qaX (qaX (qaW (qaW (zi3 6 hq hi (qaX (qaX ?_)))))))))
 exact qaX h
theorem zow {v:Value} {p:Int×List Int} (hv:zav s.heap v p): ∀ {ys:List Value} {Q:Bool->Shared->Prop},(∀ y∈ys, ∃ q,zav s.heap y q)->Q false s->wpAny (model prog w) A (searchCouldBeSeen v ys) Q E s:=by
 intro ys Q hy h
 unfold searchCouldBeSeen
 refine qaW (wpAny_forIn_list _ (λzaT r s'=>r.1=none/\s'=s/\ ∀ y∈zaT, ∃ q,zav s.heap y q) _ ?_ ?_ _ _ ⟨rfl,rfl,hy⟩)
 ·rintro y zaT r s' ⟨hr,rfl,hall⟩
  obtain ⟨q,hq⟩:=hall y qau
  have fin: ∀ r:Option Bool×Unit,r.1=none->r.1=none/\s'=s'/\ ∀ y∈zaT, ∃ q,zav s'.heap y q:=λr e=>⟨e,rfl,λu hu'=>hall u (qan _ hu')⟩
  have hv':=hv
  have hq':=hq
  obtain ⟨a,_,_,_,rfl,_⟩:=hv'
  obtain ⟨b,_,_,_,rfl,_⟩:=hq'
  dsimp only
  split
  ·exact qaX (fin _ rfl)
  ·refine qaW (ze4 hv ?_)
   simp only [Bool.not_true,qax,if_false]
   refine qaW (ze4 hq ?_)
   simp only [Bool.not_true,qax,if_false]
   refine qaW (zeX hv ?_)
   simp only [Bool.not_true,qax,if_false]
   refine qaW (zeX hq ?_)
   simp only [Bool.not_true,qax,if_false]
   exact qaX (fin _ rfl)
 ·rintro ⟨r1,r2⟩ s' ⟨hr,rfl,_⟩
  simp only at hr
  subst hr
  exact qaX h
theorem zl3 (k:Nat) {q:Addr} {its:List Value} {ns:List Int} {Q:Bool->Shared->Prop} (hq:IsTup s.heap q its.toArray) (hi:IntsAre its ns) (h: ∀ b,Q b s):wpAny (model prog w) A (hashByValue (k+1) (.ref q)) Q E s:=by
 have hk:=zhM (prog:=prog) (w:=w) hq hi
 have hT:=hk.typeIs
 obtain ⟨o,ho,_,n,hd⟩:=hq
 unfold hashByValue
 refine qaW (wpAny_specialOf hT F.slot_tuple_hash.lookup ?_)
 show wpAny _ _ (seqItems? (.ref q)>>=_) _ _ s
 refine qaW (wpAny_seqItems ho hd ?_)
 show wpAny _ _ (forIn its.toArray _ _>>=_) _ _ s
 rw [<- Array.forIn_toList]
 refine qaW (wpAny_forIn_list _ (λzaT r s'=>r.1=none/\s'=s/\ ∃ ms,IntsAre zaT ms) _ ?_ ?_ _ _ ⟨rfl,rfl,_,by simpa using hi⟩)
 ·rintro v zaT r s' ⟨hr,rfl,ms,hall⟩
  cases hall with
  | cons a t r=>
   refine qaW (show wpAny _ _ (hashByValue k (.int _ _)) _ _ _ from ?_)
   have: ∀ x t,hashByValue k (.int x t)=pure true:=λx t=>by cases k<;>rfl
   rw [this]
   exact qaX (qaX ⟨rfl,rfl,_,r⟩)
 ·rintro ⟨r1,r2⟩ s' ⟨hr,rfl,_⟩
  simp only at hr
  subst hr
  exact qaX (h _)
theorem zmq {v:Value} {p:Int×List Int} {Q:Bool->Shared->Prop} (hv:zav s.heap v p) (h: ∀ b,Q b s):wpAny (model prog w) A (hashByValue 8 v) Q E s:=by
 obtain ⟨a,q,t,its,rfl,⟨o,ho,hc,n,hd⟩,hq,hi⟩:=hv
 have hT:s.TypeIs (.ref a) "tuple":=⟨o,ho,hc⟩
 unfold hashByValue
 refine qaW (wpAny_specialOf hT F.slot_tuple_hash.lookup ?_)
 show wpAny _ _ (seqItems? (.ref a)>>=_) _ _ s
 refine qaW (wpAny_seqItems ho hd ?_)
 show wpAny _ _ (forIn #[Value.int p.1 t,.ref q] _ _>>=_) _ _ s
 rw [<- Array.forIn_toList]
 simp only [forIn_cons,forIn_nil]
 refine qaW (qaW (qaW (show wpAny _ _ (pure true) _ _ _ from qaX (qaX (qaW (qaW (zl3 6 hq hi λb=> ?_)))))))
 cases b<;>exact qaX (qaX (qaX (h _)))
end
section
variable {prog:Program} {w:World} {A:Around} {E:Value->Shared->Prop} {s:Shared}
def zjm (w:World) (h0 h:Heap) (a:Addr) (ps:List (Int×List Int)):Prop:=
 ∃ ob es ep tb,(h.get? a=some ob/\ob.ExactSet/\ob.data= .set es ep tb)/\(∀ e∈es.toList, ∃ p∈ps,zav h0 e.2 p)/\es.size=ps.length/\Tb tb ps.length (za6 w)
theorem zfw {t:SetTable} {n:Nat} {led:Bool} (g:Tc t n led) (r:n<=t.mask):t.fits n=true:=by
 simp only [SetTable.fits,qaG,beq_iff_eq,qaD]
 refine ⟨g.sz,?_⟩
 unfold SetTable.fill
 rw [g.nod,g.sz]
 simp
 omega
theorem zjm.move {h0 h h':Heap} {a:Addr} {ps:List (Int×List Int)} (g:zjm w h0 h a ps) (k: ∀ o,h.get? a=some o->h'.get? a=some o):zjm w h0 h' a ps:=by
 obtain ⟨ob,es,ep,tb,⟨h1,h2,h3⟩,h4⟩:=g
 exact ⟨ob,es,ep,tb,⟨k _ h1,h2,h3⟩,h4⟩
theorem zee {a:Addr} {ob:Obj} {es:Array (Int×Value)} {ep:Nat} {tb:SetTable} {ps:List (Int×List Int)} {v:Value} {p:Int×List Int} {Q:SetFound->Shared->Prop} (hu:A.units+2<cLine)
  (h1:s.heap.get? a=some ob) (h3:ob.data= .set es ep tb) (h4: ∀ e∈es.toList, ∃ p∈ps,zav s.heap e.2 p) (h5:es.size=ps.length) (g:Tb tb ps.length (za6 w)) (hv:zav s.heap v p) (hn:p∉ps) (hh:Int)
  (q: ∀ j,tb.slot j= .empty->j<=tb.mask->Q (.free j false) s): ∀ (N fuel:Nat) (st:Option SetTable.Probe),N<fuel->(st.getD (tb.probeStart hh)).dummy=none->(st.getD (tb.probeStart hh)).j+(st.getD (tb.probeStart hh)).more<=tb.mask->N<10*SetTable.turns tb.mask->tb.slot (adv tb N (st.getD (tb.probeStart hh))).j= .empty->
   wpAny (model prog w) A (setSearchFrom a v hh true fuel st) Q E s
 | _,0,_,hf,_,_,_,_=>absurd hf (not_lt_zero _)
 | N,fuel+1,st,hf,hd,hj,hN,he=>by
  unfold setSearchFrom
  have hfit:tb.fits es.size=true:=by rw [h5];exact zfw g.toTc (by have:=g.room;omega)
  refine qaW (wpAny_setState_of h1 h3 hfit ?_)
  dsimp only
  have gw:tb.gaveWay=false:=by
   unfold SetTable.gaveWay
   rcases g.mm with e | e<;>rw [e]<;>rfl
  rw [gw]
  simp only [qax,if_false]
  generalize hr:tb.probe _ hh _=r
  obtain ⟨f,hr⟩: ∃ f,SetTable.probe.go tb f hh (10*SetTable.turns tb.mask) (st.getD (tb.probeStart hh))=r:=⟨_,hr⟩
  rcases g.go f hh N _ _ hN hd hj he with ⟨j,e,ej,jl⟩ | ⟨k,j,i,hk,e,ej⟩
  ·rw [e] at hr
   subst hr
   exact qaX (q j ej jl)
  ·rw [e] at hr
   subst hr
   dsimp only
   have pi:tb.place[i]? = some j:=by
    rcases g.slot j with z | ⟨i',z,e'⟩
    ·rw [z.1] at ej;cases ej
    ·rw [z] at ej;cases ej;exact e'
   have li:i<es.size:=by
    have:=(qab.mp pi).1
    rw [g.sz] at this
    omega
   have ei:es[i]? = some es[i]:=by simp [li]
   obtain ⟨p',mp,hp⟩:=h4 es[i] (by simp)
   have fin:wpAny (model prog w) A (do
       let some (_,y):=es[i]? | unsupported "internal:set-entry"
       let equal<-holding [y] (eqBool y v)
       let (es',_,t')<-setState a
       if true && equal then return .there none
       let some same:=t'.sameMemory tb.moves tb.mask | unsupported "set.changed-during-lookup:is-the-new-block-at-the-old-address"
       let still<-match (if same then t'.slot j else .empty) with
         | .live i'=>match es'[i']? with
           | some (_,y')=>do pure (if<-isSame y' y then some i' else none)
           | none=>pure none
         | _=>pure none
       match still with
       | none=>rule "set.search.anew";setSearchFrom a v hh true fuel none
       | some i'=>if equal then return .there (some i') else setSearchFrom a v hh true fuel (some (adv tb (k+1) (st.getD (tb.probeStart hh))))) Q E s:=by
    rw [ei]
    dsimp only
    refine qaW (qaO (zom hp hv hu (λz=>hn (z▸mp)) prog w _ _ ?_))
    refine qaW (wpAny_setState_of h1 h3 hfit ?_)
    simp only [Bool.and_false,qax,if_false]
    have sm:tb.sameMemory tb.moves tb.mask=some true:=by unfold SetTable.sameMemory;simp
    rw [sm]
    simp only [if_true]
    rw [ej]
    dsimp only
    rw [ei]
    dsimp only
    have is1:isSame es[i].2 es[i].2=pure true:=by
     obtain ⟨b,_,_,_,eb,_⟩:=hp
     rw [eb]
     unfold isSame
     simp
    rw [is1]
    refine qaW (qaW (qaX (qaX ?_)))
    simp only [if_true]
    refine zee hu h1 h3 h4 h5 g hv hn hh q (N - (k+1)) fuel _ ⋯ (zeu hd) (zkj hj) ⋯ ?_
    show tb.slot (adv tb (N - (k+1)) (adv tb (k+1) _)).j=_
    rw [<- zhi,show k+1+(N - (k+1))=N by omega]
    exact he
   cases hl:tb.led with
   | true=>
    simp only [Bool.not_true,qax,if_false]
    exact fin
   | false=>
    simp only [Bool.not_false,if_true]
    refine qaW (zow hv (λy hy=> ?_) ?_)
    ·obtain ⟨e,he,rfl⟩:=qaU.mp hy
     have:e∈es.toList:=by
      rw [Array.toList_filter] at he
      exact (mem_filter.mp he).1
     obtain ⟨p',_,hp⟩:=h4 e this
     exact ⟨p',hp⟩
    ·simp only [qax,if_false]
     exact fin
theorem zjY {a:Addr} {ob:Obj} {es es':Array (Int×Value)} {ep:Nat} {tb tb':SetTable} {R:Unit->Shared->Prop} (ho:s.heap.get? a=some ob) (hd:ob.data= .set es ep tb) (hb:es'.size<scanBound)
  (q: ∀ h',Heap.SameBut a s.heap h'->h'.get? a=some {ob with data:= .set es' (ep+1) tb'}->R () {s with heap:=h'}):wpAny (model prog w) A (storeSet a es' tb') R E s:=by
 have put:=putSet_of es' tb' hd
 have at1:(s.heap.update a (Obj.putSet es' tb')).get? a=some {ob with data:= .set es' (ep+1) tb'}:=by
  have z:=qal (Obj.putSet es' tb') ho (by rw [put];rfl)
  rwa [put] at z
 exact wpAny_storeSet_of ho hd (q _ (Heap.SameBut.update ..) at1) (fits_of_scanBound hb)
theorem zuo {h0:Heap} {a:Addr} {ps:List (Int×List Int)} {v:Value} {p:Int×List Int} {Q:Bool->Shared->Prop} (hu:A.units+2<cLine) (k0: ∀ b o,h0.get? b=some o->s.heap.get? b=some o) (g:zjm w h0 s.heap a ps) (hv:zav h0 v p) (hn:p∉ps) (few:ps.length<=7) (hh:Int)
  (q: ∀ h' b,Heap.SameBut a s.heap h'->zjm w h0 h' a (ps++[p])->Q b {s with heap:=h'}):wpAny (model prog w) A (setAddHashed a v hh) Q E s:=by
 obtain ⟨ob,es,ep,tb,⟨h1,h2,h3⟩,h4,h5,g⟩:=g
 have hb:scanBound=4096:=rfl
 have hfit:tb.fits es.size=true:=by rw [h5];exact zfw g.toTc (by have:=g.room;omega)
 have nsc:byScan v es=false:=by
  obtain ⟨b,_,_,_,eb,_⟩:=hv
  rw [eb]
  rfl
 unfold setAddHashed setAddHashedIn
 refine qaO (qaW (wpAny_setState_of h1 h3 hfit ?_))
 dsimp only
 rw [nsc]
 simp only [qax,if_false]
 obtain ⟨N,hN,he⟩:=g.hit hh
 have tu:10*SetTable.turns tb.mask<100000:=by
  unfold SetTable.turns
  rcases g.mm with e | e<;>rw [e]<;>decide
 unfold setSearch
 refine qaW (zee hu h1 h3 (λe m=>let ⟨p',m',z⟩:=h4 e m;⟨p',m',z.keep k0⟩) h5 g (hv.keep k0) hn hh (λj ej jl=> ?_) N 100000 none ⋯ rfl zmg hN he)
 dsimp only
 refine qaW (wpAny_setState_of h1 h3 hfit ?_)
 dsimp only
 have E1: ∀ e∈(SetTable.insertAt es (tb.put j).2 (hh,v)).toList, ∃ p'∈ps++[p],zav h0 e.2 p':=λe m=>by
  rw [SetTable.toList_insertAt] at m
  have old:e∈es.toList-> ∃ p'∈ps++[p],zav h0 e.2 p':=λm=>let ⟨p',m',z⟩:=h4 e m;⟨p',List.mem_append_left _ m',z⟩
  rcases qaK.mp m with m | m
  ·exact old (List.mem_of_mem_take m)
  ·rcases qaP.mp m with m | m
   ·rw [m]
    exact ⟨p,qak _ qau,hv⟩
   ·exact old (List.mem_of_mem_drop m)
 have Z1:(SetTable.insertAt es (tb.put j).2 (hh,v)).size=ps.length+1:=by
  have e:=congrArg List.length (SetTable.toList_insertAt es (tb.put j).2 (hh,v))
  rw [qas] at e
  rw [e]
  have:=(zcG g.up j).1
  have:(tb.put j).2<=es.size:=by rw [h5, <-g.sz];exact this
  simp
  omega
 have Zp:(ps++[p]).length=ps.length+1:=by simp
 have fin: ∀ b:Bool,wpAny (model prog w) A (do
     let t:=if b then (tb.put j).1 else {(tb.put j).1 with plain:=false}
     storeSet a (SetTable.insertAt es (tb.put j).2 (hh,v)) t
     if !false && t.tooFull then setRelay a (SetTable.grown (es.size+1))
     return true) Q E s:=λb=>by
  have ee:(if b then (tb.put j).1 else {(tb.put j).1 with plain:=false})={(tb.put j).1 with plain:=if b then (tb.put j).1.plain else false}:=by cases b<;>rfl
  rw [ee]
  have T:=g.put ej jl (if b then (tb.put j).1.plain else false)
  generalize ht:({(tb.put j).1 with plain:=if b then (tb.put j).1.plain else false}:SetTable)=t at T ⊢
  have mk:t.mask=tb.mask:=by rw [<- ht];rfl
  dsimp only
  refine qaW (zjY h1 h3 (by rw [Z1];omega) λh' sb at1=> ?_)
  have tf:t.tooFull=decide ((ps.length+1)*5>=tb.mask*3):=by
   unfold SetTable.tooFull SetTable.fill
   rw [T.nod,T.sz,mk]
   rfl
  rw [tf]
  have room:=g.room
  by_cases c:(ps.length+1)*5>=tb.mask*3
  ·rw [decide_eq_true c]
   simp only [Bool.not_false,Bool.and_self,if_true]
   have l5:ps.length=4/\tb.mask=7:=by
    rcases g.mm with e | e<;>rw [e] at c room<;>omega
   have fit2:t.fits (SetTable.insertAt es (tb.put j).2 (hh,v)).size=true:=by rw [Z1];exact zfw T (by rw [mk];omega)
   obtain ⟨t',o,r1,r2,r3⟩:=zjy (t:=t) ⟨T.up,T.nod,T.led⟩ (SetTable.insertAt es (tb.put j).2 (hh,v)) (by rw [Z1];omega)
   rw [h5,l5.1]
   refine qaW ?_
   unfold setRelay
   refine qaW (wpAny_setState_of (s:={s with heap:=h'}) at1 rfl fit2 ?_)
   dsimp only
   rw [qa5 (by rw [sizeLine_eq];decide +kernel),r1]
   have z5:(o.filterMap ((SetTable.insertAt es (tb.put j).2 (hh,v))[·]?)).size=(SetTable.insertAt es (tb.put j).2 (hh,v)).size:=by
    have:=r3.length_eq
    rwa [qas,qas] at this
   refine qaW (show wpAny _ _ (if ((o.filterMap ((SetTable.insertAt es (tb.put j).2 (hh,v))[·]?)).size != (SetTable.insertAt es (tb.put j).2 (hh,v)).size)=true then _ else _) _ _ _ from ?_)
   rw [qa5 (by rw [z5];simp)]
   refine qaX (zjY (s:={s with heap:=h'}) at1 rfl (by rw [z5,Z1];omega) λh'' sb2 at2=>qaX (q h'' true (sb.trans sb2) ⟨_,_,_,t',⟨at2,h2,rfl⟩,λe m=>E1 e (r3.mem_iff.mp m),by rw [z5,Z1,Zp],?_⟩))
   rw [Zp,l5.1]
   exact r2
  ·rw [decide_eq_false c]
   simp only [Bool.and_false,qax,if_false]
   refine qaX (q h' true sb ⟨_,_,_,t,⟨at1,h2,rfl⟩,E1,by rw [Z1,Zp],?_⟩)
   rw [Zp]
   exact ⟨T,by rw [mk];omega⟩
 split
 ·exact qaW (zmq (hv.keep k0) λb=>fin b)
 ·exact qaW (qaX (fin true))
end
section
variable {prog:Program} {w:World} {A:Around} {R:Result->Shared->Prop} {it:Addr} {fp wr:List Addr} {G:Array GenState->Array GenState->Prop} {n:Nat} {P:Nat->Value->Prop} {St:Nat->Shared->Prop}
theorem zt5 (W:WalksS prog w A.in1 it fp wr G n P St) (a:Addr) (ha:a∉fp) (hu:A.units+3<cLine) {h0:Heap} (ps:List (Int×List Int)) (hl:n=ps.length) (hval: ∀ i v p,P i v->ps[i]? = some p->zav h0 v p) (nd:ps.Nodup) (few:ps.length<=8) (h0w: ∀ b o,h0.get? b=some o->b∉wr/\b≠a):
  ∀ (left i:Nat) (s:Shared),n - i=left->i<=n->St i s->(∀ b o,h0.get? b=some o->s.heap.get? b=some o)->zjm w h0 s.heap a (ps.take i)->
   (∀ s',Moved (a::wr) G s s'->zjm w h0 s'.heap a ps->R (.ok (.ret .none)) s')->
   codeAny (model prog w) A (.builtin "set.update.loop" ⟨[.ref a,.ref it],[]⟩) R s:=by
 have awr:a∉wr:=λz=>ha (W.sub _ z)
 have more: ∀ b∈wr,b∈a::wr:=λb z=> .tail _ z
 intro left
 induction left with
 | zero=>
  intro i s hleft hin st k0 g q
  obtain rfl:i=n:=by omega
  refine codeAny_builtin F.entry_set_update_loop ?_
  rw [qap F.plain_set_update_loop _]
  show wpAny _ _ (pyNext (.ref it)>>=_) _ _ _
  refine qaW (W.done s _ _ st λs' mv=> ?_)
  rw [hl,List.take_length] at g
  exact qaX (q s' (mv.mono more) (g.move λob e=>mv.heap a ob awr e))
 | succ left ih=>
  intro i s hleft hin st k0 g q
  have hi:i<n:=by omega
  refine codeAny_builtin F.entry_set_update_loop ?_
  rw [qap F.plain_set_update_loop _]
  show wpAny _ _ (pyNext (.ref it)>>=_) _ _ _
  refine qaW (W.item i s _ _ hi st λv s1 pv st1 mv=> ?_)
  have ei:ps[i]? = some ps[i]:=by simp
  have hv:=hval i v _ pv ei
  have k1: ∀ b o,h0.get? b=some o->s1.heap.get? b=some o:=λb o e=>mv.heap b o (h0w b o e).1 (k0 b o e)
  have g1:zjm w h0 s1.heap a (ps.take i):=g.move λob e=>mv.heap a ob awr e
  show wpAny _ _ (holding [v] (setAdd a v)>>=_) _ _ _
  refine qaW (qaO ?_)
  unfold setAdd
  refine qaO (qaW (zko (by rw [Around.in1_units];omega) (hv.keep k1) λtk tle=> ?_))
  have nin:ps[i]∉ps.take i:=λz=>by
   obtain ⟨j,hj⟩:=List.mem_iff_getElem?.mp z
   rw [List.getElem?_take] at hj
   split at hj
   ·have:=(List.getElem?_inj ⋯ nd).mp (hj.trans ei.symm)
    omega
   ·cases hj
  have tl:(ps.take i).length<=7:=by rw [length_take];omega
  refine zuo (s:={s1 with toks:=tk}) (by rw [Around.in1_units];omega) k1 g1 hv nin tl _ λh2 b sb g2=> ?_
  have g3:zjm w h0 h2 a (ps.take (i+1)):=by
   rw [List.take_succ_eq_append_getElem ⋯]
   exact g2
  have off: ∀ b,b≠a->h2.get? b=s1.heap.get? b:=λb hb=>sb.2 b hb
  refine qaX ⟨plainId_quiet F.plain_set_update_loop _,ih (i+1) _ ⋯ hi (W.frame _ s1 _ _ st1 tle λb hb ob e=> ?_) (λb o e=> ?_) g3 λs3 mv3 g4=> ?_⟩
  ·rw [off b λz=>ha (z▸hb)]
   exact e
  ·show h2.get? b=_
   rw [off b (h0w b o e).2]
   exact k1 b o e
  ·refine q s3 (.trans W.gtrans ((mv.mono more).then_heap tle λb ob hb e=> ?_) mv3) g4
   rw [off b λz=>hb (z▸ .head _)]
   exact e
end
section
variable {prog:Program} {w:World} {A:Around} {E:Value->Shared->Prop} {s:Shared}
theorem zrt (h:Heap) {h0:Heap}:zjm w h0 (h.push {cls:= .type "set",dict:=none,data:= .set #[] 0 (.fresh 0 0 (za6 w))}) h.objs.size []:=
 ⟨_, #[],0,_,⟨qar _ rfl,⟨rfl,rfl,rfl⟩,rfl⟩,λe he=>by simp at he,rfl,⟨⟨List.Pairwise.nil,rfl,rfl,rfl,(λj h=>nomatch h),.inl rfl⟩,show 0*5<7*3 by decide⟩⟩
theorem zth {l:Addr} {items:Array Value} {ps:List (Int×List Int)} {Q:Value->Shared->Prop} (hh:A.handled=none) (hu:A.units+6<cLine) (hl:s.heap.IsList l items) (hn:items.size=ps.length) (hv: ∀ (i:Nat) v p,items[i]? = some v->ps[i]? = some p->zav s.heap v p) (nd:ps.Nodup) (few:ps.length<=8)
  (q: ∀ (h':Heap) (tk:Nat),zjm w s.heap h' s.heap.objs.size ps->(∀ b ob,s.heap.get? b=some ob->h'.get? b=some ob)->
    Q (.ref s.heap.objs.size) {s with heap:=h',toks:=tk}):wpAny (model prog w) A (call (.type "set") [.ref l]) Q E s:=by
 obtain ⟨c,tl,hmro⟩:=F.called_set.mro
 have hmade:=F.called_set.made
 have hsub:=F.called_set.sub
 refine wpAny_call (codeAny_of_tree ?_)
 show wpAny _ _ (callAny (.type "set") _) _ _ _
 refine qaX ⟨Code.quiet_builtin _ ⋯,codeAny_builtin F.entry_type_call ?_⟩
 rw [Around.under_plain (weight_type_call_type "set" [.ref l] []) rfl]
 have hnt:=F.called_set.notType
 have hcc:=F.called_set.canCreate
 have htc:=F.typeCall_set_1 (.ref l)
 repeat' (first | assumption | wp_step)
 refine codeAny_mono (ztN (.ref l) (E:=E) (Q:=λv s1=>v= .ref s.heap.objs.size/\s1={s with heap:=s.heap.push {cls:= .type "set",dict:=none,data:= .set #[] 0 (.fresh 0 0 (za6 w))}}) ⟨rfl,rfl⟩) λr s1 hr=> ?_
 cases r with
 | error e=>exact hr
 | ok fl=>
  cases fl with
  | ret v=>
   obtain ⟨rfl,rfl⟩:=hr
   have laid:(s.heap.push {cls:= .type "set",dict:=none,data:= .set #[] 0 (.fresh 0 0 (za6 w))}).get? s.heap.objs.size=some {cls:= .type "set",dict:=none,data:= .set #[] 0 (.fresh 0 0 (za6 w))}:=qar _ rfl
   have isSet:Shared.TypeIs {s with heap:=s.heap.push {cls:= .type "set",dict:=none,data:= .set #[] 0 (.fresh 0 0 (za6 w))}} (.ref s.heap.objs.size) "set":=⟨_,laid,rfl⟩
   have hli:=F.called_set.init.lookup
   have hbi:=F.called_set.init.bind (.ref s.heap.objs.size)
   repeat' (first | assumption | wp_step)
   refine codeAny_mono (codeAny_call_builtin (R:=wants (λz s2=>z= .none/\ ∃ h' tk,s2={s with heap:=h',toks:=tk}/\
       zjm w s.heap h' s.heap.objs.size ps/\(∀ b ob,s.heap.get? b=some ob->h'.get? b=some ob)) E) F.called_set.init.plain F.entry_set_init (check_set_init_1 isSet ?_)) λr2 s2 hr2=> ?_
   ·have keepL: ∀ ob,s.heap.get? l=some ob->(s.heap.push {cls:= .type "set",dict:=none,data:= .set #[] 0 (.fresh 0 0 (za6 w))}).get? l=some ob:=λob e=>qag _ e
    have hh3:A.in1.in1.in1.handled=none:=by simp [hh]
    have done1: ∀ (l0:Addr) (h0:Heap) (s':Shared),l0=s.heap.objs.size->Moved [l0,(s.heap.push {cls:= .type "set",dict:=none,data:= .set #[] 0 (.fresh 0 0 (za6 w))}).objs.size] (λa b=>b=a) {s with heap:=h0} s'->(∀ b ob,s.heap.get? b=some ob->h0.get? b=some ob)->
      (∀ b ob,s.heap.get? b=some ob->s'.heap.get? b=some ob)/\s'={s with heap:=s'.heap,toks:=s'.toks}:=λl0 h0 s' e0 mv k0=>by
     refine ⟨λb ob e=>mv.heap b ob (λz=> ?_) (k0 b ob e),?_⟩
     ·have lt:=qaQ e
      rw [qaL,e0] at z
      simp only [qaP,qaF,or_false] at z
      rcases z with z | z
      ·exact qaN _ (z▸lt)
      ·exact qaN _ (Nat.lt_of_succ_lt (z▸lt))
     ·obtain ⟨h',g',d',tk',os'⟩:=s'
      have eg:g'=s.gens:=mv.gens
      have ed:d'=s.drawn:=mv.drawn
      have eo:os'=s.os:=mv.os
      subst eg ed eo
      rfl
    unfold Builtin.«set.__init__» noKeywords Builtin.Frozenset.updateFrom
    generalize hPI:pyIter=PI
    obtain ⟨⟨ocl,odi,oda,osl⟩,hol,hcl,nl,hdl⟩:=hl
    simp only at hcl hdl
    subst hcl hdl
    have hol':=keepL _ hol
    have f1:=F.sub_list_set
    have f2:=F.sub_list_frozenset
    have f3:(Value.type "list"==Value.type "dict")=false:=by decide
    wp_walk
    subst hPI
    have hl1:(s.heap.push {cls:= .type "set",dict:=none,data:= .set #[] 0 (.fresh 0 0 (za6 w))}).IsList l items:=⟨_,hol',rfl,nl,rfl⟩
    refine wpAny_pyIter_list hl1 ?_
    refine qaW (wpAny_runValue ?_)
    have ltl:l<s.heap.objs.size:=qaQ hol
    have szp:(s.heap.push {cls:= .type "set",dict:=none,data:= .set #[] 0 (.fresh 0 0 (za6 w))}).objs.size=s.heap.objs.size+1:=qaL ..
    have ne1:l≠(s.heap.push {cls:= .type "set",dict:=none,data:= .set #[] 0 (.fresh 0 0 (za6 w))}).objs.size:=by rw [szp];exact qaR (lt_succ_of_lt ltl)
    have ne2:s.heap.objs.size∉[(s.heap.push {cls:= .type "set",dict:=none,data:= .set #[] 0 (.fresh 0 0 (za6 w))}).objs.size,l]:=by
     rw [szp]
     simp only [qaP,qaF,or_false]
     rintro (z | z)
     ·exact Nat.succ_ne_self _ z.symm
     ·exact qaN _ (z▸ltl)
    refine zt5 ((Walks.list hh3 _ l ne1 items).toS) s.heap.objs.size ne2 (by simp only [Around.in1_units];omega) (h0:=s.heap) ps hn hv nd few ?fr _ 0 _ rfl (zero_le _) ⟨⟨_,qar _ rfl,rfl,rfl⟩,hl1.push _⟩ (λb o e=>qag _ (qag _ e)) ?g0 λs' mv gg=> ?_
    case g0=>exact (zrt s.heap).move (λob e=>qag _ e)
    case fr=>
     intro b o e
     have lt:=qaQ e
     rw [szp]
     refine ⟨λz=> ?_,qaR lt⟩
     rcases qaP.mp z with z | z
     ·rw [z] at lt
      exact qaN _ (Nat.lt_of_succ_lt lt)
     ·cases z
    obtain ⟨k1,k2⟩:=done1 _ _ s' rfl mv λb ob e=>qag _ (qag _ e)
    exact qaX (qaX ⟨rfl,s'.heap,s'.toks,k2,gg,k1⟩)
   ·cases r2 with
    | error e=>exact hr2
    | ok fl2=>
     cases fl2 with
     | ret z=>
      obtain ⟨rfl,h',tk,rfl,gg,k1⟩:=hr2
      repeat' (first | assumption | wp_step)
      exact q _ _ gg k1
     | _=>exact hr2.elim
  | _=>exact hr.elim
end
end L3
namespace L2
open L3 LT
section
variable {X:Cx}
def zmW (p:Addr) (n:Nat):HO:= .ext λh=> ∃ ob es ep tb,(h.get? p=some ob/\ob.ExactSet/\ob.data= .set es ep tb)/\es.size=n/\n<=8/\tb.fits es.size=true
theorem zlb (hc:X.calm=true) (hu:X.A.units+60<cLine):zaH X (.type "set") (λxs H Q=> ∃ (a:Addr) (vs:List V) (ps:List (Int×List Int)),xs=[.ref a]/\SqL X.K H a vs/\ps.length=vs.length/\ps.length<=8/\ps.Nodup/\(∀ (i:Nat) v p,vs[i]? = some v->ps[i]? = some p->zi7 X.K H v p)/\ ∀ p,H p=none->Q (.ref p) (upd H p (zmW p ps.length))):=by
 intro pins s σ H xs us Q I r h
 obtain ⟨a,vs,ps,rfl,hq,hlen,few,nd,hp,q⟩:=h
 obtain ⟨u,rfl,rx⟩:=zdM r
 cases rx
 obtain ⟨its,r',pl,hz⟩:=I.list hq
 have hlen':=r'.length
 have key: ∀ (i:Nat) u p,its.toArray[i]? = some u->ps[i]? = some p->zav s.heap u p:=λi u p e ep=>by
  have e':its[i]? = some u:=by simpa using e
  have hi:i<vs.length:=by have:=(qac.mp e').1;omega
  obtain ⟨u',hu',ru⟩:=r'.get (x:=vs[i]) (i:=i) (by simp [hi])
  rw [e'] at hu'
  cases hu'
  exact zbF I (hp i _ p (by simp [hi]) ep) ru
 refine zth (I.ok.hd hc) ⋯ pl.isList (by simp;omega) key nd few λh' tk g k=> ?_
 obtain ⟨ob,es,ep,tb,g1,g2,g3,g4⟩:=g
 refine ⟨.ref s.heap.objs.size,_,I.laid (t':=tk) (o:=zmW s.heap.objs.size ps.length) k (qaV _) ⟨⟨ob,es,ep,tb,g1,g3,few,?_⟩,⟨ob,g1.1⟩,λh1 h2 z e=> ?_⟩,rfl,q _ (I.hok.fresh (qaV _))⟩
 ·rw [g3]
  exact zfw g4.toTc (by have:=g4.room;omega)
 ·obtain ⟨ob,es,ep,tb,⟨a1,a2,a3⟩,z⟩:=z
  exact ⟨ob,es,ep,tb,⟨e _ a1,a2,a3⟩,z⟩
theorem zgr:zaH X (.builtin "len") (λxs H Q=> ∃ p n,xs=[.ref p]/\H p=some (zmW p n)/\Q (.int n) H):=by
 intro pins s σ H xs us Q I r h
 obtain ⟨p,n,rfl,hs,q⟩:=h
 obtain ⟨u,rfl,rx⟩:=zdM r
 cases rx
 obtain ⟨g,_⟩:=(show zbB X.prog X.w H s.heap p (zmW p n) from I.hok p _ hs)
 obtain ⟨ob,es,ep,tb,⟨a1,a2,a3⟩,h8,few,h7⟩:=g
 exact PySem.call_len_set a1 a2 a3 h7 ⋯ ⟨.int n,H,I.tok _,⟨_,by rw [h8]⟩,q⟩
end
end L2
namespace L3
open L2
section
variable {X:Cx} {E:XE}
def zfx (d:D):M D:=do
 let ds<-zjl d
 let ps<-ofO (match d with | .tup _=>none | _=>zbL ds)
 if ps.length<=8/\ps.Nodup then pure (.int ps.length) else M.bad
theorem zk8 {e:Expr} {f:FE} {p1 p2 pos pos2:Pos} (hc:X.calm=true) (hu:X.A.units+60<cLine) (hm1:X.mg "len"=none) (hm2:X.mg "set"=none) (he:SE X E e f) (hg1:Gl X "len":=by rfl) (hg2:Gl X "set":=by rfl)
  (h1:starEach [.Call (.Name "set" p2) [e] [] pos2] X.env=[(false,eval (.Call (.Name "set" p2) [e] [] pos2) X.env)]:=by rfl) (h2:starEach [e] X.env=[(false,eval e X.env)]:=by rfl):
  SE X E (.Call (.Name "len" p1) [.Call (.Name "set" p2) [e] [] pos2] [] pos) (cUn zfx f):=by
 refine PE.imp (zd0 zgr hg1 hm1 ⋯ (zbC (zcs (zlb hc hu) hg2 hm2 PyProof.Rows.boot_set (zbC he zcN h2) (he:=h2)) zcN h1) (he:=h1)) λσ H Q ⟨ι,h,sd,L,hh,q⟩=>⟨ι,h,sd,L,hh,Fin.bind q λd h1 ι1 H1 e1 s1 hr1 q1 v rv=> ?_⟩
 obtain ⟨a,vs,ds',e',hs,rl',q2⟩:=zb4 hr1 rv q1
 obtain ⟨ps,ep,q3⟩:=Fin.ofOb q2
 obtain ⟨hl,q4⟩:=Fin.guard q3
 rcases hs with ⟨hs,hd⟩ | ⟨hs,hd⟩
 ·have ep':zbL ds'=some ps:=by
   cases d with
   | tup ts=>exact absurd rfl (hd ts)
   | _=>exact ep
  obtain ⟨g1,g2⟩:=zds rl' ep'
  refine ⟨a,vs,ps,by rw [e'],hs,g1,hl.1,hl.2,g2,λp hp=> ?_⟩
  exact ⟨p,ps.length,rfl,zaY,Fin.out (hr1.laid hp) (Fin.step (hr1.laidS hp) q4) _ (by simp [Rel])⟩
 ·subst hd
  cases ep
def zsu (d:D) (lo hi:Option Int):M D:=match d with
 | .cel n=>do let ds<-zah n;pure (.lst (zfZ ds lo hi))
 | _=>M.bad
def zrZ (f:Sd->M D) (lo hi:Sd->M (Option Int)):Sd->M D:=λsd=>do let d<-f sd;let l<-lo sd;let u<-hi sd;zsu d l u
theorem zsb {e:Expr} {lo hi:Option Expr} {p2 pos:Pos} {f:Sd->M D} {fl fh:Sd->M (Option Int)} (he:SE X E e f) (hl:SO X E lo fl) (hu:SO X E hi fh):SE X E (.Subscript e (.Slice lo hi none p2) pos) (zrZ f fl fh):=by
 refine PE.imp (zh6 zkG he hl hu) λσ H Q ⟨ι,h,sd,L,hh,q⟩=>⟨ι,h,sd,L,hh,Fin.bind q λd h1 ι1 H1 e1 s1 hr1 q1 v rv=> ?_⟩
 refine ⟨ι1,h1,sd,L.step s1,hr1,Fin.bind q1 λl h2 ι2 H2 e2 s2 hr2 q2=> ?_⟩
 refine ⟨ι2,h2,sd,(L.step s1).step s2,hr2,Fin.bind q2 λu h3 ι3 H3 e3 s3 hr3 q3=> ?_⟩
 have rv3:=(rv.step s2).step s3
 cases d with
 | cel n=>
  have q':Fin X.K E ι3 H3 (M.bind (zah n) (λds=>pure (D.lst (zfZ ds l u))) h3) (λd ι' H'=> ∀ (v:V),Rel X.K ι' H' d v->Q v H'):=q3
  unfold M.bind at q'
  cases z:zah n h3 with
  | bad=>rw [z] at q';exact qa0 q'
  | exc c h'=>unfold zah at z;split at z<;>cases z
  | ok ds h'=>
   rw [z] at q'
   obtain ⟨rfl,z2⟩:=zbz z
   obtain ⟨a,vs,e,hn,hH,rl⟩:=hr3.read rv3 z2
   refine ⟨a,vs,e,.inl (.inl hH),λp hp=>zoW hr3 ?_ q' hp⟩
   unfold zfZ zmw
   rw [rl.length]
   exact zam.take _ (zam.drop _ rl)
 | _=>exact qa0 q3
end
open LT
def Gro (h h':Hh):Prop:= ∃ t,h'=h++t
theorem Gro.refl {h:Hh}:Gro h h:=⟨[],by simp⟩
theorem Gro.trans {h h1 h2:Hh} (a:Gro h h1) (b:Gro h1 h2):Gro h h2:=by
 obtain ⟨t,rfl⟩:=a
 obtain ⟨u,rfl⟩:=b
 exact ⟨t++u,by simp⟩
theorem Gro.get {h h':Hh} {n:Nat} {c:C} (g:Gro h h') (e:h[n]? = some c):h'[n]? = some c:=by
 obtain ⟨t,rfl⟩:=g
 rw [qad (qac.mp e).1]
 exact e
theorem Gro.ext {b:Nat} {h h':Hh} (q:Bx b h) (g:Gro h h'):Ext b h h':=by
 obtain ⟨z,e⟩:=q
 exact ⟨⟨z,g.get e⟩,λn c _ e=>g.get e⟩
def Ev {α:Type} (m:M α) (a:α):Prop:= ∀ h, ∃ h',m h= .ok a h'/\Gro h h'
section
variable {α β:Type} {m:M α} {a:α} {f:α->M β} {b:β} {h:Hh} {P:α->Hh->Prop}
theorem Ev.pure:Ev (Pure.pure a:M α) a:=λh=>⟨h,rfl,.refl⟩
theorem Ev.of (e:m=Pure.pure a):Ev m a:=e▸ .pure
theorem Ev.bind (x:Ev m a) (y:Ev (f a) b):Ev (m>>=f) b:=λh=>by
 obtain ⟨h1,e1,g1⟩:=x h
 obtain ⟨h2,e2,g2⟩:=y h1
 refine ⟨h2,?_,g1.trans g2⟩
 show M.bind m f h=_
 unfold M.bind
 rw [e1]
 exact e2
theorem Ev.wp (x:Ev m a) (k: ∀ h',Gro h h'->P a h'):wp m h P:=by
 obtain ⟨h1,e1,g1⟩:=x h
 exact ⟨a,h1,e1,k h1 g1⟩
theorem Ev.of_wp (x: ∀ h,L3.wp m h λr h'=>r=a/\Gro h h'):Ev m a:=λh=>by
 obtain ⟨r,h1,e1,rfl,g⟩:=x h
 exact ⟨h1,e1,g⟩
end
@[simp] theorem zmC {α:Type} {a:α}:noX (pure a:M α)=pure a:=rfl
noncomputable def zka {α:Type} (c:String):M α:=λh=> .exc c h
@[simp] theorem zjd {α β:Type} {c:String} {f:α->M β}:((zka c:M α)>>=f)=zka c:=rfl
@[simp] theorem zmi {c:String} {sd:Sd}:zpO c sd=zka c:=rfl
theorem zri {n:Nat} {Fs:List (List D->M D)} {fi:FE} {fs:FA} {sd:Sd}:zsU n Fs fi fs sd=(do let i<-fi sd;let F<-zqT Fs i;let ds<-fs sd;zal n F ds):=rfl
def tI (xs:List Int):D:= .tup (xs.map D.int)
def zbu (o:List Int×Int):D:= .tup [tI o.1,.int o.2]
def za8 (m:Int) (os:List (List Int×Int)):D:= .tup [.int m,.tup (os.map zbu)]
structure Stk (m:Int) (os:List (List Int×Int)):Prop where
 m0:1<=m
 m1:m<=10
 len:os.length<=12
 up: ∀ o∈os,o.1.Pairwise (· < ·)
 bd: ∀ o∈os, ∀ x∈o.1,0<=x/\x<m
 ne: ∀ o∈os,o.1≠[]
 pos: ∀ o∈os,0<o.2
theorem Stk.olen {m:Int} {os:List (List Int×Int)} (s:Stk m os): ∀ o∈os,o.1.length<=10:=λo ho=>by
 have h:=zfu (m:=m) (ts:=o.1.map D.int) (l:=0) (zcC.mpr ⟨s.up o ho,λx hx=>s.bd o ho x hx⟩) (by have:=s.m0;omega)
 rw [qaH] at h
 have:=s.m1
 omega
theorem zlo {fo fe:FE} {sd:Sd}:zhA fo fe sd=(do let x<-fo sd;zdH x;let y<-fe sd;zcT x y):=rfl
theorem zo2 {n:Nat}:zdH (.cel n)=(do let _<-zah n;pure ()):=rfl
theorem zlD {n:Nat} {zs:List D}:zcT (.cel n) (.tup zs)=(do let ds<-zah n;fits (ds.length+zs.length);zbe n (ds++zs);pure .non):=rfl
theorem zga {xs:List Int} {m:Int} (m0:0<=m) (h:xs.Pairwise (· < ·)) (b: ∀ x∈xs,0<=x/\x<m):(xs.length:Int)<=m:=by
 have:=zfu (m:=m) (ts:=xs.map D.int) (l:=0) (zcC.mpr ⟨h,b⟩) m0
 rw [qaH] at this
 omega
theorem zmQ {xs:List Int} {m:Int} (m0:0<=m) (b: ∀ x∈xs,0<=x/\x<m):((zfY xs).length:Int)<=m:=zga m0 (zev xs) λx hx=>b x (zb5.mp hx)
theorem zhh {xs:List Int} {m:Int} (m0:0<=m) (m1:m<=60) (b: ∀ x∈xs,0<=x/\x<m):(xs.foldl step_dedup []).length<64:=by
 have h:=zmQ m0 b
 unfold zfY at h
 rw [(zaN _).length_eq] at h
 omega
theorem zgY {n:Nat} {h:Hh} {xs:List Int} {P:D->Hh->Prop} (e:h[n]? = some (.lst (xs.map D.int))) (h1:(xs.foldl step_dedup []).length<64) (h2:xs.length<4000) (k:P (.lst ((zfY xs).map D.int)) h):wp (zdi (.cel n)) h P:=by
 unfold zdi
 show wp (zah n>>=_) h P
 rw [zaq,zcq e]
 show wp (do let ns<-ofO (zcn (xs.map D.int));if (ns.foldl step_dedup []).length<64/\ns.length<4000 then pure (.lst ((zfY ns).map D.int)) else M.bad:M D) h P
 rw [zc3]
 show wp (if (xs.foldl step_dedup []).length<64/\xs.length<4000 then (pure (.lst ((zfY xs).map D.int)):M D) else M.bad) h P
 rw [qa4 ⟨h1,h2⟩,zap]
 exact k
theorem zpl: ∀ {xs ys:List Int},xs.Pairwise (· < ·)->ys.Pairwise (· < ·)->(∀ k,k∈xs↔k∈ys)->xs=ys:=by
 intro xs ys hx hy hm
 have nx:xs.Nodup:=hx.imp λz=>by omega
 have ny:ys.Nodup:=hy.imp λz=>by omega
 have p:List.Perm xs ys:=(List.perm_ext_iff_of_nodup nx ny).mpr hm
 exact (zdV p (hx.imp λz=>by omega)).trans (zdV (List.Perm.refl ys) (hy.imp λz=>by omega)).symm
theorem znb {x y:D} {a b:PyData} (e1:pd x=some a) (e2:pd y=some b) (h:zh1 a b=true):dEq x y=pure (.bl (PyData.eqv a b)):=by
 show zjk false x y=_
 unfold zjk
 rw [e1,e2]
 simp only [h,if_true]
 rfl
theorem znN (xs:List Int):pd (tI xs)=some (.tuple (xs.map PyData.int)):=by unfold tI pd;rw [zbK];rfl
theorem zpn (xs ys:List Int):dEq (.lst (xs.map D.int)) (.lst (ys.map D.int))=pure (.bl (xs==ys)):=by
 have e1:pd (.lst (xs.map D.int))=some (.list (xs.map PyData.int)):=by unfold pd;rw [zbK];rfl
 have e2:pd (.lst (ys.map D.int))=some (.list (ys.map PyData.int)):=by unfold pd;rw [zbK];rfl
 rw [znb e1 e2 (by unfold zh1;simp [PyData.canLay0,zaU,PyData.depth,zbk])]
 simp only [PyData.eqv,zfQ]
theorem zny (xs:List Int):ztp [.lst (xs.map D.int)]=pure (.int xs.sum):=by
 show (do let bs<-ofO (zcn (xs.map D.int));pure (.int bs.sum):M D)=_
 rw [zc3]
 rfl
def gk (d:D):Prop:=kn d=true/\ ∀ ds,d= .tup ds->ds.length<64/\ ∀ x∈ds,kn x=true
theorem zqo {xs:List Int} (h:xs.length<64):gk (tI xs):=⟨rfl,λds e=>by
  cases e
  exact ⟨by rw [qaH];exact h,λx hx=>by obtain ⟨i,_,rfl⟩:=qaU.mp hx;rfl⟩⟩
def zrT (n:Nat):D->Bool
 | .tup ds=>zci n 0 ds
 | _=>false
theorem zfs {os:List (List Int×Int)} {i:Int} (h0:0<=i) (h1:i<os.length):atI (os.map zbu) i=some (zbu (os.getD i.toNat ([],0))):=by
 have hl:i.toNat<os.length:=by omega
 have:=zeA (xs:=os.map zbu) (j:=i.toNat) (v:=zbu (os.getD i.toNat ([],0))) (by simp [hl,List.getD])
 rw [<- this]
 congr 1
 omega
def zcY (os:List (List Int×Int)) (ls:List Int):List (List Int×Int):=ls.map λi=>os.getD i.toNat ([],0)
theorem zer {os:List (List Int×Int)} {ls:List Int} (b: ∀ x∈ls,0<=x/\x<os.length): ∀ o∈zcY os ls,o∈os:=λo ho=>by
 obtain ⟨i,hi,rfl⟩:=qaU.mp ho
 have:=b i hi
 have hl:i.toNat<os.length:=by omega
 simp [List.getD,hl]
theorem ziY {xs:List Int} (h:xs.Nodup):(zdu xs).Pairwise (· < ·):=by
 have h1:=zda xs
 have h2:(zdu xs).Nodup:=(zaN xs).nodup_iff.mpr h
 exact (List.pairwise_and_iff.mpr ⟨h1,h2⟩).imp λz=>by have:=z.1;have:=z.2;omega
theorem zj0 {xs:List Int} {m:Int} (m0:0<=m) (h:xs.Nodup) (b: ∀ x∈xs,0<=x/\x<m):(xs.length:Int)<=m:=by
 rw [<- (zaN xs).length_eq]
 exact zga m0 (ziY h) λx hx=>b x ((zaN xs).mem_iff.mp hx)
theorem ztw {i j:Int}:zoQ [.int i,.int j]=pure (.int (if j<i then j else i)):=rfl
theorem zsm {i j:Int}:zo3 [.int i,.int j]=pure (.int (if j>i then j else i)):=rfl
theorem zmO (xs:List Int):dNe (tI xs) (.tup [])=pure (.bl (!xs.isEmpty)):=by
 show zjk true _ _=_
 unfold zjk
 rw [znN xs,show pd (.tup [])=some (.tuple []) from rfl]
 have c:zh1 (.tuple (xs.map PyData.int)) (.tuple [])=true:=by
  unfold zh1
  simp [PyData.canLay0,PyData.canLayAll0,zaU,PyData.depth,PyData.depthAll,zbk]
 simp only [c,if_true,PyData.eqv]
 cases xs<;>rfl
theorem zld {b:Nat} {turn:D->M (Option D)} (ht: ∀ (i:Int) {h:Hh} {Q:Option D->Hh->Prop},Bx b h->(∀ o h',Ext b h h'->(o=none\/o=some (.int i))->Q o h')->wp (turn (.int i)) h Q):
  ∀ (is:List Int) {h:Hh} {P:List D->Hh->Prop},Bx b h->(∀ (ys:List Int) h',Ext b h h'->ys.Sublist is->P (ys.map D.int) h')->wp (zca turn (is.map D.int)) h P
 | [],h,P,q,k=>by
  rw [map_nil,zca,zap]
  exact k [] h (Ext.refl q) .slnil
 | i::r,h,P,q,k=>by
  rw [qaM,zca,zaq]
  refine ht i q λo h2 x2 ho=> ?_
  rw [zaq]
  refine zld ht r x2.1 λys h3 x3 hl=> ?_
  rw [zap]
  rcases ho with rfl | rfl
  ·exact k ys h3 (x2.trans x3) (.cons _ hl)
  ·exact k (i::ys) h3 (x2.trans x3) (.cons₂ _ hl)
theorem zb1 (n:Nat):((List.range n).map λ(k:Nat)=>(k:Int)).Pairwise (· < ·):=by
 rw [pairwise_map]
 exact List.pairwise_lt_range.imp λz=>by omega
theorem zct {n:Nat}: ∀ x∈(List.range n).map λ(k:Nat)=>(k:Int),0<=x/\x<n:=λx hx=>by
 obtain ⟨k,hk,rfl⟩:=qaU.mp hx
 have:=mem_range.mp hk
 omega
section
variable {α β:Type} {m:M α} {a:α} {f:α->M β} {c:String}
end
theorem zq6 {g:FS} {sd:Sd}:zue g sd=noX (g sd):=rfl
theorem zra {g:FE} {sd:Sd}:zub g sd=noX (g sd):=rfl
theorem zfK (xs:List D) {k:Int} (h:0<=k):L3.zfZ xs none (some k)=xs.take k.toNat:=by
 have e:=HT.zll xs.length xs.length k.toNat
 rw [Int.toNat_of_nonneg h] at e
 unfold L3.zfZ
 have e0:HT.sIx xs.length 0 none=0:=rfl
 rw [e0,e]
 simp
theorem zdS (xs:List D) {k:Int} (h:0<=k):L3.zfZ xs (some k) none=xs.drop k.toNat:=by
 have e:=HT.zll xs.length 0 k.toNat
 rw [Int.toNat_of_nonneg h] at e
 unfold L3.zfZ
 have e0:HT.sIx xs.length xs.length none=xs.length:=rfl
 rw [e0,e]
 by_cases hk:k.toNat<=xs.length
 ·rw [Nat.min_eq_left hk,List.take_of_length_le (by rw [length_drop];omega)]
 ·rw [Nat.min_eq_right ⋯,List.drop_eq_nil_of_le (show xs.length<=k.toNat by omega)]
  simp
theorem zk1 {xs:List Int} {m:Int} (m0:0<=m) (h:xs.Pairwise (· < ·)) (b: ∀ x∈xs,0<=x/\x<m):(xs==(List.range m.toNat).map λ(k:Nat)=>(k:Int))=((xs.length:Int)==m):=by
 rw [Bool.eq_iff_iff,beq_iff_eq,beq_iff_eq]
 constructor
 ·intro e
  rw [e]
  simp
  omega
 ·intro e
  refine zpl h (zb1 _) λk=>⟨λhk=> ?_,λhk=> ?_⟩
  ·obtain ⟨h1,h2⟩:=b k hk
   exact qaU.mpr ⟨k.toNat,mem_range.mpr ⋯,⋯⟩
  ·have hb:=zct k hk
   by_cases c:k∈xs
   ·exact c
   ·exfalso
    have:=zj0 (xs:=k::xs) m0 (nodup_cons.mpr ⟨c,h.imp λz=>by omega⟩) λx hx=>by
     rcases qaP.mp hx with rfl | hx
     ·omega
     ·exact b x hx
    rw [qaE] at this
    omega
end L3
namespace K16
open L2 L3
def G_29:FS:=zan (sIf (zcm dLt (zaf 1) (zaw zeF (zac (zaf 0) zar))) (zb3 (cOp dIx (zaf 0) (zaf 1))) zeD) (zb3 (cOp zcK (cOp zpf (cK (.int 6151)) (zaf 1)) (cK (.int 29))))
def F_29:List D->M D:=zcM 2 G_29
theorem d_29 (x0 x1:D):F_29 [x0,x1]=(do let o<-G_29 [some x0,some x1];zcE o):=rfl
def G_30:FS:=zan (zbH 2 (cOp zcK (cOp zfE (cOp zcK (zaf 0) (cK (.int 1))) (cK (.int 40692))) (cOp zfE (cK (.int 104729)) (zaf 1)))) (zan (zbH 2 (cOp zcK (cOp zqK (cOp zfE (zaf 2) (zaf 2)) (cK (.int 2147483399))) (zaf 1))) (zb3 (cOp zqK (cOp zfE (zaf 2) (cOp zcK (zaf 2) (cK (.int 31)))) (cK (.int 2147483563)))))
def F_30:List D->M D:=zcM 3 G_30
theorem d_30 (x0 x1:D):F_30 [x0,x1]=(do let o<-G_30 [some x0,some x1,none];zcE o):=rfl
def zcA:FS:=zbH 3 (cOp zcK (cOp zfE (zaf 3) (cK (.int 2147483647))) (zaw (zal 2 F_30) (zac (zaf 2) (zac (zaf 4) zar))))
def G_31:FS:=zan (zbH 2 (zaw (zal 2 F_29) (zac (zaf 0) (zac (zaf 1) zar)))) (zan (sIf (zcm dEq (cOp zqK (zaf 2) (cK (.int 2))) (cK (.int 0))) (zb3 (zhE (zac (cOp znJ (zaf 2) (cK (.int 2))) zar))) zeD) (zan (zbH 3 (cK (.int 0))) (zan (zlt (zlS (zac (cK (.int 24)) zar)) (zbl 4) zcA) (zb3 (zhE (zac (zaf 3) zar))))))
def F_31:List D->M D:=zcM 5 G_31
theorem d_31 (x0 x1:D):F_31 [x0,x1]=(do let o<-G_31 [some x0,some x1,none,none,none];zcE o):=rfl
def G_32:FS:=zan (zrf (zaw zd8 (zac (cOp dIx (zaf 0) (cK (.int 0))) (zac (zaf 1) zar))) (zke 2 (zd4 (zbl 2) (zd4 (zbl 3) zkx)))) (zan (zrf (zaf 2) (znG (zaf 0) (cK (.int 0)))) (zb3 (zaf 3)))
def F_32:List D->M D:=zcM 4 G_32
theorem d_32 (x0 x1:D):F_32 [x0,x1]=(do let o<-G_32 [some x0,some x1,none,none];zcE o):=rfl
def zbM:FE:=zaf 0
def zbQ:FT:=zcm dLe (zaw (zal 2 F_32) (zac (zaf 1) (zac (cK (.int 4)) zar))) (zaf 2)
def za5:FS:=zan (zbH 8 (zaZ (zlS (zac (zaf 3) zar)) (zbl 0) zbQ zbM [none,some 0,some 5])) (zan (sIf (zcm dEq (zaf 8) (zoI zar)) (zbH 8 (zoI (zac (zaw (zal 2 F_32) (zac (zaf 0) (zac (zaf 3) zar))) zar))) zeD) (zdP (zdB (zaf 6) (zeS (zac (zaw zc8 (zac (zaf 8) zar)) (zac (cOp zcK (cK (.int 1)) (zaw (zal 2 F_32) (zac (zaf 0) (zac (zaf 4) zar)))) zar))))))
def G_33:FS:=zan (zbH 3 (cOp zcK (cK (.int 1)) (zaw (zal 2 F_32) (zac (zaf 0) (zac (zaf 1) zar))))) (zan (zbH 4 (cOp dIx (zoI (zac (cK (.int 1)) (zac (cK (.int 3)) (zac (cK (.int 20)) (zac (cOp zrX (cK (.int 10)) (cK (.int 20))) zar))))) (zaw (zal 2 F_32) (zac (zaf 0) (zac (cK (.int 4)) zar))))) (zan (zbH 5 (zaw (zal 2 F_32) (zac (zaf 0) (zac (cK (.int 3)) zar)))) (zan (zbH 6 (zhE zar)) (zan (zlt (zlS (zac (zaw (zal 2 F_32) (zac (zaf 0) (zac (cOp zcK (zaf 2) (cK (.int 1))) zar))) zar)) (zbl 7) za5) (zb3 (zeS (zac (zaf 3) (zac (zaw zc8 (zac (zaf 6) zar)) zar))))))))
def F_33:List D->M D:=zcM 9 G_33
theorem d_33 (x0 x1 x2:D):F_33 [x0,x1,x2]=(do let o<-G_33 [some x0,some x1,some x2,none,none,none,none,none,none];zcE o):=rfl
def zbv:FE:=zaf 0
def zbw:FT:=zcm dIn (zaf 1) (cOp dIx (zaf 0) (cK (.int 0)))
def zdb:FE:=zaf 0
def zcd:FT:=zcm dEq (zaZ (iSq (zaf 1)) (zbl 0) zbw zbv [none,some 0]) (zoI zar)
def G_34:FS:=zan (zrf (zaw (zal 3 F_33) (zac (zaf 0) (zac (zaf 1) (zac (cOp zrj (zaf 2) (cK (.int 1))) zar)))) (zke 2 (zd4 (zbl 3) (zd4 (zbl 4) zkx)))) (zan (zbH 5 (zaw zc8 (zac (zaZ (zlS (zac (zaf 3) zar)) (zbl 0) zcd zdb [none,some 4]) zar))) (zan (zbH 6 (zaw (zal 2 F_32) (zac (zaf 0) (zac (cOp zcK (zaw zeF (zac (zaf 4) zar)) (cK (.int 1))) zar)))) (zan (sIf (zcm dNe (zaf 5) (zeS zar)) (zbH 4 (cOp zcK (cOp zcK (cSl (zaf 4) zeO (zeL (zaf 6))) (zeS (zac (zeS (zac (zaf 5) (zac (cOp zcK (cK (.int 1)) (zaw (zal 2 F_32) (zac (zaf 0) (zac (cK (.int 9)) zar)))) zar))) zar))) (cSl (zaf 4) (zeL (zaf 6)) zeO))) zeD) (zb3 (zeS (zac (zaf 3) (zac (zaf 4) zar)))))))
def F_34:List D->M D:=zcM 7 G_34
theorem d_34 (x0 x1 x2:D):F_34 [x0,x1,x2]=(do let o<-G_34 [some x0,some x1,some x2,none,none,none,none];zcE o):=rfl
def zaL:FS:=zdP (zhA (zaf 1) (cOp dIx (zaf 2) (cK (.int 0))))
def G_14:FS:=zan (zbH 1 (zhE zar)) (zan (zlt (iSq (zaf 0)) (zbl 2) zaL) (zb3 (zaw zc8 (zac (cUn zdi (zaf 1)) zar))))
def F_14:List D->M D:=zcM 3 G_14
theorem d_14 (x0:D):F_14 [x0]=(do let o<-G_14 [some x0,none,none];zcE o):=rfl
def G_15:FS:=zb3 (cOp dEq (zaw zeF (zac (zaw (zal 1 F_14) (zac (zaf 1) zar)) zar)) (cOp dIx (zaf 0) (cK (.int 0))))
def F_15:List D->M D:=zcM 2 G_15
theorem d_15 (x0 x1:D):F_15 [x0,x1]=(do let o<-G_15 [some x0,some x1];zcE o):=rfl
def G_8:FS:=zb3 (zaw (zal 2 F_15) (zac (zaf 0) (zac (cOp dIx (zaf 0) (cK (.int 1))) zar)))
def F_8:List D->M D:=zcM 1 G_8
theorem d_8 (x0:D):F_8 [x0]=(do let o<-G_8 [some x0];zcE o):=rfl
def G_10:FS:=sIf (ziu (ziS (zaw (zal 1 F_8) (zac (zaf 0) zar)))) znf zeD
def F_10:List D->M D:=zcM 1 G_10
theorem d_10 (x0:D):F_10 [x0]=(do let o<-G_10 [some x0];zcE o):=rfl
def zb6:FS:=zan (zbH 2 (cOp zpf (zaf 2) (cK (.int 2)))) (sIf (zcm dIn (zaf 3) (zaf 1)) (zbH 2 (cOp zcK (zaf 2) (cK (.int 1)))) zeD)
def G_21:FS:=zan (zbH 2 (cK (.int 0))) (zan (zlt (zlS (zac (zaf 0) zar)) (zbl 3) zb6) (zb3 (zaf 2)))
def F_21:List D->M D:=zcM 4 G_21
theorem d_21 (x0 x1:D):F_21 [x0,x1]=(do let o<-G_21 [some x0,some x1,none,none];zcE o):=rfl
def zbO:FE:=zeS (zac (cOp zcK (cOp dIx (zaf 1) (cK (.int 1))) (cOp dIx (zaf 0) (cK (.int 0)))) (zac (cOp zcK (zeS (zac (zaf 2) zar)) (cOp dIx (zaf 0) (cK (.int 1)))) (zac (cOp dOr (zaf 3) (cOp dIx (zaf 0) (cK (.int 2)))) zar)))
def za7:FS:=zan (zbH 3 (cOp dIx (cOp dIx (zaf 0) (cK (.int 1))) (zaf 2))) (zan (zbH 4 (zaw (zal 2 F_21) (zac (cOp dIx (zaf 0) (cK (.int 0))) (zac (cOp dIx (zaf 3) (cK (.int 0))) zar)))) (zan (zbH 5 (zaZ (iSq (zaf 1)) (zbl 0) (λ_=>pure true) zbO [none,some 3,some 2,some 4])) (zbH 1 (cOp zcK (cOp zcK (cSl (zaf 1) zeO (zeL (cK (.int 1)))) (zaf 5)) (cSl (zaf 1) (zeL (cK (.int 1))) zeO)))))
def G_20:FS:=zan (zbH 1 (zoI (zac (zeS (zac (cK (.int 0)) (zac (zeS zar) (zac (cK (.int 0)) zar)))) zar))) (zan (zlt (zoA (zac (cOp zrj (zaw zeF (zac (cOp dIx (zaf 0) (cK (.int 1))) zar)) (cK (.int 1))) (zac (cUn zlu (cK (.int 1))) (zac (cUn zlu (cK (.int 1))) zar)))) (zbl 2) za7) (zb3 (zaf 1)))
def F_20:List D->M D:=zcM 6 G_20
theorem d_20 (x0:D):F_20 [x0]=(do let o<-G_20 [some x0,none,none,none,none,none];zcE o):=rfl
def zbj:FE:=zeS (zac (cOp dIx (zaf 0) (cK (.int 0))) (zac (cOp dIx (zaf 0) (cK (.int 1))) zar))
def zbi:FT:=zcm dEq (cOp dIx (zaf 0) (cK (.int 2))) (zaf 1)
def G_19:FS:=zan (zbH 1 (zaw (zal 2 F_21) (zac (cOp dIx (zaf 0) (cK (.int 0))) (zac (cUn zfC (cOp dIx (zaf 0) (cK (.int 0)))) zar)))) (zb3 (zaZ (iSq (zaw (zal 1 F_20) (zac (zaf 0) zar))) (zbl 0) zbi zbj [none,some 1]))
def F_19:List D->M D:=zcM 2 G_19
theorem d_19 (x0:D):F_19 [x0]=(do let o<-G_19 [some x0,none];zcE o):=rfl
def G_22:FS:=zan (zdP (zaw (zal 1 F_10) (zac (zaf 0) zar))) (zb3 (zaw zeF (zac (zaw (zal 1 F_19) (zac (zaf 0) zar)) zar)))
def F_22:List D->M D:=zcM 1 G_22
theorem d_22 (x0:D):F_22 [x0]=(do let o<-G_22 [some x0];zcE o):=rfl
def G_5:FS:=zb3 (zrY (cUn (zkd "int") (zaf 0)) (zsG (cUn (zkd "bool") (zaf 0))))
def F_5:List D->M D:=zcM 1 G_5
theorem d_5 (x0:D):F_5 [x0]=(do let o<-G_5 [some x0];zcE o):=rfl
def G_24:FS:=zan (zbH 2 (zaw zgj (zac (zaw (zal 1 F_19) (zac (zaf 0) zar)) zar))) (zan (sIf (tOr (ziu (ziS (zaw (zal 1 F_5) (zac (zaf 1) zar)))) (tOr (zcm dLt (zaf 1) (cK (.int 0))) (zcm dGe (zaf 1) (zaw zeF (zac (zaf 2) zar))))) znf zeD) (zb3 (cOp dIx (cOp dIx (zaf 2) (zaf 1)) (cK (.int 1)))))
def F_24:List D->M D:=zcM 3 G_24
theorem d_24 (x0 x1:D):F_24 [x0,x1]=(do let o<-G_24 [some x0,some x1,none];zcE o):=rfl
def G_27:FS:=zan (zdP (zaw (zal 1 F_10) (zac (zaf 0) zar))) (zb3 (cOp dIx (zaw zmG (zac (zaw (zal 1 F_19) (zac (zaf 0) zar)) zar)) (cK (.int 1))))
def F_27:List D->M D:=zcM 1 G_27
theorem d_27 (x0:D):F_27 [x0]=(do let o<-G_27 [some x0];zcE o):=rfl
def za1:FS:=zan (sIf (tOr (ziu (ziS (zaw (zal 1 F_5) (zac (zaf 3) zar)))) (tOr (zcm dLt (zaf 3) (zaf 2)) (zcm dGe (zaf 3) (zaf 1)))) (zb3 (cK (.bl false))) zeD) (zbH 2 (cOp zcK (zaf 3) (cK (.int 1))))
def G_6:FS:=zan (sIf (ziu (ziS (cUn (zkd "tuple") (zaf 0)))) (zb3 (cK (.bl false))) zeD) (zan (zbH 2 (cK (.int 0))) (zan (zlt (iSq (zaf 0)) (zbl 3) za1) (zb3 (cK (.bl true)))))
def F_6:List D->M D:=zcM 4 G_6
theorem d_6 (x0 x1:D):F_6 [x0,x1]=(do let o<-G_6 [some x0,some x1,none,none];zcE o):=rfl
def G_7:FS:=zb3 (zaw (zal 2 F_6) (zac (zaf 1) (zac (zaw zeF (zac (cOp dIx (zaf 0) (cK (.int 1))) zar)) zar)))
def F_7:List D->M D:=zcM 2 G_7
theorem d_7 (x0 x1:D):F_7 [x0,x1]=(do let o<-G_7 [some x0,some x1];zcE o):=rfl
def G_12:FS:=sIf (ziu (ziS (zaw (zal 2 F_7) (zac (zaf 0) (zac (zaf 1) zar))))) znf zeD
def F_12:List D->M D:=zcM 2 G_12
theorem d_12 (x0 x1:D):F_12 [x0,x1]=(do let o<-G_12 [some x0,some x1];zcE o):=rfl
def zc2:FE:=cOp dIx (cOp dIx (zaf 1) (cK (.int 1))) (zaf 0)
def G_13:FS:=zan (zdP (zaw (zal 2 F_12) (zac (zaf 0) (zac (zaf 1) zar)))) (zb3 (zaZ (iSq (zaf 1)) (zbl 0) (λ_=>pure true) zc2 [none,some 0]))
def F_13:List D->M D:=zcM 2 G_13
theorem d_13 (x0 x1:D):F_13 [x0,x1]=(do let o<-G_13 [some x0,some x1];zcE o):=rfl
def G_17:FS:=zb3 (zrY (zaw (zal 2 F_7) (zac (zaf 0) (zac (zaf 1) zar))) (zaw (zal 2 F_15) (zac (zaf 0) (zac (zaw (zal 2 F_13) (zac (zaf 0) (zac (zaf 1) zar))) zar))))
def F_17:List D->M D:=zcM 2 G_17
theorem d_17 (x0 x1:D):F_17 [x0,x1]=(do let o<-G_17 [some x0,some x1];zcE o):=rfl
def G_18:FS:=sIf (ziu (ziS (zaw (zal 2 F_17) (zac (zaf 0) (zac (zaf 1) zar))))) znf zeD
def F_18:List D->M D:=zcM 2 G_18
theorem d_18 (x0 x1:D):F_18 [x0,x1]=(do let o<-G_18 [some x0,some x1];zcE o):=rfl
def zcx:FE:=cOp dIx (zaf 0) (cK (.int 1))
def G_9:FS:=zb3 (zaw ztp (zac (zaZ (iSq (zaw (zal 2 F_13) (zac (zaf 0) (zac (zaf 1) zar)))) (zbl 0) (λ_=>pure true) zcx [none]) zar))
def F_9:List D->M D:=zcM 2 G_9
theorem d_9 (x0 x1:D):F_9 [x0,x1]=(do let o<-G_9 [some x0,some x1];zcE o):=rfl
def zce:FE:=zaf 0
def zb9:FT:=zcm zrc (zaf 0) (zaf 1)
def G_25:FS:=zan (zdP (zaw (zal 2 F_18) (zac (zaf 0) (zac (zaf 1) zar)))) (zan (zbH 2 (zeS (zac (zaw (zal 2 F_9) (zac (zaf 0) (zac (zaf 1) zar))) (zac (zaf 1) zar)))) (zb3 (zaw zeF (zac (zaZ (iSq (zaw (zal 1 F_19) (zac (zaf 0) zar))) (zbl 0) zb9 zce [none,some 2]) zar))))
def F_25:List D->M D:=zcM 3 G_25
theorem d_25 (x0 x1:D):F_25 [x0,x1]=(do let o<-G_25 [some x0,some x1,none];zcE o):=rfl
def zbP:FE:=zaf 0
def zbS:FT:=zcm zqs (zaf 0) (zaf 1)
def G_26:FS:=zan (zdP (zaw (zal 2 F_18) (zac (zaf 0) (zac (zaf 1) zar)))) (zan (zbH 2 (zeS (zac (zaw (zal 2 F_9) (zac (zaf 0) (zac (zaf 1) zar))) (zac (zaf 1) zar)))) (zan (zbH 3 (zaZ (iSq (zaw (zal 1 F_19) (zac (zaf 0) zar))) (zbl 0) zbS zbP [none,some 2])) (zb3 (cIf (zpr (zaf 3)) (cOp dIx (zaw zmG (zac (zaf 3) zar)) (cK (.int 1))) (cK .non)))))
def F_26:List D->M D:=zcM 4 G_26
theorem d_26 (x0 x1:D):F_26 [x0,x1]=(do let o<-G_26 [some x0,some x1,none,none];zcE o):=rfl
def zcf:FE:=zaf 0
def zcj:FT:=zcm dLe (cOp dIx (zaf 0) (cK (.int 0))) (zaf 1)
def G_23:FS:=zan (sIf (tOr (ziu (ziS (zaw (zal 1 F_5) (zac (zaf 1) zar)))) (zcm dLt (zaf 1) (cK (.int 0)))) znf zeD) (zan (zdP (zaw (zal 1 F_10) (zac (zaf 0) zar))) (zb3 (zaw zeF (zac (zaZ (iSq (zaw (zal 1 F_19) (zac (zaf 0) zar))) (zbl 0) zcj zcf [none,some 1]) zar))))
def F_23:List D->M D:=zcM 2 G_23
theorem d_23 (x0 x1:D):F_23 [x0,x1]=(do let o<-G_23 [some x0,some x1];zcE o):=rfl
def G_11:FS:=sIf (tOr (ziu (ziS (zaw (zal 1 F_5) (zac (zaf 1) zar)))) (tOr (zcm dLt (zaf 1) (cK (.int 0))) (zcm dGe (zaf 1) (zaw zeF (zac (cOp dIx (zaf 0) (cK (.int 1))) zar))))) znf zeD
def F_11:List D->M D:=zcM 2 G_11
theorem d_11 (x0 x1:D):F_11 [x0,x1]=(do let o<-G_11 [some x0,some x1];zcE o):=rfl
def G_16:FS:=zb3 (zeS (zac (cOp dIx (zaf 0) (cK (.int 0))) (zac (cOp zcK (cOp zcK (cSl (cOp dIx (zaf 0) (cK (.int 1))) zeO (zeL (zaf 1))) (zaf 2)) (cSl (cOp dIx (zaf 0) (cK (.int 1))) (zeL (cOp zcK (zaf 1) (cK (.int 1)))) zeO)) zar)))
def F_16:List D->M D:=zcM 3 G_16
theorem d_16 (x0 x1 x2:D):F_16 [x0,x1,x2]=(do let o<-G_16 [some x0,some x1,some x2];zcE o):=rfl
def G_28:FS:=zan (zdP (zaw (zal 2 F_11) (zac (zaf 0) (zac (zaf 1) zar)))) (zan (sIf (tOr (ziu (ziS (zaw (zal 1 F_5) (zac (zaf 2) zar)))) (zcm dLt (zaf 2) (cK (.int 1)))) znf zeD) (zb3 (zaw (zal 3 F_16) (zac (zaf 0) (zac (zaf 1) (zac (zeS (zac (zeS (zac (cOp dIx (cOp dIx (cOp dIx (zaf 0) (cK (.int 1))) (zaf 1)) (cK (.int 0))) (zac (zaf 2) zar))) zar)) zar))))))
def F_28:List D->M D:=zcM 3 G_28
theorem d_28 (x0 x1 x2:D):F_28 [x0,x1,x2]=(do let o<-G_28 [some x0,some x1,some x2];zcE o):=rfl
def zed:FT:=zok (zcm zjF (cOp dIx (zaf 6) (cUn zlu (cK (.int 1)))) (cK .non)) (zcm dLt (zaw zeF (zac (zaf 6) zar)) (cK (.int 9)))
def zec:FS:=zan (sIf (tOr (zcm zhW (zaw (zal 2 F_17) (zac (zaf 3) (zac (cOp dIx (zaf 6) (cUn zlu (cK (.int 1)))) zar))) (cK (.bl true))) (zcm dNe (zaw (zal 2 F_25) (zac (zaf 3) (zac (cOp dIx (zaf 6) (cUn zlu (cK (.int 1)))) zar))) (cOp zrj (cOp zcK (zaf 5) (zaw zeF (zac (zaf 6) zar))) (cK (.int 2))))) (zb3 (cK (.bl false))) zeD) (zdP (zdB (zaf 6) (zaw (zal 2 F_26) (zac (zaf 3) (zac (cOp dIx (zaf 6) (cUn zlu (cK (.int 1)))) zar)))))
def zfh:FE:=zeS (zac (zaw (zal 2 F_9) (zac (zaf 1) (zac (zaf 0) zar))) (zac (zaf 0) zar))
def zfL:FT:=zcm zjF (zaf 0) (cK .non)
def zeq:FS:=zan (zbH 2 (zaw (zal 2 F_31) (zac (zaf 0) (zac (zaf 1) zar)))) (zan (zbH 3 (zaw (zal 3 F_34) (zac (zaf 2) (zac (cK (.int 8)) (zac (cK (.int 9)) zar))))) (zan (zbH 4 (zaw (zal 1 F_22) (zac (zaf 3) zar))) (zan (zbH 5 (zaw (zal 2 F_32) (zac (zaf 2) (zac (zaf 4) zar)))) (zan (zbH 6 (zhE (zac (zaw (zal 2 F_24) (zac (zaf 3) (zac (cK (.int 0)) zar))) (zac (zaw (zal 2 F_24) (zac (zaf 3) (zac (zaf 5) zar))) zar)))) (zan (sIf (zcm dNe (cOp dIx (zaf 6) (cK (.int 0))) (zaw (zal 1 F_27) (zac (zaf 3) zar))) (zb3 (cK (.bl false))) zeD) (zan (znc 10 zed zec) (zan (zbH 7 (zaZ (iSq (zrZ (zaf 6) (zeL (cK (.int 1))) zeO)) (zbl 0) zfL zfh [none,some 3])) (zan (sIf (tOr (zcm dNe (zaf 7) (zaw zgj (zac (zaf 7) zar))) (zcm dNe (cUn zfx (zaf 7)) (zaw zeF (zac (zaf 7) zar)))) (zb3 (cK (.bl false))) zeD) (zan (sIf (zok (zcm zsB (cOp dIx (zaf 6) (cUn zlu (cK (.int 1)))) (cK .non)) (zcm dNe (cOp zcK (zaf 5) (zaw zeF (zac (zaf 7) zar))) (zaf 4))) (zb3 (cK (.bl false))) zeD) (zan (zbH 8 (zaw (zal 2 F_23) (zac (zaf 3) (zac (cOp dIx (cOp dIx (zaf 7) (cK (.int 0))) (cK (.int 0))) zar)))) (zan (sIf (tOr (ziu (ziS (zf6 dLt dLe (zaf 5) (zaf 8) (zaf 4)))) (zok (zcm dLt (zaf 8) (zaf 4)) (zcm dLe (zaw (zal 2 F_9) (zac (zaf 3) (zac (zaw (zal 2 F_24) (zac (zaf 3) (zac (zaf 8) zar))) zar))) (cOp dIx (cOp dIx (zaf 7) (cK (.int 0))) (cK (.int 0)))))) (zb3 (cK (.bl false))) zeD) (zan (zbH 9 (zaw (zal 2 F_32) (zac (zaf 2) (zac (zaw zeF (zac (cOp dIx (zaf 3) (cK (.int 1))) zar)) zar)))) (zan (zbH 10 (zaw (zal 3 F_28) (zac (zaf 3) (zac (zaf 9) (zac (cOp zcK (cOp zcK (cOp dIx (cOp dIx (cOp dIx (zaf 3) (cK (.int 1))) (zaf 9)) (cK (.int 1))) (cK (.int 1))) (zaw (zal 2 F_32) (zac (zaf 2) (zac (cK (.int 9)) zar)))) zar))))) (sIf (tOr (zcm dGt (zaw (zal 2 F_23) (zac (zaf 10) (zac (cOp dIx (cOp dIx (zaf 7) (cK (.int 0))) (cK (.int 0))) zar))) (zaf 8)) (zcm dNe (zaw (zal 1 F_22) (zac (zaf 10) zar)) (zaf 4))) (zb3 (cK (.bl false))) zeD))))))))))))))
def G_35:FS:=zan (zlt (zlS (zac (zaw zo3 (zac (cK (.int 1)) (zac (zaw zoQ (zac (zaw zeF (zac (zaf 0) zar)) (zac (cK (.int 3)) zar))) zar))) zar)) (zbl 1) zeq) (zb3 (cK (.bl true)))
def F_35:List D->M D:=zcM 11 G_35
theorem d_35 (x0:D):F_35 [x0]=(do let o<-G_35 [some x0,none,none,none,none,none,none,none,none,none,none];zcE o):=rfl
end K16
set_option genInjectivity false
set_option genSizeOf false
set_option genSizeOfSpec false
namespace K16
open L2 L3
set_option hygiene false in
local macro_rules
|`(tactic|ext a)=>`(tactic|refine zaa ?_ ?_)
|`(tactic|ext b)=>`(tactic|exact (hr.mono (by decide)))
|`(tactic|ext c)=>`(tactic|refine zaj (k:=1) (g:=t.a_32) (fd:=t.d_32) (ps:=["box","many"]) ?_ ?_ ?_ ?_ ?_ ?_)
|`(tactic|ext d)=>`(tactic|refine zag ?_ ?_)
|`(tactic|ext e)=>`(tactic|refine zbW ?_ ?_ ?_)
|`(tactic|ext f)=>`(tactic|refine zbn ?_ ?_)
|`(tactic|ext g)=>`(tactic|exact zad)
|`(tactic|ext h)=>`(tactic|exact zab 0)
|`(tactic|ext i)=>`(tactic|refine zax ?_ ?_ ?_)
|`(tactic|ext j)=>`(tactic|refine zak ?_)
|`(tactic|ext k)=>`(tactic|refine zaz (id:="len") ?_ ?_ ?_ ?_)
|`(tactic|ext l)=>`(tactic|refine zaj (k:=3) (g:=t.a_19) (fd:=t.d_19) (ps:=["stock"]) ?_ ?_ ?_ ?_ ?_ ?_)
|`(tactic|ext m)=>`(tactic|exact zai)
|`(tactic|ext n)=>`(tactic|refine zaj (k:=1) (g:=t.a_5) (fd:=t.d_5) (ps:=["thing"]) ?_ ?_ ?_ ?_ ?_ ?_)
|`(tactic|ext o)=>`(tactic|exact zab 1)
|`(tactic|ext p)=>`(tactic|refine zaj (k:=6) (g:=t.a_9) (fd:=t.d_9) (ps:=["stock","lot"]) ?_ ?_ ?_ ?_ ?_ ?_)
|`(tactic|ext q)=>`(tactic|refine zaQ ?_)
|`(tactic|ext r)=>`(tactic|refine ze9 ?_ ?_ ?_)
|`(tactic|ext s)=>`(tactic|exact (zbf.name (i:=0) rfl))
|`(tactic|ext t)=>`(tactic|refine zaj (k:=4) (g:=t.a_24) (fd:=t.d_24) (ps:=["stock","number"]) ?_ ?_ ?_ ?_ ?_ ?_)
|`(tactic|ext u)=>`(tactic|refine zaj (k:=4) (g:=t.a_10) (fd:=t.d_10) (ps:=["stock"]) ?_ ?_ ?_ ?_ ?_ ?_)
|`(tactic|ext v)=>`(tactic|exact zab 3)
|`(tactic|ext w)=>`(tactic|exact zab 2)
|`(tactic|ext x)=>`(tactic|refine zaj (k:=2) (g:=t.a_15) (fd:=t.d_15) (ps:=["stock","offers"]) ?_ ?_ ?_ ?_ ?_ ?_)
|`(tactic|ext y)=>`(tactic|refine zaj (k:=1) (g:=t.a_21) (fd:=t.d_21) (ps:=["many","things"]) ?_ ?_ ?_ ?_ ?_ ?_)
|`(tactic|ext z)=>`(tactic|refine zaj (k:=6) (g:=t.a_17) (fd:=t.d_17) (ps:=["stock","thing"]) ?_ ?_ ?_ ?_ ?_ ?_)
|`(tactic|ext A)=>`(tactic|refine zaj (k:=7) (g:=t.a_18) (fd:=t.d_18) (ps:=["stock","cover"]) ?_ ?_ ?_ ?_ ?_ ?_)
|`(tactic|ext B)=>`(tactic|refine zaj (k:=5) (g:=t.a_23) (fd:=t.d_23) (ps:=["stock","price"]) ?_ ?_ ?_ ?_ ?_ ?_)
|`(tactic|ext C)=>`(tactic|refine zaV 2 ?_ ?_)
|`(tactic|ext D)=>`(tactic|refine zaj (k:=3) (g:=t.a_7) (fd:=t.d_7) (ps:=["stock","thing"]) ?_ ?_ ?_ ?_ ?_ ?_)
|`(tactic|ext E)=>`(tactic|refine zaj (k:=5) (g:=t.a_13) (fd:=t.d_13) (ps:=["stock","lot"]) ?_ ?_ ?_ ?_ ?_ ?_)
|`(tactic|ext F)=>`(tactic|refine zhz ?_ ?_ ?_ ?_ ?_)
|`(tactic|ext G)=>`(tactic|exact T.n_len)
|`(tactic|ext H)=>`(tactic|refine zcu ?_)
|`(tactic|ext I)=>`(tactic|refine zdN ?_ ?_)
|`(tactic|ext J)=>`(tactic|exact PassesOwn.never)
|`(tactic|ext K)=>`(tactic|exact T.F_32.kp)
|`(tactic|ext L)=>`(tactic|refine zdU (T:="tuple") ?_ ?_ ?_ ?_)
|`(tactic|ext M)=>`(tactic|exact (zd9 (zeK hr)))
|`(tactic|ext N)=>`(tactic|exact zat)
|`(tactic|ext O)=>`(tactic|refine zbo ?_)
|`(tactic|ext P)=>`(tactic|exact rfl)
|`(tactic|ext Q)=>`(tactic|refine zeC ?_)
|`(tactic|ext R)=>`(tactic|exact T.m_32)
|`(tactic|ext S)=>`(tactic|exact T.b_32)
|`(tactic|ext T)=>`(tactic|exact zab 6)
|`(tactic|ext U)=>`(tactic|exact zbc)
|`(tactic|ext V)=>`(tactic|(ext a;ext h))
|`(tactic|ext W)=>`(tactic|(ext j;ext q))
|`(tactic|ext X)=>`(tactic|(ext m;ext g))
|`(tactic|ext Y)=>`(tactic|(ext e;ext N))
|`(tactic|ext Z)=>`(tactic|(ext a;ext o))
|`(tactic|ext aa)=>`(tactic|(ext f;ext h))
|`(tactic|ext ab)=>`(tactic|(ext Z;ext g))
|`(tactic|ext ac)=>`(tactic|(ext a;ext v))
|`(tactic|ext ad)=>`(tactic|(ext V;ext g))
|`(tactic|ext ae)=>`(tactic|(ext aa;ext m))
|`(tactic|ext af)=>`(tactic|(ext d;ext r))
|`(tactic|ext ag)=>`(tactic|(ext V;ext ab))
|`(tactic|ext ah)=>`(tactic|(ext G;ext a))
|`(tactic|ext ai)=>`(tactic|(ext H;ext a))
|`(tactic|ext aj)=>`(tactic|(ext b;ext R))
|`(tactic|ext ak)=>`(tactic|(ext aj;ext K))
|`(tactic|ext al)=>`(tactic|(ext ak;ext S))
abbrev ya:List Str:=["box","most_things","most_offers"]
abbrev yb:List Str:=["stock"]
abbrev yc:List Str:=["stock","lot"]
abbrev ye:List Str:=["box","most_things","most_offers","many","kind","full","offers","turn","things"]
abbrev yf:List Str:=["stock","cover"]
abbrev yg:List Str:=["script","k","box","stock","many","first","row","some","upto","offer","dear"]
abbrev yh:List Str:=["box","most_things","most_offers","many","offers","left","at"]
abbrev yi:List Str:=["stock","thing"]
abbrev yj:List Str:=["stock","number","offers"]
abbrev yk:List Str:=["stock","offer","price"]
abbrev yl:List Str:=["script","k"]
abbrev ym:List Str:=["stock","lots","number","offer","bits","longer"]
abbrev yn:List Str:=["stock","price"]
abbrev yo:List Str:=["stock","offer"]
abbrev yp:List Str:=["stock","offers"]
abbrev yq:List Str:=["stock","cover","own","later"]
abbrev yr:List Str:=["thing","bound"]
abbrev yt:List Str:=["script","k","here","number","j"]
abbrev yu:List Str:=["thing","bound","least","number"]
abbrev yw:List Str:=["many","things","bits","thing"]
abbrev yx:List Str:=["stock","cover","own"]
abbrev yy:List Str:=["stock","number"]
abbrev yz:List Str:=["box","many","left","digit"]
abbrev yaa:List Str:=["many","things"]
abbrev yab:List Str:=["offers","things","offer"]
abbrev yac:List Str:=["stock","number","covers"]
abbrev yad:List Str:=["cell","k"]
abbrev yae:List Str:=["box","many"]
abbrev yaf:List Str:=["script"]
abbrev yag:List Str:=["stock","every"]
abbrev yah:List Str:=["thing"]
abbrev yai:List Str:=["cell","k","number"]
abbrev yaj:List Str:=["offers"]
abbrev yak:List Str:=["other","own"]
def top (i:Nat):Stmt:=PySem.Challenge.pw_cheapcovers_k16_whole_covers_in_order.main.body.getD i (.Pass ⟨0,0,0,0⟩)
theorem zeK {A:Around} {k:Nat} (hr:zeE k A):A.units+60<cLine:=by have:=hr.units;omega
theorem zoE:bootBuiltins "bool"=some (.type "bool"):=by decide +kernel
theorem zjX:bootBuiltins "divmod"=some (.builtin "divmod"):=by decide +kernel
theorem zqF:bootBuiltins "int"=some (.type "int"):=by decide +kernel
theorem zbt:bootBuiltins "len"=some (.builtin "len"):=by decide +kernel
theorem zqB:bootBuiltins "max"=some (.builtin "max"):=by decide +kernel
theorem zkZ:bootBuiltins "min"=some (.builtin "min"):=by decide +kernel
theorem zgg:bootBuiltins "sorted"=some (.builtin "sorted"):=by decide +kernel
theorem zpW:bootBuiltins "sum"=some (.builtin "sum"):=by decide +kernel
theorem zdn:bootBuiltins "tuple"=some (.type "tuple"):=by decide +kernel
abbrev s_29:Stmt:=top 37
abbrev s_30:Stmt:=top 38
abbrev s_31:Stmt:=top 39
abbrev s_32:Stmt:=top 40
abbrev s_33:Stmt:=top 41
abbrev s_34:Stmt:=top 42
abbrev s_14:Stmt:=top 17
abbrev s_15:Stmt:=top 18
abbrev s_8:Stmt:=top 11
abbrev s_10:Stmt:=top 13
abbrev s_21:Stmt:=top 25
abbrev s_20:Stmt:=top 24
abbrev s_19:Stmt:=top 23
abbrev s_22:Stmt:=top 27
abbrev s_5:Stmt:=top 7
abbrev s_24:Stmt:=top 29
abbrev s_27:Stmt:=top 33
abbrev s_6:Stmt:=top 8
abbrev s_7:Stmt:=top 10
abbrev s_12:Stmt:=top 15
abbrev s_13:Stmt:=top 16
abbrev s_17:Stmt:=top 21
abbrev s_18:Stmt:=top 22
abbrev s_9:Stmt:=top 12
abbrev s_25:Stmt:=top 30
abbrev s_26:Stmt:=top 31
abbrev s_23:Stmt:=top 28
abbrev s_11:Stmt:=top 14
abbrev s_16:Stmt:=top 19
abbrev s_28:Stmt:=top 35
abbrev s_35:Stmt:=top 43
structure Ad where
 a_29:Addr
 d_29:FuncData
 a_30:Addr
 d_30:FuncData
 a_31:Addr
 d_31:FuncData
 a_32:Addr
 d_32:FuncData
 a_33:Addr
 d_33:FuncData
 a_34:Addr
 d_34:FuncData
 a_14:Addr
 d_14:FuncData
 a_15:Addr
 d_15:FuncData
 a_8:Addr
 d_8:FuncData
 a_10:Addr
 d_10:FuncData
 a_21:Addr
 d_21:FuncData
 a_20:Addr
 d_20:FuncData
 a_19:Addr
 d_19:FuncData
 a_22:Addr
 d_22:FuncData
 a_5:Addr
 d_5:FuncData
 a_24:Addr
 d_24:FuncData
 a_27:Addr
 d_27:FuncData
 a_6:Addr
 d_6:FuncData
 a_7:Addr
 d_7:FuncData
 a_12:Addr
 d_12:FuncData
 a_13:Addr
 d_13:FuncData
 a_17:Addr
 d_17:FuncData
 a_18:Addr
 d_18:FuncData
 a_9:Addr
 d_9:FuncData
 a_25:Addr
 d_25:FuncData
 a_26:Addr
 d_26:FuncData
 a_23:Addr
 d_23:FuncData
 a_11:Addr
 d_11:FuncData
 a_16:Addr
 d_16:FuncData
 a_28:Addr
 d_28:FuncData
 a_35:Addr
 d_35:FuncData
structure Tx (K:W.Frag) (mg:Str->Option Value) (t:Ad):Prop where
 n_bool:mg "bool"=none
 n_divmod:mg "divmod"=none
 n_int:mg "int"=none
 n_isinstance:mg "isinstance"=none
 n_len:mg "len"=none
 n_list:mg "list"=none
 n_max:mg "max"=none
 n_min:mg "min"=none
 n_range:mg "range"=none
 n_set:mg "set"=none
 n_sorted:mg "sorted"=none
 n_sum:mg "sum"=none
 n_tuple:mg "tuple"=none
 m_29:mg "_law_cell"=some (.ref t.a_29)
 F_29:Fun K "_law_cell" "_law_cell" s_29 t.a_29 t.d_29
 b_29:zaJ K t.d_29 yl []
 m_30:mg "_law_mix"=some (.ref t.a_30)
 F_30:Fun K "_law_mix" "_law_mix" s_30 t.a_30 t.d_30
 b_30:zaJ K t.d_30 yad []
 m_31:mg "_law_box"=some (.ref t.a_31)
 F_31:Fun K "_law_box" "_law_box" s_31 t.a_31 t.d_31
 b_31:zaJ K t.d_31 yl []
 m_32:mg "_law_take"=some (.ref t.a_32)
 F_32:Fun K "_law_take" "_law_take" s_32 t.a_32 t.d_32
 b_32:zaJ K t.d_32 yae []
 m_33:mg "_law_stock"=some (.ref t.a_33)
 F_33:Fun K "_law_stock" "_law_stock" s_33 t.a_33 t.d_33
 b_33:zaJ K t.d_33 ya []
 m_34:mg "_law_full"=some (.ref t.a_34)
 F_34:Fun K "_law_full" "_law_full" s_34 t.a_34 t.d_34
 b_34:zaJ K t.d_34 ya []
 m_14:mg "things_together"=some (.ref t.a_14)
 F_14:Fun K "things_together" "things_together" s_14 t.a_14 t.d_14
 b_14:zaJ K t.d_14 yaj []
 m_15:mg "have_all"=some (.ref t.a_15)
 F_15:Fun K "have_all" "have_all" s_15 t.a_15 t.d_15
 b_15:zaJ K t.d_15 yp []
 m_8:mg "is_full"=some (.ref t.a_8)
 F_8:Fun K "is_full" "is_full" s_8 t.a_8 t.d_8
 b_8:zaJ K t.d_8 yb []
 m_10:mg "need_full"=some (.ref t.a_10)
 F_10:Fun K "need_full" "need_full" s_10 t.a_10 t.d_10
 b_10:zaJ K t.d_10 yb []
 m_21:mg "bits_of"=some (.ref t.a_21)
 F_21:Fun K "bits_of" "bits_of" s_21 t.a_21 t.d_21
 b_21:zaJ K t.d_21 yaa []
 m_20:mg "known_lots"=some (.ref t.a_20)
 F_20:Fun K "known_lots" "known_lots" s_20 t.a_20 t.d_20
 b_20:zaJ K t.d_20 yb []
 m_19:mg "priced_covers"=some (.ref t.a_19)
 F_19:Fun K "priced_covers" "priced_covers" s_19 t.a_19 t.d_19
 b_19:zaJ K t.d_19 yb []
 m_22:mg "many_covers"=some (.ref t.a_22)
 F_22:Fun K "many_covers" "many_covers" s_22 t.a_22 t.d_22
 b_22:zaJ K t.d_22 yb []
 m_5:mg "is_whole"=some (.ref t.a_5)
 F_5:Fun K "is_whole" "is_whole" s_5 t.a_5 t.d_5
 b_5:zaJ K t.d_5 yah []
 m_24:mg "cover_at"=some (.ref t.a_24)
 F_24:Fun K "cover_at" "cover_at" s_24 t.a_24 t.d_24
 b_24:zaJ K t.d_24 yy []
 m_27:mg "cheapest_cover"=some (.ref t.a_27)
 F_27:Fun K "cheapest_cover" "cheapest_cover" s_27 t.a_27 t.d_27
 b_27:zaJ K t.d_27 yb []
 m_6:mg "is_rising"=some (.ref t.a_6)
 F_6:Fun K "is_rising" "is_rising" s_6 t.a_6 t.d_6
 b_6:zaJ K t.d_6 yr []
 m_7:mg "is_lot"=some (.ref t.a_7)
 F_7:Fun K "is_lot" "is_lot" s_7 t.a_7 t.d_7
 b_7:zaJ K t.d_7 yi []
 m_12:mg "need_lot"=some (.ref t.a_12)
 F_12:Fun K "need_lot" "need_lot" s_12 t.a_12 t.d_12
 b_12:zaJ K t.d_12 yc []
 m_13:mg "offers_of"=some (.ref t.a_13)
 F_13:Fun K "offers_of" "offers_of" s_13 t.a_13 t.d_13
 b_13:zaJ K t.d_13 yc []
 m_17:mg "is_cover"=some (.ref t.a_17)
 F_17:Fun K "is_cover" "is_cover" s_17 t.a_17 t.d_17
 b_17:zaJ K t.d_17 yi []
 m_18:mg "need_cover"=some (.ref t.a_18)
 F_18:Fun K "need_cover" "need_cover" s_18 t.a_18 t.d_18
 b_18:zaJ K t.d_18 yf []
 m_9:mg "price_of"=some (.ref t.a_9)
 F_9:Fun K "price_of" "price_of" s_9 t.a_9 t.d_9
 b_9:zaJ K t.d_9 yc []
 m_25:mg "number_of"=some (.ref t.a_25)
 F_25:Fun K "number_of" "number_of" s_25 t.a_25 t.d_25
 b_25:zaJ K t.d_25 yf []
 m_26:mg "next_cover"=some (.ref t.a_26)
 F_26:Fun K "next_cover" "next_cover" s_26 t.a_26 t.d_26
 b_26:zaJ K t.d_26 yf []
 m_23:mg "many_upto"=some (.ref t.a_23)
 F_23:Fun K "many_upto" "many_upto" s_23 t.a_23 t.d_23
 b_23:zaJ K t.d_23 yn []
 m_11:mg "need_offer"=some (.ref t.a_11)
 F_11:Fun K "need_offer" "need_offer" s_11 t.a_11 t.d_11
 b_11:zaJ K t.d_11 yo []
 m_16:mg "exchanged"=some (.ref t.a_16)
 F_16:Fun K "exchanged" "exchanged" s_16 t.a_16 t.d_16
 b_16:zaJ K t.d_16 yj []
 m_28:mg "priced"=some (.ref t.a_28)
 F_28:Fun K "priced" "priced" s_28 t.a_28 t.d_28
 b_28:zaJ K t.d_28 yk []
 m_35:mg "law"=some (.ref t.a_35)
 F_35:Fun K "law" "law" s_35 t.a_35 t.d_35
 b_35:zaJ K t.d_35 yaf []
section
variable {P:Program} {w:World} {K:W.Frag} {mg:Str->Option Value} {base:Heap} {t:Ad}
theorem sc_29:zao yl yl (zae s_29):=⟨rfl,rfl,rfl,⋯,rfl,⋯,⋯⟩
theorem ok_29 (T:Tx K mg t):zbN P w K mg base CX0 1 t.a_29 t.d_29 yl (zcc K 2 F_29):=by
 refine za9 (k:=0) (G:=G_29) (N:=yl) (ps:=yl) (st:=s_29) T.F_29 sc_29 λcdv A outer s H E hr=> ?_
 ext af;ext i
 exact zdf
 ext o;ext k
 exact zay
 exact zbt
 ext G;ext ad;ext W;ext aa;ext o;ext U;ext W;ext Y;ext e
 exact zlk
 ext m;ext o;ext m
theorem nd_30:(yai:List Str).Nodup:=⋯
theorem sc_30:zao yai yad (zae s_30):=⟨rfl,rfl,rfl,⋯,rfl,⋯,⋯⟩
theorem ok_30 (T:Tx K mg t):zbN P w K mg base CX0 1 t.a_30 t.d_30 yad (zcc K 2 F_30):=by
 refine za9 (k:=0) (G:=G_30) (N:=yai) (ps:=yad) (st:=s_30) T.F_30 sc_30 λcdv A outer s H E hr=> ?_
 ext d;ext C
 exact nd_30
 ext Y;ext e
 exact zeb
 ext Y;ext h;ext m;ext m;ext e
 exact zeb
 ext m;ext o;ext d;ext C
 exact nd_30
 ext Y;ext e
 exact zhx
 ext e
 exact zeb
 ext w;ext w;ext m;ext o;ext W;ext e
 exact zhx
 ext e
 exact zeb
 ext w;ext Y;ext w;ext m;ext m
theorem nd_31:(yt:List Str).Nodup:=⋯
theorem sc_31:zao yt yl (zae s_31):=⟨rfl,rfl,rfl,⋯,rfl,⋯,⋯⟩
theorem ok_31 (T:Tx K mg t):zbN P w K mg base CX0 2 t.a_31 t.d_31 yl (zcc K 2 F_31):=by
 have G_29:=ok_29 (P:=P) (w:=w) (base:=base) T
 have G_30:=ok_30 (P:=P) (w:=w) (base:=base) T
 refine za9 (k:=1) (G:=G_31) (N:=yt) (ps:=yl) (st:=s_31) T.F_31 sc_31 λcdv A outer s H E hr=> ?_
 ext d;ext C
 exact nd_31
 refine zaj (k:=1) (g:=t.a_29) (fd:=t.d_29) (ps:=yl) ?_ ?_ ?_ ?_ ?_ ?_
 exact G_29
 ext b
 exact T.m_29
 exact T.F_29.kp
 exact T.b_29
 ext ag;ext af;ext i
 exact (zgf (zeK hr))
 ext e
 exact zhx
 ext w;ext m;ext m;ext W
 refine zgk ?_
 ext a;ext e
 exact zmc
 ext w;ext X;ext U;ext d
 refine zaV 3 ?_ ?_
 exact nd_31
 ext m;ext d;ext F;ext P;ext J
 refine zje ?_ ?_
 exact T.n_range
 ext a;ext X
 exact zaE 4 nd_31
 ext j
 refine zaV 3 ?_ ?_
 exact nd_31
 ext Y;ext e
 exact zeb
 ext v;ext m
 refine zaj (k:=1) (g:=t.a_30) (fd:=t.d_30) (ps:=yad) ?_ ?_ ?_ ?_ ?_ ?_
 exact G_30
 ext b
 exact T.m_30
 exact T.F_30.kp
 exact T.b_30
 ext a;ext w;ext a
 exact zab 4
 ext g;ext W
 refine zgk ?_
 ext ac;ext g
theorem nd_32:(yz:List Str).Nodup:=⋯
theorem sc_32:zao yz yae (zae s_32):=⟨rfl,rfl,rfl,⋯,rfl,⋯,⋯⟩
theorem ok_32 (T:Tx K mg t):zbN P w K mg base CX0 1 t.a_32 t.d_32 yae (zcc K 2 F_32):=by
 refine za9 (k:=0) (G:=G_32) (N:=yz) (ps:=yae) (st:=s_32) T.F_32 sc_32 λcdv A outer s H E hr=> ?_
 ext d
 refine zon ?_ ?_
 refine zaz (id:="divmod") ?_ ?_ ?_ ?_
 exact zge
 exact zjX
 exact T.n_divmod
 ext a;ext ae;ext ab
 refine znh ?_ ?_
 ext P
 refine zdX ?_ ?_
 exact zaE 2 nd_32
 refine zdX ?_ ?_
 exact zaE 3 nd_32
 exact zjG
 ext d
 refine zon ?_ ?_
 ext w
 refine zqm ?_ ?_
 ext h;ext m;ext W;ext v
theorem nd_33:(ye:List Str).Nodup:=⋯
theorem zsf:(["thing","box","full"]:List Str).Nodup:=⋯
theorem sc_33:zao ye ya (zae s_33):=⟨rfl,rfl,rfl,⋯,rfl,⋯,⋯⟩
theorem ok_33 (T:Tx K mg t):zbN P w K mg base CX0 2 t.a_33 t.d_33 ya (zcc K 3 F_33):=by
 have G_32:=ok_32 (P:=P) (w:=w) (base:=base) T
 refine za9 (k:=1) (G:=G_33) (N:=ye) (ps:=ya) (st:=s_33) T.F_33 sc_33 λcdv A outer s H E hr=> ?_
 ext d
 refine zaV 3 ?_ ?_
 exact nd_33
 ext Y;ext m;ext c
 exact G_32
 ext al;ext ag;ext d
 refine zaV 4 ?_ ?_
 exact nd_33
 ext f
 refine zlr ?_
 ext a;ext m;ext a;ext m;ext a;ext m;ext a;ext e
 exact zor
 ext m;ext X;ext c
 exact G_32
 ext al;ext V;ext a;ext X;ext d
 refine zaV 5 ?_ ?_
 exact nd_33
 ext c
 exact G_32
 ext al;ext V;ext a;ext X;ext d
 refine zaV 6 ?_ ?_
 exact nd_33
 refine zgk ?_
 ext g;ext d;ext F;ext P;ext J
 refine zje ?_ ?_
 exact T.n_range
 ext a;ext c
 exact G_32
 ext al;ext V;ext a;ext Y;ext w;ext X;ext g
 exact zaE 7 nd_33
 ext d
 refine zdq 8 (N:=["thing","box","full"]) ?_ ?_ ?_ ?_ ?_ ?_ ?_ ?_
 ext P
 exact nd_33
 exact (BOk.of (Xn:=(zae s_33).names) (XN:=ye) rfl rfl rfl ⋯)
 ext s
 refine zje ?_ ?_
 exact T.n_range
 ext ac;ext g
 intro _ _ _
 exact zaE 0 zsf
 intro _ _ _
 refine zdF ?_
 ext i
 exact zhP
 ext c
 exact G_32
 ext al;ext Z;ext a;ext X;ext w
 intro _ _ _
 ext h;ext af;ext i
 exact (zgf (zeK hr))
 exact zab 8
 refine zlr ?_
 ext g;ext j
 refine zaV 8 ?_ ?_
 exact nd_33
 refine zlr ?_
 ext a;ext c
 exact G_32
 ext al;ext V;ext ac;ext g;ext g;ext U;ext j
 refine zcP ?_
 refine zhR ?_ ?_
 ext T;ext ai;ext L
 exact zb7
 exact zdn
 exact T.n_tuple
 ext a
 exact zab 8
 ext g;ext a;ext Y;ext m;ext c
 exact G_32
 ext al;ext V;ext a
 exact zab 4
 ext g;ext g;ext W;ext H;ext ac;ext a;ext L
 exact zb7
 exact zdn
 exact T.n_tuple
 ext a;ext T;ext g;ext g
theorem nd_34:(yh:List Str).Nodup:=⋯
theorem zsZ:(["thing","offers"]:List Str).Nodup:=⋯
theorem zqk:(["one","thing"]:List Str).Nodup:=⋯
theorem sc_34:zao yh ya (zae s_34):=⟨rfl,rfl,rfl,⋯,rfl,⋯,⋯⟩
theorem ok_34 (T:Tx K mg t):zbN P w K mg base CX0 3 t.a_34 t.d_34 ya (zcc K 3 F_34):=by
 have G_33:=ok_33 (P:=P) (w:=w) (base:=base) T
 have G_32:=ok_32 (P:=P) (w:=w) (base:=base) T
 refine za9 (k:=2) (G:=G_34) (N:=yh) (ps:=ya) (st:=s_34) T.F_34 sc_34 λcdv A outer s H E hr=> ?_
 ext d
 refine zon ?_ ?_
 refine zaj (k:=2) (g:=t.a_33) (fd:=t.d_33) (ps:=ya) ?_ ?_ ?_ ?_ ?_ ?_
 exact G_33
 ext b
 exact T.m_33
 exact T.F_33.kp
 exact T.b_33
 ext V;ext Z;ext a;ext e
 exact zhd
 ext w;ext X
 refine znh ?_ ?_
 ext P
 refine zdX ?_ ?_
 exact zaE 3 nd_34
 refine zdX ?_ ?_
 exact zaE 4 nd_34
 exact zjG
 ext d
 refine zaV 5 ?_ ?_
 exact nd_34
 ext L
 exact zb7
 exact zdn
 exact T.n_tuple
 ext a
 refine zek (N:=["thing","offers"]) ?_ ?_ ?_ ?_ ?_ ?_ ?_
 ext P
 exact (BOk.of (Xn:=(zae s_34).names) (XN:=yh) rfl rfl rfl ⋯)
 ext s
 refine zje ?_ ?_
 exact T.n_range
 ext ac;ext g
 intro _ _ _
 exact zaE 0 zsZ
 intro _ _ _
 refine zdF ?_
 ext i
 exact (zgf (zeK hr))
 refine zek (N:=["one","thing"]) ?_ ?_ ?_ ?_ ?_ ?_ ?_
 ext P
 exact (BOk.of (N:=["one","thing"]) (src:=[none,some 0]) rfl rfl rfl (by rfl))
 ext s;ext Q;ext o
 intro _ _ _
 exact zaE 0 zqk
 intro _ _ _
 refine zdF ?_
 ext i
 exact (znq (zeK hr))
 ext o;ext ae
 intro _ _ _
 ext h
 refine zlr ?_
 ext g
 intro _ _ _
 ext h;ext g;ext d
 refine zaV 6 ?_ ?_
 exact nd_34
 ext c
 exact G_32
 ext al;ext V;ext a;ext Y;ext k
 exact zay
 exact zbt
 ext ah
 exact zab 4
 ext g;ext X;ext af;ext i;ext M
 exact zab 5
 ext H;ext g;ext j
 refine zaV 4 ?_ ?_
 exact nd_34
 ext Y;ext Y
 refine zcF ?_ ?_ ?_
 exact zab 4
 exact zcX
 refine zcR ?_
 ext T;ext ai;ext ai
 exact zab 5
 ext a;ext Y;ext m;ext c
 exact G_32
 ext al;ext V;ext a;ext X;ext g;ext g
 refine zcF ?_ ?_ ?_
 exact zab 4
 refine zcR ?_
 ext T
 exact zcX
 ext U;ext W;ext H;ext ac;ext a
 exact zab 4
 ext g
theorem nd_14:(yab:List Str).Nodup:=⋯
theorem sc_14:zao yab yaj (zae s_14):=⟨rfl,rfl,rfl,⋯,rfl,⋯,⋯⟩
theorem ok_14 (T:Tx K mg t):zbN P w K mg base CX0 1 t.a_14 t.d_14 yaj (zcc K 1 F_14):=by
 refine za9 (k:=0) (G:=G_14) (N:=yab) (ps:=yaj) (st:=s_14) T.F_14 sc_14 λcdv A outer s H E hr=> ?_
 ext d
 refine zaV 1 ?_ ?_
 exact nd_14
 refine zgk ?_
 ext g;ext d;ext F;ext P;ext J;ext Q;ext h
 exact zaE 2 nd_14
 ext j
 refine zcP ?_
 refine zlP ?_ ?_
 ext o;ext f;ext w;ext m;ext W;ext L
 exact zb7
 exact zdn
 exact T.n_tuple
 ext a
 refine zjx ?_ ?_ ?_ ?_
 ext P
 exact T.n_sorted
 exact T.n_set
 ext o;ext g
theorem sc_15:zao yp yp (zae s_15):=⟨rfl,rfl,rfl,⋯,rfl,⋯,⋯⟩
theorem ok_15 (T:Tx K mg t):zbN P w K mg base CX0 2 t.a_15 t.d_15 yp (zcc K 2 F_15):=by
 have G_14:=ok_14 (P:=P) (w:=w) (base:=base) T
 refine za9 (k:=1) (G:=G_15) (N:=yp) (ps:=yp) (st:=s_15) T.F_15 sc_15 λcdv A outer s H E hr=> ?_
 ext W
 refine ztA ?_ ?_ ?_
 exact (zgf (zeK hr))
 ext k
 exact zay
 exact zbt
 ext ah
 refine zaj (k:=1) (g:=t.a_14) (fd:=t.d_14) (ps:=yaj) ?_ ?_ ?_ ?_ ?_ ?_
 exact G_14
 ext b
 exact T.m_14
 exact T.F_14.kp
 exact T.b_14
 ext ab;ext g;ext ae
theorem sc_8:zao yb yb (zae s_8):=⟨rfl,rfl,rfl,⋯,rfl,⋯,⋯⟩
theorem ok_8 (T:Tx K mg t):zbN P w K mg base CX0 3 t.a_8 t.d_8 yb (zcc K 1 F_8):=by
 have G_15:=ok_15 (P:=P) (w:=w) (base:=base) T
 refine za9 (k:=2) (G:=G_8) (N:=yb) (ps:=yb) (st:=s_8) T.F_8 sc_8 λcdv A outer s H E hr=> ?_
 ext W;ext x
 exact G_15
 ext b
 exact T.m_15
 exact T.F_15.kp
 exact T.b_15
 ext V;ext a;ext aa;ext X
theorem sc_10:zao yb yb (zae s_10):=⟨rfl,rfl,rfl,⋯,rfl,⋯,⋯⟩
theorem ok_10 (T:Tx K mg t):zbN P w K mg base CX0 4 t.a_10 t.d_10 yb (zcc K 1 F_10):=by
 have G_8:=ok_8 (P:=P) (w:=w) (base:=base) T
 refine za9 (k:=3) (G:=G_10) (N:=yb) (ps:=yb) (st:=s_10) T.F_10 sc_10 λcdv A outer s H E hr=> ?_
 ext j;ext r
 refine zcQ ?_
 refine zdp ?_
 refine zaj (k:=3) (g:=t.a_8) (fd:=t.d_8) (ps:=yb) ?_ ?_ ?_ ?_ ?_ ?_
 exact G_8
 ext b
 exact T.m_8
 exact T.F_8.kp
 exact T.b_8
 ext ad;ext j
 exact zhs
 ext U
theorem nd_21:(yw:List Str).Nodup:=⋯
theorem sc_21:zao yw yaa (zae s_21):=⟨rfl,rfl,rfl,⋯,rfl,⋯,⋯⟩
theorem ok_21 (T:Tx K mg t):zbN P w K mg base CX0 1 t.a_21 t.d_21 yaa (zcc K 2 F_21):=by
 refine za9 (k:=0) (G:=G_21) (N:=yw) (ps:=yaa) (st:=s_21) T.F_21 sc_21 λcdv A outer s H E hr=> ?_
 ext d;ext C
 exact nd_21
 ext m;ext d;ext F;ext P;ext J
 refine zje ?_ ?_
 exact T.n_range
 ext ad
 exact zaE 3 nd_21
 ext d;ext C
 exact nd_21
 ext e
 exact zlk
 ext w;ext m;ext j;ext r;ext i
 exact (znq (zeK hr))
 ext v;ext o;ext j;ext C
 exact nd_21
 ext Y;ext w;ext m;ext U;ext W;ext w
theorem nd_20:(ym:List Str).Nodup:=⋯
theorem ztr:(["known","offer","number","bits"]:List Str).Nodup:=⋯
theorem sc_20:zao ym yb (zae s_20):=⟨rfl,rfl,rfl,⋯,rfl,⋯,⋯⟩
theorem ok_20 (T:Tx K mg t):zbN P w K mg base CX0 2 t.a_20 t.d_20 yb (zcc K 1 F_20):=by
 have G_21:=ok_21 (P:=P) (w:=w) (base:=base) T
 refine za9 (k:=1) (G:=G_20) (N:=ym) (ps:=yb) (st:=s_20) T.F_20 sc_20 λcdv A outer s H E hr=> ?_
 ext d
 refine zaV 1 ?_ ?_
 exact nd_20
 refine zlr ?_
 ext a;ext ai;ext m;ext a;ext H;ext g;ext a;ext X;ext g;ext d;ext F;ext P;ext J
 refine zrv ?_ ?_
 exact T.n_range
 ext a;ext e
 exact zhd
 ext k
 exact zay
 exact zbt
 ext ah;ext aa;ext X;ext m;ext a
 refine zhl ?_
 ext m;ext a
 refine zhl ?_
 ext X
 exact zaE 2 nd_20
 ext d
 refine zaV 3 ?_ ?_
 exact nd_20
 ext f;ext ae;ext w;ext d
 refine zaV 4 ?_ ?_
 exact nd_20
 ext y
 exact G_21
 ext b
 exact T.m_21
 exact T.F_21.kp
 exact T.b_21
 ext a;ext ae;ext a;ext f;ext v;ext X;ext d
 refine zdq 5 (N:=["known","offer","number","bits"]) ?_ ?_ ?_ ?_ ?_ ?_ ?_ ?_
 ext P
 exact nd_20
 exact (BOk.of (Xn:=(zae s_20).names) (XN:=ym) rfl rfl rfl ⋯)
 ext s;ext Q;ext o
 intro _ _ _
 exact zaE 0 ztr
 intro _ _ _
 exact zkB
 intro _ _ _
 ext ai;ext Y;ext f;ext o;ext m;ext ae;ext a;ext Y;ext ai;ext w;ext g;ext ae;ext a;ext e
 exact zpP
 ext v;ext aa;ext X;ext j
 refine zaV 1 ?_ ?_
 exact nd_20
 ext Y;ext Y
 refine zcF ?_ ?_ ?_
 ext o
 exact zcX
 refine zcR ?_
 ext m
 exact zab 5
 refine zcF ?_ ?_ ?_
 ext o
 refine zcR ?_
 ext m
 exact zcX
 ext W;ext o
theorem nd_19:(yag:List Str).Nodup:=⋯
theorem zsP:(["known","every"]:List Str).Nodup:=⋯
theorem sc_19:zao yag yb (zae s_19):=⟨rfl,rfl,rfl,⋯,rfl,⋯,⋯⟩
theorem ok_19 (T:Tx K mg t):zbN P w K mg base CX0 3 t.a_19 t.d_19 yb (zcc K 1 F_19):=by
 have G_21:=ok_21 (P:=P) (w:=w) (base:=base) T
 have G_20:=ok_20 (P:=P) (w:=w) (base:=base) T
 refine za9 (k:=2) (G:=G_19) (N:=yag) (ps:=yb) (st:=s_19) T.F_19 sc_19 λcdv A outer s H E hr=> ?_
 ext d
 refine zaV 1 ?_ ?_
 exact nd_19
 ext y
 exact G_21
 ext b
 exact T.m_21
 exact T.F_21.kp
 exact T.b_21
 ext a;ext ae;ext a
 refine zki ?_ ?_ ?_ ?_
 ext P
 exact T.n_list
 exact T.n_range
 ext aa;ext X;ext W
 refine zek (N:=["known","every"]) ?_ ?_ ?_ ?_ ?_ ?_ ?_
 ext P
 exact (BOk.of (Xn:=(zae s_19).names) (XN:=yag) rfl rfl rfl ⋯)
 ext s;ext Q
 refine zaj (k:=2) (g:=t.a_20) (fd:=t.d_20) (ps:=yb) ?_ ?_ ?_ ?_ ?_ ?_
 exact G_20
 ext b
 exact T.m_20
 exact T.F_20.kp
 exact T.b_20
 ext ad
 intro _ _ _
 exact zaE 0 zsP
 intro _ _ _
 refine zdF ?_
 ext i
 exact (zgf (zeK hr))
 ext ae;ext o
 intro _ _ _
 ext ai;ext ae;ext a;ext aa;ext X
theorem sc_22:zao yb yb (zae s_22):=⟨rfl,rfl,rfl,⋯,rfl,⋯,⋯⟩
theorem ok_22 (T:Tx K mg t):zbN P w K mg base CX0 5 t.a_22 t.d_22 yb (zcc K 1 F_22):=by
 have G_10:=ok_10 (P:=P) (w:=w) (base:=base) T
 have G_19:=ok_19 (P:=P) (w:=w) (base:=base) T
 refine za9 (k:=4) (G:=G_22) (N:=yb) (ps:=yb) (st:=s_22) T.F_22 sc_22 λcdv A outer s H E hr=> ?_
 ext d
 refine zcP ?_
 ext u
 exact G_10
 ext b
 exact T.m_10
 exact T.F_10.kp
 exact T.b_10
 ext ad;ext W;ext k
 exact zay
 exact zbt
 ext ah;ext l
 exact G_19
 ext b
 exact T.m_19
 exact T.F_19.kp
 exact T.b_19
 ext ad;ext g
theorem sc_5:zao yah yah (zae s_5):=⟨rfl,rfl,rfl,⋯,rfl,⋯,⋯⟩
theorem ok_5 (T:Tx K mg t):zbN P w K mg base CX0 1 t.a_5 t.d_5 yah (zcc K 1 F_5):=by
 refine za9 (k:=0) (G:=G_5) (N:=yah) (ps:=yah) (st:=s_5) T.F_5 sc_5 λcdv A outer s H E hr=> ?_
 ext W
 refine zqV ?_ ?_
 refine zos ?_ ?_ ?_ ?_ ?_
 exact zpi
 exact zqF
 exact T.n_isinstance
 exact T.n_int
 ext h
 refine zqf ?_
 refine zsh ?_
 refine zos ?_ ?_ ?_ ?_ ?_
 exact zlz
 exact zoE
 exact T.n_isinstance
 exact T.n_bool
 ext h
theorem nd_24:(yac:List Str).Nodup:=⋯
theorem sc_24:zao yac yy (zae s_24):=⟨rfl,rfl,rfl,⋯,rfl,⋯,⋯⟩
theorem ok_24 (T:Tx K mg t):zbN P w K mg base CX0 4 t.a_24 t.d_24 yy (zcc K 2 F_24):=by
 have G_19:=ok_19 (P:=P) (w:=w) (base:=base) T
 have G_5:=ok_5 (P:=P) (w:=w) (base:=base) T
 refine za9 (k:=3) (G:=G_24) (N:=yac) (ps:=yy) (st:=s_24) T.F_24 sc_24 λcdv A outer s H E hr=> ?_
 ext d;ext C
 exact nd_24
 refine zaz (id:="sorted") ?_ ?_ ?_ ?_
 exact (zeg (zeK hr))
 exact zgg
 exact T.n_sorted
 ext a;ext l
 exact G_19
 ext b
 exact T.m_19
 exact T.F_19.kp
 exact T.b_19
 ext ad;ext g;ext af;ext O;ext I
 refine zcQ ?_
 refine zdp ?_
 ext n
 exact G_5
 ext b
 exact T.m_5
 exact T.F_5.kp
 exact T.b_5
 ext ab;ext I;ext i
 exact zdf
 ext o;ext m
 refine zc4 ?_
 ext i
 exact zj2
 ext o;ext k
 exact zay
 exact zbt
 ext ah;ext w;ext g;ext j
 exact zhs
 ext U;ext W;ext f;ext f;ext w;ext o;ext m
theorem sc_27:zao yb yb (zae s_27):=⟨rfl,rfl,rfl,⋯,rfl,⋯,⋯⟩
theorem ok_27 (T:Tx K mg t):zbN P w K mg base CX0 5 t.a_27 t.d_27 yb (zcc K 1 F_27):=by
 have G_10:=ok_10 (P:=P) (w:=w) (base:=base) T
 have G_19:=ok_19 (P:=P) (w:=w) (base:=base) T
 refine za9 (k:=4) (G:=G_27) (N:=yb) (ps:=yb) (st:=s_27) T.F_27 sc_27 λcdv A outer s H E hr=> ?_
 ext d
 refine zcP ?_
 ext u
 exact G_10
 ext b
 exact T.m_10
 exact T.F_10.kp
 exact T.b_10
 ext ad;ext W;ext f
 refine zaz (id:="min") ?_ ?_ ?_ ?_
 exact (zeW (zeK hr))
 exact zkZ
 exact T.n_min
 ext a;ext l
 exact G_19
 ext b
 exact T.m_19
 exact T.F_19.kp
 exact T.b_19
 ext ad;ext g;ext m
theorem nd_6:(yu:List Str).Nodup:=⋯
theorem sc_6:zao yu yr (zae s_6):=⟨rfl,rfl,rfl,⋯,rfl,⋯,⋯⟩
theorem ok_6 (T:Tx K mg t):zbN P w K mg base CX0 2 t.a_6 t.d_6 yr (zcc K 2 F_6):=by
 have G_5:=ok_5 (P:=P) (w:=w) (base:=base) T
 refine za9 (k:=1) (G:=G_6) (N:=yu) (ps:=yr) (st:=s_6) T.F_6 sc_6 λcdv A outer s H E hr=> ?_
 ext af
 refine zcQ ?_
 refine zdp ?_
 refine zos ?_ ?_ ?_ ?_ ?_
 exact zkH
 exact zdn
 exact T.n_isinstance
 exact T.n_tuple
 ext h;ext W
 exact zj1
 ext U;ext d;ext C
 exact nd_6
 ext m;ext d;ext F;ext P;ext J;ext Q;ext h
 exact zaE 3 nd_6
 ext af;ext O;ext I
 refine zcQ ?_
 refine zdp ?_
 ext n
 exact G_5
 ext b
 exact T.m_5
 exact T.F_5.kp
 exact T.b_5
 ext ac;ext g;ext I;ext i
 exact zdf
 ext v;ext w
 refine zc4 ?_
 ext i
 exact zj2
 ext v;ext o;ext W
 exact zj1
 ext U;ext j;ext C
 exact nd_6
 ext Y;ext v;ext m;ext W
 exact zj1
theorem sc_7:zao yi yi (zae s_7):=⟨rfl,rfl,rfl,⋯,rfl,⋯,⋯⟩
theorem ok_7 (T:Tx K mg t):zbN P w K mg base CX0 3 t.a_7 t.d_7 yi (zcc K 2 F_7):=by
 have G_6:=ok_6 (P:=P) (w:=w) (base:=base) T
 refine za9 (k:=2) (G:=G_7) (N:=yi) (ps:=yi) (st:=s_7) T.F_7 sc_7 λcdv A outer s H E hr=> ?_
 ext W
 refine zaj (k:=2) (g:=t.a_6) (fd:=t.d_6) (ps:=yr) ?_ ?_ ?_ ?_ ?_ ?_
 exact G_6
 ext b
 exact T.m_6
 exact T.F_6.kp
 exact T.b_6
 ext Z;ext a;ext k
 exact zay
 exact zbt
 ext ah;ext aa;ext X;ext g
theorem sc_12:zao yc yc (zae s_12):=⟨rfl,rfl,rfl,⋯,rfl,⋯,⋯⟩
theorem ok_12 (T:Tx K mg t):zbN P w K mg base CX0 4 t.a_12 t.d_12 yc (zcc K 2 F_12):=by
 have G_7:=ok_7 (P:=P) (w:=w) (base:=base) T
 refine za9 (k:=3) (G:=G_12) (N:=yc) (ps:=yc) (st:=s_12) T.F_12 sc_12 λcdv A outer s H E hr=> ?_
 ext j;ext r
 refine zcQ ?_
 refine zdp ?_
 ext D
 exact G_7
 ext b
 exact T.m_7
 exact T.F_7.kp
 exact T.b_7
 ext ag;ext j
 exact zhs
 ext U
theorem ztt:(["number","stock"]:List Str).Nodup:=⋯
theorem sc_13:zao yc yc (zae s_13):=⟨rfl,rfl,rfl,⋯,rfl,⋯,⋯⟩
theorem ok_13 (T:Tx K mg t):zbN P w K mg base CX0 5 t.a_13 t.d_13 yc (zcc K 2 F_13):=by
 have G_12:=ok_12 (P:=P) (w:=w) (base:=base) T
 refine za9 (k:=4) (G:=G_13) (N:=yc) (ps:=yc) (st:=s_13) T.F_13 sc_13 λcdv A outer s H E hr=> ?_
 ext d
 refine zcP ?_
 refine zaj (k:=4) (g:=t.a_12) (fd:=t.d_12) (ps:=yc) ?_ ?_ ?_ ?_ ?_ ?_
 exact G_12
 ext b
 exact T.m_12
 exact T.F_12.kp
 exact T.b_12
 ext ag;ext W
 refine zek (N:=["number","stock"]) ?_ ?_ ?_ ?_ ?_ ?_ ?_
 ext P
 exact (BOk.of (Xn:=(zae s_13).names) (XN:=yc) rfl rfl rfl ⋯)
 ext s;ext Q;ext o
 intro _ _ _
 exact zaE 0 ztt
 intro _ _ _
 exact zkB
 intro _ _ _
 ext f;ext f;ext o;ext m;ext h
theorem sc_17:zao yi yi (zae s_17):=⟨rfl,rfl,rfl,⋯,rfl,⋯,⋯⟩
theorem ok_17 (T:Tx K mg t):zbN P w K mg base CX0 6 t.a_17 t.d_17 yi (zcc K 2 F_17):=by
 have G_15:=ok_15 (P:=P) (w:=w) (base:=base) T
 have G_13:=ok_13 (P:=P) (w:=w) (base:=base) T
 have G_7:=ok_7 (P:=P) (w:=w) (base:=base) T
 refine za9 (k:=5) (G:=G_17) (N:=yi) (ps:=yi) (st:=s_17) T.F_17 sc_17 λcdv A outer s H E hr=> ?_
 ext W
 refine zqV ?_ ?_
 ext D
 exact G_7
 ext b
 exact T.m_7
 exact T.F_7.kp
 exact T.b_7
 ext ag
 refine zqf ?_
 ext x
 exact G_15
 ext b
 exact T.m_15
 exact T.F_15.kp
 exact T.b_15
 ext V;ext a;ext E
 exact G_13
 ext b
 exact T.m_13
 exact T.F_13.kp
 exact T.b_13
 ext ag;ext g
theorem sc_18:zao yf yf (zae s_18):=⟨rfl,rfl,rfl,⋯,rfl,⋯,⋯⟩
theorem ok_18 (T:Tx K mg t):zbN P w K mg base CX0 7 t.a_18 t.d_18 yf (zcc K 2 F_18):=by
 have G_17:=ok_17 (P:=P) (w:=w) (base:=base) T
 refine za9 (k:=6) (G:=G_18) (N:=yf) (ps:=yf) (st:=s_18) T.F_18 sc_18 λcdv A outer s H E hr=> ?_
 ext j;ext r
 refine zcQ ?_
 refine zdp ?_
 ext z
 exact G_17
 ext b
 exact T.m_17
 exact T.F_17.kp
 exact T.b_17
 ext ag;ext j
 exact zhs
 ext U
theorem zs2:(["offer"]:List Str).Nodup:=⋯
theorem sc_9:zao yc yc (zae s_9):=⟨rfl,rfl,rfl,⋯,rfl,⋯,⋯⟩
theorem ok_9 (T:Tx K mg t):zbN P w K mg base CX0 6 t.a_9 t.d_9 yc (zcc K 2 F_9):=by
 have G_13:=ok_13 (P:=P) (w:=w) (base:=base) T
 refine za9 (k:=5) (G:=G_9) (N:=yc) (ps:=yc) (st:=s_9) T.F_9 sc_9 λcdv A outer s H E hr=> ?_
 ext W
 refine zaz (id:="sum") ?_ ?_ ?_ ?_
 exact (zj6 rfl)
 exact zpW
 exact T.n_sum
 ext a
 refine zek (N:=["offer"]) ?_ ?_ ?_ ?_ ?_ ?_ ?_
 ext P
 exact (BOk.of (Xn:=(zae s_9).names) (XN:=yc) rfl rfl rfl ⋯)
 ext s;ext Q;ext E
 exact G_13
 ext b
 exact T.m_13
 exact T.F_13.kp
 exact T.b_13
 ext ag
 intro _ _ _
 exact zaE 0 zs2
 intro _ _ _
 exact zkB
 intro _ _ _
 ext aa;ext X
theorem nd_25:(yx:List Str).Nodup:=⋯
theorem zse:(yak:List Str).Nodup:=⋯
theorem sc_25:zao yx yf (zae s_25):=⟨rfl,rfl,rfl,⋯,rfl,⋯,⋯⟩
theorem ok_25 (T:Tx K mg t):zbN P w K mg base CX0 8 t.a_25 t.d_25 yf (zcc K 2 F_25):=by
 have G_18:=ok_18 (P:=P) (w:=w) (base:=base) T
 have G_9:=ok_9 (P:=P) (w:=w) (base:=base) T
 have G_19:=ok_19 (P:=P) (w:=w) (base:=base) T
 refine za9 (k:=7) (G:=G_25) (N:=yx) (ps:=yf) (st:=s_25) T.F_25 sc_25 λcdv A outer s H E hr=> ?_
 ext d
 refine zcP ?_
 ext A
 exact G_18
 ext b
 exact T.m_18
 exact T.F_18.kp
 exact T.b_18
 ext ag;ext d;ext C
 exact nd_25
 ext ai;ext p
 exact G_9
 ext b
 exact T.m_9
 exact T.F_9.kp
 exact T.b_9
 ext ag;ext ab;ext W;ext k
 exact zay
 exact zbt
 ext ah
 refine zek (N:=yak) ?_ ?_ ?_ ?_ ?_ ?_ ?_
 ext P
 exact (BOk.of (Xn:=(zae s_25).names) (XN:=yx) rfl rfl rfl ⋯)
 ext s;ext Q;ext l
 exact G_19
 ext b
 exact T.m_19
 exact T.F_19.kp
 exact T.b_19
 ext ad
 intro _ _ _
 exact zaE 0 zse
 intro _ _ _
 refine zdF ?_
 ext i
 exact (zpD (zeK hr))
 ext h;ext o
 intro _ _ _
 ext h;ext g
theorem nd_26:(yq:List Str).Nodup:=⋯
theorem zsv:(yak:List Str).Nodup:=⋯
theorem sc_26:zao yq yf (zae s_26):=⟨rfl,rfl,rfl,⋯,rfl,⋯,⋯⟩
theorem ok_26 (T:Tx K mg t):zbN P w K mg base CX0 8 t.a_26 t.d_26 yf (zcc K 2 F_26):=by
 have G_18:=ok_18 (P:=P) (w:=w) (base:=base) T
 have G_9:=ok_9 (P:=P) (w:=w) (base:=base) T
 have G_19:=ok_19 (P:=P) (w:=w) (base:=base) T
 refine za9 (k:=7) (G:=G_26) (N:=yq) (ps:=yf) (st:=s_26) T.F_26 sc_26 λcdv A outer s H E hr=> ?_
 ext d
 refine zcP ?_
 ext A
 exact G_18
 ext b
 exact T.m_18
 exact T.F_18.kp
 exact T.b_18
 ext ag;ext d;ext C
 exact nd_26
 ext ai;ext p
 exact G_9
 ext b
 exact T.m_9
 exact T.F_9.kp
 exact T.b_9
 ext ag;ext ab;ext d
 refine zdq 3 (N:=yak) ?_ ?_ ?_ ?_ ?_ ?_ ?_ ?_
 ext P
 exact nd_26
 exact (BOk.of (Xn:=(zae s_26).names) (XN:=yq) rfl rfl rfl ⋯)
 ext s;ext Q;ext l
 exact G_19
 ext b
 exact T.m_19
 exact T.F_19.kp
 exact T.b_19
 ext ad
 intro _ _ _
 exact zaE 0 zsv
 intro _ _ _
 refine zdF ?_
 ext i
 exact (zq1 (zeK hr))
 ext h;ext o
 intro _ _ _
 ext h;ext W
 refine zts ?_ ?_ ?_
 refine zpK ?_
 ext v;ext f
 refine zaz (id:="min") ?_ ?_ ?_ ?_
 exact (zeW (zeK hr))
 exact zkZ
 exact T.n_min
 ext ac;ext g;ext m
 exact zmy
theorem zsS:(["cover","price"]:List Str).Nodup:=⋯
theorem sc_23:zao yn yn (zae s_23):=⟨rfl,rfl,rfl,⋯,rfl,⋯,⋯⟩
theorem ok_23 (T:Tx K mg t):zbN P w K mg base CX0 5 t.a_23 t.d_23 yn (zcc K 2 F_23):=by
 have G_5:=ok_5 (P:=P) (w:=w) (base:=base) T
 have G_10:=ok_10 (P:=P) (w:=w) (base:=base) T
 have G_19:=ok_19 (P:=P) (w:=w) (base:=base) T
 refine za9 (k:=4) (G:=G_23) (N:=yn) (ps:=yn) (st:=s_23) T.F_23 sc_23 λcdv A outer s H E hr=> ?_
 ext af;ext O;ext I
 refine zcQ ?_
 refine zdp ?_
 ext n
 exact G_5
 ext b
 exact T.m_5
 exact T.F_5.kp
 exact T.b_5
 ext ab
 refine zc4 ?_
 ext i
 exact zdf
 ext o;ext m;ext j
 exact zhs
 ext U;ext d
 refine zcP ?_
 ext u
 exact G_10
 ext b
 exact T.m_10
 exact T.F_10.kp
 exact T.b_10
 ext ad;ext W;ext k
 exact zay
 exact zbt
 ext ah
 refine zek (N:=["cover","price"]) ?_ ?_ ?_ ?_ ?_ ?_ ?_
 ext P
 exact (BOk.of (Xn:=(zae s_23).names) (XN:=yn) rfl rfl rfl ⋯)
 ext s;ext Q;ext l
 exact G_19
 ext b
 exact T.m_19
 exact T.F_19.kp
 exact T.b_19
 ext ad
 intro _ _ _
 exact zaE 0 zsS
 intro _ _ _
 refine zdF ?_
 ext i
 exact zhP
 ext ae;ext o
 intro _ _ _
 ext h;ext g
theorem sc_11:zao yo yo (zae s_11):=⟨rfl,rfl,rfl,⋯,rfl,⋯,⋯⟩
theorem ok_11 (T:Tx K mg t):zbN P w K mg base CX0 2 t.a_11 t.d_11 yo (zcc K 2 F_11):=by
 have G_5:=ok_5 (P:=P) (w:=w) (base:=base) T
 refine za9 (k:=1) (G:=G_11) (N:=yo) (ps:=yo) (st:=s_11) T.F_11 sc_11 λcdv A outer s H E hr=> ?_
 ext j;ext r;ext O;ext I
 refine zcQ ?_
 refine zdp ?_
 ext n
 exact G_5
 ext b
 exact T.m_5
 exact T.F_5.kp
 exact T.b_5
 ext ab;ext I;ext i
 exact zdf
 ext o;ext m
 refine zc4 ?_
 ext i
 exact zj2
 ext o;ext k
 exact zay
 exact zbt
 ext ah;ext aa;ext X;ext j
 exact zhs
 ext U
theorem sc_16:zao yj yj (zae s_16):=⟨rfl,rfl,rfl,⋯,rfl,⋯,⋯⟩
theorem ok_16 (T:Tx K mg t):zbN P w K mg base CX0 1 t.a_16 t.d_16 yj (zcc K 3 F_16):=by
 refine za9 (k:=0) (G:=G_16) (N:=yj) (ps:=yj) (st:=s_16) T.F_16 sc_16 λcdv A outer s H E hr=> ?_
 ext W;ext ai;ext ae;ext a;ext Y;ext Y
 refine zcF ?_ ?_ ?_
 ext ae
 exact zcX
 refine zcR ?_
 ext o;ext w
 refine zcF ?_ ?_ ?_
 ext ae
 refine zcR ?_
 ext Y;ext o;ext m
 exact zcX
 ext g
theorem sc_28:zao yk yk (zae s_28):=⟨rfl,rfl,rfl,⋯,rfl,⋯,⋯⟩
theorem ok_28 (T:Tx K mg t):zbN P w K mg base CX0 3 t.a_28 t.d_28 yk (zcc K 3 F_28):=by
 have G_11:=ok_11 (P:=P) (w:=w) (base:=base) T
 have G_5:=ok_5 (P:=P) (w:=w) (base:=base) T
 have G_16:=ok_16 (P:=P) (w:=w) (base:=base) T
 refine za9 (k:=2) (G:=G_28) (N:=yk) (ps:=yk) (st:=s_28) T.F_28 sc_28 λcdv A outer s H E hr=> ?_
 ext d
 refine zcP ?_
 refine zaj (k:=2) (g:=t.a_11) (fd:=t.d_11) (ps:=yo) ?_ ?_ ?_ ?_ ?_ ?_
 exact G_11
 ext b
 exact T.m_11
 exact T.F_11.kp
 exact T.b_11
 ext ag;ext af;ext O;ext I
 refine zcQ ?_
 refine zdp ?_
 ext n
 exact G_5
 ext b
 exact T.m_5
 exact T.F_5.kp
 exact T.b_5
 ext a;ext w;ext g
 refine zc4 ?_
 ext i
 exact zdf
 ext w;ext m;ext j
 exact zhs
 ext U;ext W
 refine zaj (k:=1) (g:=t.a_16) (fd:=t.d_16) (ps:=yj) ?_ ?_ ?_ ?_ ?_ ?_
 exact G_16
 ext b
 exact T.m_16
 exact T.F_16.kp
 exact T.b_16
 ext V;ext Z;ext a;ext ai;ext ai;ext f;ext f;ext ae;ext o;ext m;ext a;ext w;ext g;ext g;ext g
theorem nd_35:(yg:List Str).Nodup:=⋯
theorem zql:(["lot","stock"]:List Str).Nodup:=⋯
theorem sc_35:zao yg yaf (zae s_35):=⟨rfl,rfl,rfl,⋯,rfl,⋯,⋯⟩
theorem ok_35 (T:Tx K mg t):zbN P w K mg base CX0 9 t.a_35 t.d_35 yaf (zcc K 1 F_35):=by
 have G_31:=ok_31 (P:=P) (w:=w) (base:=base) T
 have G_34:=ok_34 (P:=P) (w:=w) (base:=base) T
 have G_22:=ok_22 (P:=P) (w:=w) (base:=base) T
 have G_32:=ok_32 (P:=P) (w:=w) (base:=base) T
 have G_24:=ok_24 (P:=P) (w:=w) (base:=base) T
 have G_27:=ok_27 (P:=P) (w:=w) (base:=base) T
 have G_25:=ok_25 (P:=P) (w:=w) (base:=base) T
 have G_17:=ok_17 (P:=P) (w:=w) (base:=base) T
 have G_26:=ok_26 (P:=P) (w:=w) (base:=base) T
 have G_9:=ok_9 (P:=P) (w:=w) (base:=base) T
 have G_23:=ok_23 (P:=P) (w:=w) (base:=base) T
 have G_28:=ok_28 (P:=P) (w:=w) (base:=base) T
 refine za9 (k:=8) (G:=G_35) (N:=yg) (ps:=yaf) (st:=s_35) T.F_35 sc_35 λcdv A outer s H E hr=> ?_
 ext d;ext F;ext P;ext J
 refine zje ?_ ?_
 exact T.n_range
 ext a
 refine zaz (id:="max") ?_ ?_ ?_ ?_
 exact (zjf rfl)
 exact zqB
 exact T.n_max
 ext a;ext m;ext a
 refine zaz (id:="min") ?_ ?_ ?_ ?_
 exact (ziG rfl)
 exact zkZ
 exact T.n_min
 ext a;ext k
 exact zay
 exact zbt
 ext G;ext ad;ext a;ext X;ext g;ext g
 exact zaE 1 nd_35
 ext d;ext C
 exact nd_35
 refine zaj (k:=2) (g:=t.a_31) (fd:=t.d_31) (ps:=yl) ?_ ?_ ?_ ?_ ?_ ?_
 exact G_31
 ext b
 exact T.m_31
 exact T.F_31.kp
 exact T.b_31
 ext ag;ext d
 refine zaV 3 ?_ ?_
 exact nd_35
 refine zaj (k:=3) (g:=t.a_34) (fd:=t.d_34) (ps:=ya) ?_ ?_ ?_ ?_ ?_ ?_
 exact G_34
 ext b
 exact T.m_34
 exact T.F_34.kp
 exact T.b_34
 ext a;ext w;ext a;ext m;ext a;ext X;ext d
 refine zaV 4 ?_ ?_
 exact nd_35
 refine zaj (k:=5) (g:=t.a_22) (fd:=t.d_22) (ps:=yb) ?_ ?_ ?_ ?_ ?_ ?_
 exact G_22
 ext b
 exact T.m_22
 exact T.F_22.kp
 exact T.b_22
 ext ac;ext g;ext d
 refine zaV 5 ?_ ?_
 exact nd_35
 ext c
 exact G_32
 ext al;ext a;ext w;ext a
 exact zab 4
 ext g;ext d
 refine zaV 6 ?_ ?_
 exact nd_35
 refine zgk ?_
 ext a;ext t
 exact G_24
 ext b
 exact T.m_24
 exact T.F_24.kp
 exact T.b_24
 ext ac;ext a;ext X;ext a;ext t
 exact G_24
 ext b
 exact T.m_24
 exact T.F_24.kp
 exact T.b_24
 ext ac;ext a
 exact zab 5
 ext g;ext g;ext af;ext i;ext M;ext f;ext T;ext m
 refine zaj (k:=5) (g:=t.a_27) (fd:=t.d_27) (ps:=yb) ?_ ?_ ?_ ?_ ?_ ?_
 exact G_27
 ext b
 exact T.m_27
 exact T.F_27.kp
 exact T.b_27
 ext ac;ext g;ext W
 exact zj1
 ext U;ext d
 refine znP 10 ?_ ?_ ?_
 ext J;ext O
 refine zjJ ?_ ?_
 ext i
 exact zjP
 ext f;ext T
 refine zhl ?_
 ext m
 exact zmy
 refine zhp ?_
 ext i
 exact zdf
 ext k
 exact zay
 exact zbt
 ext ah;ext T;ext g;ext m;ext af;ext O;ext I;ext i
 exact zj3
 ext z
 exact G_17
 ext b
 exact T.m_17
 exact T.F_17.kp
 exact T.b_17
 ext ac;ext a;ext f;ext T
 refine zhl ?_
 ext X
 exact zj1
 refine zc4 ?_
 ext i;ext M
 refine zaj (k:=8) (g:=t.a_25) (fd:=t.d_25) (ps:=yf) ?_ ?_ ?_ ?_ ?_ ?_
 exact G_25
 ext b
 exact T.m_25
 exact T.F_25.kp
 exact T.b_25
 ext ac;ext a;ext f;ext T
 refine zhl ?_
 ext X;ext e
 exact zhd
 ext Y
 exact zab 5
 ext k
 exact zay
 exact zbt
 ext ah;ext T;ext g;ext m;ext W
 exact zj1
 ext U;ext j
 refine zcP ?_
 refine zhR ?_ ?_
 ext T
 refine zaj (k:=8) (g:=t.a_26) (fd:=t.d_26) (ps:=yf) ?_ ?_ ?_ ?_ ?_ ?_
 exact G_26
 ext b
 exact T.m_26
 exact T.F_26.kp
 exact T.b_26
 ext ac;ext a;ext f;ext T
 refine zhl ?_
 ext X;ext d
 refine zdq 7 (N:=["lot","stock"]) ?_ ?_ ?_ ?_ ?_ ?_ ?_ ?_
 ext P
 exact nd_35
 exact (BOk.of (Xn:=(zae s_35).names) (XN:=yg) rfl rfl rfl ⋯)
 ext s;ext Q
 refine zsb ?_ ?_ ?_
 ext T
 refine zcR ?_
 ext m
 exact zcX
 intro _ _ _
 exact zaE 0 zql
 intro _ _ _
 refine zdF ?_
 ext i
 exact zjP
 ext h
 exact zmy
 intro _ _ _
 ext ai;ext p
 exact G_9
 ext b
 exact T.m_9
 exact T.F_9.kp
 exact T.b_9
 ext Z;ext ad;ext ad;ext af;ext O;ext I;ext i;ext M
 exact zab 7
 refine zaz (id:="sorted") ?_ ?_ ?_ ?_
 exact (zeg (zeK hr))
 exact zgg
 exact T.n_sorted
 ext a
 exact zab 7
 ext g
 refine zc4 ?_
 ext i;ext M
 refine zk8 ?_ ?_ ?_ ?_ ?_
 ext P
 exact (zeK hr)
 ext G
 exact T.n_set
 exact zab 7
 ext k
 exact zay
 exact zbt
 ext ah
 exact zab 7
 ext g;ext W
 exact zj1
 ext U;ext af;ext O
 refine zjJ ?_ ?_
 ext i
 exact znw
 ext f;ext T
 refine zhl ?_
 ext m
 exact zmy
 refine zhp ?_
 ext i;ext M;ext Y
 exact zab 5
 ext k
 exact zay
 exact zbt
 ext ah
 exact zab 7
 ext g
 exact zab 4
 ext W
 exact zj1
 ext U;ext d
 refine zaV 8 ?_ ?_
 exact nd_35
 ext B
 exact G_23
 ext b
 exact T.m_23
 exact T.F_23.kp
 exact T.b_23
 ext ac;ext a;ext f;ext f
 exact zab 7
 ext m;ext X;ext af;ext O;ext I
 refine zcQ ?_
 refine zlW ?_ ?_ ?_ ?_ ?_
 exact zdf
 exact zhP
 exact zab 5
 exact zab 8
 exact zab 4
 refine zc4 ?_
 ext O
 refine zjJ ?_ ?_
 ext i
 exact zdf
 exact zab 8
 exact zab 4
 refine zhp ?_
 ext i
 exact zhP
 ext p
 exact G_9
 ext b
 exact T.m_9
 exact T.F_9.kp
 exact T.b_9
 ext ac;ext a;ext t
 exact G_24
 ext b
 exact T.m_24
 exact T.F_24.kp
 exact T.b_24
 ext ac;ext a
 exact zab 8
 ext g;ext g;ext f;ext f
 exact zab 7
 ext m;ext m;ext W
 exact zj1
 ext U;ext d
 refine zaV 9 ?_ ?_
 exact nd_35
 ext c
 exact G_32
 ext al;ext a;ext w;ext a;ext k
 exact zay
 exact zbt
 ext ah;ext f;ext v;ext X;ext g;ext d
 refine zaV 10 ?_ ?_
 exact nd_35
 refine zaj (k:=3) (g:=t.a_28) (fd:=t.d_28) (ps:=yk) ?_ ?_ ?_ ?_ ?_ ?_
 exact G_28
 ext b
 exact T.m_28
 exact T.F_28.kp
 exact T.b_28
 ext ac;ext a
 exact zab 9
 ext a;ext Y;ext Y;ext f;ext f;ext f;ext v;ext m
 exact zab 9
 ext m;ext m;ext c
 exact G_32
 ext al;ext a;ext w;ext a;ext X;ext g;ext j;ext r;ext O;ext I;ext i
 exact zry
 ext B
 exact G_23
 ext b
 exact T.m_23
 exact T.F_23.kp
 exact T.b_23
 ext a
 exact zab 10
 ext a;ext f;ext f
 exact zab 7
 ext m;ext X
 exact zab 8
 refine zc4 ?_
 ext i;ext M
 refine zaj (k:=5) (g:=t.a_22) (fd:=t.d_22) (ps:=yb) ?_ ?_ ?_ ?_ ?_ ?_
 exact G_22
 ext b
 exact T.m_22
 exact T.F_22.kp
 exact T.b_22
 ext a
 exact zab 10
 ext g
 exact zab 4
 ext W
 exact zj1
 ext U;ext W
 exact zj1
end
end K16
set_option exponentiation.threshold 8000
namespace L3
open L2 LT
section
theorem ziR {i j:Int} (h0:0<j) (h1:j<2^100):zd8 [.int i,.int j]=pure (.tup [.int (i / j),.int (i % j)]):=by
 unfold zd8
 simp only
 rw [qa4 ⟨h0,h1⟩]
theorem zfI {i j:Int} (h:(zaR i || zaR j || zgt i j)=true):zfE (.int i) (.int j)=pure (.int (i*j)):=by
 show (if (zaR i || zaR j || zgt i j)=true then _ else _)=_
 rw [qa4 h]
theorem zjZ {i j:Int} (h: -1000000000000000<i) (h':i<1000000000000000):zfE (.int i) (.int j)=pure (.int (i*j)):=zfI (by rw [zdY h h'];rfl)
theorem zkC {i j:Int} (h: -1000000000000000<j) (h':j<1000000000000000):zfE (.int i) (.int j)=pure (.int (i*j)):=zfI (by rw [zdY h h'];simp)
theorem zod {x:Int} {n:Nat} (h:x.natAbs<2^n):Builtin.Int.intBits x<=n:=by
 unfold Builtin.Int.intBits
 split
 ·exact zero_le _
 ·rename_i c
  have h0:x.natAbs≠0:=λz=>c (by simp;omega)
  exact (log2_lt h0).mpr h
theorem zhn {x:Int} {n:Nat} (h:Builtin.Int.intBits x<=n):x.natAbs<2^n:=by
 unfold Builtin.Int.intBits at h
 split at h
 ·rename_i c
  have:x=0:=by simpa using c
  subst this
  exact Nat.pow_pos (by decide)
 ·rename_i c
  have h0:x.natAbs≠0:=λz=>c (by simp;omega)
  exact (log2_lt h0).mp h
theorem zmH {c k:Int} {n:Nat} (h:Builtin.Int.intBits c<=n) (k0:0<=k) (k1:k<24):Builtin.Int.intBits ((c+1)*40692+104729*k)<=n+22:=by
 refine zod ?_
 have h1:=zhn h
 rw [Nat.pow_add]
 generalize 2^n=B at h1
 have:(2:Nat)^22=4194304:=rfl
 rw [this]
 omega
theorem zq3:zrX (.int 10) (.int 20)=pure (.int 100000000000000000000):=by
 unfold zrX dII
 simp only
 rw [qa4 (by decide)]
 rfl
theorem zrg {n:Nat}:zc8 [.cel n]=(do let ds<-zah n;pure (.tup ds)):=rfl
end
section
def pdO (o:List Int×Int):PyData:= .tuple [.tuple (o.1.map PyData.int),.int o.2]
theorem zkL: ∀ os:List (List Int×Int),pdL (os.map zbu)=some (os.map pdO)
 | []=>rfl
 | o::r=>by
  rw [qaM,pdL,zkL r]
  simp only [zbu,tI,pd,pdL,zbK,Option.map,pdO,qaM]
theorem zhL: ∀ os:List (List Int×Int),PyData.canLayAll0 (os.map pdO)=true
 | []=>rfl
 | o::r=>by simp [PyData.canLayAll0,PyData.canLay0,zaU,zhL r,pdO]
theorem zlN (os:List (List Int×Int)):dEq (.lst (os.map zbu)) (.lst [])=pure (.bl os.isEmpty):=by
 have e1:pd (.lst (os.map zbu))=some (.list (os.map pdO)):=by unfold pd;rw [zkL];rfl
 have e2:pd (.lst [])=some (.list []):=rfl
 rw [znb e1 e2 (by unfold zh1;simp [PyData.canLay0,PyData.canLayAll0,zhL,PyData.depth,PyData.depthAll])]
 cases os<;>rfl
theorem znp {x y:D} {a b:PyData} (e1:pd x=some a) (e2:pd y=some b) (h:zh1 a b=true):dNe x y=pure (.bl (!PyData.eqv a b)):=by
 show zjk true x y=_
 unfold zjk
 rw [e1,e2]
 simp only [h,if_true]
theorem zaW {α β:Type} {p:α->Bool} {g:α->β}: ∀ xs:List α,xs.filterMap (λx=>if p x=true then some (g x) else none)=(xs.filter p).map g
 | []=>rfl
 | x::r=>by
  rw [qat,List.filter_cons,zaW r]
  cases p x<;>simp
theorem zbm {α:Type} {g':α->D} {fi:FA} {g:D->Sd->M Sd} {tc:FT} {te:FE} {src:List (Option Nat)} {sd:Sd} {xs:List α} {k:α->Option D} (hi:fi sd=pure (xs.map g')) (hl:xs.length<=1000) (hf: ∀ x∈xs,zbG g tc te (zas src sd) (g' x)=pure (k x)):zaZ fi g tc te src sd=pure (.lst (xs.filterMap k)):=by
 unfold zaZ
 rw [hi]
 simp only [pure_bind]
 rw [zaD (by rw [qaH];exact hl)]
 simp only [pure_bind]
 have: ∀ {ys:List α},(∀ x∈ys,zbG g tc te (zas src sd) (g' x)=pure (k x))->zca (zbG g tc te (zas src sd)) (ys.map g')=pure (ys.filterMap k):=by
  intro ys
  induction ys with
  | nil=>intro _;rfl
  | cons x r ih=>
   intro hf
   rw [qaM,zca,hf x qau,ih λy hy=>hf y (qan _ hy)]
   simp only [pure_bind]
   cases e:k x<;>simp [qat,e]
 rw [this hf]
 simp only [pure_bind]
theorem zgx: ∀ {xs ys zs:List Int},HT.zaO xs ys=true->HT.zaO ys zs=true->HT.zaO xs zs=true
 | [],[],_,h,_=>by cases h
 | [],_::_,[],_,h=>by cases h
 | [],_::_,_::_,_,_=>rfl
 | _::_,[],_,h,_=>by cases h
 | _::_,_::_,[],_,h=>by cases h
 | x::xs,y::ys,z::zs,h1,h2=>by
  rw [HT.za0] at h1 h2 ⊢
  split at h1
  ·split at h2
   ·rw [qa4 ⋯]
    exact zgx h1 h2
   ·simp at h2
    rw [qa5 ⋯]
    simp
    omega
  ·simp at h1
   split at h2
   ·rw [qa5 ⋯]
    simp
    omega
   ·simp at h2
    rw [qa5 ⋯]
    simp
    omega
theorem zic: ∀ {xs ys:List Int},HT.zaO xs ys=false->HT.zaO ys xs=false->xs=ys
 | [],[],_,_=>rfl
 | [],_::_,h,_=>by cases h
 | _::_,[],_,h=>by cases h
 | x::xs,y::ys,h1,h2=>by
  rw [HT.za0] at h1 h2
  by_cases e:x=y
  ·rw [qa4 e] at h1
   rw [qa4 e.symm] at h2
   rw [e,zic h1 h2]
  ·rw [qa5 e] at h1
   rw [qa5 (Ne.symm e)] at h2
   simp at h1 h2
   omega
theorem zdh {p q r:Int×List Int} (h1:pLt p q=true) (h2:pLt q r=true):pLt p r=true:=by
 unfold pLt at*
 split at h1
 ·split at h2
  ·rw [qa4 ⋯]
   exact zgx h1 h2
  ·simp at h2
   rw [qa5 ⋯]
   simp
   omega
 ·simp at h1
  split at h2
  ·rw [qa5 ⋯]
   simp
   omega
  ·simp at h2
   rw [qa5 ⋯]
   simp
   omega
theorem zhZ {p q:Int×List Int} (h1:pLt p q=false) (h2:pLt q p=false):p=q:=by
 unfold pLt at*
 by_cases e:p.1=q.1
 ·rw [qa4 e] at h1
  rw [qa4 e.symm] at h2
  exact Prod.ext e (zic h1 h2)
 ·rw [qa5 e] at h1
  rw [qa5 (Ne.symm e)] at h2
  simp at h1 h2
  omega
theorem zkw (f:Nat->Int×List Int): ∀ k,argBest (λi j=>pLt (f i) (f j)) k<=k/\ ∀ i,i<=k->pLt (f i) (f (argBest (λi j=>pLt (f i) (f j)) k))=false
 | 0=>⟨qaV _,λi hi=>by
   have:i=0:=by omega
   subst this
   show pLt (f 0) (f 0)=false
   unfold pLt
   rw [qa4 rfl,zbg]⟩
 | k+1=>by
  obtain ⟨h1,h2⟩:=zkw f k
  unfold argBest
  by_cases c:pLt (f (k+1)) (f (argBest (λi j=>pLt (f i) (f j)) k))=true
  ·rw [qa4 c]
   refine ⟨qaV _,λi hi=> ?_⟩
   by_cases e:i=k+1
   ·subst e
    unfold pLt
    rw [qa4 rfl,zbg]
   ·have h3:=h2 i ⋯
    cases h4:pLt (f i) (f (k+1)) with
    | false=>rfl
    | true=>rw [zdh h4 c] at h3;cases h3
  ·rw [qa5 c]
   refine ⟨⋯,λi hi=> ?_⟩
   by_cases e:i=k+1
   ·subst e
    simpa using c
   ·exact h2 i ⋯
theorem zgW {ps:List (Int×List Int)} (h:ps≠[]):zco ps<ps.length/\ ∀ q∈ps,pLt q (ps.getD (zco ps) (0,[]))=false:=by
 have hl:=List.length_pos_iff.mpr h
 obtain ⟨h1,h2⟩:=zkw (λi=>ps.getD i (0,[])) (ps.length - 1)
 refine ⟨Nat.lt_of_le_of_lt h1 ⋯,λq hq=> ?_⟩
 obtain ⟨i,hi,rfl⟩:=getElem_of_mem hq
 have h3:=h2 i ⋯
 have e:ps.getD i (0,[])=ps[i]:=by simp [List.getD,hi]
 rw [<- e]
 exact h3
theorem zpQ (xs ys:List Int):dNe (tI xs) (tI ys)=pure (.bl (!(xs==ys))):=by
 rw [znp (znN xs) (znN ys) (by unfold zh1;simp [PyData.canLay0,zaU,PyData.depth,zbk])]
 simp only [PyData.eqv,zfQ]
theorem zlQ (j:Int) (r:Nat):zc0 j (r+1)= .int j::zc0 (j+1) r:=by
 unfold zc0
 rw [List.range_succ_eq_map,qaM,map_map]
 congr 1
 ·simp
 ·refine List.map_congr_left λk _=> ?_
  simp
  omega
def pD (p:Int×List Int):D:= .tup [.int p.1,tI p.2]
theorem zc5: ∀ ps:List (Int×List Int),zbL (ps.map pD)=some ps
 | []=>rfl
 | p::r=>by
  rw [qaM,zbL,zc5 r]
  simp only [pD,tI,zbr,zc3,Option.map,Option.bind]
theorem zgA {ps:List (Int×List Int)} (h:ps≠[]):zmG [.lst (ps.map pD)]=pure (pD (ps.getD (zco ps) (0,[]))):=by
 have hb:=(zgW h).1
 have e:(ps.map pD)[zco ps]? = some (pD (ps.getD (zco ps) (0,[]))):=by simp [List.getD,hb]
 show (do let ps'<-ofO (zbL (ps.map pD));ofO ((ps.map pD)[zco ps']?):M D)=_
 rw [zc5]
 show (ofO ((ps.map pD)[zco ps]?):M D)=_
 rw [e]
 rfl
theorem zq8 (a b:Nat):Builtin.bitOr (a:Int) (b:Int)=((a ||| b:Nat):Int):=by
 unfold Builtin.bitOr Builtin.bitAnd Builtin.bitNot
 have h1:decide (0<= -(a:Int) - 1)=false:=by simp;omega
 have h2:decide (0<= -(b:Int) - 1)=false:=by simp;omega
 rw [h1,h2]
 simp only
 have e1:(-(-(a:Int) - 1) - 1).toNat=a:=by omega
 have e2:(-(-(b:Int) - 1) - 1).toNat=b:=by omega
 rw [e1,e2]
 omega
def bv (p:Nat->Bool):Nat->Nat
 | 0=>0
 | n+1=>bv p n*2+(if p n=true then 1 else 0)
theorem zp4 (p q:Nat->Bool): ∀ n,bv p n ||| bv q n=bv (λi=>p i || q i) n
 | 0=>by
  unfold bv
  rfl
 | n+1=>by
  have ih:=zp4 p q n
  unfold bv
  rw [<- ih]
  refine Nat.eq_of_testBit_eq λi=> ?_
  cases i with
  | zero=>
   rw [Nat.testBit_or]
   simp only [Nat.testBit_zero]
   cases p n<;>cases q n<;>simp<;>omega
  | succ i=>
   rw [Nat.testBit_or]
   simp only [Nat.testBit_add_one]
   have e: ∀ (a:Nat) (c:Bool),(a*2+(if c=true then 1 else 0)) / 2=a:=λa c=>by cases c<;>simp<;>omega
   rw [e,e,e,Nat.testBit_or]
theorem zjw (p:Nat->Bool): ∀ n,bv p n=bv (λ_=>true) n↔ ∀ i,i<n->p i=true
 | 0=>⟨λ_ i h=>by omega,λ_=>rfl⟩
 | n+1=>by
  have ih:=zjw p n
  unfold bv
  constructor
  ·intro h i hi
   cases hp:p n with
   | false=>rw [hp] at h;simp at h;omega
   | true=>
    rw [hp] at h
    simp at h
    by_cases e:i=n
    ·rw [e];exact hp
    ·exact ih.mp ⋯ i ⋯
  ·intro h
   rw [h n ⋯,ih.mpr λi hi=>h i ⋯]
theorem zhH {p q:Nat->Bool}: ∀ {n},(∀ i,i<n->p i=q i)->bv p n=bv q n
 | 0,_=>rfl
 | n+1,h=>by
  unfold bv
  rw [h n ⋯,zhH λi hi=>h i ⋯]
theorem zks (k:Int) (xs:List Int):dIn (.int k) (.lst (xs.map D.int))=pure (.bl (xs.any (· == k))):=by
 show zn1 false (.int k) (.lst (xs.map D.int))=_
 unfold zn1
 simp only [pd]
 rw [zbK]
 have c:zmX (.int k) (xs.map PyData.int)=true:=by
  unfold zmX
  simp [PyData.canLay0,zaU,PyData.depth,zbk]
 simp only [c,if_true,zfU]
 rfl
theorem zlF (lo:Int) (k:Nat):ziN lo (k+1)= .int lo::ziN (lo - 1) k:=by
 unfold ziN
 rw [List.range_succ_eq_map,qaM,map_map]
 congr 1
 ·simp
 ·refine List.map_congr_left λj _=> ?_
  simp
  omega
def kl (n:Nat):Nat->List (List Int)
 | 0=>[[]]
 | r+1=>(kl n r).take 1++(kl n r).map (λls=>((n - (r+1):Nat):Int)::ls)++(kl n r).drop 1
theorem ze1 (n:Nat): ∀ (r:Nat) (x:List Int),r<=n->(x∈kl n r↔x.Pairwise (· < ·)/\ ∀ y∈x,((n - r:Nat):Int)<=y/\y<(n:Int))
 | 0,x,_=>by
  unfold kl
  rw [mem_singleton]
  constructor
  ·rintro rfl
   exact ⟨.nil,λy hy=>by cases hy⟩
  ·rintro ⟨_,h⟩
   cases x with
   | nil=>rfl
   | cons y r=>have:=h y qau;omega
 | r+1,x,hr=>by
  have ih:=λy=>ze1 n r y ⋯
  have e:x∈kl n (r+1)↔x∈kl n r\/ ∃ y∈kl n r,((n - (r+1):Nat):Int)::y=x:=by
   have h0:x∈kl n r↔x∈(kl n r).take 1++(kl n r).drop 1:=by rw [qam]
   have h1:x∈kl n (r+1)↔x∈(kl n r).take 1++(kl n r).map (λls=>((n - (r+1):Nat):Int)::ls)++(kl n r).drop 1:=Iff.rfl
   rw [h0,h1]
   simp only [qaK,qaU]
   constructor
   ·rintro ((h | h) | h)
    ·exact .inl (.inl h)
    ·exact .inr h
    ·exact .inl (.inr h)
   ·rintro ((h | h) | h)
    ·exact .inl (.inl h)
    ·exact .inr h
    ·exact .inl (.inr h)
  rw [e,ih x]
  constructor
  ·rintro (⟨h1,h2⟩ | ⟨y,hy,rfl⟩)
   ·exact ⟨h1,λy hy=>by have:=h2 y hy;omega⟩
   ·obtain ⟨g1,g2⟩:=(ih y).mp hy
    refine ⟨qay.mpr ⟨λa ha=> ?_,g1⟩,λz hz=> ?_⟩
    ·have:=g2 a ha
     omega
    ·rcases qaP.mp hz with rfl | hz
     ·omega
     ·have:=g2 z hz
      omega
  ·rintro ⟨h1,h2⟩
   cases x with
   | nil=>exact .inl ⟨.nil,λy hy=>by cases hy⟩
   | cons y ys=>
    rw [qay] at h1
    have hy:=h2 y qau
    by_cases c:y=((n - (r+1):Nat):Int)
    ·refine .inr ⟨ys,(ih ys).mpr ⟨h1.2,λz hz=> ?_⟩,by rw [c]⟩
     have h3:=h1.1 z hz
     have h4:=h2 z (qan _ hz)
     omega
    ·refine .inl ⟨qay.mpr h1,λz hz=> ?_⟩
     have h4:=h2 z hz
     rcases qaP.mp hz with rfl | hz
     ·omega
     ·have h3:=h1.1 z hz
      omega
theorem zg3 (n:Nat): ∀ r,(kl n r).length=2^r
 | 0=>rfl
 | r+1=>by
  unfold kl
  rw [qav,qav,qaH,length_take,length_drop,zg3 n r,Nat.pow_succ]
  have:=Nat.two_pow_pos r
  omega
def pr (os:List (List Int×Int)) (ls:List Int):Int:=(ls.map λi=>(os.getD i.toNat ([],0)).2).sum
def znr (os:List (List Int×Int)) (ls:List Int) (t:Nat):Bool:=ls.any λi=>(os.getD i.toNat ([],0)).1.any (· == (t:Int))
def cvB (m:Int) (os:List (List Int×Int)) (ls:List Int):Bool:=bv (znr os ls) m.toNat==bv (λ_=>true) m.toNat
theorem zfO {m:Int} {os:List (List Int×Int)} {ls:List Int}:cvB m os ls=true↔ ∀ t:Int,0<=t->t<m-> ∃ i∈ls,t∈(os.getD i.toNat ([],0)).1:=by
 unfold cvB
 rw [beq_iff_eq,zjw]
 have key: ∀ t:Nat,znr os ls t=true↔ ∃ i∈ls,(t:Int)∈(os.getD i.toNat ([],0)).1:=λt=>by
  unfold znr
  simp [any_eq_true]
 constructor
 ·intro h t t0 t1
  have:=(key t.toNat).mp (h t.toNat ⋯)
  rw [Int.toNat_of_nonneg t0] at this
  exact this
 ·intro h i hi
  exact (key i).mpr (h i ⋯ ⋯)
def trD (m:Int) (os:List (List Int×Int)) (ls:List Int):D:= .tup [.int (pr os ls),tI ls,.int (bv (znr os ls) m.toNat)]
theorem zkO {p:Nat->Bool} (h: ∀ i,p i=false): ∀ n,bv p n=0
 | 0=>rfl
 | n+1=>by
  unfold bv
  rw [zkO h n,h n]
  rfl
theorem zmL (a b:Nat):((a:Int)==(b:Int))=(a==b):=by
 rw [Bool.eq_iff_iff,beq_iff_eq,beq_iff_eq]
 omega
section
variable {g g1 g':FS} {t:FT} {a:FE} {fs fi:FA} {gt:D->Sd->M Sd} {sd:Sd} {i:Nat} {h:Hh} {P:Out->Hh->Prop} {ds:List D} {d:D}
theorem zb8 (q:wp (a sd) h λd h'=>wp (g' (sd.set i (some d))) h' P):wp (zan (zbH i a) g' sd) h P:=by
 rw [zaP,zbZ,bind_assoc,zaq]
 exact q
theorem znM (e:fi sd=pure ds) (q:wp (zba (λx sd=>do let sd1<-gt x sd;g sd1) ds sd) h λo h'=>wp (zdt o g') h' P):wp (zan (zlt fi gt g) g' sd) h P:=by
 rw [zaP,zgM,e,pure_bind,zaq]
 exact q
end
end
section
def cvs (m:Int) (os:List (List Int×Int)):List (List Int):=(kl os.length os.length).filter (cvB m os)
theorem zof {m:Int} {os:List (List Int×Int)} {ls:List Int}:ls∈cvs m os↔(ls.Pairwise (· < ·)/\ ∀ y∈ls,0<=y/\y<(os.length:Int))/\cvB m os ls=true:=by
 unfold cvs
 rw [mem_filter,ze1 _ _ _ (qaV _)]
 simp
def zfn (os:List (List Int×Int)) (i:Nat) (p:Int):List (List Int×Int):=os.set i ((os.getD i ([],0)).1,p)
theorem zdZ {os:List (List Int×Int)} {i:Nat} {p:Int}:(zfn os i p).length=os.length:=by unfold zfn;simp
theorem zh5 {os:List (List Int×Int)} {i j:Nat} {p:Int} (hi:i<os.length):(zfn os i p).getD j ([],0)=if j=i then ((os.getD i ([],0)).1,p) else os.getD j ([],0):=by
 unfold zfn
 by_cases e:j=i
 ·subst e
  rw [qa4 rfl]
  simp [List.getD,hi]
 ·rw [qa5 e]
  simp [List.getD,qao (Ne.symm e)]
theorem ziE {os:List (List Int×Int)} {i j:Nat} {p:Int} (hi:i<os.length):((zfn os i p).getD j ([],0)).1=(os.getD j ([],0)).1:=by
 rw [zh5 hi]
 split
 ·rename_i e
  rw [e]
 ·rfl
theorem zlm {m:Int} {os:List (List Int×Int)} {i:Nat} {p:Int} (hi:i<os.length):cvs m (zfn os i p)=cvs m os:=by
 unfold cvs
 rw [zdZ]
 refine List.filter_congr λls _=> ?_
 rw [Bool.eq_iff_iff,zfO,zfO]
 simp only [ziE hi]
theorem zm1 {os:List (List Int×Int)} {i:Nat} {p:Int} (hi:i<os.length): ∀ {ls:List Int},ls.Nodup->(∀ y∈ls,0<=y)->pr (zfn os i p) ls=pr os ls+(if (i:Int)∈ls then p - (os.getD i ([],0)).2 else 0)
 | [],_,_=>rfl
 | x::r,hn,hb=>by
  rw [nodup_cons] at hn
  have ih:=zm1 (p:=p) hi hn.2 λy hy=>hb y (qan _ hy)
  have hx:=hb x qau
  unfold pr at ih ⊢
  rw [qaM,List.sum_cons,qaM,List.sum_cons,ih,zh5 hi]
  by_cases e:x=(i:Int)
  ·subst e
   rw [qaB,qa4 rfl,qa5 hn.1,qa4 qau]
   show p+_=_
   omega
  ·have e1: ¬x.toNat=i:=by omega
   rw [qa5 e1]
   by_cases c:(i:Int)∈r
   ·rw [qa4 c,qa4 (qan _ c)]
    omega
   ·rw [qa5 c,qa5 (λz=>by
      rcases qaP.mp z with w | w
      · exact e w.symm
      · exact c w)]
    omega
theorem ziL: ∀ ps:List (Int×List Int),zfS zbr (ps.map pD)=some ps:=λps=>by rw [zd5,zc5]
theorem zeV {ps:List (Int×List Int)} (h:ps≠[]): ∃ r,TS.zcZ pLt ps=ps.getD (zco ps) (0,[])::r:=by
 obtain ⟨b1,b2⟩:=zgW h
 have hp:=TS.zbX pLt ps
 have hu:=TS.zde TS.znI ps
 cases hs:TS.zcZ pLt ps with
 | nil=>
  rw [hs] at hp
  exact absurd hp.symm.eq_nil h
 | cons x r=>
  have hu':(x::r).Pairwise TS.znI.kle:=by rw [<- hs];exact hu
  have hx:x∈ps:=hp.mem_iff.mp (by rw [hs];exact qau ..)
  have hb:ps.getD (zco ps) (0,[])∈ps:=by
   rw [List.getD_eq_getElem?_getD,qaf b1]
   exact getElem_mem b1
  have hb2:ps.getD (zco ps) (0,[])∈x::r:=by rw [<- hs];exact hp.mem_iff.mpr hb
  have e:x=ps.getD (zco ps) (0,[]):=by
   rcases qaP.mp hb2 with e | hr
   ·exact e.symm
   ·exact zhZ (b2 x hx) ((qay.mp hu').1 _ hr)
  exact ⟨r,by rw [e]⟩
theorem zhF (n:Nat): ∀ r,r<=n->(kl n r).Nodup
 | 0,_=>by unfold kl;exact nodup_cons.mpr ⟨qaF,List.nodup_nil⟩
 | r+1,h=>by
  have ih:=zhF n r ⋯
  have hp:(kl n (r+1)).Perm ((kl n r).map (λls=>((n - (r+1):Nat):Int)::ls)++kl n r):=by
   show ((kl n r).take 1++(kl n r).map (λls=>((n - (r+1):Nat):Int)::ls)++(kl n r).drop 1).Perm _
   refine (List.Perm.append_right _ List.perm_append_comm).trans ?_
   rw [List.append_assoc,qam]
  rw [hp.nodup_iff,List.nodup_append]
  refine ⟨?_,ih,?_⟩
  ·unfold List.Nodup
   rw [pairwise_map]
   exact ih.imp λhne z=>hne (by injection z)
  ·intro a ha b hb e
   subst e
   obtain ⟨ls,_,rfl⟩:=qaU.mp ha
   have:=((ze1 n r _ ⋯).mp hb).2 _ qau
   omega
theorem zgd (p:Int×List Int->Bool) (l:List (Int×List Int)):(TS.zcZ pLt l).filter p=TS.zcZ pLt (l.filter p):=
 TS.zfy TS.znI ((TS.zbX _ _).filter p) ((TS.zde TS.znI l).filter p)
theorem ze6 (ps:List (Int×List Int)):zgj [.lst (ps.map pD)]=pure (.lst ((TS.zcZ pLt ps).map pD)):=by
 unfold zgj zkl zm0 zjl
 simp only [pure_bind,ziL,zeM]
 rfl
theorem zdl (q:Int×List Int):zbr (pD q)=some q:=by
 have h: ∀ xs:List Int,zcn (xs.map D.int)=some xs:=λxs=>by
  induction xs with
  | nil=>rfl
  | cons x r ih=>rw [qaM,zcn,ih];rfl
 unfold pD zbr tI
 simp only [h]
 rfl
theorem zpj (p q:Int×List Int):zrc (pD p) (pD q)=pure (.bl (pLt p q)):=by
 unfold zrc
 rw [zdl,zdl]
 rfl
theorem zoa (p q:Int×List Int):zqs (pD p) (pD q)=pure (.bl (pLt q p)):=by
 unfold zqs
 rw [zdl,zdl]
 rfl
theorem zj4 {l:List (Int×List Int)} (h:l.Pairwise λa b=>pLt a b=true) {k:Nat} (hk:k<l.length):(l.filter λq=>pLt q l[k]).length=k:=by
 have hs: ∀ a,pLt a a=false:=λa=>by unfold pLt;rw [qa4 rfl,zbg]
 have e:l=l.take k++l[k]::l.drop (k+1):=by rw [List.getElem_cons_drop,qam]
 have h':=h
 rw [e,qaq,qay] at h'
 obtain ⟨_,⟨h1,_⟩,h2⟩:=h'
 have f1:(l.take k).filter (λq=>pLt q l[k])=l.take k:=List.filter_eq_self.mpr λa ha=>h2 a ha _ qau
 have f2:(l.drop (k+1)).filter (λq=>pLt q l[k])=[]:=filter_eq_nil_iff.mpr λa ha=>by
  have:=h1 a ha
  intro z
  have:=zdh this z
  rw [hs] at this
  cases this
 generalize hx:l[k]=x at*
 rw [e,List.filter_append,f1,List.filter_cons,hs,qa5 (by simp),f2,append_nil,length_take]
 omega
theorem zky {l:List (Int×List Int)} (h:l.Pairwise λa b=>pLt a b=true) {k:Nat} (hk:k<l.length):(l.filter λq=>pLt l[k] q)=l.drop (k+1):=by
 have hs: ∀ a,pLt a a=false:=λa=>by unfold pLt;rw [qa4 rfl,zbg]
 have e:l=l.take k++l[k]::l.drop (k+1):=by rw [List.getElem_cons_drop,qam]
 have h':=h
 rw [e,qaq,qay] at h'
 obtain ⟨_,⟨h1,_⟩,h2⟩:=h'
 have f1:(l.take k).filter (λq=>pLt l[k] q)=[]:=filter_eq_nil_iff.mpr λa ha=>by
  have:=h2 a ha _ qau
  intro z
  have:=zdh this z
  rw [hs] at this
  cases this
 have f2:(l.drop (k+1)).filter (λq=>pLt l[k] q)=l.drop (k+1):=List.filter_eq_self.mpr λa ha=>h1 a ha
 generalize hx:l[k]=x at*
 conv=>lhs;rw [e]
 rw [List.filter_append,f1,List.filter_cons,hs,qa5 (by simp),f2,nil_append]
end
section
theorem zo5 {n:Nat} {tc:FT} {gb:FS} {sd:Sd}:zeG tc gb (n+1) sd=(do let b<-tc sd;if b=true then (do let o<-gb sd;match o with | .nx sd'=>zeG tc gb n sd' | .ct sd'=>zeG tc gb n sd' | .bk sd'=>pure (.nx sd') | .rt d=>pure (.rt d)) else pure (.nx sd)):=rfl
theorem zm3 {n:Nat} {h:Hh} {ds:List D} {P:D->Hh->Prop} (e:h[n]? = some (.lst ds)) (q:P (.int ds.length) h):wp (zeF [.cel n]) h P:=by
 show wp (do let ds<-zah n;pure (.int ds.length):M D) h P
 rw [zaq,zcq e,zap]
 exact q
theorem zfd {n:Nat} {h:Hh} {ds:List D} {i:Int} {d:D} {P:D->Hh->Prop} (e:h[n]? = some (.lst ds)) (ed:atI ds i=some d) (q:P d h):wp (dIx (.cel n) (.int i)) h P:=by
 rw [zqR,zaq,zcq e,ed,zeM,zap]
 exact q
theorem zpy {n:Nat} {h:Hh} {ds:List D} {y:D} {P:D->Hh->Prop} (e:h[n]? = some (.lst ds)) (f:ds.length+1<=1000) (q:P .non (h.set n (.lst (ds++[y])))):wp (zcW (.cel n) y) h P:=by
 show wp (do let ds<-zah n;fits (ds.length+1);zbe n (ds++[y]);pure .non:M D) h P
 rw [zaq,zcq e,zaD f,pure_bind,zaq,zhQ,zap]
 exact q
end
section
theorem zf7 {α:Type} {g':α->D} {f:D->M (Option D)} {k:α->Option D}: ∀ {xs:List α},(∀ x∈xs,f (g' x)=pure (k x))->zca f (xs.map g')=pure (xs.filterMap k)
 | [],_=>rfl
 | x::r,hf=>by
  rw [qaM,zca,hf x qau,zf7 λy hy=>hf y (qan _ hy)]
  simp only [pure_bind]
  cases e:k x<;>simp [qat,e]
theorem zqz {f:FE} {lo hi:Sd->M (Option Int)} {sd:Sd}:zrZ f lo hi sd=(do let d<-f sd;let l<-lo sd;let u<-hi sd;zsu d l u):=rfl
theorem zrl {n:Nat} {h:Hh} {ds:List D} {P:D->Hh->Prop} (e:h[n]? = some (.lst ds)) (q:P (.lst (ds.drop 1)) h):wp (zsu (.cel n) (some 1) none) h P:=by
 show wp (do let ds<-zah n;pure (.lst (zfZ ds (some 1) none)):M D) h P
 rw [zaq,zcq e,zap,zdS _ (by decide)]
 exact q
def pdP (q:Int×List Int):PyData:= .tuple [.int q.1,.tuple (q.2.map PyData.int)]
theorem zib: ∀ ps:List (Int×List Int),pdL (ps.map pD)=some (ps.map pdP)
 | []=>rfl
 | o::r=>by
  rw [qaM,pdL,zib r]
  simp only [pD,tI,pd,pdL,zbK,Option.map,pdP,qaM]
theorem zg6: ∀ ps:List (Int×List Int),PyData.canLayAll0 (ps.map pdP)=true
 | []=>rfl
 | o::r=>by simp [PyData.canLayAll0,PyData.canLay0,zaU,zg6 r,pdP]
theorem zgB: ∀ ps:List (Int×List Int),PyData.depthAll (ps.map pdP)<=10
 | []=>by simp [PyData.depthAll]
 | o::r=>by
  have:=zgB r
  simp [PyData.depthAll,PyData.depth,zbk,pdP]
  try omega
theorem zjp (ps:List (Int×List Int)):dNe (.lst (ps.map pD)) (.lst (ps.map pD))=pure (.bl false):=by
 have e1:pd (.lst (ps.map pD))=some (.list (ps.map pdP)):=by unfold pd;rw [zib];rfl
 have hl:(PyData.list (ps.map pdP)).canLay0=true:=by simp [PyData.canLay0,zg6]
 have hd:=zgB ps
 rw [znp e1 e1 (by unfold zh1;simp [hl,PyData.depth];omega),PySem.SeqAt.eqv_refl _ hl]
 rfl
theorem zhu {ps:List (Int×List Int)} (h1:ps.length<=8) (h2:ps.Nodup):zfx (.lst (ps.map pD))=pure (.int ps.length):=by
 show (do let ps'<-ofO (zbL (ps.map pD));if ps'.length<=8/\ps'.Nodup then pure (.int ps'.length) else M.bad:M D)=_
 rw [zc5,zeM,pure_bind,qa4 ⟨h1,h2⟩]
theorem zgG {α:Type} {l:List α} {f:Nat}: ∀ n,(List.range n).filterMap (λr=>l[f+r]?)=(l.drop f).take n
 | 0=>rfl
 | n+1=>by
  rw [range_succ,List.filterMap_append,zgG n,List.take_succ,List.getElem?_drop]
  congr 1
  try (cases h:l[f+n]? <;> simp [h])
theorem ztg {l:List (Int×List Int)} (h:l.Pairwise λa b=>pLt a b=true):TS.zcZ pLt l=l:=
 (TS.zfy TS.znI (.refl l) (h.imp λ{a b} z=>by
   show pLt b a=false
   cases c:pLt b a with
   | false=>rfl
   | true=>
     have:=zdh z c
     have hs:pLt a a=false:=by unfold pLt;rw [qa4 rfl,zbg]
     rw [hs] at this
     cases this)).symm
theorem zmF {l:List (Int×List Int)} (h:l.Pairwise λa b=>pLt a b=true):l.Nodup:=h.imp λ{a b} z e=>by
 subst e
 have hs:pLt a a=false:=by unfold pLt;rw [qa4 rfl,zbg]
 rw [hs] at z
 cases z
theorem zrO {a b:Int×List Int} (h:pLt a b=true):a.1<=b.1:=by
 unfold pLt at h
 split at h
 ·omega
 ·have:a.1<b.1:=by simpa using h
  omega
theorem zf4 {l:List (Int×List Int)} (h:l.Pairwise λa b=>pLt a b=true) {k:Nat} (hk:k<l.length) {p:Int} (hp:l[k].1<=p):k<(l.filter λq=>decide (q.1<=p)).length:=by
 have hall: ∀ a∈l.take (k+1),a.1<=p:=λa ha=>by
  obtain ⟨i,hi⟩:=List.mem_iff_getElem?.mp ha
  rw [List.getElem?_take] at hi
  split at hi
  ·rename_i c
   obtain ⟨li,ei⟩:=qac.mp hi
   by_cases e:i=k
   ·subst e;rw [<- ei];exact hp
   ·have:=zrO (List.pairwise_iff_getElem.mp h i k li hk ⋯)
    rw [ei] at this
    omega
  ·cases hi
 have e:l=l.take (k+1)++l.drop (k+1):=(qam ..).symm
 have f1:(l.take (k+1)).filter (λq=>decide (q.1<=p))=l.take (k+1):=List.filter_eq_self.mpr λa ha=>by simpa using hall a ha
 rw [e,List.filter_append,f1,qav,length_take]
 omega
end
end L3
namespace K16
open L2 L3 LT
set_option hygiene false in
local macro_rules | `(tactic| ac_nf0)=> `(tactic| simp only [zaP,zbZ,zni,zcl,zhj,zgM,zhw,zeo,zbs,zaK,zbb,zdQ,zoq,zf0,zaI,za2,pure_bind,bind_assoc,ziA,zs4,zgs,zsM,List.set,ze2,zir,zhK,zpw,zn9,zm6,ztB,zm7,ztz,zkM,zhO,zfD,zdj,zhv,zbT,zo4,zep,zr7,zqP,zrB,zr2,zeM,zqX,zp7,zqG,zqJ,znB,zhS,zcJ,zj9,zim,zjt,zm5,zqw,zaq,zap,zif,qaE,qaJ,qaH,zero_add,Nat.reduceAdd,Nat.reduceLeDiff,zaD,zbu,tI,zlo,zo2,zlD,zri,zmi,zjd,zmC,ztx,zj5,zjo,zne,zr6,zr4,zst,zro,znj,zpM,zsm,zsX,zua,if_true,Bool.not_true,Bool.not_false,qax,if_false,qav,List.cons_append,nil_append,zq6,zra,znV,bne_self_eq_false])
variable {m:Int} {os:List (List Int×Int)} {i:Nat}
theorem zbq {h:Hh} {b:Nat} {m:Int} {P:D->Hh->Prop} (q:Bx b h) (h0:0<m) (h1:m<2^100) (k: ∀ t h',0<=t->t<m->Ext b h h'->P (.int t) h'):wp (F_32 [.cel b,.int m]) h P:=by
 obtain ⟨z,e⟩:=id q
 rw [d_32]
 have e2:ixN ([D.int z]:List D).length 0=some 0:=rfl
 simp only [G_32,zaP,zni,zbs,zaK,zbb,zdQ,zaI,za2,pure_bind,bind_assoc,zf0,zqR,zaq,zcq e,zrB,zeM,zap,ziR h0 h1,zj9,zim,zcJ,zjt,ziA,List.set,znD,zrD,e2,zhQ,zcl,zgs]
 exact k _ _ (Int.emod_nonneg _ ⋯) (Int.emod_lt_of_pos _ h0) q.set
theorem zoK {ns:List Int} {k:Int} (h0:0<=k) (h1:k<6) (hb: ∀ i∈ns,Builtin.Int.intBits i<=2^20): ∃ c:Int,F_29 [.scr (ns.map D.int),.int k]=pure (.int c)/\Builtin.Int.intBits c<=2^20:=by
 rw [d_29]
 simp only [G_29,zaP,zhj,ze2,za2,zaI,pure_bind,bind_assoc,zbs,zaK,zbb,znt,zmt,zdj]
 by_cases hk:k<((ns.map D.int).length:Int)
 ·have hk':k.toNat<ns.length:=by simp at hk;omega
  have ea:atI (ns.map D.int) k=some (.int ns[k.toNat]):=by
   have:=zeA (xs:=ns.map D.int) (j:=k.toNat) (v:= .int ns[k.toNat]) (by simp [hk'])
   rw [<- this]
   congr 1
   omega
  simp only [hk,decide_true,if_true,zcl,zdQ,zaI,za2,pure_bind,zr9,ea,zeM,zs4,zgs]
  exact ⟨_,rfl,hb _ (getElem_mem hk')⟩
 ·simp only [hk,decide_false,qax,if_false,zeo,pure_bind,ziA,zcl,zdQ,zf0,za2,zaI,zqC (show (-1000000000000000:Int)<6151 by decide) (show (6151:Int)<1000000000000000 by decide),zep,zgs]
  exact ⟨_,rfl,qaS (intBits_le_64 ⋯ ⋯) (by decide)⟩
theorem zp3 {c k:Int} (hc:Builtin.Int.intBits c<=2^20) (k0:0<=k) (k1:k<24): ∃ r:Int,F_30 [.int c,.int k]=pure (.int r):=by
 rw [d_30]
 have hm:zgt ((c+1)*40692+104729*k) ((c+1)*40692+104729*k)=true:=by
  have:=zmH hc k0 k1
  unfold zgt
  rw [qaD]
  have e1:(2:Nat)^20=1048576:=rfl
  have e2:(2:Nat)^26=67108864:=rfl
  rw [e1] at this
  rw [e2]
  omega
 have n0:=Int.emod_nonneg (((c+1)*40692+104729*k)*((c+1)*40692+104729*k)) (show (2147483399:Int)≠0 by decide)
 have n1:=Int.emod_lt_of_pos (((c+1)*40692+104729*k)*((c+1)*40692+104729*k)) (show (0:Int)<2147483399 by decide)
 simp only [G_30,zaP,zbZ,zdQ,zaI,za2,zf0,zep,pure_bind,bind_assoc,zkC (show (-1000000000000000:Int)<40692 by decide) (show (40692:Int)<1000000000000000 by decide),zjZ (show (-1000000000000000:Int)<104729 by decide) (show (104729:Int)<1000000000000000 by decide),
   ziA,List.set,zfI (show (zaR ((c+1)*40692+104729*k) || zaR ((c+1)*40692+104729*k) || zgt ((c+1)*40692+104729*k) ((c+1)*40692+104729*k))=true by rw [hm];simp),zhm (show (0:Int)<2147483399 by decide),zcl]
 generalize hN:((c+1)*40692+104729*k)*((c+1)*40692+104729*k) % 2147483399=N at n0 n1
 simp only [zjZ (i:=N+k) (show -1000000000000000<N+k by omega) (show N+k<1000000000000000 by omega),pure_bind,zhm (show (0:Int)<2147483563 by decide),zgs]
 exact ⟨_,rfl⟩
theorem zh8 {s0 s1:Option D} {c:Int} (hc:Builtin.Int.intBits c<=2^20): ∀ (ds:List D) (n:Int) (x4:Option D),(∀ d∈ds, ∃ j:Int,d= .int j/\0<=j/\j<24)->
  ∃ (n':Int) (x4':Option D),zba (λx sd=>do let sd1<-zbl 4 x sd;zcA sd1) ds [s0,s1,some (.int c),some (.int n),x4]=pure (.nx [s0,s1,some (.int c),some (.int n'),x4'])
 | [],n,x4,_=>⟨n,x4,rfl⟩
 | d::r,n,x4,hd=>by
  obtain ⟨j,rfl,j0,j1⟩:=hd _ qau
  obtain ⟨mx,em⟩:=zp3 hc j0 j1
  obtain ⟨n',x4',ih⟩:=zh8 hc r (n*2147483647+mx) (some (.int j)) (λy hy=>hd y (qan _ hy))
  refine ⟨n',x4',?_⟩
  rw [zcB, <-ih]
  simp only [zcA,zcJ,List.set,pure_bind,bind_assoc,zbZ,zdQ,za2,zaI,zf0,zkC (i:=n) (show (-1000000000000000:Int)<2147483647 by decide) (show (2147483647:Int)<1000000000000000 by decide),zbs,zaK,zbb,zbT,em,zep]
theorem zpV {h:Hh} {ns:List Int} {k:Int} {P:D->Hh->Prop} (hb: ∀ i∈ns,Builtin.Int.intBits i<=2^20) (k0:0<=k) (k6:k<6) (q: ∀ z:Int,P (.cel h.length) (h++[.lst [.int z]])):wp (F_31 [.scr (ns.map D.int),.int k]) h P:=by
 obtain ⟨c,ec,hc⟩:=zoK k0 k6 hb
 rw [d_31]
 simp only [G_31,zaP,zbZ,zbs,zaK,zbb,zaI,za2,pure_bind,bind_assoc,zbT,ec,ziA,List.set,zhj,ze2,zdQ,zf0,zhm (show (0:Int)<2 by decide),zs9,zdj]
 by_cases hc2:(c % 2==0)=true
 ·simp only [hc2,if_true,zcl,zfD,zaK,zbb,zdQ,za2,zaI,zf0,pure_bind,bind_assoc,zlR (show (0:Int)<2 by decide) (show (2:Int)<2^64 by decide),qaE,qaJ,zaD (show 0+1<=1000 by decide),zaq,zif,zap,zs4,zgs]
  exact q _
 ·obtain ⟨n',x4',el⟩:=zh8 (s0:=some (.scr (ns.map D.int))) (s1:=some (.int k)) hc (zc0 0 24) 0 none (λd hd=>by
    obtain ⟨i,e,i0,i1⟩:=zjT hd
    exact ⟨i,e,i0,⋯⟩)
  have er:zkq [.int 24]=pure (zc0 0 24):=zdy (by decide) (by decide)
  simp only [hc2,if_false,zeo,pure_bind,ziA,zaP,zbZ,zf0,List.set,za2,zaI,zgM,zhS,zaK,zbb,er,bind_assoc,el,zcl,zfD,qaE,qaJ,zaD (show 0+1<=1000 by decide),zaq,zif,zap,zgs,qax]
  exact q _
theorem zhC (xs:List Int):dEq (.lst (xs.map D.int)) (.lst [])=pure (.bl xs.isEmpty):=by
 have:=zpn xs []
 rw [map_nil] at this
 rw [this]
 cases xs<;>rfl
def Go (m:Int) (o:List Int×Int):Prop:=o.1.Pairwise (· < ·)/\(∀ x∈o.1,0<=x/\x<m)/\o.1≠[]/\0<o.2
theorem zjg {b:Nat} {full:Int} (i:Int) {h:Hh} {Q:Option D->Hh->Prop} (q:Bx b h) (k: ∀ o h',Ext b h h'->(o=none\/o=some (.int i))->Q o h'):
  wp (zbG (zbl 0) zbQ zbM [none,some (.cel b),some (.int full)] (.int i)) h Q:=by
 simp only [zbG,zcJ,List.set,pure_bind,zbQ,ze2,zbs,zaK,zbb,za2,zaI,zf0,bind_assoc,zbT,zaq]
 refine zbq q (by decide) (by decide) λt h2 t0 t1 x2=> ?_
 simp only [zrU,zap,zdj]
 rw [zaB]
 split
 ·simp only [zbM,zaI,pure_bind,zap]
  exact k _ _ x2 (.inr rfl)
 ·rw [zap]
  exact k _ _ x2 (.inl rfl)
theorem zfb {b n:Nat} {m kind full:Int} {s1 s2:Option D} {N:Nat} (hN:N<=12) (hnb:n≠b) (m0:1<=m) (m1:m<=10) (k0:0<kind) (k1:kind<2^100): ∀ (ds:List D) {h:Hh} {x7 x8:Option D} {os:List (List Int×Int)} {P:Out->Hh->Prop},Bx b h->h[n]? = some (.lst (os.map zbu))->(∀ o∈os,Go m o)->os.length+ds.length<=N->
  (∀ (x7' x8':Option D) (os':List (List Int×Int)) (h':Hh),Bx b h'->h'[n]? = some (.lst (os'.map zbu))->(∀ o∈os',Go m o)->os'.length<=N->P (.nx [some (.cel b),s1,s2,some (.int m),some (.int kind),some (.int full),some (.cel n),x7',x8']) h')->
  wp (zba (λx sd=>do let sd1<-zbl 7 x sd;za5 sd1) ds [some (.cel b),s1,s2,some (.int m),some (.int kind),some (.int full),some (.cel n),x7,x8]) h P
 | [],h,x7,x8,os,P,q,e,ho,hl,k=>by
  rw [zfo,zap]
  exact k _ _ os h q e ho (by simpa using hl)
 | d::r,h,x7,x8,os,P,q,e,ho,hl,k=>by
  have ih: ∀ {h:Hh} {x7 x8:Option D} {os:List (List Int×Int)},Bx b h->h[n]? = some (.lst (os.map zbu))->(∀ o∈os,Go m o)->os.length+r.length<=N->
   wp (zba (λx sd=>do let sd1<-zbl 7 x sd;za5 sd1) r [some (.cel b),s1,s2,some (.int m),some (.int kind),some (.int full),some (.cel n),x7,x8]) h P:=λq e ho hl=>zfb hN hnb m0 m1 k0 k1 r q e ho hl k
  rw [zcB]
  generalize zba (λx sd=>do let sd1<-zbl 7 x sd;za5 sd1) r=zaT at ih ⊢
  have eb:zas [none,some 0,some 5] [some (.cel b),s1,s2,some (.int m),some (.int kind),some (.int full),some (.cel n),some d,x8]=[none,some (D.cel b),some (.int full)]:=rfl
  simp only [zcJ,List.set,pure_bind,za5,zaP,zbZ,zaq]
  unfold zaZ
  simp only [zhS,zaK,zbb,za2,zaI,pure_bind,zdy (show 0<=m by omega) (show m<1000 by omega),zaq,zlh,zaD (show m.toNat<=1000 by omega),zap,eb]
  rw [zfN]
  refine zld (λi {h Q} q k=>zjg i q k) _ q λys h2 x2 hys=> ?_
  have hyu:=(zb1 m.toNat).sublist hys
  have hyb: ∀ x∈ys,0<=x/\x<m:=λx hx=>by have:=zct x (hys.subset hx);omega
  have fin: ∀ (zs:List Int) (h3:Hh),(zs.Pairwise (· < ·)/\(∀ x∈zs,0<=x/\x<m)/\zs≠[])->Ext b h h3->wp ((zdB (zaf 6) (zeS (zac (zaw zc8 (zac (zaf 8) zar)) (zac (cOp zcK (cK (.int 1)) (zaw (zal 2 F_32) (zac (zaf 0) (zac (zaf 4) zar)))) zar)))) [some (.cel b),s1,s2,some (.int m),some (.int kind),some (.int full),some (.cel n),some d,some (.lst (zs.map D.int))]) h3
    λ_ h4=>wp (zaT [some (.cel b),s1,s2,some (.int m),some (.int kind),some (.int full),some (.cel n),some d,some (.lst (zs.map D.int))]) h4 P:=λzs h3 hz x3=>by
   have e3:=x3.2 n _ hnb e
   simp only [zdB,zdH,za2,zaI,pure_bind,bind_assoc,zaq,zcq e3,zkM,zaK,zbb,zbs,zm5,zdQ,zf0,zbT,zap]
   refine zbq x3.1 k0 k1 λt h4 t0 t1 x4=> ?_
   have e4:=x4.2 n _ hnb e3
   simp only [zep,pure_bind,zap,zaq,qaE,qaJ,zaD (show 0+1+1<=1000 by decide),zcW,zcq e4,qaH,zaD (show os.length+1<=1000 by simp at hl;omega),zhQ]
   have hlt:n<h4.length:=(qac.mp e4).1
   refine ih (os:=os++[(zs,1+t)]) ?_ (by rw [qai hlt];simp [zbu,tI]) ?_ ?_
   ·obtain ⟨y,ey⟩:=x4.1
    exact ⟨y,by rw [qao hnb];exact ey⟩
   ·intro o hmem
    rcases qaK.mp hmem with w | w
    ·exact ho o w
    ·simp at w
     subst w
     exact ⟨hz.1,hz.2.1,hz.2.2,by show (0:Int)<1+t;omega⟩
   ·simp at hl ⊢
    omega
  simp only [zap,ziA,List.set,zaP,zhj,ze2,za2,zaI,pure_bind,zhO,zbb,qaJ,zaD (show 0<=1000 by decide),zhC,zdj,bind_assoc,zaq]
  rw [zaB]
  split
  ·simp only [zbZ,zhO,zaK,zbb,zbs,za2,zaI,pure_bind,bind_assoc,zbT,zaq]
   refine zbq x2.1 ⋯ ⋯ λt h3 t0 t1 x3=> ?_
   simp only [zap,pure_bind,zaq,qaE,qaJ,zaD (show 0+1<=1000 by decide),List.set,ziA,zhw]
   exact zkv (fin [t] h3 ⟨by simp,by simp;omega,by simp⟩ (x2.trans x3)) λ_ _ z=>z
  ·rename_i hne
   simp only [zeo,zap,ziA,zhw,zaq]
   exact zkv (fin ys h2 ⟨hyu,hyb,λz=>hne (by rw [z];rfl)⟩ x2) λ_ _ z=>z
theorem zma {h:Hh} {b:Nat} {mt mo:Int} {P:D->Hh->Prop} (q:Bx b h) (t0:1<=mt) (t1:mt<=10) (o0:0<=mo) (o1:mo<=12) (k: ∀ (m:Int) (os:List (List Int×Int)) h',Bx b h'->1<=m->m<=mt->(os.length:Int)<=mo->(∀ o∈os,Go m o)->P (za8 m os) h'):wp (F_33 [.cel b,.int mt,.int mo]) h P:=by
 rw [d_33]
 simp only [G_33,zaP,zbZ,zdQ,zf0,zbs,zaK,zbb,zaI,za2,pure_bind,bind_assoc,zbT,zaq]
 refine zbq q ⋯ ⋯ λt h2 t0' t1' x2=> ?_
 simp only [zep,pure_bind,zap,ziA,List.set,zaP,zbZ,zdQ,zhO,zaK,zbb,zf0,zq3,bind_assoc,zaq,qaE,qaJ,zaD (show 0+1+1+1+1<=1000 by decide),zbs,zaI,za2,zbT]
 refine zbq x2.1 (by decide) (by decide) λf h3 f0 f1 x3=> ?_
 obtain ⟨kind,ef,g0,g1⟩: ∃ kind:Int,atI [D.int 1,.int 3,.int 20,.int 100000000000000000000] f=some (.int kind)/\0<kind/\kind<2^100:=by
  have:f=0\/f=1\/f=2\/f=3:=by omega
  rcases this with rfl | rfl | rfl | rfl
  ·exact ⟨1,rfl,by decide,by decide⟩
  ·exact ⟨3,rfl,by decide,by decide⟩
  ·exact ⟨20,rfl,by decide,by decide⟩
  ·exact ⟨100000000000000000000,rfl,by decide,by decide⟩
 simp only [zqP,ef,zeM,zap,ziA,List.set,zaP,zbZ,zbs,zaK,zbb,zaI,zf0,pure_bind,bind_assoc,zbT,zaq]
 refine zbq x3.1 (by decide) (by decide) λfull h4 u0 u1 x4=> ?_
 simp only [zap,ziA,List.set,zaP,zbZ,zfD,zbb,pure_bind,qaJ,zaD (show 0<=1000 by decide),zaq,zif,zgM,zhS,zaK,zbs,zdQ,za2,zaI,zf0,zep,bind_assoc,zbT]
 have x5:=x4.1.push (c:= .lst [])
 have hnb:h4.length≠b:=λz=>by
  obtain ⟨y,ey⟩:=x4.1
  have:=(qac.mp ey).1
  omega
 refine zbq x5.1 ⋯ ⋯ λturns h6 v0 v1 x6=> ?_
 have e6:h6[h4.length]? = some (.lst []):=x6.2 _ _ hnb (by simp)
 simp only [zap,pure_bind,zdy v0 (show turns<1000 by omega),zaq]
 refine zfb (N:=mo.toNat) ⋯ hnb ⋯ ⋯ g0 g1 _ x6.1 (os:=[]) e6 (λo ho=>by cases ho) (by rw [zlh];simp;omega) λx7 x8 os h7 q7 e7 ho hl=> ?_
 simp only [ziA,zcl,zkM,zaK,zbb,za2,zaI,pure_bind,bind_assoc,zbs,zrg,zaq,zcq e7,zap,qaE,qaJ,zaD (show 0+1+1<=1000 by decide),zgs]
 exact k (1+t) os h7 q7 ⋯ ⋯ ⋯ ho
theorem ziy {n:Nat} {s0:Option D}: ∀ (os:List (List Int×Int)) {h:Hh} {xs:List Int} {x2:Option D} {P:Out->Hh->Prop},h[n]? = some (.lst (xs.map D.int))->xs.length+(os.flatMap (·.1)).length<=1000->
  (∀ x2' h',(∀ k,k≠n->h'[k]? = h[k]?)->h'.length=h.length->h'[n]? = some (.lst ((xs++os.flatMap (·.1)).map D.int))->P (.nx [s0,some (.cel n),x2']) h')->
  wp (zba (λx sd=>do let sd1<-zbl 2 x sd;zaL sd1) (os.map zbu) [s0,some (.cel n),x2]) h P
 | [],h,xs,x2,P,e,_,k=>by
  rw [map_nil,zfo,zap]
  exact k x2 h (λ_ _=>rfl) rfl (by simpa using e)
 | o::os,h,xs,x2,P,e,hl,k=>by
  have hln:=(qac.mp e).1
  rw [List.flatMap_cons,qav] at hl
  have ih:=λ(x2':Option D)=>ziy (s0:=s0) (n:=n) os (h:=h.set n (.lst ((xs++o.1).map D.int))) (xs:=xs++o.1) (x2:=x2') (P:=P) (qai hln) (by rw [qav];omega) λx2'' h' h1 h2 h3=>k x2'' h' (λj hj=>(h1 j hj).trans (qao (Ne.symm hj))) (h2.trans (qaI ..)) (by rw [h3,List.flatMap_cons,List.append_assoc])
  rw [qaM,zcB]
  generalize zba (λx sd=>do let sd1<-zbl 2 x sd;zaL sd1) (os.map zbu)=zaT at ih ⊢
  have f:=zaD (show (xs.map D.int).length+(o.1.map D.int).length<=1000 by rw [qaH,qaH];omega)
  simp only [qaH] at f
  simp only [zaL]
  ac_nf0
  simp only [zaq,zcq e,zap,qaH,f,zhQ, <-map_append]
  exact ih _
theorem zqA {d:D} {os:List (List Int×Int)} {m:Int} (hd:zea d=pure (os.map zbu)) (m0:0<=m) (m1:m<=60) (hl:(os.flatMap (·.1)).length<=1000) (b: ∀ o∈os, ∀ x∈o.1,0<=x/\x<m):Ev (F_14 [d]) (tI (zfY (os.flatMap (·.1)))):=by
 refine .of_wp λh=> ?_
 rw [d_14]
 simp only [G_14]
 ac_nf0
 simp only [hd,zap]
 refine ziy os (xs:=[]) (by simp) (by simpa using hl) λx2 h' h1 h2 h3=> ?_
 ac_nf0
 have bb: ∀ x∈os.flatMap (·.1),0<=x/\x<m:=λx hx=>by
  obtain ⟨o,ho,hx⟩:=mem_flatMap.mp hx
  exact b o ho x hx
 refine zgY (by simpa using h3) (zhh m0 m1 bb) ⋯ ?_
 ac_nf0
 refine ⟨trivial,⟨[.lst ((os.flatMap (·.1)).map D.int)],List.ext_getElem? λj=> ?_⟩⟩
 by_cases hj:j=h.length
 ·subst hj
  rw [h3]
  simp
 ·rw [h1 j hj]
  by_cases hlt:j<h.length
  ·rw [qad hlt,qad hlt]
  ·rw [List.getElem?_eq_none (by simp;omega),List.getElem?_eq_none (by simp;omega)]
theorem zmb {os:List (List Int×Int)} {n:Nat} (h: ∀ o∈os,o.1.length<=n):(os.flatMap (·.1)).length<=os.length*n:=by
 induction os with
 | nil=>simp
 | cons o r ih=>
  rw [List.flatMap_cons,qav,qaE,Nat.succ_mul]
  have a1:=h o qau
  have a2:=ih λx hx=>h x (qan _ hx)
  omega
theorem zm4 (s:Stk m os) {d:D} {os':List (List Int×Int)} (hd:zea d=pure (os'.map zbu)) (hl:os'.length<=12) (hs: ∀ o∈os',o∈os):Ev (F_15 [za8 m os,d]) (.bl (((zfY (os'.flatMap (·.1))).length:Int)==m)):=by
 have tg:=zqA hd (m:=m) (by have:=s.m0;omega) (by have:=s.m1;omega) (by have:=zmb (os:=os') (n:=10) λo ho=>s.olen o (hs o ho);omega) λo ho=>s.bd o (hs o ho)
 refine .of_wp λh=> ?_
 rw [d_15]
 simp only [G_15,za8]
 ac_nf0
 refine tg.wp λh' g=> ?_
 ac_nf0
 rw [zs9]
 ac_nf0
 exact ⟨trivial,g⟩
def zh3 (t:Int) (o:List Int×Int):Bool:=o.1.any (· == t)
def za3 (m:Int) (os:List (List Int×Int)):List Int:=((List.range m.toNat).map λ(k:Nat)=>(k:Int)).filter λt=>(os.filter (zh3 t)).isEmpty
theorem zkY {m:Int} {os:List (List Int×Int)} (m0:1<=m) (m1:m<=10) (hl:os.length<=12) (h: ∀ o∈os,Go m o):Stk m os:=
 ⟨m0,m1,hl,λo ho=>(h o ho).1,λo ho=>(h o ho).2.1,λo ho=>(h o ho).2.2.1,λo ho=>(h o ho).2.2.2⟩
theorem zoT {fi:FA} {src:List (Option Nat)} {sd:Sd} {t:Int} (hi:fi sd=pure (os.map zbu)) (hl:os.length<=1000) (eb:zas src sd=[none,some (.int t)]):zaZ fi (zbl 0) zbw zbv src sd=pure (.lst ((os.filter (zh3 t)).map zbu)):=by
 rw [<- zaW]
 refine zbm hi hl λo ho=> ?_
 rw [eb]
 simp only [zbG,zbw,zbv]
 ac_nf0
 rw [zh7]
 ac_nf0
 unfold zh3
 split<;>rfl
theorem zkk {fi:FA} {tc:FT} {src:List (Option Nat)} {sd:Sd} {x:Option D} (hi:fi sd=pure (zc0 0 m.toNat)) (m1:m<=1000) (eb:zas src sd=[none,x]) (hc: ∀ t:Int,tc [some (.int t),x]=pure ((os.filter (zh3 t)).isEmpty)):zaZ fi (zbl 0) tc (zaf 0) src sd=pure (.lst ((za3 m os).map D.int)):=by
 unfold za3
 rw [<- zaW]
 refine zbm (by rw [hi,zfN]) (by simp;omega) λt ht=> ?_
 rw [eb]
 simp only [zbG]
 ac_nf0
 rw [hc]
 ac_nf0
 split<;>rfl
theorem zkn (s:Stk m os):(za3 m os).isEmpty=(((zfY (os.flatMap (·.1))).length:Int)==m):=by
 have m0:=s.m0
 rw [<- zk1 ⋯ (zev _) λx hx=>by
   obtain ⟨o,ho,hx⟩:=mem_flatMap.mp (zb5.mp hx)
   exact s.bd o ho x hx]
 rw [Bool.eq_iff_iff,beq_iff_eq,isEmpty_iff]
 unfold za3
 rw [filter_eq_nil_iff]
 constructor
 ·intro h
  refine zpl (zev _) (zb1 _) λk=> ?_
  rw [zb5]
  constructor
  ·intro hk
   obtain ⟨o,ho,hx⟩:=mem_flatMap.mp hk
   have:=s.bd o ho k hx
   exact qaU.mpr ⟨k.toNat,mem_range.mpr ⋯,⋯⟩
  ·intro hk
   have:=h k hk
   rw [isEmpty_iff] at this
   obtain ⟨o,ho⟩:=List.exists_mem_of_ne_nil _ this
   obtain ⟨h1,h2⟩:=mem_filter.mp ho
   exact mem_flatMap.mpr ⟨o,h1,by simpa [zh3] using h2⟩
 ·intro e t ht
  rw [<- e,zb5] at ht
  obtain ⟨o,ho,hx⟩:=mem_flatMap.mp ht
  rw [isEmpty_iff]
  intro z
  have:o∈os.filter (zh3 t):=mem_filter.mpr ⟨ho,by simpa [zh3] using hx⟩
  rw [z] at this
  cases this
theorem znH:dIx (za8 m os) (.int 1)=pure (.tup (os.map zbu)):=rfl
theorem zsa:dIx (za8 m os) (.int 0)=pure (.int m):=rfl
theorem znT (s:Stk m os):Ev (F_8 [za8 m os]) (.bl (za3 m os).isEmpty):=by
 rw [zkn s]
 refine .of_wp λh=> ?_
 rw [d_8]
 simp only [G_8]
 ac_nf0
 rw [znH]
 ac_nf0
 refine (zm4 s (d:= .tup (os.map zbu)) rfl s.len λo ho=>ho).wp λh' g=> ?_
 ac_nf0
 exact ⟨trivial,g⟩
theorem zhy (s:Stk m os) (hf:(za3 m os).isEmpty=true):Ev (F_10 [za8 m os]) .non:=by
 refine .of_wp λh=> ?_
 rw [d_10]
 simp only [G_10]
 ac_nf0
 refine (znT s).wp λh' g=> ?_
 rw [hf]
 ac_nf0
 exact ⟨trivial,g⟩
theorem zmM (s:Stk m os) {a:Nat} {p:Int}:(za3 m (os.take a++[(za3 m os,p)]++os.drop a)).isEmpty=true:=by
 rw [isEmpty_iff]
 unfold za3
 rw [filter_eq_nil_iff]
 intro t ht
 rw [isEmpty_iff]
 intro z
 by_cases c:(os.filter (zh3 t)).isEmpty=true
 ·have h1:t∈za3 m os:=mem_filter.mpr ⟨ht,c⟩
  have h2:(za3 m os,p)∈(os.take a++[(za3 m os,p)]++os.drop a).filter (zh3 t):=mem_filter.mpr ⟨by simp,by simpa [zh3] using h1⟩
  unfold za3 at h2
  rw [z] at h2
  cases h2
 ·rw [isEmpty_iff] at c
  obtain ⟨o,ho⟩:=List.exists_mem_of_ne_nil _ c
  obtain ⟨h1,h2⟩:=mem_filter.mp ho
  have h3:o∈os.take a++os.drop a:=by rw [qam];exact h1
  have h4:o∈(os.take a++[(za3 m os,p)]++os.drop a).filter (zh3 t):=mem_filter.mpr ⟨by
    rcases qaK.mp h3 with w | w
    · simp [w]
    · simp [w],h2⟩
  unfold za3 at h4
  rw [z] at h4
  cases h4
theorem zoR {h:Hh} {b:Nat} {mt mo:Int} {P:D->Hh->Prop} (q:Bx b h) (t0:1<=mt) (t1:mt<=10) (o0:1<=mo) (o1:mo<=12) (k: ∀ (m:Int) (os:List (List Int×Int)) h',Bx b h'->Stk m os->(za3 m os).isEmpty=true->(os.length:Int)<=mo->m<=mt->P (za8 m os) h'):wp (F_34 [.cel b,.int mt,.int mo]) h P:=by
 rw [d_34]
 simp only [G_34]
 ac_nf0
 refine zma q t0 t1 ⋯ ⋯ λm os h2 q2 m0 m1 ol ho=> ?_
 have s:=zkY m0 ⋯ ⋯ ho
 have ec:zaZ (zlS (zac (zaf 3) zar)) (zbl 0) zcd zdb [none,some 4] [some (.cel b),some (.int mt),some (.int mo),some (.int m),some (.tup (os.map zbu)),none,none]=pure (.lst ((za3 m os).map D.int)):=by
  refine zkk (x:=some (.tup (os.map zbu))) ?_ ⋯ rfl λt=> ?_
  ·ac_nf0
   exact zdy ⋯ ⋯
  ·have eo:zaZ (iSq (zaf 1)) (zbl 0) zbw zbv [none,some 0] [some (.int t),some (.tup (os.map zbu))]=pure (.lst ((os.filter (zh3 t)).map zbu)):=zoT rfl ⋯ rfl
   simp only [zcd]
   ac_nf0
   rw [eo]
   ac_nf0
   rw [zlN]
   ac_nf0
 simp only [za8]
 ac_nf0
 rw [ec]
 ac_nf0
 refine zbq q2 ⋯ ⋯ λa h3 a0 a1 x3=> ?_
 have en:=zmO (za3 m os)
 unfold tI at en
 ac_nf0
 rw [en]
 ac_nf0
 cases hf:(za3 m os).isEmpty with
 | true=>
  ac_nf0
  exact k m os h3 x3.1 s hf ⋯ m1
 | false=>
  ac_nf0
  refine zbq x3.1 (by decide) (by decide) λt h4 u0 u1 x4=> ?_
  have f1:=zaD (show (List.take a.toNat (os.map zbu)).length+1<=1000 by simp;omega)
  have f2:=zaD (show (List.take a.toNat (os.map zbu)).length+1+(List.drop a.toNat (os.map zbu)).length<=1000 by simp;omega)
  ac_nf0
  simp only [zfK _ a0,zdS _ a0,f1,f2]
  ac_nf0
  have hs:Stk m (os.take a.toNat++[(za3 m os,1+t)]++os.drop a.toNat):=by
   refine zkY m0 ⋯ (by simp;omega) λo hmem=> ?_
   have hm:o∈os\/o=(za3 m os,1+t):=by
    simp only [qaK,mem_singleton] at hmem
    rcases hmem with (w | w) | w
    ·exact .inl (List.mem_of_mem_take w)
    ·exact .inr w
    ·exact .inl (List.mem_of_mem_drop w)
   rcases hm with w | rfl
   ·exact ho o w
   ·refine ⟨(zb1 _).filter _,λx hx=> ?_,λz=> ?_,by show (0:Int)<1+t;omega⟩
    ·have:=zct x (mem_filter.mp hx).1
     omega
    ·have z:za3 m os=[]:=z
     rw [z] at hf
     cases hf
  have hk:=k _ _ h4 x4.1 hs (zmM s) (by simp;omega) m1
  simp only [za8,map_append,qaM,map_nil,List.map_take,List.map_drop,zbu,tI] at hk
  simpa using hk
theorem zcH {d:D} (k:kn d=true):F_5 [d]=pure (.bl (isI d)):=by
 rw [d_5]
 simp only [G_5,zcl,zm6,zoq,zaI,pure_bind,bind_assoc,zoj k,zqH k,zdj,zm7]
 cases d<;>simp [isI]
theorem zgv {m:Int} {x0:Option D}: ∀ {ds:List D} {l:Int} {x3:Option D},(∀ d∈ds,kn d=true)->
  (zci m l ds=true-> ∃ sd',zba (λx sd=>do let sd1<-zbl 3 x sd;za1 sd1) ds [x0,some (.int m),some (.int l),x3]=pure (.nx sd'))/\
  (zci m l ds=false->zba (λx sd=>do let sd1<-zbl 3 x sd;za1 sd1) ds [x0,some (.int m),some (.int l),x3]=pure (.rt (.bl false)))
 | [],l,x3,_=>⟨λ_=>⟨_,rfl⟩,λh=>by simp [zci] at h⟩
 | d::r,l,x3,hk=>by
  have kd:=hk d qau
  have step: ∀ {i:Int},d= .int i->(do let sd1<-zbl 3 d [x0,some (.int m),some (.int l),x3];za1 sd1)=if (decide (l<=i) && decide (i<m))=true then pure (.nx [x0,some (.int m),some (.int (i+1)),some (.int i)]) else pure (.rt (.bl false)):=by
   intro i e
   subst e
   simp only [za1,zcJ,List.set,pure_bind,bind_assoc,zaP,zhj,zn9,zhK,zir,zbs,zaK,zbb,za2,zaI,zhv,zcH (show kn (.int i)=true from rfl),zdj,isI,ze2,zmt,zsn,zcl,zf0,zeo]
   by_cases h1:l<=i
   ·by_cases h2:i<m
    ·have h1': ¬i<l:=by omega
     have h2': ¬m<=i:=by omega
     simp [h1,h2,h1',h2']
    ·have h1': ¬i<l:=by omega
     have h2':m<=i:=by omega
     simp [h1,h2,h1',h2']
   ·have h1':i<l:=by omega
    simp [h1,h1']
  by_cases hi:isI d=true
  ·obtain ⟨i,e⟩: ∃ i,d= .int i:=by cases d<;>simp [isI] at hi;exact ⟨_,rfl⟩
   have s1:=step e
   subst e
   have ih:=zgv (m:=m) (x0:=x0) (ds:=r) (l:=i+1) (x3:=some (.int i)) λy hy=>hk y (qan _ hy)
   rw [zcB,s1]
   by_cases c:(decide (l<=i) && decide (i<m))=true
   ·have er:zci m l (.int i::r)=zci m (i+1) r:=by rw [zci,c];simp
    rw [er]
    simp only [c,if_true,pure_bind]
    exact ih
   ·have er:zci m l (.int i::r)=false:=by rw [zci,Bool.eq_false_iff.mpr c];simp
    rw [er]
    simp only [Bool.eq_false_iff.mpr c,if_false,pure_bind,qax]
    simp
  ·have hi':isI d=false:=Bool.eq_false_iff.mpr hi
   have er:zci m l (d::r)=false:=by cases d<;>simp [isI] at hi'<;>rfl
   rw [er,zcB]
   refine ⟨λh=>(by cases h),λ_=> ?_⟩
   simp only [za1,zcJ,List.set,pure_bind,bind_assoc,zaP,zhj,zn9,zhK,zir,zbs,zaK,zbb,za2,zaI,zhv,zcH kd,zdj,hi',zcl,zf0,zeo]
   simp
theorem zkh {d:D} {m:Int} (k:kn d=true) (hk: ∀ ds,d= .tup ds-> ∀ x∈ds,kn x=true):F_6 [d,.int m]=pure (.bl (match d with | .tup ds=>zci m 0 ds | _=>false)):=by
 rw [d_6]
 simp only [G_6,zaP,zhj,zhK,zir,zoq,zaI,pure_bind,bind_assoc,zrA k,zdj]
 cases d with
 | tup ds=>
  simp only [isT,Bool.not_true,qax,if_false,zeo,pure_bind,ziA,zaP,zbZ,zf0,List.set,zgM,znB,zaI,zqG,bind_assoc]
  have:=zgv (m:=m) (x0:=some (.tup ds)) (ds:=ds) (l:=0) (x3:=none) (hk ds rfl)
  cases c:zci m 0 ds with
  | true=>
   obtain ⟨sd',e⟩:=this.1 c
   rw [e]
   simp
  | false=>
   rw [this.2 c]
   simp
 | _=>simp [isT]
theorem znk (s:Stk m os) {d:D} (g:gk d):F_7 [za8 m os,d]=pure (.bl (zrT os.length d)):=by
 rw [d_7]
 simp only [G_7,za8]
 ac_nf0
 rw [zkh g.1 λds e=>(g.2 ds e).2]
 ac_nf0
 cases d<;>rfl
theorem zoy (s:Stk m os) {d:D} (g:gk d) (hp:zrT os.length d=true):F_12 [za8 m os,d]=pure .non:=by
 rw [d_12]
 simp only [G_12]
 ac_nf0
 rw [znk s g,hp]
 ac_nf0
theorem zf8 (s:Stk m os) {ls:List Int} (hu:ls.Pairwise (· < ·)) (b: ∀ x∈ls,0<=x/\x<os.length):F_13 [za8 m os,tI ls]=pure (.lst ((zcY os ls).map zbu)):=by
 have hl:=zga (m:=os.length) ⋯ hu b
 have hls:ls.length<=12:=by have:=s.len;omega
 have hp:zrT os.length (tI ls)=true:=zcC.mpr ⟨hu,b⟩
 rw [d_13]
 simp only [G_13]
 ac_nf0
 have e:=zoy s (d:=tI ls) (zqo ⋯) hp
 unfold tI at e
 rw [e]
 ac_nf0
 rw [zlq (ds:=ls.map D.int) (k:=λd=>match d with | .int i=>zbu (os.getD i.toNat ([],0)) | d=>d) rfl (by rw [qaH];omega) ?_]
 ·ac_nf0
  unfold zcY
  rw [map_map,map_map]
  rfl
 ·intro x hx
  obtain ⟨i,hi,rfl⟩:=qaU.mp hx
  have eb:zas [none,some 0] [some (za8 m os),some (D.tup (ls.map D.int))]=[none,some (za8 m os)]:=rfl
  rw [eb]
  simp only [zbG,zc2,za8]
  ac_nf0
  rw [zfs (b i hi).1 (b i hi).2]
  ac_nf0
def Lt (os:List (List Int×Int)) (ls:List Int):Prop:=ls.Pairwise (· < ·)/\ ∀ x∈ls,0<=x/\x<os.length
theorem Lt.lot {ls:List Int} (h:Lt os ls):zrT os.length (tI ls)=true:=zcC.mpr h
theorem Lt.len {ls:List Int} (h:Lt os ls) (s:Stk m os):ls.length<=12:=by
 have:=zga (m:=os.length) ⋯ h.1 h.2
 have:=s.len
 omega
theorem zgn {s0:Option D} {d:D} {p:Nat->Bool}: ∀ (r j:Nat) (x3:Option D),(∀ t:Nat,t<j+r->dIn (.int (t:Int)) d=pure (.bl (p t)))->
  ∃ y3,zba (λx sd=>do let sd1<-zbl 3 x sd;zb6 sd1) (zc0 j r) [s0,some d,some (.int (bv p j)),x3]=pure (.nx [s0,some d,some (.int (bv p (j+r))),y3])
 | 0,j,x3,_=>⟨x3,rfl⟩
 | r+1,j,x3,hd=>by
  obtain ⟨y3,ih⟩:=zgn (s0:=s0) (d:=d) (p:=p) r (j+1) (some (.int j)) λt ht=>hd t ⋯
  refine ⟨y3,?_⟩
  have e1:((j+1:Nat):Int)=(j:Int)+1:=by omega
  have e2:j+1+r=j+(r+1):=by omega
  rw [e1,e2] at ih
  rw [zlQ,zcB, <-ih]
  generalize zba (λx sd=>do let sd1<-zbl 3 x sd;zb6 sd1) (zc0 ((j:Int)+1) r)=zaT
  simp only [zb6]
  ac_nf0
  rw [zqx (by decide) (by decide)]
  ac_nf0
  rw [hd j ⋯]
  ac_nf0
  have eb:bv p (j+1)=bv p j*2+(if p j=true then 1 else 0):=rfl
  rw [eb]
  cases p j
  ·ac_nf0
   simp
  ·ac_nf0
   simp
theorem zj7 {d:D} {p:Nat->Bool} (m0:0<=m) (m1:m<1000) (hd: ∀ t:Nat,t<m.toNat->dIn (.int (t:Int)) d=pure (.bl (p t))):F_21 [.int m,d]=pure (.int (bv p m.toNat)):=by
 obtain ⟨y3,el⟩:=zgn (s0:=some (.int m)) (d:=d) (p:=p) m.toNat 0 none λt ht=>hd t ⋯
 rw [zero_add] at el
 have e0:((bv p 0:Nat):Int)=0:=rfl
 rw [e0] at el
 rw [d_21]
 simp only [G_21]
 ac_nf0
 rw [zdy m0 m1]
 simp only [zcJ,pure_bind,Int.natCast_zero] at el
 ac_nf0
 rw [el]
 ac_nf0
theorem zmJ (m0:0<=m) (m1:m<1000):F_21 [.int m,.lst (zc0 0 m.toNat)]=pure (.int (bv (λ_=>true) m.toNat)):=by
 refine zj7 m0 m1 λt ht=> ?_
 rw [zfN,zks]
 congr 2
 rw [any_eq_true]
 exact ⟨(t:Int),qaU.mpr ⟨t,mem_range.mpr ht,rfl⟩,by simp⟩
theorem ziU (s:Stk m os) (n9:os.length<=9) {r:Nat} (hr:r<os.length) {x3 x4 x5:Option D}: ∃ y3 y4 y5,za7 [some (za8 m os),some (.lst ((kl os.length r).map (trD m os))),some (.int (((os.length - (r+1):Nat)):Int)),x3,x4,x5]=pure (.nx [some (za8 m os),some (.lst ((kl os.length (r+1)).map (trD m os))),some (.int (((os.length - (r+1):Nat)):Int)),y3,y4,y5]):=by
 have m0:=s.m0
 have m1:=s.m1
 have hk:=zg3 os.length r
 have hk9:2^r<=2^8:=Nat.pow_le_pow_right (by decide) ⋯
 have hj:os.length - (r+1)<os.length:=by omega
 generalize hje:os.length - (r+1)=j at hj
 have ea:=zfs (os:=os) (i:=(j:Int)) ⋯ ⋯
 rw [qaB] at ea
 have mo:os.getD j ([],0)∈os:=by simp [List.getD,hj]
 generalize ho:os.getD j ([],0)=o at ea mo
 have lo:=s.olen o mo
 have eb:=zj7 (m:=m) (d:= .tup (o.1.map D.int)) (p:=λt=>o.1.any (· == (t:Int))) ⋯ ⋯ λt _=>zh7 _ _
 have ec:zaZ (iSq (zaf 1)) (zbl 0) (λ_=>pure true) zbO [none,some 3,some 2,some 4] [some (za8 m os),some (.lst ((kl os.length r).map (trD m os))),some (.int (j:Int)),some (.tup [.tup (o.1.map D.int),.int o.2]),some (.int (bv (λt=>o.1.any (· == (t:Int))) m.toNat)),x5]=pure (.lst (((kl os.length r).map λls=>(j:Int)::ls).map (trD m os))):=by
  rw [show ((kl os.length r).map λls=>(j:Int)::ls).map (trD m os)=(kl os.length r).filterMap λls=>some (trD m os ((j:Int)::ls)) by simp]
  refine zbm (g':=trD m os) rfl ⋯ λls hls=> ?_
  obtain ⟨h1,h2⟩:=(ze1 os.length r ls ⋯).mp hls
  have ll:=zga (m:=os.length) ⋯ h1 λx hx=>by have:=h2 x hx;omega
  have f:=zaD (show 1+ls.length<=1000 by omega)
  have ebs:zas [none,some 3,some 2,some 4] [some (za8 m os),some (.lst ((kl os.length r).map (trD m os))),some (.int (j:Int)),some (.tup [.tup (o.1.map D.int),.int o.2]),some (.int (bv (λt=>o.1.any (· == (t:Int))) m.toNat)),x5]=[none,some (.tup [.tup (o.1.map D.int),.int o.2]),some (.int (j:Int)),some (.int (bv (λt=>o.1.any (· == (t:Int))) m.toNat))]:=rfl
  have e2: ∀ a b c:D,atI [a,b,c] 2=some c:=λa b c=>rfl
  have eo:dOr (.int (bv (λt=>o.1.any (· == (t:Int))) m.toNat)) (.int (bv (znr os ls) m.toNat))=pure (.int (bv (znr os ((j:Int)::ls)) m.toNat)):=by
   show (pure (D.int (Builtin.bitOr _ _)):M D)=_
   rw [zq8,zp4]
   congr 3
   refine zhH λi _=> ?_
   unfold znr
   rw [List.any_cons,qaB,ho]
  have ep:pr os ((j:Int)::ls)=o.2+pr os ls:=by
   unfold pr
   rw [qaM,List.sum_cons,qaB,ho]
  rw [ebs]
  simp only [zbG,zbO,trD]
  ac_nf0
  simp only [e2,f]
  ac_nf0
  rw [eo,ep]
  ac_nf0
  rfl
 refine ⟨some (.tup [.tup (o.1.map D.int),.int o.2]),some (.int (bv (λt=>o.1.any (· == (t:Int))) m.toNat)),some (.lst (((kl os.length r).map λls=>(j:Int)::ls).map (trD m os))),?_⟩
 have fk:(kl os.length (r+1)).length<=1000:=by
  rw [zg3]
  have:2^(r+1)<=2^9:=Nat.pow_le_pow_right (by decide) ⋯
  omega
 have ek:kl os.length (r+1)=(kl os.length r).take 1++(kl os.length r).map (λls=>(j:Int)::ls)++(kl os.length r).drop 1:=by
  rw [<- hje]
  rfl
 have f1:=zaD (show (((kl os.length r).map (trD m os)).take 1).length+((kl os.length r).map λls=>(j:Int)::ls).length<=1000 by simp only [length_take,qaH,hk];omega)
 have f2:=zaD (show (((kl os.length r).map (trD m os)).take 1++((kl os.length r).map λls=>(j:Int)::ls).map (trD m os)).length+(((kl os.length r).map (trD m os)).drop 1).length<=1000 by simp only [qav,length_take,length_drop,qaH,hk];omega)
 have es: ∀ (ds:List D) (lo hi:Option Int),dSl (.lst ds) lo hi=pure (.lst (zfZ ds lo hi)):=λ_ _ _=>rfl
 simp only [za7]
 ac_nf0
 rw [znH]
 ac_nf0
 rw [ea]
 ac_nf0
 rw [zsa]
 ac_nf0
 rw [eb]
 ac_nf0
 rw [ec]
 ac_nf0
 simp only [es,zfK _ (show (0:Int)<=1 by decide),zdS _ (show (0:Int)<=1 by decide)]
 ac_nf0
 rw [show (1:Int).toNat=1 from rfl]
 simp only [znj,qaH,qav] at f1 f2 ⊢
 rw [f1]
 ac_nf0
 rw [f2]
 ac_nf0
 rw [ek,map_append,map_append,List.map_take,List.map_drop]
theorem zfa (s:Stk m os) (n9:os.length<=9): ∀ (k r:Nat) (x2 x3 x4 x5:Option D),k+r=os.length->
  ∃ y2 y3 y4 y5,zba (λx sd=>do let sd1<-zbl 2 x sd;za7 sd1) (ziN ((k:Int) - 1) k) [some (za8 m os),some (.lst ((kl os.length r).map (trD m os))),x2,x3,x4,x5]=pure (.nx [some (za8 m os),some (.lst ((kl os.length os.length).map (trD m os))),y2,y3,y4,y5])
 | 0,r,x2,x3,x4,x5,h=>⟨x2,x3,x4,x5,by
   have:r=os.length:=by omega
   subst this
   rfl⟩
 | k+1,r,x2,x3,x4,x5,h=>by
  obtain ⟨z3,z4,z5,eb⟩:=ziU s n9 (r:=r) ⋯ (x3:=x3) (x4:=x4) (x5:=x5)
  obtain ⟨y2,y3,y4,y5,ih⟩:=zfa s n9 k (r+1) (some (.int (k:Int))) z3 z4 z5 ⋯
  refine ⟨y2,y3,y4,y5,?_⟩
  have e1:((k+1:Nat):Int) - 1=(k:Int):=by omega
  have e2:os.length - (r+1)=k:=by omega
  rw [e2] at eb
  rw [e1,zlF,zcB, <-ih]
  show (do let o<-za7 [some (za8 m os),some (.lst ((kl os.length r).map (trD m os))),some (.int (k:Int)),x3,x4,x5];_:M Out)=_
  rw [eb]
  rfl
theorem zlI (s:Stk m os) (n9:os.length<=9):F_20 [za8 m os]=pure (.lst ((kl os.length os.length).map (trD m os))):=by
 obtain ⟨y2,y3,y4,y5,el⟩:=zfa s n9 os.length 0 none none none none ⋯
 have e0:(kl os.length 0).map (trD m os)=[.tup [.int 0,.tup [],.int 0]]:=by
  show [trD m os []]=_
  unfold trD
  rw [zkO (p:=znr os []) (λ_=>rfl)]
  rfl
 rw [e0] at el
 have er:zms [.int ((os.length:Int) - 1),.int (-1),.int (-1)]=pure (ziN ((os.length:Int) - 1) os.length):=by
  show (if (-1000<=(os.length:Int) - 1/\(os.length:Int) - 1<1000/\(-1000:Int)<= -1/\(-1:Int)<1000)/\(-1:Int)= -1 then (pure (ziN ((os.length:Int) - 1) ((os.length:Int) - 1 - -1).toNat):M (List D)) else M.bad)=_
  rw [qa4 ⟨⟨⋯,⋯,⋯,⋯⟩,rfl⟩]
  congr 2
  omega
 have ei: ∀ (fs:FA) (sd:Sd),zoA fs sd=(do let ds<-fs sd;zms ds):=λ_ _=>rfl
 simp only [zcJ,pure_bind] at el
 rw [d_20]
 simp only [G_20]
 ac_nf0
 simp only [ei]
 ac_nf0
 rw [znH]
 ac_nf0
 rw [er]
 ac_nf0
 rw [el]
 ac_nf0
def zbU (m:Int) (os:List (List Int×Int)):List (Int×List Int):=((kl os.length os.length).filter (cvB m os)).map λls=>(pr os ls,ls)
def zog (m:Int) (os:List (List Int×Int)):Int×List Int:=(zbU m os).getD (zco (zbU m os)) (0,[])
theorem zb0 (s:Stk m os) (n9:os.length<=9):F_19 [za8 m os]=pure (.lst ((zbU m os).map pD)):=by
 have m0:=s.m0
 have m1:=s.m1
 have hk:=zg3 os.length os.length
 have hk9:2^os.length<=2^9:=Nat.pow_le_pow_right (by decide) n9
 have ec:zaZ (iSq (zaw (zal 1 F_20) (zac (zaf 0) zar))) (zbl 0) zbi zbj [none,some 1] [some (za8 m os),some (.int (bv (λ_=>true) m.toNat))]=pure (.lst ((zbU m os).map pD)):=by
  unfold zbU
  rw [map_map, <-zaW]
  refine zbm (g':=trD m os) ?_ ⋯ λls hls=> ?_
  ·ac_nf0
   rw [zlI s n9]
   ac_nf0
  ·have eb:zas [none,some 1] [some (za8 m os),some (.int (bv (λ_=>true) m.toNat))]=[none,some (.int (bv (λ_=>true) m.toNat))]:=rfl
   have e2: ∀ a b c:D,atI [a,b,c] 2=some c:=λa b c=>rfl
   rw [eb]
   simp only [zbG,zbi,zbj,trD]
   ac_nf0
   simp only [e2]
   ac_nf0
   rw [zs9,zmL]
   ac_nf0
   unfold cvB
   split<;>rfl
 have el:zfC (.int m)=pure (.lst (zc0 0 m.toNat)):=by
  show (if 0<=m/\m<1000 then _ else _)=_
  rw [qa4 ⟨⋯,⋯⟩]
 rw [d_19]
 simp only [G_19]
 ac_nf0
 rw [zsa]
 ac_nf0
 rw [el]
 ac_nf0
 rw [zmJ ⋯ ⋯]
 ac_nf0
 rw [ec]
 ac_nf0
theorem zfA (hf:(za3 m os).isEmpty=true) {t:Int} (t0:0<=t) (t1:t<m): ∃ o∈os,t∈o.1:=by
 rw [isEmpty_iff] at hf
 unfold za3 at hf
 rw [filter_eq_nil_iff] at hf
 have h1:=hf t (qaU.mpr ⟨t.toNat,mem_range.mpr ⋯,⋯⟩)
 rw [isEmpty_iff] at h1
 obtain ⟨o,ho⟩:=List.exists_mem_of_ne_nil _ h1
 obtain ⟨h2,h3⟩:=mem_filter.mp ho
 exact ⟨o,h2,by simpa [zh3] using h3⟩
theorem zol (h: ∀ t:Int,0<=t->t<m-> ∃ o∈os,t∈o.1):(za3 m os).isEmpty=true:=by
 rw [isEmpty_iff]
 unfold za3
 rw [filter_eq_nil_iff]
 intro t ht z
 obtain ⟨k,hk,rfl⟩:=qaU.mp ht
 have hk:=mem_range.mp hk
 obtain ⟨o,ho,hx⟩:=h k ⋯ ⋯
 rw [isEmpty_iff,filter_eq_nil_iff] at z
 exact z o ho (by simpa [zh3] using hx)
theorem zjE (s:Stk m os) (hf:(za3 m os).isEmpty=true):zbU m os≠[]:=λz=>by
 have h1:(List.range os.length).map (λ(k:Nat)=>(k:Int))∈(kl os.length os.length).filter (cvB m os):=by
  refine mem_filter.mpr ⟨(ze1 _ _ _ (qaV _)).mpr ⟨zb1 _,λy hy=>by have:=zct y hy;omega⟩,zfO.mpr λt t0 t1=> ?_⟩
  obtain ⟨o,ho,hx⟩:=zfA hf t0 t1
  obtain ⟨j,hj,rfl⟩:=getElem_of_mem ho
  refine ⟨(j:Int),qaU.mpr ⟨j,mem_range.mpr hj,rfl⟩,?_⟩
  rw [qaB]
  simpa [List.getD,hj] using hx
 have h2:(pr os ((List.range os.length).map λ(k:Nat)=>(k:Int)),(List.range os.length).map λ(k:Nat)=>(k:Int))∈zbU m os:=qaU.mpr ⟨_,h1,rfl⟩
 rw [z] at h2
 cases h2
theorem zhD (s:Stk m os) (hf:(za3 m os).isEmpty=true) (n9:os.length<=9):Ev (F_27 [za8 m os]) (tI (zog m os).2):=by
 refine .of_wp λh=> ?_
 rw [d_27]
 simp only [G_27]
 ac_nf0
 refine (zhy s hf).wp λh' g=> ?_
 have ep:dIx (pD (zog m os)) (.int 1)=pure (tI (zog m os).2):=rfl
 ac_nf0
 rw [zb0 s n9]
 ac_nf0
 rw [zgA (zjE s hf),show (zbU m os).getD (zco (zbU m os)) (0,[])=zog m os from rfl]
 ac_nf0
 rw [ep]
 ac_nf0
 exact ⟨g,trivial⟩
theorem zdR (s:Stk m os) {ls:List Int} (L:Lt os ls):F_9 [za8 m os,tI ls]=pure (.int (pr os ls)):=by
 have ll:=L.len s
 have e2:=zf8 s L.1 L.2
 have h3:(zcY os ls).length=ls.length:=by unfold zcY;simp
 have ec:zaZ (iSq (zaw (zal 2 F_13) (zac (zaf 0) (zac (zaf 1) zar)))) (zbl 0) (λ_=>pure true) zcx [none] [some (za8 m os),some (tI ls)]=pure (.lst (((zcY os ls).map (·.2)).map D.int)):=by
  rw [show ((zcY os ls).map (·.2)).map D.int=(zcY os ls).filterMap λo=>some (.int o.2) by simp]
  refine zbm (g':=zbu) ?_ ⋯ λo _=> ?_
  ·simp only [tI] at e2
   ac_nf0
   rw [e2]
   ac_nf0
  ·have eb:zas [none] [some (za8 m os),some (tI ls)]=[none]:=rfl
   rw [eb]
   simp only [zbG,zcx]
   ac_nf0
 rw [d_9]
 simp only [G_9,zcl,zbs,zaK,zbb]
 rw [ec]
 simp only [pure_bind]
 rw [zny]
 unfold pr zcY
 rw [map_map]
 rfl
theorem zo9 (s:Stk m os) {ls:List Int} (L:Lt os ls):(((zfY ((zcY os ls).flatMap (·.1))).length:Int)==m)=cvB m os ls:=by
 have m0:=s.m0
 rw [<- zk1 ⋯ (zev _) λx hx=>by
   obtain ⟨o,ho,hx⟩:=mem_flatMap.mp (zb5.mp hx)
   exact s.bd o (zer L.2 o ho) x hx]
 rw [Bool.eq_iff_iff,beq_iff_eq,zfO]
 constructor
 ·intro e t t0 t1
  have h1:t∈zfY ((zcY os ls).flatMap (·.1)):=by
   rw [e]
   exact qaU.mpr ⟨t.toNat,mem_range.mpr ⋯,⋯⟩
  obtain ⟨o,ho,hx⟩:=mem_flatMap.mp (zb5.mp h1)
  obtain ⟨i,hi,rfl⟩:=qaU.mp ho
  exact ⟨i,hi,hx⟩
 ·intro h
  refine zpl (zev _) (zb1 _) λk=> ?_
  rw [zb5]
  constructor
  ·intro hk
   obtain ⟨o,ho,hx⟩:=mem_flatMap.mp hk
   have:=s.bd o (zer L.2 o ho) k hx
   exact qaU.mpr ⟨k.toNat,mem_range.mpr ⋯,⋯⟩
  ·intro hk
   have:=zct k hk
   obtain ⟨i,hi,hx⟩:=h k this.1 ⋯
   exact mem_flatMap.mpr ⟨_,qaU.mpr ⟨i,hi,rfl⟩,hx⟩
theorem zix (s:Stk m os) {ls:List Int} (L:Lt os ls):Ev (F_17 [za8 m os,tI ls]) (.bl (cvB m os ls)):=by
 have e1:=znk s (d:=tI ls) (zqo (by have:=L.len s;omega))
 rw [L.lot] at e1
 have e2:=zf8 s L.1 L.2
 have ll:=L.len s
 have h3:(zcY os ls).length=ls.length:=by unfold zcY;simp
 refine .of_wp λh=> ?_
 rw [d_17]
 simp only [G_17]
 simp only [tI] at e1 e2
 ac_nf0
 rw [e1]
 ac_nf0
 rw [e2]
 ac_nf0
 refine (zm4 s (d:= .lst ((zcY os ls).map zbu)) (os':=zcY os ls) rfl ⋯ (zer L.2)).wp λh' g=> ?_
 rw [zo9 s L]
 ac_nf0
 exact ⟨trivial,g⟩
theorem zij (s:Stk m os) {ls:List Int} (L:Lt os ls) (hc:cvB m os ls=true):Ev (F_18 [za8 m os,tI ls]) .non:=by
 refine .of_wp λh=> ?_
 have ec:=zix s L
 rw [hc] at ec
 rw [d_18]
 simp only [G_18]
 simp only [tI] at ec ⊢
 ac_nf0
 refine ec.wp λh' g=> ?_
 ac_nf0
 first | exact ⟨g,trivial⟩ | exact ⟨trivial,g⟩ | exact ⟨rfl,g⟩ | exact ⟨g,rfl⟩
def zaG (m:Int) (os:List (List Int×Int)):List (Int×List Int):=TS.zcZ pLt (zbU m os)
theorem zcg:(zaG m os).Perm (zbU m os):=TS.zbX _ _
theorem zdW (n9:os.length<=9):(zbU m os).length<=512:=by
 unfold zbU
 rw [qaH]
 refine qaS (List.length_filter_le _ _) ?_
 rw [zg3]
 exact Nat.pow_le_pow_right (n:=2) (by decide) n9
theorem znW (n9:os.length<=9):(zaG m os).length<=512:=by
 rw [(zcg (m:=m) (os:=os)).length_eq]
 exact zdW n9
theorem zkW:(zbU m os).Nodup:=by
 unfold zbU
 have:=(zhF os.length os.length (qaV _)).filter (cvB m os)
 unfold List.Nodup at this ⊢
 rw [pairwise_map]
 exact this.imp λhne z=>hne (by injection z)
theorem zg0:(zaG m os).Pairwise λa b=>pLt a b=true:=by
 have h1:(zaG m os).Nodup:=(zcg (m:=m) (os:=os)).nodup_iff.mpr zkW
 have h2:(zaG m os).Pairwise λa b=>pLt b a=false:=TS.zde TS.znI _
 refine (h1.and h2).imp λ{a b} ⟨h1,h2⟩=> ?_
 cases h3:pLt a b with
 | true=>rfl
 | false=>exact absurd (zhZ h3 h2) h1
theorem zqN (s:Stk m os) {q:Int×List Int} (h:q∈zbU m os):Lt os q.2/\cvB m os q.2=true/\q.1=pr os q.2:=by
 unfold zbU at h
 obtain ⟨ls,hl,rfl⟩:=qaU.mp h
 obtain ⟨h1,h2⟩:=mem_filter.mp hl
 have h3:=(ze1 os.length os.length ls (qaV _)).mp h1
 exact ⟨⟨h3.1,λy hy=>by have:=h3.2 y hy;simpa using this⟩,h2,rfl⟩
theorem zmS (s:Stk m os) (n9:os.length<=9) {own:Int×List Int} {s1:Option D}:zaZ (iSq (zaw (zal 1 F_19) (zac (zaf 0) zar))) (zbl 0) zb9 zce [none,some 2] [some (za8 m os),s1,some (pD own)]=pure (.lst (((zbU m os).filter λq=>pLt q own).map pD)):=by
 rw [<- zaW]
 have hl:=zdW (m:=m) n9
 refine zbm (g':=pD) ?_ ⋯ λq _=> ?_
 ·ac_nf0
  rw [zb0 s n9]
  ac_nf0
 ·have eb:zas [none,some 2] [some (za8 m os),s1,some (pD own)]=[none,some (pD own)]:=rfl
  rw [eb]
  simp only [zbG,zb9,zce]
  ac_nf0
  rw [zpj]
  ac_nf0
  split<;>rfl
theorem zmf (s:Stk m os) (n9:os.length<=9) {own:Int×List Int} {s1 s3:Option D}:zaZ (iSq (zaw (zal 1 F_19) (zac (zaf 0) zar))) (zbl 0) zbS zbP [none,some 2] [some (za8 m os),s1,some (pD own),s3]=pure (.lst (((zbU m os).filter λq=>pLt own q).map pD)):=by
 rw [<- zaW]
 have hl:=zdW (m:=m) n9
 refine zbm (g':=pD) ?_ ⋯ λq _=> ?_
 ·ac_nf0
  rw [zb0 s n9]
  ac_nf0
 ·have eb:zas [none,some 2] [some (za8 m os),s1,some (pD own),s3]=[none,some (pD own)]:=rfl
  rw [eb]
  simp only [zbG,zbS,zbP]
  ac_nf0
  rw [zoa]
  ac_nf0
  split<;>rfl
theorem zlp (s:Stk m os) (n9:os.length<=9) {ls:List Int} (L:Lt os ls) (hc:cvB m os ls=true):Ev (F_25 [za8 m os,tI ls]) (.int (((zbU m os).filter λq=>pLt q (pr os ls,ls)).length)):=by
 have ec:=zmS s n9 (own:=(pr os ls,ls)) (s1:=some (tI ls))
 have en:=zij s L hc
 have ep:=zdR s L
 rw [d_25]
 simp only [G_25]
 simp only [tI,pD] at ec en ep ⊢
 ac_nf0
 refine Ev.bind en ?_
 ac_nf0
 rw [ep]
 ac_nf0
 rw [ec]
 ac_nf0
 exact .pure
def zrQ (m:Int) (os:List (List Int×Int)) (own:Int×List Int):D:=if ((zbU m os).filter λq=>pLt own q).isEmpty=true then .non else tI (((zbU m os).filter λq=>pLt own q).getD (zco ((zbU m os).filter λq=>pLt own q)) (0,[])).2
theorem zoL (s:Stk m os) (n9:os.length<=9) {ls:List Int} (L:Lt os ls) (hc:cvB m os ls=true):Ev (F_26 [za8 m os,tI ls]) (zrQ m os (pr os ls,ls)):=by
 have ec:=zmf s n9 (own:=(pr os ls,ls)) (s1:=some (tI ls)) (s3:=none)
 have en:=zij s L hc
 have ep:=zdR s L
 unfold zrQ
 rw [d_26]
 simp only [G_26]
 generalize hf:((zbU m os).filter λq=>pLt (pr os ls,ls) q)=later at ec
 simp only [tI,pD] at ec en ep ⊢
 ac_nf0
 refine Ev.bind en ?_
 ac_nf0
 rw [ep]
 ac_nf0
 rw [ec]
 ac_nf0
 cases later with
 | nil=>
  simp only [L3.zpr,zsL,zjl,map_nil]
  ac_nf0
  exact .pure
 | cons q r=>
  have em:=zgA (List.cons_ne_nil q r)
  have e1: ∀ p:Int×List Int,dIx (pD p) (.int 1)=pure (tI p.2):=λ_=>rfl
  simp only [pD,tI] at em e1
  simp only [L3.zpr,zsL,zjl,qaM] at em ⊢
  ac_nf0
  rw [em]
  ac_nf0
  exact .of rfl
theorem zo8 (s:Stk m os) (n9:os.length<=9) {k:Nat} (hk:k<(zaG m os).length):F_24 [za8 m os,.int (k:Int)]=pure (tI ((zaG m os)[k]).2):=by
 have ew:=zcH (d:= .int (k:Int)) rfl
 simp only [isI] at ew
 have a1: ¬(k:Int)<0:=by omega
 have a2: ¬((zaG m os).length:Int)<=(k:Int):=by omega
 have ea:atI ((zaG m os).map pD) (k:Int)=some (pD (zaG m os)[k]):=zeA (by simp [hk])
 have e1: ∀ p:Int×List Int,dIx (pD p) (.int 1)=pure (tI p.2):=λ_=>rfl
 rw [d_24]
 simp only [G_24]
 ac_nf0
 rw [zb0 s n9]
 ac_nf0
 rw [ze6,show TS.zcZ pLt (zbU m os)=zaG m os from rfl]
 ac_nf0
 rw [ew]
 ac_nf0
 simp only [zmt,a1,decide_false]
 ac_nf0
 simp only [zsn,a2,decide_false]
 ac_nf0
 rw [ea]
 ac_nf0
 rw [e1]
 ac_nf0
theorem zeU (s:Stk m os) {k:Nat} (hk:k<(zaG m os).length):Lt os ((zaG m os)[k]).2/\cvB m os ((zaG m os)[k]).2=true/\(pr os ((zaG m os)[k]).2,((zaG m os)[k]).2)=(zaG m os)[k]:=by
 obtain ⟨h1,h2,h3⟩:=zqN s ((zcg (m:=m) (os:=os)).mem_iff.mp (getElem_mem hk))
 exact ⟨h1,h2,by rw [<- h3]⟩
theorem zp6 (s:Stk m os) (n9:os.length<=9) {k:Nat} (hk:k<(zaG m os).length):Ev (F_25 [za8 m os,tI ((zaG m os)[k]).2]) (.int (k:Int)):=by
 obtain ⟨h1,h2,h3⟩:=zeU s hk
 have:=zlp s n9 h1 h2
 rw [h3, <-((zcg (m:=m) (os:=os)).filter _).length_eq,zj4 zg0 hk] at this
 exact this
def zc1 (m:Int) (os:List (List Int×Int)) (k:Nat):D:=if h:k<(zaG m os).length then tI ((zaG m os)[k]).2 else .non
theorem zrd (s:Stk m os) (n9:os.length<=9) {k:Nat} (hk:k<(zaG m os).length):Ev (F_26 [za8 m os,tI ((zaG m os)[k]).2]) (zc1 m os (k+1)):=by
 obtain ⟨h1,h2,h3⟩:=zeU s hk
 have:=zoL s n9 h1 h2
 rw [h3] at this
 have e:zrQ m os (zaG m os)[k]=zc1 m os (k+1):=by
  have hb:=zky (zg0 (m:=m) (os:=os)) hk
  have hp:((zaG m os).filter λq=>pLt (zaG m os)[k] q).Perm ((zbU m os).filter λq=>pLt (zaG m os)[k] q):=(zcg (m:=m) (os:=os)).filter _
  have hsort:TS.zcZ pLt ((zbU m os).filter λq=>pLt (zaG m os)[k] q)=(zaG m os).filter λq=>pLt (zaG m os)[k] q:=by
   rw [<- zgd]
   rfl
  unfold zrQ zc1
  by_cases hn:k+1<(zaG m os).length
  ·rw [dif_pos hn]
   have hne:((zbU m os).filter λq=>pLt (zaG m os)[k] q)≠[]:=λz=>by
    rw [z] at hp
    have:=hp.length_eq
    rw [hb,length_drop,qaJ] at this
    omega
   rw [qa5 (by simpa using hne)]
   obtain ⟨r,hr⟩:=zeV hne
   rw [hsort,hb,qae hn] at hr
   have:=(List.cons.inj hr).1
   rw [<- this]
  ·rw [dif_neg hn]
   have:((zbU m os).filter λq=>pLt (zaG m os)[k] q)=[]:=by
    have:=hp.length_eq
    rw [hb,length_drop] at this
    exact List.length_eq_zero_iff.mp ⋯
   rw [this]
   rfl
 rw [e] at this
 exact this
def zmu (m:Int) (os:List (List Int×Int)) (p:Int):Int:=((zbU m os).filter λq=>decide (q.1<=p)).length
theorem zjr (s:Stk m os) (hf:(za3 m os).isEmpty=true) (n9:os.length<=9):Ev (F_22 [za8 m os]) (.int (zbU m os).length):=by
 refine .of_wp λh=> ?_
 rw [d_22]
 simp only [G_22]
 ac_nf0
 refine (zhy s hf).wp λh' g=> ?_
 ac_nf0
 rw [zb0 s n9]
 ac_nf0
 first | exact ⟨g,trivial⟩ | exact ⟨trivial,g⟩ | exact ⟨rfl,g⟩ | exact ⟨g,rfl⟩
theorem zkU (s:Stk m os) (n9:os.length<=9) {p:Int}:zaZ (iSq (zaw (zal 1 F_19) (zac (zaf 0) zar))) (zbl 0) zcj zcf [none,some 1] [some (za8 m os),some (.int p)]=pure (.lst (((zbU m os).filter λq=>decide (q.1<=p)).map pD)):=by
 rw [<- zaW]
 have hl:=zdW (m:=m) n9
 refine zbm (g':=pD) ?_ ⋯ λq _=> ?_
 ·ac_nf0
  rw [zb0 s n9]
  ac_nf0
 ·have eb:zas [none,some 1] [some (za8 m os),some (.int p)]=[none,some (.int p)]:=rfl
  rw [eb]
  simp only [zbG,zcj,zcf,pD]
  ac_nf0
  simp only [zrU]
  ac_nf0
  split<;>rfl
theorem zjB (s:Stk m os) (hf:(za3 m os).isEmpty=true) (n9:os.length<=9) {p:Int} (p0:0<=p):Ev (F_23 [za8 m os,.int p]) (.int (zmu m os p)):=by
 refine .of_wp λh=> ?_
 have hc:=zkU s n9 (p:=p)
 rw [d_23]
 simp only [G_23]
 ac_nf0
 rw [zcH rfl]
 simp only [isI]
 ac_nf0
 simp only [zmt]
 ac_nf0
 rw [show decide (p<0)=false by simpa using p0]
 ac_nf0
 refine (zhy s hf).wp λh' g=> ?_
 ac_nf0
 rw [hc]
 ac_nf0
 first | exact ⟨g,trivial⟩ | exact ⟨trivial,g⟩ | exact ⟨rfl,g⟩ | exact ⟨g,rfl⟩
theorem zn7 (s:Stk m os) (hi:i<os.length):F_11 [za8 m os,.int (i:Int)]=pure .non:=by
 have ew:=zcH (d:= .int (i:Int)) rfl
 simp only [isI] at ew
 have a1: ¬(i:Int)<0:=by omega
 have a2: ¬(os.length:Int)<=(i:Int):=by omega
 rw [d_11]
 simp only [G_11]
 ac_nf0
 rw [ew]
 ac_nf0
 simp only [zmt,a1,decide_false]
 ac_nf0
 rw [znH]
 ac_nf0
 simp only [zsn,a2,decide_false]
 ac_nf0
theorem zoP (s:Stk m os) (hi:i<os.length) {ts:List D} (ht:ts.length<=100):F_16 [za8 m os,.int (i:Int),.tup ts]=pure (.tup [.int m,.tup ((os.take i).map zbu++ts++(os.drop (i+1)).map zbu)]):=by
 have ol:=s.len
 have c1:zfZ (os.map zbu) none (some (i:Int))=(os.take i).map zbu:=by rw [zfK _ ⋯,qaB,List.map_take]
 have c2:zfZ (os.map zbu) (some ((i:Int)+1)) none=(os.drop (i+1)).map zbu:=by
  rw [zdS _ ⋯,show ((i:Int)+1).toNat=i+1 by omega,List.map_drop]
 have f1:=zaD (show ((os.take i).map zbu).length+ts.length<=1000 by simp;omega)
 have f2:=zaD (show ((os.take i).map zbu++ts).length+((os.drop (i+1)).map zbu).length<=1000 by simp;omega)
 rw [d_16]
 simp only [G_16]
 ac_nf0
 rw [zsa]
 ac_nf0
 rw [znH]
 ac_nf0
 simp only [c1,c2]
 simp only [qaH,qav] at f1 f2
 ac_nf0
 rw [f1]
 ac_nf0
 rw [f2]
 ac_nf0
theorem zly (s:Stk m os) (hi:i<os.length) {p:Int} (hp:0<p):Stk m (zfn os i p):=by
 have mo:os.getD i ([],0)∈os:=by simp [List.getD,hi]
 have hm: ∀ o∈zfn os i p,o∈os\/o=((os.getD i ([],0)).1,p):=λo ho=>List.mem_or_eq_of_mem_set ho
 refine zkY s.m0 s.m1 (by rw [zdZ];exact s.len) λo ho=> ?_
 rcases hm o ho with w | rfl
 ·exact ⟨s.up o w,s.bd o w,s.ne o w,s.pos o w⟩
 ·exact ⟨s.up (os.getD i ([],0)) mo,s.bd (os.getD i ([],0)) mo,s.ne (os.getD i ([],0)) mo,hp⟩
theorem zkf (hi:i<os.length) {p:Int} (hf:(za3 m os).isEmpty=true):(za3 m (zfn os i p)).isEmpty=true:=by
 refine zol λt t0 t1=> ?_
 obtain ⟨o,ho,hx⟩:=zfA hf t0 t1
 obtain ⟨j,hj,rfl⟩:=getElem_of_mem ho
 have hj':j<(zfn os i p).length:=by rw [zdZ];exact hj
 refine ⟨(zfn os i p).getD j ([],0),by simp [List.getD,hj'],?_⟩
 rw [ziE hi]
 simpa [List.getD,hj] using hx
theorem zjc (s:Stk m os) (hi:i<os.length) {p:Int} (hp:0<p):F_28 [za8 m os,.int (i:Int),.int p]=pure (za8 m (zfn os i p)):=by
 have ea:=zfs (os:=os) (i:=(i:Int)) ⋯ ⋯
 rw [qaB] at ea
 have ew:=zcH (d:= .int p) rfl
 simp only [isI] at ew
 have a1: ¬p<1:=by omega
 have ex:=zoP s hi (ts:=[zbu ((os.getD i ([],0)).1,p)]) (by simp)
 have es:(os.take i).map zbu++[zbu ((os.getD i ([],0)).1,p)]++(os.drop (i+1)).map zbu=(zfn os i p).map zbu:=by
  unfold zfn
  rw [List.set_eq_take_append_cons_drop,qa4 hi]
  simp
 rw [es] at ex
 simp only [zbu,tI] at ex
 rw [d_28]
 simp only [G_28]
 ac_nf0
 rw [zn7 s hi]
 ac_nf0
 rw [ew]
 ac_nf0
 simp only [zmt,a1,decide_false]
 ac_nf0
 rw [znH]
 ac_nf0
 rw [ea]
 ac_nf0
 rw [ex]
 ac_nf0
 rfl
theorem zdv {k:Nat} (hk:k<(zaG m os).length):zc1 m os k=tI ((zaG m os)[k]).2:=by unfold zc1;rw [dif_pos hk]
theorem zpX {k:Nat} (hk: ¬k<(zaG m os).length):zc1 m os k= .non:=by unfold zc1;rw [dif_neg hk]
theorem zhB {k:Nat}:zl7 (zc1 m os k)=some (decide (¬ k<(zaG m os).length)):=by
 by_cases hk:k<(zaG m os).length
 ·rw [zdv hk,decide_eq_false (by simpa using hk)]
  rfl
 ·rw [zpX hk,decide_eq_true hk]
  rfl
def zg5 (m:Int) (os:List (List Int×Int)) (f j:Nat):List D:=zc1 m os 0::(List.range (j+1)).map λr=>zc1 m os (f+r)
theorem znA {f j:Nat}:zg5 m os f j++[zc1 m os (f+(j+1))]=zg5 m os f (j+1):=by
 unfold zg5
 rw [range_succ (n:=j+1),map_append]
 rfl
theorem zfG {f j:Nat}:atI (zg5 m os f j) (-1)=some (zc1 m os (f+j)):=by
 unfold zg5
 rw [range_succ,map_append, <-List.cons_append]
 exact zmP _ _
theorem zhr {f j:Nat}:(zg5 m os f j).length=j+2:=by unfold zg5;simp
theorem zmI {f j n:Nat} {h:Hh} {s0 s1 s2 s3 s4 s5 s7 s8 s9 s10:Option D} {P:Bool->Hh->Prop} (e:h[n]? = some (.lst (zg5 m os f j))) (q:P (decide (f+j<(zaG m os).length/\j<7)) h):
  wp (zed [s0,s1,s2,s3,s4,s5,some (.cel n),s7,s8,s9,s10]) h P:=by
 unfold zed
 ac_nf0
 refine zfd e zfG ?_
 have e1:zjF (zc1 m os (f+j)) .non=pure (.bl (decide (f+j<(zaG m os).length))):=by
  show (do let b<-ofO (zl7 (zc1 m os (f+j)));pure (.bl (!b)):M D)=_
  rw [zhB,zeM,pure_bind]
  congr 2
  by_cases hk:f+j<(zaG m os).length<;>simp [hk]
 rw [e1]
 ac_nf0
 by_cases hk:f+j<(zaG m os).length
 ·rw [decide_eq_true hk]
  ac_nf0
  refine zm3 e ?_
  rw [zhr,zmt]
  ac_nf0
  have:decide (((j+2:Nat):Int)<9)=decide (f+j<(zaG m os).length/\j<7):=by
   by_cases hj:j<7
   ·rw [decide_eq_true ⋯,decide_eq_true ⟨hk,hj⟩]
   ·rw [decide_eq_false ⋯,decide_eq_false (λz=>hj z.2)]
  rw [this]
  exact q
 ·rw [decide_eq_false hk]
  ac_nf0
  rw [decide_eq_false (λz=>hk z.1)] at q
  exact q
theorem zmN (s:Stk m os) (n9:os.length<=9) {f j n:Nat} {h:Hh} {s0 s1 s2 s4 s7 s8 s9 s10:Option D} {P:Out->Hh->Prop} (e:h[n]? = some (.lst (zg5 m os f j))) (hk:f+j<(zaG m os).length) (hj:j<7)
  (q: ∀ h',(∀ k c,k≠n->h[k]? = some c->h'[k]? = some c)->h'[n]? = some (.lst (zg5 m os f (j+1)))->P (.nx [s0,s1,s2,some (za8 m os),s4,some (.int (f:Int)),some (.cel n),s7,s8,s9,s10]) h'):
  wp (zec [s0,s1,s2,some (za8 m os),s4,some (.int (f:Int)),some (.cel n),s7,s8,s9,s10]) h P:=by
 obtain ⟨L,hc,he⟩:=zeU s hk
 have ec:=zix s L
 rw [hc] at ec
 have en:=zp6 s n9 hk
 have ex:=zrd s n9 hk
 have el:=zfG (m:=m) (os:=os) (f:=f) (j:=j)
 rw [zdv hk] at el
 generalize ht:tI ((zaG m os)[f+j]).2=t at ec en ex el
 unfold zec
 ac_nf0
 refine zfd e el ?_
 ac_nf0
 refine ec.wp λh1 g1=> ?_
 have e1:=g1.get e
 ac_nf0
 refine zfd e1 el ?_
 ac_nf0
 refine en.wp λh2 g2=> ?_
 have e2:=g2.get e1
 ac_nf0
 refine zm3 e2 ?_
 rw [zhr]
 ac_nf0
 rw [zrR,show ((f+j:Nat):Int)=(f:Int)+((j+2:Nat):Int) - 2 by omega,beq_self_eq_true]
 ac_nf0
 simp only [zdB,zdH]
 ac_nf0
 rw [zcq e2]
 ac_nf0
 refine zfd e2 el ?_
 ac_nf0
 refine ex.wp λh3 g3=> ?_
 have e3:=g3.get e2
 refine zpy e3 (by rw [zhr];omega) ?_
 ac_nf0
 have hlt:n<h3.length:=(qac.mp e3).1
 refine q _ (λk c kn ek=> ?_) (by rw [qai hlt];exact congrArg (λl=>some (C.lst l)) znA)
 rw [qao (λz=>kn z.symm)]
 exact g3.get (g2.get (g1.get ek))
theorem zh2 (s:Stk m os) (n9:os.length<=9) {f n:Nat} {s0 s1 s2 s4 s7 s8 s9 s10:Option D} {P:Out->Hh->Prop}: ∀ (k j:Nat) {h:Hh},j+k=7->f+j<=(zaG m os).length->h[n]? = some (.lst (zg5 m os f j))->
  (∀ J h',J<=7->f+J<=(zaG m os).length->(f+J=(zaG m os).length\/J=7)->(∀ k c,k≠n->h[k]? = some c->h'[k]? = some c)->h'[n]? = some (.lst (zg5 m os f J))->P (.nx [s0,s1,s2,some (za8 m os),s4,some (.int (f:Int)),some (.cel n),s7,s8,s9,s10]) h')->
  wp (zeG zed zec (k+3) [s0,s1,s2,some (za8 m os),s4,some (.int (f:Int)),some (.cel n),s7,s8,s9,s10]) h P
 | k,j,h,hj,hf,e,q=>by
  rw [zo5,zaq]
  refine zmI e ?_
  by_cases c:f+j<(zaG m os).length/\j<7
  ·rw [decide_eq_true c,qa4 rfl,zaq]
   refine zmN s n9 e c.1 c.2 λh' k' e'=> ?_
   cases k with
   | zero=>omega
   | succ k=>exact zh2 s n9 k (j+1) ⋯ ⋯ e' λJ h2 j1 j2 j3 k2 e2=>q J h2 j1 j2 j3 (λx cc xn ex=>k2 x cc xn (k' x cc xn ex)) e2
  ·rw [decide_eq_false c,qa5 (by simp),zap]
   exact q j h ⋯ hf ⋯ (λ_ _ _ z=>z) e
theorem zig {p:Int}:zmu m os p=(((zaG m os).filter λq=>decide (q.1<=p)).length:Nat):=by
 unfold zmu
 rw [((zcg (m:=m) (os:=os)).filter _).length_eq]
theorem zlL (s:Stk m os) (hf:(za3 m os).isEmpty=true):0<(zaG m os).length/\ ∀ h:0<(zaG m os).length,(zaG m os)[0]=zog m os:=by
 obtain ⟨r,hr⟩:=zeV (zjE s hf)
 have e:zaG m os=zog m os::r:=hr
 exact ⟨by rw [e];simp,λh=>by simp only [e];rfl⟩
def sm (m:Int) (os:List (List Int×Int)) (f J:Nat):List (Int×List Int):=((zaG m os).drop f).take (J+1)
theorem zpc (s:Stk m os) {f J n:Nat} (hJ:J<=7) {h:Hh} {s0 s1 s2 s4 s5 s7 s8 s9 s10:Option D} {P:D->Hh->Prop} (e:h[n]? = some (.lst (zg5 m os f J))) (q:P (.lst ((sm m os f J).map pD)) h):
  wp (zaZ (iSq (zrZ (zaf 6) (zeL (cK (.int 1))) zeO)) (zbl 0) zfL zfh [none,some 3] [s0,s1,s2,some (za8 m os),s4,s5,some (.cel n),s7,s8,s9,s10]) h P:=by
 have eb:zas [none,some 3] [s0,s1,s2,some (za8 m os),s4,s5,some (.cel n),s7,s8,s9,s10]=[none,some (za8 m os)]:=rfl
 have ed:(zg5 m os f J).drop 1=(List.range (J+1)).map λr=>zc1 m os (f+r):=rfl
 have ec:zca (zbG (zbl 0) zfL zfh [none,some (za8 m os)]) ((List.range (J+1)).map λr=>zc1 m os (f+r))=pure ((List.range (J+1)).filterMap λr=>((zaG m os)[f+r]?).map pD):=by
  refine zf7 λr _=> ?_
  have e1:zjF (zc1 m os (f+r)) .non=pure (.bl (decide (f+r<(zaG m os).length))):=by
   show (do let b<-ofO (zl7 (zc1 m os (f+r)));pure (.bl (!b)):M D)=_
   rw [zhB,zeM,pure_bind]
   congr 2
   by_cases hk:f+r<(zaG m os).length<;>simp [hk]
  simp only [zbG,zfL]
  ac_nf0
  rw [e1]
  by_cases hk:f+r<(zaG m os).length
  ·obtain ⟨L,hc,he⟩:=zeU s hk
   have ep:=zdR s L
   rw [decide_eq_true hk,zdv hk,qaf hk]
   simp only [zfh]
   ac_nf0
   simp only [tI] at ep
   rw [ep]
   ac_nf0
   show _=pure (some (pD (zaG m os)[f+r]))
   rw [<- he]
   rfl
  ·rw [decide_eq_false hk,List.getElem?_eq_none ⋯]
   ac_nf0
   rfl
 have em:((List.range (J+1)).filterMap λr=>((zaG m os)[f+r]?).map pD)=(sm m os f J).map pD:=by
  unfold sm
  rw [<- zgG,List.map_filterMap]
 rw [em] at ec
 unfold zaZ
 simp only [znB,zqz,zjo,zj5,zf0,za2,zaI,pure_bind,bind_assoc,zne,zaq]
 refine zrl e ?_
 rw [ed,zqJ,zap,zaD (by simp;omega),zap,eb,ec,zap,zap]
 exact q
theorem zoH (s:Stk m os) (hi:i<os.length) {p x:Int} (hp:(os.getD i ([],0)).2<=p):zmu m (zfn os i p) x<=zmu m os x/\(zbU m (zfn os i p)).length=(zbU m os).length:=by
 have ec: ∀ os:List (List Int×Int),zbU m os=(cvs m os).map λls=>(pr os ls,ls):=λ_=>rfl
 refine ⟨?_,by rw [ec,ec,qaH,qaH,zlm hi]⟩
 unfold zmu
 rw [ec,ec,zlm hi,List.filter_map,List.filter_map,qaH,qaH, <-List.countP_eq_length_filter, <-List.countP_eq_length_filter]
 refine Int.ofNat_le.mpr (List.countP_mono_left λls hl h=> ?_)
 have L:=(zof.mp hl).1
 have e:=zm1 (p:=p) hi (ls:=ls) (L.1.imp λz=>by omega) λy hy=>(L.2 y hy).1
 have h:pr (zfn os i p) ls<=x:=by simpa using h
 show decide (pr os ls<=x)=true
 rw [e] at h
 rw [qaD]
 split at h<;>omega
theorem zqu (s:Stk m os): ∀ {ls:List Int},(∀ x∈ls,0<=x/\x<os.length)->0<=pr os ls
 | [],_=>Int.le_refl _
 | x::r,h=>by
  have ih:=zqu s (ls:=r) λy hy=>h y (qan _ hy)
  have hx:=h x qau
  have hl:x.toNat<os.length:=by omega
  have mo:os.getD x.toNat ([],0)∈os:=by simp [List.getD,hl]
  have:=s.pos _ mo
  show 0<=(os.getD x.toNat ([],0)).2+pr os r
  omega
theorem zmk {ns:List Int} (hb: ∀ i∈ns,Builtin.Int.intBits i<=2^20) {j:Int} (i0:0<=j) (i1:j<6) {h:Hh} {x2 x3 x4 x5 x6 x7 x8 x9 x10:Option D} {P:Out->Hh->Prop}
  (k: ∀ y2 y3 y4 y5 y6 y7 y8 y9 y10 h',P (.nx [some (.scr (ns.map D.int)),some (.int j),y2,y3,y4,y5,y6,y7,y8,y9,y10]) h'):wp (zeq [some (.scr (ns.map D.int)),some (.int j),x2,x3,x4,x5,x6,x7,x8,x9,x10]) h P:=by
 unfold zeq
 refine zb8 (show wp (F_31 [.scr (ns.map D.int),.int j]) h _ from zpV hb i0 i1 λz=> ?_)
 have qb:Bx h.length (h++[.lst [.int z]]):=⟨z,by simp⟩
 generalize h.length=b at qb
 generalize h++[.lst [.int z]]=h1 at qb
 refine zb8 (show wp (F_34 [.cel b,.int 8,.int 9]) h1 _ from zoR qb (by decide) (by decide) (by decide) (by decide) λm os h2 q2 s hf ol ml=> ?_)
 have n9:os.length<=9:=by omega
 have hl:=znW (m:=m) n9
 obtain ⟨npos,nhd⟩:=zlL s hf
 have nhd:=nhd npos
 have cl:(zbU m os).length=(zaG m os).length:=(zcg (m:=m) (os:=os)).length_eq.symm
 refine zb8 (show wp (F_22 [za8 m os]) h2 _ from (zjr s hf n9).wp λh3 g3=> ?_)
 have q3:=(Gro.ext q2 g3).1
 refine zb8 (show wp (F_32 [.cel b,.int (zbU m os).length]) h3 _ from zbq q3 ⋯ ⋯ λf h4 f0 f1 x4=> ?_)
 obtain ⟨f,rfl⟩: ∃ k:Nat,f=(k:Int):=⟨f.toNat,⋯⟩
 have hf1:f<(zaG m os).length:=by omega
 have a0:F_24 [za8 m os,.int 0]=_:=zo8 s n9 npos
 have a1:=zo8 s n9 hf1
 rw [<- zdv npos] at a0
 rw [<- zdv hf1] at a1
 have er:zg5 m os f 0=[zc1 m os 0,zc1 m os f]:=rfl
 have q4:=x4.1
 simp only [List.set]
 ac_nf0
 rw [a0]
 ac_nf0
 rw [a1]
 ac_nf0
 have e5:(h4++[C.lst [zc1 m os 0,zc1 m os f]])[h4.length]? = some (.lst (zg5 m os f 0)):=by rw [er];simp
 have q5:Bx b (h4++[C.lst [zc1 m os 0,zc1 m os f]]):=(Gro.ext q4 ⟨_,rfl⟩).1
 have hnb:h4.length≠b:=by
  obtain ⟨z,hz⟩:=q4
  have:=(qac.mp hz).1
  omega
 generalize h4.length=n at e5 hnb
 generalize h4++[C.lst [zc1 m os 0,zc1 m os f]]=h5 at e5 q5
 refine zfd e5 (show atI (zg5 m os f 0) 0=some (zc1 m os 0) from rfl) ?_
 ac_nf0
 refine (zhD s hf n9).wp λh6 g6=> ?_
 have e6:=g6.get e5
 have q6:=(Gro.ext q5 g6).1
 have en:dNe (zc1 m os 0) (tI (zog m os).2)=pure (.bl false):=by
  rw [zdv npos,nhd,zpQ,beq_self_eq_true]
  rfl
 simp only [tI] at en
 ac_nf0
 rw [en]
 ac_nf0
 show wp (zeG zed zec (7+3) _) h6 _
 refine zh2 s n9 7 0 rfl ⋯ e6 λJ h7 j1 j2 j3 k7 e7=> ?_
 have q7:Bx b h7:=let ⟨z,hz⟩:=q6;⟨z,k7 b _ (λe=>hnb e.symm) hz⟩
 refine zb8 (zpc s j1 e7 ?_)
 have hS:sm m os f J=((zaG m os).drop f).take (J+1):=rfl
 have sl:(sm m os f J).length=min (J+1) ((zaG m os).length - f):=by rw [hS,length_take,length_drop]
 have su:(sm m os f J).Pairwise λa b=>pLt a b=true:=(zg0 (m:=m) (os:=os)).sublist ((List.take_sublist _ _).trans (drop_sublist _ _))
 have s0:atI ((sm m os f J).map pD) 0=some (pD (zaG m os)[f]):=by
  refine zeA (j:=0) ?_
  rw [List.getElem?_map,hS,List.getElem?_take,qa4 ⋯,List.getElem?_drop,add_zero,qaf hf1]
  rfl
 have es:=ze6 (sm m os f J)
 rw [ztg su] at es
 have ed:=zjp (sm m os f J)
 have el:=zhu (ps:=sm m os f J) ⋯ (zmF su)
 generalize sm m os f J=S at sl s0 es ed el ⊢
 simp only [List.set]
 ac_nf0
 rw [es]
 ac_nf0
 rw [ed]
 ac_nf0
 rw [el]
 ac_nf0
 rw [zrR,beq_self_eq_true]
 ac_nf0
 refine zfd e7 zfG ?_
 have e1:zsB (zc1 m os (f+J)) .non=pure (.bl (decide (¬ f+J<(zaG m os).length))):=by
  show (do let b<-ofO (zl7 (zc1 m os (f+J)));pure (.bl b):M D)=_
  rw [zhB,zeM,pure_bind]
 ac_nf0
 rw [e1]
 generalize hG:zan (zbH 8 _) _=G
 have fin:wp (G [some (.scr (ns.map D.int)),some (.int j),some (.cel b),some (za8 m os),some (.int ((zbU m os).length:Int)),some (.int (f:Int)),some (.cel n),some (.lst (S.map pD)),x8,x9,x10]) h7 P:=by
  subst hG
  obtain ⟨L,hc,he⟩:=zeU s hf1
  have p0:0<=(zaG m os)[f].1:=by rw [<- he];exact zqu s L.2
  have e0: ∀ p:Int×List Int,dIx (pD p) (.int 0)=pure (.int p.1):=λ_=>rfl
  have eu:=zjB s hf n9 p0
  rw [zig] at eu
  have u1:=zf4 (zg0 (m:=m) (os:=os)) hf1 (Int.le_refl _)
  have u2:=List.length_filter_le (λq:Int×List Int=>decide (q.1<=(zaG m os)[f].1)) (zaG m os)
  have u3: ∀ k (hk:k<(zaG m os).length),(zaG m os)[k].1<=(zaG m os)[f].1->k<((zaG m os).filter λq=>decide (q.1<=(zaG m os)[f].1)).length:=λk hk z=>zf4 (zg0 (m:=m) (os:=os)) hk z
  have u4: ∀ os',zmu m os' (zaG m os)[f].1<=zmu m os (zaG m os)[f].1->zmu m os' (zaG m os)[f].1<=((((zaG m os).filter λq=>decide (q.1<=(zaG m os)[f].1)).length:Nat):Int):=λos' z=>by rw [<- zig];exact z
  generalize ((zaG m os).filter λq=>decide (q.1<=(zaG m os)[f].1)).length=U at eu u1 u2 u3 u4
  refine zb8 ?_
  ac_nf0
  rw [s0]
  ac_nf0
  rw [e0]
  ac_nf0
  refine eu.wp λh8 g8=> ?_
  have q8:=(Gro.ext q7 g8).1
  try simp only [List.set]
  ac_nf0
  simp only [zf6]
  ac_nf0
  rw [zmt,decide_eq_true (show (f:Int)<(U:Int) by omega)]
  ac_nf0
  rw [zrU,decide_eq_true (show (U:Int)<=((zbU m os).length:Int) by omega)]
  ac_nf0
  generalize hG:zan (zbH 9 _) _=G
  have fin:wp (G [some (.scr (ns.map D.int)),some (.int j),some (.cel b),some (za8 m os),some (.int ((zbU m os).length:Int)),some (.int (f:Int)),some (.cel n),some (.lst (S.map pD)),some (.int (U:Int)),x9,x10]) h8 P:=by
   subst hG
   have op:0<os.length:=by
    obtain ⟨o,ho,_⟩:=zfA hf (t:=0) (by decide) (by have:=s.m0;omega)
    exact List.length_pos_of_mem ho
   refine zb8 ?_
   ac_nf0
   rw [znH]
   ac_nf0
   refine zbq q8 ⋯ ⋯ λw h9 w0 w1 x9=> ?_
   obtain ⟨w,rfl⟩: ∃ k:Nat,w=(k:Int):=⟨w.toNat,⋯⟩
   have hw:w<os.length:=by omega
   have ea:=zfs (os:=os) (i:=(w:Int)) ⋯ ⋯
   rw [qaB] at ea
   have mo:os.getD w ([],0)∈os:=by simp [List.getD,hw]
   have po:=s.pos _ mo
   try simp only [List.set]
   ac_nf0
   rw [ea]
   ac_nf0
   refine zbq x9.1 (by decide) (by decide) λv h10 v0 v1 x10=> ?_
   ac_nf0
   have pp:0<(os.getD w ([],0)).2+1+v:=by omega
   rw [zjc s hw pp]
   have s':=zly s hw pp
   have hf':=zkf (i:=w) hw (p:=(os.getD w ([],0)).2+1+v) hf
   have n9':(zfn os w ((os.getD w ([],0)).2+1+v)).length<=9:=by rw [zdZ];exact n9
   obtain ⟨d1,d2⟩:=zoH (m:=m) (x:=(zaG m os)[f].1) s hw (p:=(os.getD w ([],0)).2+1+v) ⋯
   ac_nf0
   rw [s0]
   ac_nf0
   rw [e0]
   ac_nf0
   refine (zjB s' hf' n9' p0).wp λh11 g11=> ?_
   ac_nf0
   rw [decide_eq_false (show ¬(U:Int)<_ by have:=u4 _ d1;omega)]
   ac_nf0
   refine (zjr s' hf' n9').wp λh12 g12=> ?_
   rw [d2,zrR,beq_self_eq_true]
   ac_nf0
   exact k _ _ _ _ _ _ _ _ _ _
  rw [zmt]
  by_cases cU:U<(zaG m os).length
  ·rw [decide_eq_true (show (U:Int)<((zbU m os).length:Int) by omega)]
   obtain ⟨LU,cU',eU⟩:=zeU s cU
   have aU:=zo8 s n9 cU
   have pU:=zdR s LU
   have eU1:pr os (zaG m os)[U].2=(zaG m os)[U].1:=congrArg Prod.fst eU
   rw [eU1] at pU
   have nU: ¬(zaG m os)[U].1<=(zaG m os)[f].1:=λz=>qaN _ (u3 U cU z)
   simp only [tI] at aU pU
   ac_nf0
   rw [aU]
   ac_nf0
   rw [pU]
   ac_nf0
   rw [zrU,decide_eq_false nU]
   ac_nf0
   exact fin
  ·rw [decide_eq_false (show ¬(U:Int)<((zbU m os).length:Int) by omega)]
   ac_nf0
   exact fin
 by_cases c:f+J<(zaG m os).length
 ·rw [decide_eq_false (by simpa using c)]
  ac_nf0
  exact fin
 ·rw [decide_eq_true c]
  ac_nf0
  rw [zrR,show ((f:Int)+(S.length:Int))=((zbU m os).length:Int) by omega,beq_self_eq_true]
  ac_nf0
  exact fin
theorem ziv {ns:List Int} (hb: ∀ i∈ns,Builtin.Int.intBits i<=2^20): ∀ (ds:List D) {h:Hh} {x1 x2 x3 x4 x5 x6 x7 x8 x9 x10:Option D} {P:Out->Hh->Prop},(∀ d∈ds, ∃ i:Int,d= .int i/\0<=i/\i<6)->(∀ y1 y2 y3 y4 y5 y6 y7 y8 y9 y10 h',P (.nx [some (.scr (ns.map D.int)),y1,y2,y3,y4,y5,y6,y7,y8,y9,y10]) h')->
  wp (zba (λx sd=>do let sd1<-zbl 1 x sd;zeq sd1) ds [some (.scr (ns.map D.int)),x1,x2,x3,x4,x5,x6,x7,x8,x9,x10]) h P
 | [],h,x1,x2,x3,x4,x5,x6,x7,x8,x9,x10,P,_,k=>by
  rw [zfo,zap]
  exact k _ _ _ _ _ _ _ _ _ _ _
 | d::r,h,x1,x2,x3,x4,x5,x6,x7,x8,x9,x10,P,hd,k=>by
  obtain ⟨i,rfl,i0,i1⟩:=hd _ qau
  have ih:=λ(h:Hh) (x1 x2 x3 x4 x5 x6 x7 x8 x9 x10:Option D)=>ziv hb r (h:=h) (x1:=x1) (x2:=x2) (x3:=x3) (x4:=x4) (x5:=x5) (x6:=x6) (x7:=x7) (x8:=x8) (x9:=x9) (x10:=x10) (P:=P) (λy hy=>hd y (qan _ hy)) k
  rw [zcB]
  generalize zba (λx sd=>do let sd1<-zbl 1 x sd;zeq sd1) r=zaT at ih ⊢
  rw [zaq,zcJ,pure_bind]
  exact zmk hb i0 i1 λy2 y3 y4 y5 y6 y7 y8 y9 y10 h'=>ih _ _ _ _ _ _ _ _ _ _ _
theorem zmn: ∀ ns:List Int,ns.length<=63->(∀ i∈ns,Builtin.Int.intBits i<=2^20)-> ∃ h',F_35 [.scr (ns.map D.int)] []= .ok (.bl true) h':=by
 intro ns _ hb
 have key:wp (F_35 [.scr (ns.map D.int)]) [] λd _=>d= .bl true:=by
  rw [d_35,zaq]
  unfold G_35
  generalize hn:(if (if (3:Int)<(ns.length:Int) then (3:Int) else (ns.length:Int))>1 then (if (3:Int)<(ns.length:Int) then (3:Int) else (ns.length:Int)) else (1:Int))=n
  have n0:0<=n/\n<=6:=by
   rw [<- hn]
   split<;>split<;>omega
  refine znM (ds:=zc0 0 n.toNat) ?_ ?_
  ·ac_nf0
   simp only [znt,qaH]
   ac_nf0
   simp only [ztw]
   ac_nf0
   rw [hn]
   exact zdy n0.1 ⋯
  refine ziv hb _ (λd hd=> ?_) λy1 y2 y3 y4 y5 y6 y7 y8 y9 y10 h'=> ?_
  ·obtain ⟨i,e,i0,i1⟩:=zjT hd
   exact ⟨i,e,i0,⋯⟩
  ac_nf0
 obtain ⟨d,h',e,rfl⟩:=key
 exact ⟨h',e⟩
end K16
namespace K16
open L2 L3
theorem zpx {l:W.OpenLaw} {w:World} {K:W.Frag} {h:Heap} {mg:Str->Option Value} {fa a_29 a_30 a_31 a_32 a_33 a_34 a_14 a_15 a_8 a_10 a_21 a_20 a_19 a_22 a_5 a_24 a_27 a_6 a_7 a_12 a_13 a_17 a_18 a_9 a_25 a_26 a_23 a_11 a_16 a_28 a_35:Addr} (X:K.In h) (G:h.Ns mainGlobals mg) (hfa:mg "law"=some (.ref fa))
  {od_35 an_35:Option Addr} {sl_35:Array (Option Value)} {oc_35 kV_35 dc_35 pm_35 cd_35 ct_35:Value}
  {d_29 d_30 d_31 d_32 d_33 d_34 d_14 d_15 d_8 d_10 d_21 d_20 d_19 d_22 d_5 d_24 d_27 d_6 d_7 d_12 d_13 d_17 d_18 d_9 d_25 d_26 d_23 d_11 d_16 d_28:FuncData}
  (f_29:Fd K "_law_cell" s_29 a_29 d_29)
  (f_30:Fd K "_law_mix" s_30 a_30 d_30)
  (f_31:Fd K "_law_box" s_31 a_31 d_31)
  (f_32:Fd K "_law_take" s_32 a_32 d_32)
  (f_33:Fd K "_law_stock" s_33 a_33 d_33)
  (f_34:Fd K "_law_full" s_34 a_34 d_34)
  (f_14:Fd K "things_together" s_14 a_14 d_14)
  (f_15:Fd K "have_all" s_15 a_15 d_15)
  (f_8:Fd K "is_full" s_8 a_8 d_8)
  (f_10:Fd K "need_full" s_10 a_10 d_10)
  (f_21:Fd K "bits_of" s_21 a_21 d_21)
  (f_20:Fd K "known_lots" s_20 a_20 d_20)
  (f_19:Fd K "priced_covers" s_19 a_19 d_19)
  (f_22:Fd K "many_covers" s_22 a_22 d_22)
  (f_5:Fd K "is_whole" s_5 a_5 d_5)
  (f_24:Fd K "cover_at" s_24 a_24 d_24)
  (f_27:Fd K "cheapest_cover" s_27 a_27 d_27)
  (f_6:Fd K "is_rising" s_6 a_6 d_6)
  (f_7:Fd K "is_lot" s_7 a_7 d_7)
  (f_12:Fd K "need_lot" s_12 a_12 d_12)
  (f_13:Fd K "offers_of" s_13 a_13 d_13)
  (f_17:Fd K "is_cover" s_17 a_17 d_17)
  (f_18:Fd K "need_cover" s_18 a_18 d_18)
  (f_9:Fd K "price_of" s_9 a_9 d_9)
  (f_25:Fd K "number_of" s_25 a_25 d_25)
  (f_26:Fd K "next_cover" s_26 a_26 d_26)
  (f_23:Fd K "many_upto" s_23 a_23 d_23)
  (f_11:Fd K "need_offer" s_11 a_11 d_11)
  (f_16:Fd K "exchanged" s_16 a_16 d_16)
  (f_28:Fd K "priced" s_28 a_28 d_28)
  (e_35:W.nsIn K mainGlobals "law"=some (some (.ref a_35))) (l_35:K.lookup a_35=some ⟨oc_35,od_35,.func (W.fnOf "law" "law" (zdD s_35) (zcz s_35) (zae s_35) .none kV_35 dc_35 pm_35 an_35 cd_35 ct_35),sl_35⟩) (c_35:W.codeIn K cd_35 "law"=true) (k_35:W.keepIn K (.ref a_35)=true)
  (z_bool:W.nsIn K mainGlobals "bool"=some none)
  (z_divmod:W.nsIn K mainGlobals "divmod"=some none)
  (z_int:W.nsIn K mainGlobals "int"=some none)
  (z_isinstance:W.nsIn K mainGlobals "isinstance"=some none)
  (z_len:W.nsIn K mainGlobals "len"=some none)
  (z_list:W.nsIn K mainGlobals "list"=some none)
  (z_max:W.nsIn K mainGlobals "max"=some none)
  (z_min:W.nsIn K mainGlobals "min"=some none)
  (z_range:W.nsIn K mainGlobals "range"=some none)
  (z_set:W.nsIn K mainGlobals "set"=some none)
  (z_sorted:W.nsIn K mainGlobals "sorted"=some none)
  (z_sum:W.nsIn K mainGlobals "sum"=some none)
  (z_tuple:W.nsIn K mainGlobals "tuple"=some none)
  : ∃ fd:FuncData,(∀ (s:Shared) (v:Value),BindsTo s fd ⟨[v],[]⟩ [("script",v)])/\ ∀ base:Heap,K.In base->base.Ns mainGlobals mg->zbN l.prog w K mg base CX0 9 fa fd yaf (zcc K 1 F_35):=by
 have e:=hfa.symm.trans (W.mg_of X G e_35)
 cases e
 have F_35:=zaC (st:=s_35) l_35 c_35 k_35
 have b_35:=F_35.binds (ps:=yaf) λ_ _ _ _ _ _ us hl=>match us,hl with | [_],_=>rfl
 have T:Tx K mg ⟨a_29,_,a_30,_,a_31,_,a_32,_,a_33,_,a_34,_,a_14,_,a_15,_,a_8,_,a_10,_,a_21,_,a_20,_,a_19,_,a_22,_,a_5,_,a_24,_,a_27,_,a_6,_,a_7,_,a_12,_,a_13,_,a_17,_,a_18,_,a_9,_,a_25,_,a_26,_,a_23,_,a_11,_,a_16,_,a_28,_,fa,_⟩:=
  {n_bool:=W.mg_none_of X G z_bool,
    n_divmod:=W.mg_none_of X G z_divmod,
    n_int:=W.mg_none_of X G z_int,
    n_isinstance:=W.mg_none_of X G z_isinstance,
    n_len:=W.mg_none_of X G z_len,
    n_list:=W.mg_none_of X G z_list,
    n_max:=W.mg_none_of X G z_max,
    n_min:=W.mg_none_of X G z_min,
    n_range:=W.mg_none_of X G z_range,
    n_set:=W.mg_none_of X G z_set,
    n_sorted:=W.mg_none_of X G z_sorted,
    n_sum:=W.mg_none_of X G z_sum,
    n_tuple:=W.mg_none_of X G z_tuple,
    m_29:=W.mg_of X G f_29.e,
    F_29:=f_29.F,
    b_29:=f_29.F.binds (ps:=yl) λ_ _ _ _ _ _ us hl=>match us,hl with | [_,_],_=>rfl,
    m_30:=W.mg_of X G f_30.e,
    F_30:=f_30.F,
    b_30:=f_30.F.binds (ps:=yad) λ_ _ _ _ _ _ us hl=>match us,hl with | [_,_],_=>rfl,
    m_31:=W.mg_of X G f_31.e,
    F_31:=f_31.F,
    b_31:=f_31.F.binds (ps:=yl) λ_ _ _ _ _ _ us hl=>match us,hl with | [_,_],_=>rfl,
    m_32:=W.mg_of X G f_32.e,
    F_32:=f_32.F,
    b_32:=f_32.F.binds (ps:=yae) λ_ _ _ _ _ _ us hl=>match us,hl with | [_,_],_=>rfl,
    m_33:=W.mg_of X G f_33.e,
    F_33:=f_33.F,
    b_33:=f_33.F.binds (ps:=ya) λ_ _ _ _ _ _ us hl=>match us,hl with | [_,_,_],_=>rfl,
    m_34:=W.mg_of X G f_34.e,
    F_34:=f_34.F,
    b_34:=f_34.F.binds (ps:=ya) λ_ _ _ _ _ _ us hl=>match us,hl with | [_,_,_],_=>rfl,
    m_14:=W.mg_of X G f_14.e,
    F_14:=f_14.F,
    b_14:=f_14.F.binds (ps:=yaj) λ_ _ _ _ _ _ us hl=>match us,hl with | [_],_=>rfl,
    m_15:=W.mg_of X G f_15.e,
    F_15:=f_15.F,
    b_15:=f_15.F.binds (ps:=yp) λ_ _ _ _ _ _ us hl=>match us,hl with | [_,_],_=>rfl,
    m_8:=W.mg_of X G f_8.e,
    F_8:=f_8.F,
    b_8:=f_8.F.binds (ps:=yb) λ_ _ _ _ _ _ us hl=>match us,hl with | [_],_=>rfl,
    m_10:=W.mg_of X G f_10.e,
    F_10:=f_10.F,
    b_10:=f_10.F.binds (ps:=yb) λ_ _ _ _ _ _ us hl=>match us,hl with | [_],_=>rfl,
    m_21:=W.mg_of X G f_21.e,
    F_21:=f_21.F,
    b_21:=f_21.F.binds (ps:=yaa) λ_ _ _ _ _ _ us hl=>match us,hl with | [_,_],_=>rfl,
    m_20:=W.mg_of X G f_20.e,
    F_20:=f_20.F,
    b_20:=f_20.F.binds (ps:=yb) λ_ _ _ _ _ _ us hl=>match us,hl with | [_],_=>rfl,
    m_19:=W.mg_of X G f_19.e,
    F_19:=f_19.F,
    b_19:=f_19.F.binds (ps:=yb) λ_ _ _ _ _ _ us hl=>match us,hl with | [_],_=>rfl,
    m_22:=W.mg_of X G f_22.e,
    F_22:=f_22.F,
    b_22:=f_22.F.binds (ps:=yb) λ_ _ _ _ _ _ us hl=>match us,hl with | [_],_=>rfl,
    m_5:=W.mg_of X G f_5.e,
    F_5:=f_5.F,
    b_5:=f_5.F.binds (ps:=yah) λ_ _ _ _ _ _ us hl=>match us,hl with | [_],_=>rfl,
    m_24:=W.mg_of X G f_24.e,
    F_24:=f_24.F,
    b_24:=f_24.F.binds (ps:=yy) λ_ _ _ _ _ _ us hl=>match us,hl with | [_,_],_=>rfl,
    m_27:=W.mg_of X G f_27.e,
    F_27:=f_27.F,
    b_27:=f_27.F.binds (ps:=yb) λ_ _ _ _ _ _ us hl=>match us,hl with | [_],_=>rfl,
    m_6:=W.mg_of X G f_6.e,
    F_6:=f_6.F,
    b_6:=f_6.F.binds (ps:=yr) λ_ _ _ _ _ _ us hl=>match us,hl with | [_,_],_=>rfl,
    m_7:=W.mg_of X G f_7.e,
    F_7:=f_7.F,
    b_7:=f_7.F.binds (ps:=yi) λ_ _ _ _ _ _ us hl=>match us,hl with | [_,_],_=>rfl,
    m_12:=W.mg_of X G f_12.e,
    F_12:=f_12.F,
    b_12:=f_12.F.binds (ps:=yc) λ_ _ _ _ _ _ us hl=>match us,hl with | [_,_],_=>rfl,
    m_13:=W.mg_of X G f_13.e,
    F_13:=f_13.F,
    b_13:=f_13.F.binds (ps:=yc) λ_ _ _ _ _ _ us hl=>match us,hl with | [_,_],_=>rfl,
    m_17:=W.mg_of X G f_17.e,
    F_17:=f_17.F,
    b_17:=f_17.F.binds (ps:=yi) λ_ _ _ _ _ _ us hl=>match us,hl with | [_,_],_=>rfl,
    m_18:=W.mg_of X G f_18.e,
    F_18:=f_18.F,
    b_18:=f_18.F.binds (ps:=yf) λ_ _ _ _ _ _ us hl=>match us,hl with | [_,_],_=>rfl,
    m_9:=W.mg_of X G f_9.e,
    F_9:=f_9.F,
    b_9:=f_9.F.binds (ps:=yc) λ_ _ _ _ _ _ us hl=>match us,hl with | [_,_],_=>rfl,
    m_25:=W.mg_of X G f_25.e,
    F_25:=f_25.F,
    b_25:=f_25.F.binds (ps:=yf) λ_ _ _ _ _ _ us hl=>match us,hl with | [_,_],_=>rfl,
    m_26:=W.mg_of X G f_26.e,
    F_26:=f_26.F,
    b_26:=f_26.F.binds (ps:=yf) λ_ _ _ _ _ _ us hl=>match us,hl with | [_,_],_=>rfl,
    m_23:=W.mg_of X G f_23.e,
    F_23:=f_23.F,
    b_23:=f_23.F.binds (ps:=yn) λ_ _ _ _ _ _ us hl=>match us,hl with | [_,_],_=>rfl,
    m_11:=W.mg_of X G f_11.e,
    F_11:=f_11.F,
    b_11:=f_11.F.binds (ps:=yo) λ_ _ _ _ _ _ us hl=>match us,hl with | [_,_],_=>rfl,
    m_16:=W.mg_of X G f_16.e,
    F_16:=f_16.F,
    b_16:=f_16.F.binds (ps:=yj) λ_ _ _ _ _ _ us hl=>match us,hl with | [_,_,_],_=>rfl,
    m_28:=W.mg_of X G f_28.e,
    F_28:=f_28.F,
    b_28:=f_28.F.binds (ps:=yk) λ_ _ _ _ _ _ us hl=>match us,hl with | [_,_,_],_=>rfl,
    m_35:=W.mg_of X G e_35,
    F_35:=F_35,
    b_35:=b_35}
 exact ⟨W.fnOf "law" "law" (zdD s_35) (zcz s_35) (zae s_35) .none kV_35 dc_35 pm_35 an_35 cd_35 ct_35,λs v=> .of_eq rfl,λbase _ _=>ok_35 T⟩
theorem zuq {l:W.OpenLaw} {q:Program} {loose:List Str} {XP:(Str->Option Value)->Heap->Prop} {YP:World->Heap->Prop} {d:DefRec} {K:Params->W.Frag} (hn:l.most=some 63) (hdf:d.params.defaults=[])
  (hY: ∀ (w:World) (h:Heap),YP w h->(K w.params).In h)
  (F: ∀ (w:World) (mg:Str->Option Value) (fa:Addr) (h:Heap),(K w.params).In h->h.Ns mainGlobals mg->mg d.name=some (.ref fa)->
    ∃ fd:FuncData,(∀ (s:Shared) (u:Value),BindsTo s fd ⟨[u],[]⟩ [("script",u)])/\ ∀ base:Heap,(K w.params).In base->base.Ns mainGlobals mg->zbN l.prog w (K w.params) mg base CX0 9 fa fd yaf (zcc (K w.params) 1 F_35))
  (hm: ∀ ns:List Int,ns.length<=63->(∀ i∈ns,Builtin.Int.intBits i<=2^20)-> ∃ h',F_35 [.scr (ns.map D.int)] []= .ok (.bl true) h'):
  W.WalkO q loose XP YP l.row.toRowW d [] (λf vs=>PySem.call f vs):=
 L2.zmK (n:=63) (k:=9) (x:="script") (CX:=λ_=>CX0) (sp:=λw=>zcc (K w.params) 1 F_35) hn (by decide) hdf ⟨rfl,by decide,by decide⟩ hY F (λw H a ns hl hw hS=>zsW hS (hm ns hl hw)) λ_ _ _ _ _ z=>z
end K16
open PySem.W
set_option maxRecDepth 100000 in
set_option maxHeartbeats 0 in
theorem PySem.Challenge.cw_cheapcovers_k16_whole_covers_in_order_holds : PySem.Challenge.rw_cheapcovers_k16_whole_covers_in_order.Holds := by
 w_on; o_law; k_head; (case hw => w_witness2)
 k_fill
 refine K16.zuq (l := PySem.Challenge.rw_cheapcovers_k16_whole_covers_in_order) rfl rfl (fun w h Y => W.kIn_of Y) ?F K16.zmn
 case F =>
  intro w mg fa h KX G hmg
  refine' K16.zpx KX G hmg (L3.Fd.mk ?_ (L2.zaC ?_ ?_ ?_)) (L3.Fd.mk ?_ (L2.zaC ?_ ?_ ?_)) (L3.Fd.mk ?_ (L2.zaC ?_ ?_ ?_)) (L3.Fd.mk ?_ (L2.zaC ?_ ?_ ?_)) (L3.Fd.mk ?_ (L2.zaC ?_ ?_ ?_)) (L3.Fd.mk ?_ (L2.zaC ?_ ?_ ?_)) (L3.Fd.mk ?_ (L2.zaC ?_ ?_ ?_)) (L3.Fd.mk ?_ (L2.zaC ?_ ?_ ?_)) (L3.Fd.mk ?_ (L2.zaC ?_ ?_ ?_)) (L3.Fd.mk ?_ (L2.zaC ?_ ?_ ?_)) (L3.Fd.mk ?_ (L2.zaC ?_ ?_ ?_)) (L3.Fd.mk ?_ (L2.zaC ?_ ?_ ?_)) (L3.Fd.mk ?_ (L2.zaC ?_ ?_ ?_)) (L3.Fd.mk ?_ (L2.zaC ?_ ?_ ?_)) (L3.Fd.mk ?_ (L2.zaC ?_ ?_ ?_)) (L3.Fd.mk ?_ (L2.zaC ?_ ?_ ?_)) (L3.Fd.mk ?_ (L2.zaC ?_ ?_ ?_)) (L3.Fd.mk ?_ (L2.zaC ?_ ?_ ?_)) (L3.Fd.mk ?_ (L2.zaC ?_ ?_ ?_)) (L3.Fd.mk ?_ (L2.zaC ?_ ?_ ?_)) (L3.Fd.mk ?_ (L2.zaC ?_ ?_ ?_)) (L3.Fd.mk ?_ (L2.zaC ?_ ?_ ?_)) (L3.Fd.mk ?_ (L2.zaC ?_ ?_ ?_)) (L3.Fd.mk ?_ (L2.zaC ?_ ?_ ?_)) (L3.Fd.mk ?_ (L2.zaC ?_ ?_ ?_)) (L3.Fd.mk ?_ (L2.zaC ?_ ?_ ?_)) (L3.Fd.mk ?_ (L2.zaC ?_ ?_ ?_)) (L3.Fd.mk ?_ (L2.zaC ?_ ?_ ?_)) (L3.Fd.mk ?_ (L2.zaC ?_ ?_ ?_)) (L3.Fd.mk ?_ (L2.zaC ?_ ?_ ?_)) ?_ ?_ ?_ ?_ ?_ ?_ ?_ ?_ ?_ ?_ ?_ ?_ ?_ ?_ ?_ ?_ ?_
  all_goals try first | k_is | kernel_rfl
