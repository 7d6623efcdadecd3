import PyProof.Rows.All
import Wide.All
import OpenK.AllK
import Wide.FinOn
import PyProof.EqAt
import PyProof.EqKinds
import PyProof.TupleCall
import PyProof.StationsW
import PyProof.ExcArgs
import PyProof.Seq
import PyProof.TupleIter
import PyProof.RangeIter
import PyProof.WalkInts
import PyProof.SumWalkG
import PyProof.ListRange
import PyProof.Rows.Range3
import OpenK.KDescr
import PyProof.ExcAttrAll.ValueError
import PyProof.Draws
import PyProof.EnumFor
import PyProof.EnumMake
import PyProof.LayNew
import PyProof.Rows.EnumRows
import PyProof.MinMaxWalk
import Lean
import PySem.Challenge.RW_cheapcovers_k95_whole_kept_covers
set_option Elab.async false
set_option linter.all false
set_option maxRecDepth 100000
set_option maxHeartbeats 8000000
set_option compiler.extract_closed false
set_option bootstrap.genMatcherCode false
set_option genSizeOfSpec false
open PySem PySem.Spec PyProof.Rows
open List (all_eq_true any_cons any_eq_true append_nil flatten_cons foldl_cons getElem_mem getElem_of_mem isEmpty_iff length_drop length_range length_take lookup_cons map_append map_congr_left map_drop map_nil map_take mem_append_left mem_filter mem_flatMap mem_range mem_singleton nil_append nodup_cons replicate replicate_succ reverse_cons sum_cons)
open Nat (le_of_eq le_of_lt le_succ log2_lt lt_succ_of_lt lt_succ_self lt_trans ne_of_gt zero_le)
open Int (ediv_one le_refl mul_one toNat_of_nonneg zero_mul)
noncomputable section
local macro_rules | `(term| ⋯) => `(term| by first | decide +kernel | omega)
section
open PyProof
abbrev qaa := @List.getElem?_append_right
abbrev qab := @Array.getElem?_eq_some_iff
abbrev qac := @List.getElem?_eq_some_iff
abbrev qad := @List.getElem?_append_left
abbrev qae := @List.drop_eq_getElem_cons
abbrev qaf := @List.getElem?_eq_getElem
abbrev qag := @Heap.get?_push_of_some
abbrev qah := @Heap.get?_update_other
abbrev qai := @List.getElem?_set_self
abbrev qak := @List.mem_append_right
abbrev qal := @Heap.get?_update_self
abbrev qan := @List.mem_cons_of_mem
abbrev qao := @List.getElem?_set_ne
abbrev qap := @Around.under_plainId
abbrev qar := @Heap.get?_push_size
abbrev qas := @Array.length_toList
abbrev qat := @List.filterMap_cons
abbrev qau := @List.mem_cons_self
abbrev qav := @List.length_append
abbrev qaw := @Nat.lt_of_lt_of_le
abbrev qax := @Bool.false_eq_true
abbrev qay := @List.pairwise_cons
abbrev qaA := @List.size_toArray
abbrev qaB := @Int.toNat_natCast
abbrev qaC := @wpAny_newObj_type
abbrev qaD := @decide_eq_true_eq
abbrev qaE := @List.length_cons
abbrev qaF := @List.not_mem_nil
abbrev qaG := @Bool.and_eq_true
abbrev qaH := @List.length_map
abbrev qaI := @List.length_set
abbrev qaJ := @List.length_nil
abbrev qaK := @List.mem_append
abbrev qaL := @Heap.size_push
abbrev qaM := @List.map_cons
abbrev qaN := @Nat.lt_irrefl
abbrev qaO := @wpAny_holding
abbrev qaP := @List.mem_cons
abbrev qaQ := @Heap.lt_size
abbrev qaR := @Nat.ne_of_lt
abbrev qaS := @Nat.le_trans
abbrev qaT := @List.map_map
abbrev qaU := @List.mem_map
abbrev qaV := @Nat.le_refl
abbrev qaW := @wpAny_bind
abbrev qaX := @wpAny_pure
abbrev qaZ := @wpAny_mono
abbrev qa0 := @False.elim
abbrev qa4 := @if_pos
abbrev qa5 := @if_neg
end
def PySem.W.Fast.tw17395870405477128660:Nat:=0
def PySem.W.Fast.tw3777249355408152100:Nat:=0
def PySem.W.Fast.tw6572749009558865173:Nat:=0
def PySem.W.Fast.tw17632627290994032547:Nat:=0
def PySem.W.Fast.tw11375228991488533513:Nat:=0
def PySem.W.Fast.tw5834180616513513504:Nat:=0
def PySem.W.Fast.tw5737387287007764587:Nat:=0
def PySem.W.Fast.tw7663919231262735521:Nat:=0
def PySem.W.Fast.tw9595520816676385435:Nat:=0
def PySem.W.Fast.tw11143860717451013630:Nat:=0
def PySem.W.Fast.tw10274340194113948642:Nat:=0
def PySem.W.Fast.tw11063102581380634855:Nat:=0
def PySem.W.Fast.tw11258345504762866525:Nat:=0
def PySem.W.Fast.tw4554987626042387140:Nat:=0
def PySem.W.Fast.tw3092392204093860532:Nat:=0
def PySem.W.Fast.tw6468548664006575102:Nat:=0
def PySem.W.Fast.tw1087295299024044308:Nat:=0
def PySem.W.Fast.tw6173915172816550033:Nat:=0
def PySem.W.Fast.tw13973775663661033481:Nat:=0
def PySem.W.Fast.tw15388640909607114628:Nat:=0
def PySem.W.Fast.tw11686520519916044669:Nat:=0
def PySem.W.Fast.tw3026974285070548590:Nat:=0
def PySem.W.Fast.tw4569592445840069090:Nat:=0
def PySem.W.Fast.tw4403572894323680705:Nat:=0
namespace L3
def zny (h:Heap) (e:Addr) (cls head:Value):Prop:= ∃ ob vs,h.get? e=some ob/\ob.cls=cls/\ob.dict=none/\ob.data= .fields vs/\vs[2]? = some .none/\vs[1]? = some head
def zwn (h B:Heap) (e:Addr) (head fl:Value):Prop:= ∃ T ot ts,head= .ref T/\B.get? T=none/\T≠e/\h.get? T=some ot/\ot.data= .fields ts/\ts[3]? = some fl
structure Fly (B:Heap) (l:List Env) (e:Addr) (cls fl:Value) (h:Heap):Prop where
 stays:B.StaysIn h
 new:B.get? e=none
 frames:h.FunFrames B l
 exc: ∃ head,zny h e cls head/\zwn h B e head fl
section
variable {M:Model} {A:Around} {E:Value->Shared->Prop} {s:Shared} {B:Heap} {env:Env} {outer l:List Env} {L e:Addr} {cls head fl:Value}
end
theorem zhE:entryFor table "proto.unchain"=some Builtin.«proto.unchain» := entryFor_of_tree (by kernel_rfl)
section
variable {prog:Program} {w:World} {A:Around} {E:Value->Shared->Prop} {s:Shared}
theorem zdU {α:Type} {a h:Addr} {o:Obj} {us:Array Value} {cls head:Value} {Q:α->Shared->Prop} (hh:A.handled=some (.ref h)) (hx:zny s.heap h cls head) (ho:s.heap.get? a=some o) (hd:o.data= .fields us) (hz:2<us.size) (hne:h≠a)
  (q:E (.ref a) {s with heap:=s.heap.update a (Obj.mapFields (·.setIfInBounds 2 (.ref h)))}):wpAny (model prog w) A (raiseNew (.ref a):Sem α) Q E s:=by
 obtain ⟨ob,vs,h1,h2,h3,h4,h5,h6⟩:=hx
 unfold raiseNew
 refine qaW (wpAny_handled ?_)
 rw [hh]
 dsimp only
 rw [qa4 (show (Value.ref h != Value.ref a)=true by simp [hne])]
 refine qaW (qaO (wpAny_runValue (codeAny_builtin zhE ?_)))
 unfold Builtin.«proto.unchain»
 refine qaW (wpAny_field h1 h4 h5 ?_)
 rw [qa4 (show (Value.none==Value.none)=true from rfl)]
 refine qaW (qaX (qaX ?_))
 refine qaW ?_
 obtain ⟨c,d,dt,sl⟩:=o
 dsimp only at hd
 subst hd
 unfold updateField
 refine qaW (wpAny_load ho ?_)
 dsimp only
 rw [qa4 hz]
 exact wpAny_update ho (wpAny_throw q)
def zmp (A:Around) (h:Heap):Prop:=A.handled=none\/ ∃ a cls head,A.handled=some (.ref a)/\zny h a cls head
theorem zjM {it l:Addr} {i:Nat} {items:Array Value} {Q:Option Value->Shared->Prop} (hh:zmp A s.heap) (hit:s.heap.IsListIter it l i) (hl:s.heap.IsList l items) (hx:items[i]? = none)
  (k: ∀ h',Heap.ExtBut it s.heap h'->Q none {s with heap:=h'}):wpAny (model prog w) A (pyNext (.ref it)) Q E s:=by
 rcases hh with hh | ⟨ha,cls,head,hh,hX⟩
 ·exact wpAny_pyNext_list_end hh hit hl hx k
 obtain ⟨o,h1,h2,h3⟩:=id hit
 obtain ⟨ol,l1,_,nl,l2⟩:=hl
 unfold pyNext
 refine qaW (wpAny_attempt (wpAny_callSpecial?_slot (name:=Str.ofString "__next__") hit.typeIs slot_listiter_next (wpAny_call_entry slot_listiter_next hit.typeIs entry_listiter_next ?_ (args_listiter_next _))))
 show wpAny _ _ (field (.ref it) 0>>=_) _ _ s
 refine qaW (wpAny_field h1 h3 (x:= .ref l) rfl ?_)
 show wpAny _ _ (if (Value.ref l==Value.none)=true then _ else _) _ _ s
 rw [qa5 (show ¬(Value.ref l==Value.none)=true from nofun)]
 show wpAny _ _ (field (.ref it) 1>>=_) _ _ s
 refine qaW (wpAny_field h1 h3 (x:= .int i 0) rfl ?_)
 show wpAny _ _ (seqItems? (.ref l)>>=_) _ _ s
 refine qaW (wpAny_seqItems l1 l2 ?_)
 simp only [qaB,hx]
 refine qaW (wpAny_rule (qaW (wpAny_setField h1 h3 (by simp) ?_)))
 have nit:ha≠it:=λz=>by
  subst z
  obtain ⟨ob,vs,x1,_,_,x4,x5,x6⟩:=hX
  rw [h1] at x1
  cases x1
  rw [h3] at x4
  cases x4
  simp at x5
 have hX1:zny (s.heap.update it (Obj.mapFields (·.setIfInBounds 0 Value.none))) ha cls head:=by
  obtain ⟨ob,vs,x1,x2⟩:=hX
  exact ⟨ob,vs,(qah _ _ (Ne.symm nit)).trans x1,x2⟩
 show wpAny _ _ (newExc (.type "StopIteration") []>>=_) _ _ _
 refine qaW ?_
 simp only [newExc,newTuple]
 refine qaW (qaC ?_ (by size_fits))
 refine qaW (m:=firstArgMember _ _) (wpAny_of_eq (a:=Value.none) (by first | rfl | (simp only [firstArgMember];rfl)) ?_)
 refine qaC ?_ (by size_fits)
 obtain ⟨ob,vs,x1,x2⟩:=hX1
 have y1:=qag {cls:= .type "tuple",dict:=none,data:= .seq [].toArray} x1
 refine zdU (h:=ha) (cls:=cls) (head:=head) hh ⟨ob,vs,qag _ y1,x2⟩ (qar _ rfl) rfl (by simp;omega) (qaR (qaQ y1)) ?_
 refine qaW (wpAny_isInstance (T:="StopIteration") (b:=true) ⟨_,qal _ (qar _ rfl) rfl,rfl⟩ isSubtype_stop ?_)
 refine qaX (k _ λb o hb z=> ?_)
 have z1:(s.heap.update it (Obj.mapFields (·.setIfInBounds 0 Value.none))).get? b=some o:=(qah _ _ (Ne.symm hb)).trans z
 have z2:=qag {cls:= .type "tuple",dict:=none,data:= .seq [].toArray} z1
 rw [qah _ _ (ne_of_gt (qaQ z2))]
 exact qag _ z2
theorem zmc {it l:Addr} {i:Nat} {items:Array Value} {Q:Option Value->Shared->Prop} (hh:zmp A s.heap) (hit:s.heap.IsTupleIter it l i) (hl:s.heap.IsTuple l items) (hx:items[i]? = none)
  (k: ∀ h',Heap.ExtBut it s.heap h'->Q none {s with heap:=h'}):wpAny (model prog w) A (pyNext (.ref it)) Q E s:=by
 rcases hh with hh | ⟨ha,cls,head,hh,hX⟩
 ·exact wpAny_pyNext_tuple_end hh hit hl hx k
 obtain ⟨o,h1,h2,h3⟩:=id hit
 obtain ⟨ol,l1,_,nl,l2⟩:=hl
 unfold pyNext
 refine qaW (wpAny_attempt (wpAny_callSpecial?_slot (name:=Str.ofString "__next__") hit.typeIs F.slot_tuple_iterator_next (wpAny_call_entry F.slot_tuple_iterator_next hit.typeIs F.entry_tuple_iterator_next ?_ (F.args_tuple_iterator_next_1 _))))
 show wpAny _ _ (field (.ref it) 0>>=_) _ _ s
 refine qaW (wpAny_field h1 h3 (x:= .ref l) rfl ?_)
 show wpAny _ _ (if (Value.ref l==Value.none)=true then _ else _) _ _ s
 rw [qa5 (show ¬(Value.ref l==Value.none)=true from nofun)]
 show wpAny _ _ (field (.ref it) 1>>=_) _ _ s
 refine qaW (wpAny_field h1 h3 (x:= .int i 0) rfl ?_)
 show wpAny _ _ (seqItems? (.ref l)>>=_) _ _ s
 refine qaW (wpAny_seqItems l1 l2 ?_)
 simp only [qaB,hx]
 refine qaW (wpAny_rule (qaW (wpAny_setField h1 h3 (by simp) ?_)))
 have nit:ha≠it:=λz=>by
  subst z
  obtain ⟨ob,vs,x1,_,_,x4,x5,x6⟩:=hX
  rw [h1] at x1
  cases x1
  rw [h3] at x4
  cases x4
  simp at x5
 have hX1:zny (s.heap.update it (Obj.mapFields (·.setIfInBounds 0 Value.none))) ha cls head:=by
  obtain ⟨ob,vs,x1,x2⟩:=hX
  exact ⟨ob,vs,(qah _ _ (Ne.symm nit)).trans x1,x2⟩
 show wpAny _ _ (newExc (.type "StopIteration") []>>=_) _ _ _
 refine qaW ?_
 simp only [newExc,newTuple]
 refine qaW (qaC ?_ (by size_fits))
 refine qaW (m:=firstArgMember _ _) (wpAny_of_eq (a:=Value.none) (by first | rfl | (simp only [firstArgMember];rfl)) ?_)
 refine qaC ?_ (by size_fits)
 obtain ⟨ob,vs,x1,x2⟩:=hX1
 have y1:=qag {cls:= .type "tuple",dict:=none,data:= .seq [].toArray} x1
 refine zdU (h:=ha) (cls:=cls) (head:=head) hh ⟨ob,vs,qag _ y1,x2⟩ (qar _ rfl) rfl (by simp;omega) (qaR (qaQ y1)) ?_
 refine qaW (wpAny_isInstance (T:="StopIteration") (b:=true) ⟨_,qal _ (qar _ rfl) rfl,rfl⟩ isSubtype_stop ?_)
 refine qaX (k _ λb o hb z=> ?_)
 have z1:(s.heap.update it (Obj.mapFields (·.setIfInBounds 0 Value.none))).get? b=some o:=(qah _ _ (Ne.symm hb)).trans z
 have z2:=qag {cls:= .type "tuple",dict:=none,data:= .seq [].toArray} z1
 rw [qah _ _ (ne_of_gt (qaQ z2))]
 exact qag _ z2
theorem zhZ {it:Addr} {x left step:Int} {Q:Option Value->Shared->Prop} (hh:zmp A s.heap) (hit:IsRangeIter s.heap it x left step) (hleft:left<=0)
  (k: ∀ h',Heap.ExtBut it s.heap h'->Q none {s with heap:=h'}):wpAny (model prog w) A (pyNext (.ref it)) Q E s:=by
 rcases hh with hh | ⟨ha,cls,head,hh,hX⟩
 ·exact wpAny_pyNext_range_end hh hit hleft k
 have hT:s.TypeIs (.ref it) "range_iterator":=⟨_,hit,rfl⟩
 unfold pyNext
 refine qaW (wpAny_attempt (wpAny_callSpecial?_slot (name:=Str.ofString "__next__") hT F.slot_range_iterator_next (wpAny_call_entry F.slot_range_iterator_next hT F.entry_range_iterator_next ?_ (F.args_range_iterator_next_1 _))))
 show wpAny _ _ (field (.ref it) 0>>=_) _ _ s
 refine qaW (wpAny_field hit rfl (x:=rawInt x) rfl ?_)
 show wpAny _ _ (field (.ref it) 1>>=_) _ _ s
 refine qaW (wpAny_field hit rfl (x:=rawInt left) rfl ?_)
 show wpAny _ _ (field (.ref it) 2>>=_) _ _ s
 refine qaW (wpAny_field hit rfl (x:=rawInt step) rfl ?_)
 show wpAny _ _ (if left<=0 then _ else _) _ _ s
 rw [qa4 hleft]
 refine qaW (wpAny_rule (qaW ?_))
 show wpAny _ _ (newExc (.type "StopIteration") []>>=_) _ _ _
 refine qaW ?_
 simp only [newExc,newTuple]
 refine qaW (qaC ?_ (by size_fits))
 refine qaW (m:=firstArgMember _ _) (wpAny_of_eq (a:=Value.none) (by first | rfl | (simp only [firstArgMember];rfl)) ?_)
 refine qaC ?_ (by size_fits)
 obtain ⟨ob,vs,x1,x2⟩:=hX
 have y1:=qag {cls:= .type "tuple",dict:=none,data:= .seq [].toArray} x1
 refine zdU (h:=ha) (cls:=cls) (head:=head) hh ⟨ob,vs,qag _ y1,x2⟩ (qar _ rfl) rfl (by simp;omega) (qaR (qaQ y1)) ?_
 refine qaW (wpAny_isInstance (T:="StopIteration") (b:=true) ⟨_,qal _ (qar _ rfl) rfl,rfl⟩ isSubtype_stop ?_)
 refine qaX (k _ λb o hb z=> ?_)
 have z2:=qag {cls:= .type "tuple",dict:=none,data:= .seq [].toArray} z
 rw [qah _ _ (ne_of_gt (qaQ z2))]
 exact qag _ z2
theorem zny.keep {h h':Heap} {a:Addr} {cls head:Value} (x:zny h a cls head) (k: ∀ o,h.get? a=some o->h'.get? a=some o):zny h' a cls head:=by
 obtain ⟨ob,vs,x1,x2⟩:=x
 exact ⟨ob,vs,k _ x1,x2⟩
theorem zk1 {ha:Addr} {cls head:Value} (hh:A.handled=some (.ref ha)) (I ax:Addr) (hne:ax≠I) (hn2:ha≠I) (items:Array Value):
  Walks prog w A I [I,ax,ha] [I] items.size (λi v=>items[i]? = some v) (λi h=>h.IsListIter I ax i/\h.IsList ax items/\zny h ha cls head) where
 sub:=λb hb=>by simp at hb;simp [hb]
 frame:=λ_ _ _ st hk=>⟨st.1.at λo e=>hk I (by simp) o e,st.2.1.at λo e=>hk ax (by simp) o e,st.2.2.keep λo e=>hk ha (by simp) o e⟩
 item:=λi s Q E hi st hQ=>by
  refine wpAny_pyNext_list_item st.1 st.2.1 (x:=items[i]) (by simp [hi]) λh' hit' hs'=> ?_
  exact hQ _ h' s.toks (by simp [hi]) ⟨hit',st.2.1.extBut hs'.extBut hne,st.2.2.keep λo e=>hs'.extBut ha o hn2 e⟩ λb o hb e=>hs'.extBut b o (λh=>hb (by simp [h])) e
 done:=λs Q E st hQ=>zjM (.inr ⟨ha,cls,head,hh,st.2.2⟩) st.1 st.2.1 (by simp) λh' he'=>hQ h' s.toks λb o hb e=>he' b o (λh=>hb (by simp [h])) e
 self:=λ_ _ _ _ st hQ=>wpAny_pyIter_listiter st.1 hQ
end
end L3
namespace L2
abbrev Key:=Sum Int Str
def zkT:Key->Value->Bool
 | .inl k,v=>Value.isInt k v
 | .inr x,v=>Value.isStrOf x v
def zws (w:World):Key->Int
 | .inl k=>hashInt k
 | .inr x=>hashStr w x
theorem zbk: ∀ {k:Key} {v:Value},zkT k v=true->(∃ i t,k=Sum.inl i/\v=Value.int i t)\/(∃ x t,k=Sum.inr x/\v=Value.str x t)
 | .inl i,v,h=>by
  obtain ⟨t,e⟩:=Value.isInt_shape (k:=i) (v:=v) h
  exact .inl ⟨i,t,rfl,e⟩
 | .inr x,v,h=>by
  obtain ⟨t,e⟩:=Value.isStrOf_shape (x:=x) (v:=v) h
  exact .inr ⟨x,t,rfl,e⟩
theorem zm6 (i:Int) (t:Tok):zkT (.inl i) (.int i t)=true:=by simp [zkT,Value.isInt]
theorem znv (x:Str) (t:Tok):zkT (.inr x) (.str x t)=true:=by simp [zkT,Value.isStrOf]
theorem zty (a b:Int):decide ((Sum.inl a:Key)=Sum.inl b)=(a==b):=by
 by_cases e:a=b
 ·subst e;simp
 ·have h: ¬(Sum.inl a:Key)=Sum.inl b:=λq=>e (Sum.inl.inj q)
  rw [decide_eq_false h]
  exact (beq_eq_false_iff_ne.mpr e).symm
theorem ztQ (a b:Str):decide ((Sum.inr a:Key)=Sum.inr b)=decide (a=b):=by
 by_cases e:a=b
 ·subst e;simp
 ·have h: ¬(Sum.inr a:Key)=Sum.inr b:=λq=>e (Sum.inr.inj q)
  rw [decide_eq_false h,decide_eq_false e]
theorem zr9 (a:Int) (b:Str):decide ((Sum.inl a:Key)=Sum.inr b)=false:=decide_eq_false (λq=>nomatch q)
theorem zs9 (a:Str) (b:Int):decide ((Sum.inr a:Key)=Sum.inl b)=false:=decide_eq_false (λq=>nomatch q)
def zek (prog:Program) (w:World):PySem.KeyKind prog w Key where
 is:=zkT
 hash:=zws w
 inj:=λv a b ha hb=>by
  rcases zbk ha with ⟨i,t,rfl,rfl⟩ | ⟨x,t,rfl,rfl⟩
  ·rcases zbk hb with ⟨j,u,rfl,e⟩ | ⟨y,u,rfl,e⟩
   ·injection e with e1 _;rw [e1]
   ·exact nomatch e
  ·rcases zbk hb with ⟨j,u,rfl,e⟩ | ⟨y,u,rfl,e⟩
   ·exact nomatch e
   ·injection e with e1 _;rw [e1]
 byValue:=λk v h=>by
  rcases zbk h with ⟨i,t,rfl,rfl⟩ | ⟨x,t,rfl,rfl⟩<;>rfl
 pyHash:=λhv h=>by
  rcases zbk hv with ⟨i,t,rfl,rfl⟩ | ⟨x,t,rfl,rfl⟩
  ·exact wpAny_pyHash_int h
  ·exact wpAny_pyHash_str h
 eqBool:=λhu hv h=>by
  rcases zbk hu with ⟨i,t,rfl,rfl⟩ | ⟨x,t,rfl,rfl⟩
  ·rcases zbk hv with ⟨j,u,rfl,rfl⟩ | ⟨y,u,rfl,rfl⟩
   ·rw [zty] at h;exact wpAny_eqBool_int h
   ·rw [zr9] at h;exact SeqAt.EqAt.int_str i t y u _ _ _ _ h
  ·rcases zbk hv with ⟨j,u,rfl,rfl⟩ | ⟨y,u,rfl,rfl⟩
   ·rw [zs9] at h;exact SeqAt.EqAt.str_int x t j u _ _ _ _ h
   ·rw [ztQ] at h;exact wpAny_eqBool_str h
 «strs» := λk x t v h=>by
  rcases zbk h with ⟨i,u,rfl,e⟩ | ⟨y,u,rfl,e⟩
  ·exact nomatch e
  ·injection e with e1 _
   subst e1
   cases v<;>rfl
theorem zjA (prog:Program) (w:World) (i:Int) (t:Tok):(zek prog w).is (.inl i) (.int i t)=true:=zm6 i t
theorem zjf (prog:Program) (w:World) (x:Str) (t:Tok):(zek prog w).is (.inr x) (.str x t)=true:=znv x t
inductive V where
 | non | bl (b:Bool) | int (i:Int) | str (x:Str) | byt (b:Array UInt8) | flt (b:UInt64) | ref (a:Addr) | ty (n:String)
 deriving DecidableEq
def zbO:V->Value->Prop
 | .non,u=>u=Value.none
 | .bl b,u=>u=Value.bool b
 | .int i,u=> ∃ t,u=Value.int i t
 | .str x,u=> ∃ t,u=Value.str x t
 | .byt b,u=> ∃ t,u=Value.bytes b t
 | .flt b,u=> ∃ t,u=Value.float b t
 | .ref a,u=>u=Value.ref a
 | .ty n,u=>u=Value.type n
abbrev za4:List V->List Value->Prop:=Paired zbO
theorem za4.length {xs:List V} {us:List Value} (r:za4 xs us):xs.length=us.length:=Paired.length r
theorem za4.get: ∀ {xs:List V} {us:List Value} {i:Nat} {x:V},za4 xs us->xs[i]? = some x-> ∃ u,us[i]? = some u/\zbO x u
 | _,_,_,_,.nil,e=>by simp at e
 | _,_,0,_,.cons r _,e=>by simp at e;subst e;exact ⟨_,rfl,r⟩
 | _,_,i+1,x,.cons _ t,e=>by
  obtain ⟨u,h1,h2⟩:=za4.get (i:=i) (x:=x) t (by simpa using e)
  exact ⟨u,by simpa using h1,h2⟩
theorem za4.set {x:V} {u:Value} (r:zbO x u): ∀ {xs:List V} {us:List Value} (i:Nat),za4 xs us->za4 (xs.set i x) (us.set i u)
 | _,_,_,.nil=> .nil
 | _,_,0,.cons _ t=> .cons r t
 | _,_,i+1,.cons q t=> .cons q (za4.set r i t)
theorem za4.append: ∀ {xs ys:List V} {us ws:List Value},za4 xs us->za4 ys ws->za4 (xs++ys) (us++ws)
 | _,_,_,_,.nil,s=>s
 | _,_,_,_,.cons r t,s=> .cons r (za4.append t s)
theorem za4.take: ∀ {xs:List V} {us:List Value} (n:Nat),za4 xs us->za4 (xs.take n) (us.take n)
 | _,_,0,_=> .nil
 | _,_,_+1,.nil=> .nil
 | _,_,n+1,.cons r t=> .cons r (za4.take n t)
theorem za4.drop: ∀ {xs:List V} {us:List Value} (n:Nat),za4 xs us->za4 (xs.drop n) (us.drop n)
 | _,_,0,r=>r
 | _,_,_+1,.nil=> .nil
 | _,_,n+1,.cons _ t=>za4.drop n t
def znD:Option V->Option Value->Prop
 | some v,some u=>zbO v u
 | none,none=>True
 | _,_=>False
def KV {κ:Type}:List (κ×V)->List (κ×Value)->Prop:=Paired λ(p:κ×V) (q:κ×Value)=>p.1=q.1/\zbO p.2 q.2
def kV:Key->V
 | .inl i=> .int i
 | .inr x=> .str x
inductive HO where
 | lst (xs:List V)
 | tup (xs:List V)
 | dK (kvs:List (Key×V)) | dT (kvs:List (List Key×V))
 | set (S:Int->Bool) (n:Nat)
 | ins (C dx:Addr) (fs:List (Str×V))
 | own (x:Addr)
 | xd (fs:List (Str×V))
 | met (f x:Addr)
 | rng (lo hi:Int)
 | frz (o:Obj) (u:HO)
 | tbl (ps:Array Value)
 | ext (φ:Heap->Prop)
abbrev Hp:=Addr->Option HO
def upd (H:Hp) (a:Addr) (o:HO):Hp:=λb=>if b=a then some o else H b
theorem za2 {H:Hp} {a:Addr} {o:HO}:upd H a o a=some o:=by unfold upd;rw [qa4 rfl]
theorem zaE {H:Hp} {a b:Addr} {o:HO} (h:b≠a):upd H a o b=H b:=by unfold upd;rw [qa5 h]
theorem za0 {H:Hp} {a b:Addr} {o:HO} (h:H a=some o) (h':H b=none):a≠b:=by
 intro e;subst e;rw [h] at h';cases h'
def zll (h:Heap) (a:Addr) (items:Array Value):Prop:= ∃ o,h.get? a=some o/\o.cls= .type "tuple"/\ ∃ n,o.data= .seq items n/\o.dict=none
theorem zll.is {h:Heap} {a:Addr} {items:Array Value} (x:zll h a items):IsTup h a items:=by
 obtain ⟨o,h1,h2,n,h3,_⟩:=x
 exact ⟨o,h1,h2,n,h3⟩
theorem zll.new (h:Heap) (items:Array Value):zll (h.push {cls:= .type "tuple",data:= .seq items}) h.objs.size items:=⟨_,qar _ rfl,rfl,_,rfl,rfl⟩
section
variable (P:Program) (w:World)
def zcf (H:Hp) (h:Heap) (a:Addr):HO->Prop
 | .lst xs=>xs.length<=sizeLine/\ ∃ (its:List Value) (n:Nat),za4 xs its/\h.get? a=some {cls:= .type "list",data:= .seq its.toArray n}
 | .tup xs=>xs.length<=sizeLine/\ ∃ its:List Value,za4 xs its/\zll h a its.toArray
 | .dK kvs=>kvs.length<=sizeLine/\(a==sysModules)=false/\ ∃ vs,KV kvs vs/\h.DictOf (zek P w) a vs
 | .dT kvs=>kvs.length<=sizeLine/\(a==sysModules)=false/\ ∃ xs:List (List Key×Addr×Value),
   Paired (λ(p:List Key×V) (q:List Key×Addr×Value)=>p.1=q.1/\H q.2.1=some (.tup (p.1.map kV))/\zbO p.2 q.2.2) kvs xs/\
   ∃ o es ep,h.get? a=some o/\o.ExactDict/\o.data= .dict es ep/\es.toList=xs.map (entryOfKey (tupleKind (zek P w)))/\(xs.map (·.1)).Nodup
 | .set S n=>h.SetOf (intKind P w) a S n
 | .ins C dx fs=>H dx=some (.own a)/\fs.length<=1000/\dx≠a/\h.get? a=some (W.instObj C dx)/\
   ∃ mA,h.Ns1 dx mA/\(∀ f,znD (fs.lookup f) (mA f))/\PySem.Within mA (fs.map (·.1))
 | .own _=> ∃ o,h.get? a=some o
 | .xd fs=> ∃ mA,h.Ns1 a mA/\ ∀ f,znD (fs.lookup f) (mA f)
 | .rng lo hi=> ∃ t u v,h.get? a=some {cls:= .type "range",data:= .fields #[.int lo t,.int hi u,.int 1 v]}
 | .frz o u=>h.get? a=some o/\zcf H h a u
 | .tbl ps=>h.get? a=some {cls:= .none,data:= .fields ps}
 | .met f x=>h.get? a=some (W.methodObj (.ref f) (.ref x))
 | .ext φ=>φ h/\(∃ o,h.get? a=some o)/\ ∀ h1 h2:Heap,φ h1->(∀ o,h1.get? a=some o->h2.get? a=some o)->φ h2
def HOk (H:Hp) (h:Heap):Prop:= ∀ a o,H a=some o->zcf P w H h a o
end
section
variable {P:Program} {w:World} {H H':Hp} {h h':Heap} {a:Addr} {o:HO}
theorem zcf.lt (x:zcf P w H h a o):a<h.objs.size:=by
 cases o with
 | lst xs=>obtain ⟨_,_,_,_,e⟩:=x;exact qaQ e
 | tup xs=>obtain ⟨_,_,_,p⟩:=x;exact p.is.lt
 | dK kvs=>obtain ⟨_,_,_,_,o,_,_,e,_⟩:=x;exact qaQ e
 | dT kvs=>obtain ⟨_,_,_,_,o,_,_,e,_⟩:=x;exact qaQ e
 | set S n=>obtain ⟨o,_,_,_,e,_⟩:=x;exact qaQ e
 | ins C dx fs=>obtain ⟨_,_,_,e,_⟩:=x;exact qaQ e
 | own y=>obtain ⟨_,e⟩:=x;exact qaQ e
 | xd fs=>obtain ⟨_,⟨_,_,_,e,_⟩,_⟩:=x;exact qaQ e
 | rng lo hi=>obtain ⟨_,_,_,e⟩:=x;exact qaQ e
 | frz ob u=>obtain ⟨e,_⟩:=x;exact qaQ e
 | tbl ps=>exact qaQ (show h.get? a=some _ from x)
 | met f y=>exact qaQ (show h.get? a=some _ from x)
 | ext φ=>obtain ⟨_,⟨_,e⟩,_⟩:=x;exact qaQ e
theorem Paired.mapP {α β:Type} {F G:α->β->Prop}: ∀ {l₁:List α} {l₂:List β},Paired F l₁ l₂->(∀ a b,F a b->G a b)->Paired G l₁ l₂
 | _,_,.nil,_=> .nil
 | _,_,.cons r t,f=> .cons (f _ _ r) (Paired.mapP t f)
theorem zcf.stay (x:zcf P w H h a o) (k: ∀ b u,(b=a\/H b=some (.own a))->h.get? b=some u->h'.get? b=some u)
  (ho: ∀ b,H b=some (.own a)->H' b=some (.own a)) (ht: ∀ b xs,H b=some (.tup xs)->H' b=some (.tup xs)):zcf P w H' h' a o:=by
 induction o with
 | lst xs=>obtain ⟨z,its,n,r,e⟩:=x;exact ⟨z,its,n,r,k _ _ (.inl rfl) e⟩
 | tup xs=>obtain ⟨z,its,r,ob,e,c⟩:=x;exact ⟨z,its,r,ob,k _ _ (.inl rfl) e,c⟩
 | dK kvs=>obtain ⟨z,y,vs,r,ob,es,ep,e,c⟩:=x;exact ⟨z,y,vs,r,ob,es,ep,k _ _ (.inl rfl) e,c⟩
 | dT kvs=>
  obtain ⟨z,y,xs,r,ob,es,ep,e,c⟩:=x
  exact ⟨z,y,xs,Paired.mapP r λp q z=>⟨z.1,ht _ _ z.2.1,z.2.2⟩,ob,es,ep,k _ _ (.inl rfl) e,c⟩
 | set S n=>obtain ⟨ob,es,ep,t,e,c⟩:=x;exact ⟨ob,es,ep,t,k _ _ (.inl rfl) e,c⟩
 | ins C dx fs=>
  obtain ⟨d,z,ne,e,mA,⟨od,es,ep,e2,c⟩,r⟩:=x
  exact ⟨ho _ d,z,ne,k _ _ (.inl rfl) e,mA,⟨od,es,ep,k _ _ (.inr d) e2,c⟩,r⟩
 | own y=>obtain ⟨ob,e⟩:=x;exact ⟨ob,k _ _ (.inl rfl) e⟩
 | xd fs=>obtain ⟨mA,⟨od,es,ep,e,c⟩,r⟩:=x;exact ⟨mA,⟨od,es,ep,k _ _ (.inl rfl) e,c⟩,r⟩
 | rng lo hi=>obtain ⟨t,u,v,e⟩:=x;exact ⟨t,u,v,k _ _ (.inl rfl) e⟩
 | frz ob u ih=>obtain ⟨e,q⟩:=x;exact ⟨k _ _ (.inl rfl) e,ih q⟩
 | tbl ps=>
  have e:h.get? a=some {cls:= .none,data:= .fields ps}:=x
  show h'.get? a=some {cls:= .none,data:= .fields ps}
  exact k a _ (.inl rfl) e
 | met f y=>
  have e:h.get? a=some (W.methodObj (.ref f) (.ref y)):=x
  show h'.get? a=some (W.methodObj (.ref f) (.ref y))
  exact k a _ (.inl rfl) e
 | ext φ=>obtain ⟨p,⟨o,e⟩,st⟩:=x;exact ⟨st _ _ p λo q=>k _ _ (.inl rfl) q,⟨o,k _ _ (.inl rfl) e⟩,st⟩
theorem HOk.lt (x:HOk P w H h) (e:H a=some o):a<h.objs.size:=(x a o e).lt
theorem HOk.fresh (x:HOk P w H h) (e:h.objs.size<=a):H a=none:=by
 cases q:H a with
 | none=>rfl
 | some u=>exact absurd (qaw (x.lt q) e) (qaN _)
theorem HOk.kept (x:HOk P w H h) (k: ∀ b u,h.get? b=some u->h'.get? b=some u):HOk P w H h':=λa o e=>
 (x a o e).stay (λb u _ q=>k b u q) (λ_ q=>q) λ_ _ q=>q
theorem HOk.laid (x:HOk P w H h) (k: ∀ b u,h.get? b=some u->h'.get? b=some u) (hp:h.objs.size<=a) (new:zcf P w (upd H a o) h' a o):HOk P w (upd H a o) h':=λb u e=>by
 have hn:=x.fresh hp
 by_cases hb:b=a
 ·subst hb;rw [za2] at e;cases e;exact new
 ·rw [zaE hb] at e
  exact (x b u e).stay (λc v _ q=>k c v q) (λc q=>by rw [zaE (za0 q hn)];exact q) λc xs q=>by rw [zaE (za0 q hn)];exact q
end
def Rd (H:Hp) (a:Addr) (u:HO):Prop:=H a=some u\/ ∃ o,H a=some (.frz o u)
theorem Rd.ok {P:Program} {w:World} {H:Hp} {h:Heap} {a:Addr} {u:HO} (r:Rd H a u) (x:HOk P w H h):zcf P w H h a u:=by
 rcases r with r | ⟨o,r⟩
 ·exact x a u r
 ·obtain ⟨_,q⟩:=x a _ r
  exact q
def Mut:Option HO->Prop
 | some (.lst _)=>True
 | some (.dK _)=>True
 | some (.dT _)=>True
 | some (.set _ _)=>True
 | some (.ins _ _ _)=>True
 | some (.ext _)=>True
 | _=>False
section
variable {P:Program} {w:World} {H:Hp} {h h':Heap} {x e:Addr} {o':HO}
theorem HOk.write (ok:HOk P w H h) (mu:Mut (H x)) (he:e=x\/H e=some (.own x)) (k: ∀ b u,b≠e->h.get? b=some u->h'.get? b=some u) (heo: ∃ u,h'.get? e=some u)
  (new:zcf P w (upd H x o') h' x o'):HOk P w (upd H x o') h':=λb u q=>by
 have nown: ∀ c y,H c=some (.own y)->c≠x:=λc y r z=>by subst z;rw [r] at mu;exact mu
 have ntup: ∀ c xs,H c=some (.tup xs)->c≠x:=λc xs r z=>by subst z;rw [r] at mu;exact mu
 by_cases hb:b=x
 ·subst hb;rw [za2] at q;cases q;exact new
 ·rw [zaE hb] at q
  by_cases hbe:b=e
  ·have q':H b=some (.own x):=by
    rcases he with z | z
    ·exact absurd (hbe.trans z) hb
    ·rw [hbe];exact z
   rw [q] at q';cases q'
   obtain ⟨v,hv⟩:=heo
   exact ⟨v,by rw [hbe];exact hv⟩
  ·refine (ok b u q).stay (λc v hc r=>k c v ?_ r) (λc r=>by rw [zaE (nown c b r)];exact r) λc xs r=>by rw [zaE (ntup c xs r)];exact r
   rcases hc with rfl | hc
   ·exact hbe
   ·rintro rfl
    rcases he with z | z
    ·exact nown c b hc z
    ·rw [hc] at z;cases z;exact hb rfl
end
structure Un (fs ex:List Addr) (H H':Hp) (h h':Heap):Prop where
 keep: ∀ b o,h.get? b=some o->H b=none->b∉fs->b∉ex->h'.get? b=some o
 slot: ∀ b o,h.get? b=some o->H b=none->b∈fs->b∉ex-> ∃ sl,h'.get? b=some {o with slots:=sl}
 free: ∀ b o,h.get? b=some o->H b=none->b∉ex->H' b=none
 there: ∀ b o,h.get? b=some o->b∉ex-> ∃ o',h'.get? b=some o'
 tups: ∀ b xs,H b=some (.tup xs)->H' b=some (.tup xs)
 frzs: ∀ b o u,H b=some (.frz o u)->H' b=some (.frz o u)
 tbls: ∀ b ps,H b=some (.tbl ps)-> ∃ more,H' b=some (.tbl (ps++more))
section
variable {fs fs' ex ex':List Addr} {H H1 H2:Hp} {h h1 h2 h':Heap} {a x e:Addr} {o:HO}
theorem Un.any (u:Un fs ex H H1 h h1) {b:Addr} {ob:Obj} (q:h.get? b=some ob) (n:H b=none) (hx:b∉ex): ∃ sl,h1.get? b=some {ob with slots:=sl}:=by
 by_cases hb:b∈fs
 ·exact u.slot b ob q n hb hx
 ·exact ⟨ob.slots,u.keep b ob q n hb hx⟩
theorem Un.trans (a:Un fs ex H H1 h h1) (b:Un fs ex H1 H2 h1 h2):Un fs ex H H2 h h2 where
 keep:=λc ob q n hc hx=>b.keep c ob (a.keep c ob q n hc hx) (a.free c ob q n hx) hc hx
 slot:=λc ob q n hc hx=>by
  obtain ⟨sl,e1⟩:=a.slot c ob q n hc hx
  obtain ⟨sl',e2⟩:=b.slot c _ e1 (a.free c ob q n hx) hc hx
  exact ⟨sl',e2⟩
 free:=λc ob q n hx=>by
  obtain ⟨o',e1⟩:=a.there c ob q hx
  exact b.free c o' e1 (a.free c ob q n hx) hx
 there:=λc ob q hx=>by
  obtain ⟨o',e1⟩:=a.there c ob q hx
  exact b.there c o' e1 hx
 tups:=λc xs q=>b.tups c xs (a.tups c xs q)
 frzs:=λc ob xs q=>b.frzs c ob xs (a.frzs c ob xs q)
 tbls:=λc ps q=>by
  obtain ⟨m1,e1⟩:=a.tbls c ps q
  obtain ⟨m2,e2⟩:=b.tbls c _ e1
  exact ⟨m1++m2,by rw [e2,Array.append_assoc]⟩
theorem Un.kept (k: ∀ b u,h.get? b=some u->h'.get? b=some u):Un fs ex H H h h':=
 ⟨λb ob q _ _ _=>k b ob q,λb ob q _ _ _=>⟨ob.slots,k b ob q⟩,λ_ _ _ n _=>n,λb ob q _=>⟨ob,k b ob q⟩,λ_ _ q=>q,λ_ _ _ q=>q,λ_ ps q=>⟨#[],by rw [q];simp⟩⟩
theorem Un.refl:Un fs ex H H h h:=Un.kept λ_ _ q=>q
theorem Un.laid (k: ∀ b u,h.get? b=some u->h'.get? b=some u) (hp:h.objs.size<=a) (hn:H a=none):Un fs ex H (upd H a o) h h' where
 keep:=λb u q _ _ _=>k b u q
 slot:=λb u q _ _ _=>⟨u.slots,k b u q⟩
 free:=λb u q n _=>by rw [zaE (qaR (qaw (qaQ q) hp))];exact n
 there:=λb u q _=>⟨u,k b u q⟩
 tups:=λb xs q=>by rw [zaE (za0 q hn)];exact q
 frzs:=λb u xs q=>by rw [zaE (za0 q hn)];exact q
 tbls:=λb ps q=>⟨#[],by rw [zaE (za0 q hn),q];simp⟩
theorem Un.write (mu:Mut (H x)) (he:e=x\/H e=some (.own x)) (k: ∀ b u,b≠e->h.get? b=some u->h'.get? b=some u) (heo: ∃ u,h'.get? e=some u):Un fs ex H (upd H x o) h h':=by
 have hx: ∀ b,H b=none->b≠x:=λb n z=>by subst z;rw [n] at mu;exact mu
 have hb: ∀ b,H b=none->b≠e:=λb n z=>by
  subst z
  rcases he with r | r
  ·exact hx b n r
  ·rw [n] at r;cases r
 have hm: ∀ b u,H b=some u-> ¬Mut (some u)->b≠x:=λb u q nm z=>by subst z;rw [q] at mu;exact nm mu
 refine ⟨λb u q n _ _=>k b u (hb b n) q,λb u q n _ _=>⟨u.slots,k b u (hb b n) q⟩,λb u q n _=>by rw [zaE (hx b n)];exact n,λb u q _=> ?_,
   λb xs q=>by rw [zaE (hm b _ q λz=>z)];exact q,λb u xs q=>by rw [zaE (hm b _ q λz=>z)];exact q,λb ps q=>⟨#[],by rw [zaE (hm b _ q λz=>z),q];simp⟩⟩
 by_cases hbe:b=e
 ·subst hbe;exact heo
 ·exact ⟨u,k b u hbe q⟩
end
def trk (h:Heap) (H:Hp):List Addr:=(List.range h.objs.size).filter λa=>(H a).isSome
def zoF (h:Heap) (H:Hp):Heap:=W.hideAll h (trk h H)
theorem znp (h:Heap) (H:Hp):(zoF h H).objs.size=h.objs.size:=W.hideAll_size _ _
theorem zo6 {h:Heap} {H:Hp} {b:Addr} {o:Obj} (e:h.get? b=some o) (n:H b=none):(zoF h H).get? b=some o:=
 W.hideAll_get _ e λhm=>by
  have q:(H b).isSome=true:=(mem_filter.mp hm).2
  rw [n] at q;simp at q
theorem zrn {h:Heap} {H:Hp} {b:Addr} {o:Obj} (e:(zoF h H).get? b=some o):h.get? b=some o/\H b=none:=by
 have e':h.get? b=some o:=W.of_hideAll (trk h H) e
 refine ⟨e',?_⟩
 cases q:H b with
 | none=>rfl
 | some x=>
  have hm:b∈trk h H:=mem_filter.mpr ⟨mem_range.mpr (qaQ e'),by simp [q]⟩
  have z:(zoF h H).get? b=none:=W.hideAll_none (trk h H) hm
  rw [z] at e;cases e
def zqE (g h:Heap) (L:Addr):List (Addr×Obj):=(List.range h.objs.size).filterMap λa=>if a=L\/(g.get? a).isSome=true then none else (h.get? a).map λo=>(a,o)
def zc2 (g h:Heap) (L d:Addr):List (Addr×Obj):=(zqE g h L).filter λp=>decide (p.1≠d)
structure Mod (K:W.Frag) (mg:Str->Option Value) (base:Heap):Prop where
 kin:K.In base
 glob:base.Ns mainGlobals mg
 blt: ∃ mb,base.Ns builtinsNs mb/\ ∀ x:Str,x≠"__name__"->mb x=bootBuiltins x
 nolimit:base.NoLimit
structure Cx where
 prog:Program
 w:World
 K:W.Frag
 mg:Str->Option Value
 base:Heap
 A:Around
 N:List Str
 s₀:Shared
 H₀:Hp
 env:Env
 outer:List Env
 stack:List Env
 ex:List Addr
 fn:Str->Bool
 calm:Bool
 pn:List (Addr×Obj)
 xe:Value->Shared->Prop
def frs (l:List Env):List Addr:=l.filterMap (·.frame)
abbrev Cx.fs (X:Cx):List Addr:=frs X.outer
def Vis (sc:Scope) (x:Str):Prop:=sc.names.lookup x=some .local\/sc.names.lookup x=some .cell\/sc.names.lookup x=some .free
def Loc (sc:Scope) (x:Str):Prop:=sc.names.lookup x=some .local\/sc.names.lookup x=some .cell
def zv3 (env:Env) (h:Heap) (m:Str->Option Value) (x:Str) (u:Value):Prop:=
 (env.kindOf x=some .local/\m x=some u)\/((env.kindOf x=some .cell\/env.kindOf x=some .free)/\ ∃ c,env.cells.lookup x=some c/\h.IsCell c (some u))
def zio (A:Around) (H:Hp):Prop:=A.handled=none\/ ∃ a o cls head vs,A.handled=some (.ref a)/\H a=some (.frz o (.own 0))/\o.cls=cls/\o.dict=none/\o.data= .fields vs/\vs[2]? = some .none/\vs[1]? = some head
structure Cx.Ok (X:Cx):Prop where
 mod:Mod X.K X.mg X.base
 kind:X.env.scope.kind= .function
 glob:X.env.globals=mainGlobals
 blt:X.env.builtins=builtinsNs
 above:X.s₀.heap.objs.size<=X.env.locals
 inj: ∀ x y c,X.env.cells.lookup x=some c->X.env.cells.lookup y=some c->x=y
 has: ∀ x,(X.env.kindOf x=some .cell\/X.env.kindOf x=some .free)-> ∃ c,X.env.cells.lookup x=some c
 cab: ∀ x c,X.fn x=true->X.env.cells.lookup x=some c->X.s₀.heap.objs.size<=c
 hd:X.calm=true->X.A.handled=none
 hx:zio X.A X.H₀
 frames:X.A.frames=some X.stack
 stk:X.stack=X.outer\/(X.stack=X.env::X.outer/\X.env.frame=some X.env.locals)
 exf: ∀ b∈X.ex,b≠X.env.locals/\ ∀ x c,X.env.cells.lookup x=some c->c≠b
 bs: ∀ b o,X.base.get? b=some o->X.s₀.heap.get? b=some o/\X.H₀ b=none
 bsz:X.base.objs.size<=X.s₀.heap.objs.size
 noex: ∀ b o,X.base.get? b=some o->b∉X.ex
 exfs: ∀ b∈X.ex,b∉X.fs
 funs:X.s₀.heap.FunFrames X.base X.outer
 frf: ∀ b∈X.fs,X.H₀ b=none
structure Inv (X:Cx) (pins:List (Addr×Obj)) (σ:List (Option V)) (H:Hp) (s:Shared):Prop where
 ok:X.Ok
 os:s.os=X.s₀.os
 bare:AllBare s.gens
 base:Un X.fs X.ex X.H₀ H X.s₀.heap s.heap
 loc: ∃ m,s.heap.Ns X.env.locals m/\ ∀ (i:Nat) (x:Str) (v:V),X.N[i]? = some x->σ[i]? = some (some v)->Vis X.env.scope x-> ∃ u,zbO v u/\zv3 X.env s.heap m x u
 cell: ∀ x c,X.env.cells.lookup x=some c-> ∃ v,s.heap.IsCell c v
 free:H X.env.locals=none
 freeC: ∀ x c,X.env.cells.lookup x=some c->H c=none
 pin: ∀ p∈X.pn++pins,s.heap.get? p.1=some p.2/\H p.1=none/\p.1≠X.env.locals/\p.1∉X.fs/\ ∀ v,p.2.data≠ .cell v
 hok:HOk X.prog X.w H s.heap
 len:σ.length=X.N.length
section
variable {X:Cx} {pins:List (Addr×Obj)} {σ:List (Option V)} {H H':Hp} {s:Shared} {h':Heap}
theorem Cx.Ok.nofr (ok:X.Ok) {b:Addr} {o:Obj} (e:X.base.get? b=some o):b∉X.fs:=λhb=>by
 have:=(ok.funs.mem hb).1
 rw [e] at this;cases this
theorem Inv.bs (I:Inv X pins σ H s): ∀ b o,X.base.get? b=some o->s.heap.get? b=some o/\H b=none:=λb o e=>
 ⟨I.base.keep b o (I.ok.bs b o e).1 (I.ok.bs b o e).2 (I.ok.nofr e) (I.ok.noex b o e),I.base.free b o (I.ok.bs b o e).1 (I.ok.bs b o e).2 (I.ok.noex b o e)⟩
theorem Inv.bk (I:Inv X pins σ H s): ∀ b o,X.base.get? b=some o->s.heap.get? b=some o:=λb o e=>(I.bs b o e).1
theorem Inv.mod (I:Inv X pins σ H s):Mod X.K X.mg X.base:=I.ok.mod
theorem Inv.kIn (I:Inv X pins σ H s):X.K.In s.heap:=I.ok.mod.kin.keeps I.bk
theorem Inv.lt (I:Inv X pins σ H s):X.env.locals<s.heap.objs.size:=let ⟨_,hn,_⟩:=I.loc;hn.lt
theorem Inv.sz (I:Inv X pins σ H s):X.s₀.heap.objs.size<=s.heap.objs.size:=qaS I.ok.above (le_of_lt I.lt)
theorem Inv.nofs (I:Inv X pins σ H s) {a:Addr} (h:s.heap.objs.size<=a):a∉X.fs:=λhb=>by
 obtain ⟨_,o,ho,_⟩:=I.ok.funs.mem hb
 exact absurd (qaw (qaQ ho) (qaS I.sz h)) (qaN _)
theorem Inv.cne (I:Inv X pins σ H s): ∀ x c,X.env.cells.lookup x=some c->c≠X.env.locals:=λx c e z=>by
 obtain ⟨v,o,ho,hd⟩:=I.cell x c e
 obtain ⟨m,⟨o',es,ep,ho',hd',_⟩,_⟩:=I.loc
 rw [z,ho'] at ho;cases ho;rw [hd'] at hd;cases hd
theorem Inv.funs (I:Inv X pins σ H s):s.heap.FunFrames X.base X.outer:=by
 have all: ∀ (l:List Env),(∀ b∈frs l,b∈X.fs)->X.s₀.heap.FunFrames X.base l->s.heap.FunFrames X.base l:=by
  intro l
  induction l with
  | nil=>intro _ _;trivial
  | cons env r ih=>
   intro hs hl
   obtain ⟨hk,⟨L,o,hf,hn,ho,hd⟩,hr⟩:=hl
   have hL:L∈X.fs:=hs L (by unfold frs;rw [qat,hf];exact qau)
   obtain ⟨sl,e⟩:=I.base.slot L o ho (I.ok.frf L hL) hL λz=>I.ok.exfs L z hL
   exact ⟨hk,⟨L,_,hf,hn,e,hd⟩,ih (λb hb=>hs b (by unfold frs;rw [qat,hf];exact qan _ hb)) hr⟩
 exact all X.outer (λ_ hb=>hb) I.ok.funs
theorem Inv.stack (I:Inv X pins σ H s):s.heap.FunFrames X.base X.stack:=by
 rcases I.ok.stk with e | ⟨e,hf⟩
 ·rw [e];exact I.funs
 ·rw [e]
  obtain ⟨m,hn,_⟩:=I.loc
  refine .cons (by rw [I.ok.kind];decide) hf hn ?_ I.funs
  exact Heap.get?_none_of_le (qaS I.ok.bsz I.ok.above)
theorem Inv.stkSub (I:Inv X pins σ H s): ∀ b∈frs X.stack,b∈X.env.locals::X.fs:=λb hb=>by
 rcases I.ok.stk with e | ⟨e,hf⟩
 ·rw [e] at hb;exact qan _ hb
 ·rw [e] at hb
  unfold frs at hb
  rw [qat,hf] at hb
  exact hb
theorem Inv.stkFree (I:Inv X pins σ H s): ∀ b∈frs X.stack,H b=none:=λb hb=>by
 rcases qaP.mp (I.stkSub b hb) with e | hb
 ·rw [e];exact I.free
 ·obtain ⟨_,o,ho,_⟩:=I.ok.funs.mem hb
  exact I.base.free b o ho (I.ok.frf b hb) λz=>I.ok.exfs b z hb
theorem Inv.step {g':Array GenState} {t':Nat} {d':Drawn} {ch:List Addr} (I:Inv X pins σ H s)
  (hch: ∀ b∈ch,(b∈X.ex\/X.s₀.heap.objs.size<=b)/\b≠X.env.locals/\(∀ x c,X.env.cells.lookup x=some c->c≠b)/\ ∀ p∈X.pn++pins,p.1≠b)
  (keep: ∀ b o,b≠X.env.locals->b∉X.fs->b∉ch->s.heap.get? b=some o->H b=none->h'.get? b=some o)
  (slot: ∀ b o,b≠X.env.locals->b∈X.fs->b∉ch->s.heap.get? b=some o->H b=none-> ∃ sl,h'.get? b=some {o with slots:=sl}) (free: ∀ b o,b∉ch->s.heap.get? b=some o->H b=none->H' b=none)
  (there: ∀ b o,b∉ch->s.heap.get? b=some o-> ∃ o',h'.get? b=some o')
  (tups: ∀ b xs,H b=some (.tup xs)->H' b=some (.tup xs)) (frzs: ∀ b o u,H b=some (.frz o u)->H' b=some (.frz o u)) (tbls: ∀ b ps,H b=some (.tbl ps)-> ∃ more,H' b=some (.tbl (ps++more)))
  (ns: ∀ m,s.heap.Ns X.env.locals m->h'.Ns X.env.locals m) (hok:HOk X.prog X.w H' h') (hg:AllBare g'):
  Inv X pins σ H' {s with heap:=h',gens:=g',drawn:=d',toks:=t'}:=by
 have neL: ∀ b o,X.s₀.heap.get? b=some o->b≠X.env.locals:=λb o e=>qaR (qaw (qaQ e) I.ok.above)
 have neC: ∀ b o,X.s₀.heap.get? b=some o->b∉X.ex->b∉ch:=λb o e hx hb=>by
  rcases (hch b hb).1 with z | z
  ·exact hx z
  ·exact absurd (qaw (qaQ e) z) (qaN _)
 have cellK: ∀ x c,X.env.cells.lookup x=some c-> ∀ v,s.heap.IsCell c v->h'.IsCell c v:=λx c e v ⟨o,ho,hd⟩=>by
  have nch:c∉ch:=λz=>(hch c z).2.2.1 x c e rfl
  by_cases hc:c∈X.fs
  ·obtain ⟨sl,q⟩:=slot c o (I.cne x c e) hc nch ho (I.freeC x c e)
   exact ⟨_,q,hd⟩
  ·exact ⟨o,keep c o (I.cne x c e) hc nch ho (I.freeC x c e),hd⟩
 refine ⟨I.ok,I.os,hg,⟨λb o e n hb hx=> ?_,λb o e n hb hx=> ?_,λb o e n hx=> ?_,λb o e hx=> ?_,λb xs e=>tups b xs (I.base.tups b xs e),λb o xs e=>frzs b o xs (I.base.frzs b o xs e),λb ps e=> ?_⟩,?_,λx c e=> ?_,?_,λx c e=> ?_,λp hp=> ?_,hok,I.len⟩
 ·exact keep b o (neL b o e) hb (neC b o e hx) (I.base.keep b o e n hb hx) (I.base.free b o e n hx)
 ·obtain ⟨sl,e1⟩:=I.base.slot b o e n hb hx
  obtain ⟨sl',e2⟩:=slot b _ (neL b o e) hb (neC b o e hx) e1 (I.base.free b o e n hx)
  exact ⟨sl',e2⟩
 ·obtain ⟨o',e1⟩:=I.base.there b o e hx
  exact free b o' (neC b o e hx) e1 (I.base.free b o e n hx)
 ·obtain ⟨o',e1⟩:=I.base.there b o e hx
  exact there b o' (neC b o e hx) e1
 ·obtain ⟨m1,e1⟩:=I.base.tbls b ps e
  obtain ⟨m2,e2⟩:=tbls b _ e1
  exact ⟨m1++m2,by rw [e2,Array.append_assoc]⟩
 ·obtain ⟨m,hn,hl⟩:=I.loc
  refine ⟨m,ns m hn,λi x v e1 e2 e3=> ?_⟩
  obtain ⟨u,r,l⟩:=hl i x v e1 e2 e3
  refine ⟨u,r,?_⟩
  rcases l with l | ⟨k,c,e,z⟩
  ·exact .inl l
  ·exact .inr ⟨k,c,e,cellK x c e _ z⟩
 ·obtain ⟨v,z⟩:=I.cell x c e
  exact ⟨v,cellK x c e v z⟩
 ·obtain ⟨m,⟨o,_,_,ho,_⟩,_⟩:=I.loc
  exact free _ o (λz=>(hch _ z).2.1 rfl) ho I.free
 ·obtain ⟨v,o,ho,hd⟩:=I.cell x c e
  exact free c o (λz=>(hch c z).2.2.1 x c e rfl) ho (I.freeC x c e)
 ·obtain ⟨e,n,ne,nf,d⟩:=I.pin p hp
  have nch:p.1∉ch:=λz=>(hch p.1 z).2.2.2 p hp rfl
  exact ⟨keep p.1 p.2 ne nf nch e n,free p.1 p.2 nch e n,ne,nf,d⟩
theorem Inv.un {t':Nat} (I:Inv X pins σ H s) (u:Un X.fs [] H H' s.heap h') (hok:HOk X.prog X.w H' h'):Inv X pins σ H' {s with heap:=h',toks:=t'}:=by
 obtain ⟨m,⟨o,es,ep,ho,r⟩,_⟩:=id I.loc
 obtain ⟨sl,hL⟩:=u.any ho I.free (by simp)
 exact I.step (g':=s.gens) (d':=s.drawn) (ch:=[]) (λ_ z=>nomatch z) (λb o _ hb _ e n=>u.keep b o e n hb (by simp)) (λb o _ hb _ e n=>u.slot b o e n hb (by simp)) (λb o _ e n=>u.free b o e n (by simp)) (λb o _ e=>u.there b o e (by simp)) u.tups u.frzs u.tbls (λm' hm=>by
   obtain ⟨o',es',ep',ho',r'⟩:=hm
   rw [ho] at ho';cases ho'
   exact ⟨_,es',ep',hL,r'⟩) hok I.bare
theorem Inv.call {g':Array GenState} {t':Nat} {d':Drawn} {ch:List Addr} (I:Inv X pins σ H s) (u:Un (frs X.stack) ch H H' s.heap h') (hok:HOk X.prog X.w H' h') (hg:AllBare g')
  (hch: ∀ b∈ch,(b∈X.ex\/X.s₀.heap.objs.size<=b)/\b≠X.env.locals/\(∀ x c,X.env.cells.lookup x=some c->c≠b)/\ ∀ p∈X.pn++pins,p.1≠b):
  Inv X pins σ H' {s with heap:=h',gens:=g',drawn:=d',toks:=t'}:=by
 obtain ⟨m,⟨o,es,ep,ho,r⟩,_⟩:=id I.loc
 obtain ⟨sl,hL⟩:=u.any ho I.free λz=>(hch _ z).2.1 rfl
 exact I.step (ch:=ch) hch (λb o hL hb hc e n=>u.keep b o e n (λz=>(qaP.mp (I.stkSub b z)).elim hL hb) hc) (λb o _ _ hc e n=>u.any e n hc) (λb o hc e n=>u.free b o e n hc) (λb o hc e=>u.there b o e hc) u.tups u.frzs u.tbls (λm' hm=>by
   obtain ⟨o',es',ep',ho',r'⟩:=hm
   rw [ho] at ho';cases ho'
   exact ⟨_,es',ep',hL,r'⟩) hok hg
theorem Inv.turned {t':Nat} {it:Addr} (I:Inv X pins σ H s) (k: ∀ b o,b≠it->s.heap.get? b=some o->h'.get? b=some o) (hn:H it=none) (hL:it≠X.env.locals)
  (h1:it∈X.ex\/X.s₀.heap.objs.size<=it) (h2: ∀ x c,X.env.cells.lookup x=some c->c≠it) (h3: ∀ p∈X.pn++pins,p.1≠it):Inv X pins σ H {s with heap:=h',toks:=t'}:=by
 have nit: ∀ b u,H b=some u->b≠it:=λb u e z=>by rw [z,hn] at e;cases e
 refine I.step (g':=s.gens) (d':=s.drawn) (ch:=[it]) (λb hb=> ?_) (λb o _ _ hc e _=>k b o (λz=>hc (by simp [z])) e) (λb o _ _ hc e _=>⟨o.slots,k b o (λz=>hc (by simp [z])) e⟩) (λ_ _ _ _ n=>n)
  (λb o hc e=>⟨o,k b o (λz=>hc (by simp [z])) e⟩) (λ_ _ e=>e) (λ_ _ _ e=>e) (λb ps e=>⟨#[],by rw [e];simp⟩) (λm hm=> ?_) (λb u e=> ?_) I.bare
 ·have e:b=it:=by simpa using hb
  subst e
  exact ⟨h1,hL,h2,h3⟩
 ·obtain ⟨o,es,ep,ho,r⟩:=hm
  exact ⟨o,es,ep,k _ o (Ne.symm hL) ho,r⟩
 ·refine (I.hok b u e).stay (λc v hc q=>k c v ?_ q) (λ_ q=>q) λ_ _ q=>q
  rcases hc with z | z
  ·rw [z];exact nit b u e
  ·exact nit c _ z
theorem Inv.tok (I:Inv X pins σ H s) (t:Nat):Inv X pins σ H {s with toks:=t}:=I.un (h':=s.heap) (t':=t) Un.refl I.hok
theorem Inv.kept {t':Nat} (I:Inv X pins σ H s) (k: ∀ b u,s.heap.get? b=some u->h'.get? b=some u):Inv X pins σ H {s with heap:=h',toks:=t'}:=I.un (Un.kept k) (I.hok.kept k)
theorem Inv.laid {a:Addr} {o:HO} {t':Nat} (I:Inv X pins σ H s) (k: ∀ b u,s.heap.get? b=some u->h'.get? b=some u) (hp:s.heap.objs.size<=a) (new:zcf X.prog X.w (upd H a o) h' a o):
  Inv X pins σ (upd H a o) {s with heap:=h',toks:=t'}:=I.un (Un.laid k hp (I.hok.fresh hp)) (I.hok.laid k hp new)
theorem Inv.write {x e:Addr} {o:HO} {t':Nat} (I:Inv X pins σ H s) (mu:Mut (H x)) (he:e=x\/H e=some (.own x)) (k: ∀ b u,b≠e->s.heap.get? b=some u->h'.get? b=some u) (heo: ∃ u,h'.get? e=some u)
  (new:zcf X.prog X.w (upd H x o) h' x o):Inv X pins σ (upd H x o) {s with heap:=h',toks:=t'}:=I.un (Un.write mu he k heo) (I.hok.write mu he k heo new)
theorem Inv.pins_of {pins':List (Addr×Obj)} (I:Inv X pins σ H s) (h: ∀ p∈pins',s.heap.get? p.1=some p.2/\H p.1=none/\p.1≠X.env.locals/\p.1∉X.fs/\ ∀ v,p.2.data≠ .cell v):Inv X pins' σ H s:=
 ⟨I.ok,I.os,I.bare,I.base,I.loc,I.cell,I.free,I.freeC,λp hp=>(qaK.mp hp).elim (λz=>I.pin p (mem_append_left _ z)) (h p),I.hok,I.len⟩
theorem zkn {N:List Str} (hN:N.Nodup) {i j:Nat} {x:Str} (a:N[i]? = some x) (b:N[j]? = some x):i=j:=by
 obtain ⟨h1,e1⟩:=qac.mp a
 obtain ⟨h2,e2⟩:=qac.mp b
 exact (List.getElem_inj hN).mp (e1.trans e2.symm)
theorem zl5 {M:Model} {A:Around} {E:Value->Shared->Prop} {i:Nat} {x:Str} {v:V} {u:Value} {Q:Unit->Shared->Prop} (I:Inv X pins σ H s) (hN:X.N.Nodup) (hi:X.N[i]? = some x) (hx:Loc X.env.scope x) (r:zbO v u)
  (h: ∀ s',Inv X pins (σ.set i (some v)) H s'->(∃ a,Heap.SameBut a s.heap s'.heap/\(a=X.env.locals\/X.env.cells.lookup x=some a))->Q () s') (hf:X.fn x=true\/X.env.scope.names.lookup x=some .local:=by first | exact .inl rfl | exact .inr rfl | assumption):wpAny M A (storeName X.env x u) Q E s:=by
 obtain ⟨m,hn,hl⟩:=id I.loc
 have hcls:(X.env.scope.kind== .class || (X.env.scope.kind== .module && X.env.locals != X.env.globals))=false:=by rw [I.ok.kind];rfl
 have hiσ:i<σ.length:=by rw [I.len];exact (qac.mp hi).1
 have cne:=I.cne
 have tracked: ∀ {a:Addr} {h':Heap},(∃ o,s.heap.get? a=some o/\H a=none)->Heap.SameBut a s.heap h'->HOk X.prog X.w H h':=λ{a h'} ha hs b ob e=>by
  obtain ⟨_,_,hfree⟩:=ha
  refine (I.hok b ob e).stay (λc w' hc q=>(hs.2 c ?_).trans q) (λ_ q=>q) λ_ _ q=>q
  rintro rfl
  rcases hc with rfl | hc
  ·rw [hfree] at e;cases e
  ·rw [hfree] at hc;cases hc
 rcases hx with hk | hk
 ·refine wpAny_storeName_local hk hn (λh' hn' hs=> ?_) hcls
  obtain ⟨oL,_,_,hoL,_⟩:=id hn
  refine h _ ⟨I.ok,I.os,I.bare,⟨λb o e n hb hx=> ?_,λb o e n hb hx=> ?_,I.base.free,λb o e hx=> ?_,I.base.tups,I.base.frzs,I.base.tbls⟩,⟨_,hn',λj y v' e1 e2 e3=> ?_⟩,λy c e=> ?_,I.free,I.freeC,λp hp=> ?_,tracked ⟨oL,hoL,I.free⟩ hs,by simpa using I.len⟩ ⟨_,hs,.inl rfl⟩
  ·exact (hs.2 b (qaR (qaw (qaQ e) I.ok.above))).trans (I.base.keep b o e n hb hx)
  ·obtain ⟨sl,e1⟩:=I.base.slot b o e n hb hx
   exact ⟨sl,(hs.2 b (qaR (qaw (qaQ e) I.ok.above))).trans e1⟩
  ·obtain ⟨o',e1⟩:=I.base.there b o e hx
   exact ⟨o',(hs.2 b (qaR (qaw (qaQ e) I.ok.above))).trans e1⟩
  ·by_cases hj:j=i
   ·subst hj
    rw [hi] at e1;cases e1
    rw [qai hiσ] at e2
    cases e2
    exact ⟨u,r,.inl ⟨hk,by simp⟩⟩
   ·rw [qao (Ne.symm hj)] at e2
    obtain ⟨u',r',q⟩:=hl j y v' e1 e2 e3
    refine ⟨u',r',?_⟩
    rcases q with ⟨k,e⟩ | ⟨k,c,e,z⟩
    ·refine .inl ⟨k,?_⟩
     have:y≠x:=λe=>hj (zkn hN e1 (e▸hi))
     simp [this,e]
    ·exact .inr ⟨k,c,e,z.sameBut hs (cne y c e)⟩
  ·obtain ⟨w',z⟩:=I.cell y c e
   exact ⟨w',z.sameBut hs (cne y c e)⟩
  ·obtain ⟨e,n,ne,nf,d⟩:=I.pin p hp
   exact ⟨(hs.2 p.1 ne).trans e,n,ne,nf,d⟩
 ·have hfn:X.fn x=true:=by
   rcases hf with z | z
   ·exact z
   ·rw [z] at hk;cases hk
  obtain ⟨c,hc⟩:=I.ok.has x (.inl hk)
  obtain ⟨w',z⟩:=I.cell x c hc
  refine wpAny_storeName_cell I.ok.kind hk hc z (λh' hc' hs=> ?_)
  obtain ⟨oc,hoc,hocd⟩:=id z
  refine h {s with heap:=h'} ⟨I.ok,I.os,I.bare,⟨λb o e n hb hx=> ?_,λb o e n hb hx=> ?_,I.base.free,λb o e hx=> ?_,I.base.tups,I.base.frzs,I.base.tbls⟩,⟨m,hn.sameBut hs (Ne.symm (cne x c hc)),λj y v' e1 e2 e3=> ?_⟩,λy c' e=> ?_,I.free,I.freeC,λp hp=> ?_,tracked ⟨oc,hoc,I.freeC x c hc⟩ hs,by simpa using I.len⟩ ⟨c,hs,.inr hc⟩
  ·exact (hs.2 b (qaR (qaw (qaQ e) (I.ok.cab x c hfn hc)))).trans (I.base.keep b o e n hb hx)
  ·obtain ⟨sl,e1⟩:=I.base.slot b o e n hb hx
   exact ⟨sl,(hs.2 b (qaR (qaw (qaQ e) (I.ok.cab x c hfn hc)))).trans e1⟩
  ·obtain ⟨o',e1⟩:=I.base.there b o e hx
   exact ⟨o',(hs.2 b (qaR (qaw (qaQ e) (I.ok.cab x c hfn hc)))).trans e1⟩
  ·by_cases hj:j=i
   ·subst hj
    rw [hi] at e1;cases e1
    rw [qai hiσ] at e2
    cases e2
    exact ⟨u,r,.inr ⟨.inl hk,c,hc,hc'⟩⟩
   ·rw [qao (Ne.symm hj)] at e2
    obtain ⟨u',r',q⟩:=hl j y v' e1 e2 e3
    refine ⟨u',r',?_⟩
    rcases q with q | ⟨k,c',e,z'⟩
    ·exact .inl q
    ·refine .inr ⟨k,c',e,z'.sameBut hs ?_⟩
     rintro rfl
     exact hj (zkn hN e1 (I.ok.inj _ _ _ e hc▸hi))
  ·by_cases hcc:c'=c
   ·subst hcc;exact ⟨_,hc'⟩
   ·obtain ⟨w2,z2⟩:=I.cell y c' e
    exact ⟨w2,z2.sameBut hs hcc⟩
  ·obtain ⟨e,n,ne,nf,d⟩:=I.pin p hp
   refine ⟨(hs.2 p.1 ?_).trans e,n,ne,nf,d⟩
   intro q
   rw [q,hoc] at e
   have q':oc=p.2:=Option.some.inj e
   exact d w' (by rw [<- q'];exact hocd)
theorem zht {M:Model} {A:Around} {E:Value->Shared->Prop} {i:Nat} {x:Str} {v:V} {u:Value} {Q:Unit->Shared->Prop} (I:Inv X pins σ H s) (hN:X.N.Nodup) (hi:X.N[i]? = some x) (hx:Loc X.env.scope x) (r:zbO v u)
  (h: ∀ s',Inv X pins (σ.set i (some v)) H s'->Q () s') (hf:X.fn x=true\/X.env.scope.names.lookup x=some .local:=by first | exact .inl rfl | exact .inr rfl | assumption):wpAny M A (storeName X.env x u) Q E s:=
 zl5 I hN hi hx r (λs' I' _=>h s' I') hf
theorem Inv.call' {s':Shared} {ch:List Addr} (I:Inv X pins σ H s) (ho:s'.os=s.os) (u:Un (frs X.stack) ch H H' s.heap s'.heap) (hok:HOk X.prog X.w H' s'.heap) (hg:AllBare s'.gens)
  (hch: ∀ b∈ch,(b∈X.ex\/X.s₀.heap.objs.size<=b)/\b≠X.env.locals/\(∀ x c,X.env.cells.lookup x=some c->c≠b)/\ ∀ p∈X.pn++pins,p.1≠b):Inv X pins σ H' s':=by
 obtain ⟨h',g',d',t',o'⟩:=s'
 have e:o'=s.os:=ho
 subst e
 exact I.call (g':=g') (t':=t') (d':=d') u hok hg hch
end
abbrev XK:=Value->Option Addr->Hp->Prop
abbrev St:=List (Option V)
abbrev VK:=V->Hp->Prop
abbrev TE:=St->Hp->VK->Prop
abbrev TT:=St->Hp->(Bool->Hp->Prop)->Prop
abbrev TA:=St->Hp->(List V->Hp->Prop)->Prop
structure zrQ where
 nx:St->Hp->Prop
 rt:VK
 bk:St->Hp->Prop:=λ_ _=>False
 ct:St->Hp->Prop:=λ_ _=>False
abbrev TS:=zrQ->St->Hp->Prop
def EP (X:Cx) (pins:List (Addr×Obj)) (σ:St) (Q:VK) (u:Value) (s':Shared):Prop:= ∃ v H',Inv X pins σ H' s'/\zbO v u/\Q v H'
def TP (X:Cx) (pins:List (Addr×Obj)) (σ:St) (Q:Bool->Hp->Prop) (b:Bool) (s':Shared):Prop:= ∃ H',Inv X pins σ H' s'/\Q b H'
def AP (X:Cx) (pins:List (Addr×Obj)) (σ:St) (Q:List V->Hp->Prop) (us:List Value) (s':Shared):Prop:= ∃ vs H',Inv X pins σ H' s'/\za4 vs us/\Q vs H'
def SP (X:Cx) (pins:List (Addr×Obj)) (D:zrQ) (f:Flow) (s':Shared):Prop:=
 match f with
 | .next=> ∃ σ' H',Inv X pins σ' H' s'/\D.nx σ' H'
 | .brk=> ∃ σ' H',Inv X pins σ' H' s'/\D.bk σ' H'
 | .cont=> ∃ σ' H',Inv X pins σ' H' s'/\D.ct σ' H'
 | .ret u=> ∃ v σ' H',Inv X pins σ' H' s'/\zbO v u/\D.rt v H'
def PE (X:Cx) (e:Expr) (t:TE):Prop:=
 ∀ (pins:List (Addr×Obj)) (s:Shared) (σ:St) (H:Hp) (Q:VK),Inv X pins σ H s->t σ H Q->wpAny (model X.prog X.w) X.A (eval e X.env) (EP X pins σ Q) X.xe s
def PT (X:Cx) (e:Expr) (t:TT):Prop:=
 ∀ (pins:List (Addr×Obj)) (s:Shared) (σ:St) (H:Hp) (Q:Bool->Hp->Prop),Inv X pins σ H s->t σ H Q->wpAny (model X.prog X.w) X.A (isTrue e X.env (eval e X.env)) (TP X pins σ Q) X.xe s
def PW (X:Cx) (e:Expr) (t:TT):Prop:=
 ∀ (whole:Sem Value) (pins:List (Addr×Obj)) (s:Shared) (σ:St) (H:Hp) (Q:Bool->Hp->Prop),Inv X pins σ H s->t σ H Q->wpAny (model X.prog X.w) X.A (isTrue e X.env whole) (TP X pins σ Q) X.xe s
theorem PW.pt {X:Cx} {e:Expr} {t:TT} (h:PW X e t):PT X e t:=h _
def PA (X:Cx) (es:List Expr) (t:TA):Prop:=
 ∀ (pos:Pos) (pins:List (Addr×Obj)) (s:Shared) (σ:St) (H:Hp) (Q:List V->Hp->Prop),Inv X pins σ H s->t σ H Q->wpAny (model X.prog X.w) X.A (spliced (backTo pos (starEach es X.env))) (AP X pins σ Q) X.xe s
def PS (X:Cx) (st:Stmt) (t:TS):Prop:=
 ∀ (pins:List (Addr×Obj)) (s:Shared) (σ:St) (H:Hp) (D:zrQ),Inv X pins σ H s->t D σ H->wpAny (model X.prog X.w) X.A (exec st X.env) (SP X pins D) X.xe s
def PSs (X:Cx) (st:List Stmt) (t:TS):Prop:=
 ∀ (pins:List (Addr×Obj)) (s:Shared) (σ:St) (H:Hp) (D:zrQ),Inv X pins σ H s->t D σ H->wpAny (model X.prog X.w) X.A (execs st X.env) (SP X pins D) X.xe s
theorem thn {α:Type} {t:Sem α} {Q Q':α->Shared->Prop} {M:Model} {A:Around} {E:Value->Shared->Prop} {s:Shared} (h:wpAny M A t Q E s) (hQ: ∀ a s,Q a s->Q' a s):wpAny M A t Q' E s:=qaZ h hQ λ_ _ x=>x
section
variable {X:Cx}
def zvR (i:Nat):TE:=λσ H Q=> ∃ v,σ[i]? = some (some v)/\Q v H
def tC (v:V):TE:=λ_ H Q=>Q v H
theorem zpj {i:Nat} {x:Str} {pos:Pos} (hN:X.N[i]? = some x) (hv:Vis X.env.scope x) (hd:(x==("__debug__":Str))=false:=by decide) (hcd:(x==("__classdict__":Str))=false:=by decide):PE X (.Name x pos) (zvR i):=by
 intro pins s σ H Q I h
 obtain ⟨v,e,h⟩:=h
 obtain ⟨m,hn,hl⟩:=I.loc
 obtain ⟨u,r,l⟩:=hl i x v hN e hv
 have fin:EP X pins σ Q u s:=⟨v,H,I,r,h⟩
 rcases l with ⟨hk,hm⟩ | ⟨hk,c,hc,hcell⟩
 ·exact wpAny_Name (wpAny_loadName_local I.ok.kind hk hn hm fin) hd
 ·rcases hk with hk | hk
  ·exact wpAny_Name (wpAny_loadName_cell I.ok.kind hk hc hcell fin) hd
  ·exact wpAny_Name (wpAny_loadName_free I.ok.kind hk hc hcell fin hcd) hd
theorem zpJ {i j pos}:PE X (.Constant (.int i) j pos) (tC (.int i)):=λ_ _ _ H _ I h=>wpAny_Constant_int ⟨.int i,H,I.tok _,⟨_,rfl⟩,h⟩
theorem zuT {b j pos}:PE X (.Constant (.bool b) j pos) (tC (.bl b)):=λ_ _ _ H _ I h=>Constant_bool ⟨.bl b,H,I,rfl,h⟩
def Gl (X:Cx) (x:Str):Prop:=X.env.kindOf x=some .globalImplicit
theorem zjg {E:Value->Shared->Prop} {pins:List (Addr×Obj)} {s:Shared} {σ:St} {H:Hp} {x:Str} {u:Value} {pos:Pos} {Q:Value->Shared->Prop} (I:Inv X pins σ H s) (hg:Gl X x) (hm:X.mg x=some u) (h:Q u s)
  (hd:(x==("__debug__":Str))=false:=by decide):wpAny (model X.prog X.w) X.A (eval (.Name x pos) X.env) Q E s:=
 Calls.Name_function_global I.ok.kind hg (Calls.loadGlobal_global (by rw [I.ok.glob];exact I.mod.glob.keeps I.bk) hm h) hd
theorem zgQ {E:Value->Shared->Prop} {pins:List (Addr×Obj)} {s:Shared} {σ:St} {H:Hp} {x:Str} {u:Value} {pos:Pos} {Q:Value->Shared->Prop} (I:Inv X pins σ H s) (hg:Gl X x) (hm:X.mg x=none) (hv:bootBuiltins x=some u) (h:Q u s)
  (hn:x≠"__name__":=by decide) (hd:(x==("__debug__":Str))=false:=by decide):wpAny (model X.prog X.w) X.A (eval (.Name x pos) X.env) Q E s:=by
 obtain ⟨mb,h1,h2⟩:=I.mod.blt
 exact Calls.Name_function_global I.ok.kind hg (Calls.loadGlobal_builtin (by rw [I.ok.glob];exact I.mod.glob.keeps I.bk) hm (by rw [I.ok.blt];exact h1.keeps I.bk) ((h2 x hn).trans hv) h) hd
theorem zqS {x:Str} {v:V} {u:Value} {pos:Pos} (hg:Gl X x) (hm:X.mg x=some u) (r:zbO v u) (hd:(x==("__debug__":Str))=false:=by decide):PE X (.Name x pos) (tC v):=
 λ_ _ _ H _ I h=>zjg I hg hm ⟨v,H,I,r,h⟩ hd
theorem zqa {x:Str} {v:V} {u:Value} {pos:Pos} (hg:Gl X x) (hm:X.mg x=none) (hv:bootBuiltins x=some u) (r:zbO v u) (hn:x≠"__name__":=by decide) (hd:(x==("__debug__":Str))=false:=by decide):PE X (.Name x pos) (tC v):=
 λ_ _ _ H _ I h=>zgQ I hg hm hv ⟨v,H,I,r,h⟩ hn hd
def t2I (ta tb:TE) (k:Int->Int->Hp->Prop):St->Hp->Prop:=λσ H=>ta σ H λx H1=>tb σ H1 λy H2=> ∃ i j,x= .int i/\y= .int j/\k i j H2
variable {a b:Expr} {ta tb:TE} {pos:Pos}
def zdz (p:Int->Int->Bool) (ta tb:TE):TE:=λσ H Q=>t2I ta tb (λi j H2=>Q (.bl (p i j)) H2) σ H
def tB (t:TE):TT:=λσ H Q=>t σ H λx H1=> ∃ c,x= .bl c/\Q c H1
theorem zsK {e:Expr} {t:TE} (h:PE X e t) (he: ∀ whole,isTrue e X.env whole=(do let v<-whole;standAt e.pos;holding [v] (truthy v)):=by intro _;rfl):PT X e (tB t):=by
 intro pins s σ H Q I hw
 refine isTrue_plain (thn (h pins s σ H _ I hw) λv s1 ⟨x,H1,I1,r1,q1⟩=> ?_) (he _)
 obtain ⟨d,rfl,q⟩:=q1
 cases r1
 exact wpAny_truthy_bool ⟨H1,I1,q⟩
variable {tA tB':TT} {zc2:List Expr}
def zvP (t u:TT):TT:=λσ H Q=>t σ H λc H1=>if c=true then u σ H1 Q else Q false H1
def tOr (t u:TT):TT:=λσ H Q=>t σ H λc H1=>if c=true then Q true H1 else u σ H1 Q
def zgg (t:TT):TT:=λσ H Q=>t σ H λc H1=>Q (!c) H1
theorem pw_or1 (ha:PT X a tA):PW X (.BoolOp .Or [a] pos) tA:=by
 intro wh pins s σ H Q I h
 refine isTrue_or (thn (ha pins s σ H Q I h) λc s1 e=> ?_)
 cases c with
 | false=>exact isTrue_or_nil e
 | true=>exact e
theorem pw_or (ha:PT X a tA) (hb:PW X (.BoolOp .Or (b::zc2) pos) tB'):PW X (.BoolOp .Or (a::b::zc2) pos) (tOr tA tB'):=by
 intro wh pins s σ H Q I h
 refine isTrue_or (thn (ha pins s σ H _ I h) λc s1 ⟨H1,I1,q1⟩=> ?_)
 cases c with
 | true=>exact ⟨H1,I1,q1⟩
 | false=>exact hb wh pins s1 σ H1 Q I1 q1
theorem ztl (ha:PT X a tA):PT X (.UnaryOp .Not a pos) (zgg tA):=by
 intro pins s σ H Q I h
 exact isTrue_not (ha pins s σ H (λc H1=>Q (!c) H1) I h)
def zuN (ta tb:TE):TE:=λσ H Q=>ta σ H λx H1=> ∃ c,x= .bl c/\if c=true then tb σ H1 Q else Q (.bl false) H1
def zu8 (ta:TE):TE:=λσ H Q=>ta σ H λx H1=> ∃ c,x= .bl c/\Q (.bl (!c)) H1
theorem zt3 {op} {t:TE} (h:PE X a t):PE X (.BoolOp op [a] pos) t:=λpins s σ H Q I hw=>BoolOp_one (h pins s σ H Q I hw)
theorem zt9 (ha:PE X a ta) (hb:PE X (.BoolOp .And (b::zc2) pos) tb):PE X (.BoolOp .And (a::b::zc2) pos) (zuN ta tb):=by
 intro pins s σ H Q I h
 refine BoolOp_and (thn (ha pins s σ H _ I h) λv s1 ⟨x,H1,I1,r1,q1⟩=> ?_)
 obtain ⟨c,rfl,q1⟩:=q1
 cases r1
 refine wpAny_truthy_bool ?_
 cases c with
 | true=>exact hb pins s1 σ H1 Q I1 q1
 | false=>exact ⟨.bl false,H1,I1,rfl,q1⟩
theorem zs8 (ha:PE X a ta):PE X (.UnaryOp .Not a pos) (zu8 ta):=by
 intro pins s σ H Q I h
 refine UnaryOp_ (thn (ha pins s σ H _ I h) λv s1 ⟨x,H1,I1,r1,q1⟩=> ?_)
 obtain ⟨c,rfl,q1⟩:=q1
 cases r1
 exact not_of (wpAny_truthy_bool ⟨.bl (!c),H1,I1,rfl,q1⟩)
end
def SqL (K:W.Frag) (H:Hp) (a:Addr) (xs:List V):Prop:=
 Rd H a (.lst xs)\/
  ∃ (o:Obj) (its:Array Value) (n:Nat),K.lookup a=some o/\o.cls= .type "list"/\o.dict=none/\o.data= .seq its n/\its.size<=sizeLine/\za4 xs its.toList
def SqT (K:W.Frag) (H:Hp) (a:Addr) (xs:List V):Prop:=
 Rd H a (.tup xs)\/
  ∃ (o:Obj) (its:Array Value) (n:Nat),K.lookup a=some o/\o.cls= .type "tuple"/\o.dict=none/\o.data= .seq its n/\its.size<=sizeLine/\za4 xs its.toList
def zwq:Value->Option V
 | .none=>some .non
 | .bool b=>some (.bl b)
 | .int i _=>some (.int i)
 | .str x _=>some (.str x)
 | .bytes b _=>some (.byt b)
 | .float b _=>some (.flt b)
 | .ref a=>some (.ref a)
 | .type n=>some (.ty n)
 | _=>none
theorem zbO.abs {x:V} {u:Value} (r:zbO x u):zwq u=some x:=by
 cases x with
 | non=>cases r;rfl
 | bl _=>cases r;rfl
 | int _=>obtain ⟨t,rfl⟩:=r;rfl
 | str _=>obtain ⟨t,rfl⟩:=r;rfl
 | byt _=>obtain ⟨t,rfl⟩:=r;rfl
 | flt _=>obtain ⟨t,rfl⟩:=r;rfl
 | ref _=>cases r;rfl
 | ty _=>cases r;rfl
theorem zbO.inj {x y:V} {u:Value} (r:zbO x u) (q:zbO y u):x=y:=Option.some.inj (r.abs.symm.trans q.abs)
theorem za4.inj: ∀ {xs ys:List V} {us:List Value},za4 xs us->za4 ys us->xs=ys
 | _,_,_,.nil,.nil=>rfl
 | _,_,_,.cons r t,.cons r' t'=>by rw [r.inj r',za4.inj t t']
section
variable {X:Cx} {pins:List (Addr×Obj)} {σ:St} {H:Hp} {s:Shared} {a:Addr} {xs ys:List V}
theorem SqL.of {K:W.Frag} (h:H a=some (.lst xs)):SqL K H a xs:= .inl (.inl h)
theorem Inv.list (I:Inv X pins σ H s) (h:SqL X.K H a xs): ∃ its:List Value,za4 xs its/\PlainL s.heap a its.toArray/\xs.length<=sizeLine:=by
 rcases h with h | ⟨o,its,n,hk,hc,hd,hs,hz,r⟩
 ·obtain ⟨z,its,n,r,e⟩:=h.ok I.hok
  exact ⟨its,r,⟨_,n,e,rfl,rfl,rfl⟩,z⟩
 ·refine ⟨its.toList,r,⟨o,n,I.kIn a o hk,hc,hd,by simpa using hs⟩,?_⟩
  have e:=r.length
  simp only [qas] at e
  omega
theorem Inv.tupleD (I:Inv X pins σ H s) (h:SqT X.K H a xs): ∃ its:List Value,za4 xs its/\zll s.heap a its.toArray/\xs.length<=sizeLine:=by
 rcases h with h | ⟨o,its,n,hk,hc,hd,hs,hz,r⟩
 ·obtain ⟨z,its,r,p⟩:=h.ok I.hok
  exact ⟨its,r,p,z⟩
 ·refine ⟨its.toList,r,⟨o,I.kIn a o hk,hc,n,by simpa using hs,hd⟩,?_⟩
  have e:=r.length
  simp only [qas] at e
  omega
theorem Inv.tuple (I:Inv X pins σ H s) (h:SqT X.K H a xs): ∃ its:List Value,za4 xs its/\IsTup s.heap a its.toArray/\xs.length<=sizeLine:=by
 obtain ⟨its,r,p,z⟩:=I.tupleD h
 exact ⟨its,r,p.is,z⟩
theorem Inv.list_inj (I:Inv X pins σ H s) (h:SqL X.K H a xs) (h':SqL X.K H a ys):xs=ys:=by
 obtain ⟨its,r,⟨o,n,e,_,_,d⟩,_⟩:=I.list h
 obtain ⟨its',r',⟨o',n',e',_,_,d'⟩,_⟩:=I.list h'
 rw [e] at e';cases e'
 rw [d] at d'
 injection d' with d1 _
 have:its=its':=by simpa using congrArg Array.toList d1
 subst this
 exact r.inj r'
theorem Inv.tuple_inj (I:Inv X pins σ H s) (h:SqT X.K H a xs) (h':SqT X.K H a ys):xs=ys:=by
 obtain ⟨its,r,⟨o,e,_,n,d⟩,_⟩:=I.tuple h
 obtain ⟨its',r',⟨o',e',_,n',d'⟩,_⟩:=I.tuple h'
 rw [e] at e';cases e'
 rw [d] at d'
 injection d' with d1 _
 have:its=its':=by simpa using congrArg Array.toList d1
 subst this
 exact r.inj r'
end
abbrev Cx.wish (X:Cx) (E:Value->Shared->Prop):Cx:={X with xe:=E}
abbrev Cx.nox (X:Cx):Cx:=X.wish λ_ _=>False
theorem Cx.Ok.wish {X:Cx} (ok:X.Ok) (E:Value->Shared->Prop):(X.wish E).Ok:=
 ⟨ok.mod,ok.kind,ok.glob,ok.blt,ok.above,ok.inj,ok.has,ok.cab,ok.hd,ok.hx,ok.frames,ok.stk,ok.exf,ok.bs,ok.bsz,ok.noex,ok.exfs,ok.funs,ok.frf⟩
theorem Cx.Ok.unwish {X:Cx} {E:Value->Shared->Prop} (ok:(X.wish E).Ok):X.Ok:=
 ⟨ok.mod,ok.kind,ok.glob,ok.blt,ok.above,ok.inj,ok.has,ok.cab,ok.hd,ok.hx,ok.frames,ok.stk,ok.exf,ok.bs,ok.bsz,ok.noex,ok.exfs,ok.funs,ok.frf⟩
section
variable {X:Cx} {pins:List (Addr×Obj)} {σ:St} {H:Hp} {s:Shared} {E:Value->Shared->Prop}
theorem Inv.wish (I:Inv X pins σ H s) (E:Value->Shared->Prop):Inv (X.wish E) pins σ H s:=⟨I.ok.wish E,I.os,I.bare,I.base,I.loc,I.cell,I.free,I.freeC,I.pin,I.hok,I.len⟩
theorem Inv.unwish (I:Inv (X.wish E) pins σ H s):Inv X pins σ H s:=⟨I.ok.unwish,I.os,I.bare,I.base,I.loc,I.cell,I.free,I.freeC,I.pin,I.hok,I.len⟩
theorem SP.unwish {D:zrQ} {f:Flow} {s':Shared} (h:SP (X.wish E) pins D f s'):SP X pins D f s':=by
 cases f with
 | next=>obtain ⟨σ',H',I,q⟩:=h;exact ⟨σ',H',I.unwish,q⟩
 | brk=>obtain ⟨σ',H',I,q⟩:=h;exact ⟨σ',H',I.unwish,q⟩
 | cont=>obtain ⟨σ',H',I,q⟩:=h;exact ⟨σ',H',I.unwish,q⟩
 | ret u=>obtain ⟨v,σ',H',I,r,q⟩:=h;exact ⟨v,σ',H',I.unwish,r,q⟩
theorem PSs.nox {st:List Stmt} {t:TS} (h:PSs X.nox st t):PSs X st t:=λpins s σ H D I hw=>
 qaZ (h pins s σ H D (I.wish _) hw) (λ_ _ q=>q.unwish) λ_ _ z=>qa0 z
end
section
variable {X:Cx} {st:Stmt} {zc2:List Stmt} {t u:TS} {e:Expr} {te:TE} {pos:Pos}
def zuZ:TS:=λD σ H=>D.nx σ H
def zwv (t u:TS):TS:=λD σ H=>t {D with nx:=u D} σ H
theorem zqB:PSs X [] zuZ:=λ_ _ σ H _ I h=>wpAny_execs_nil ⟨σ,H,I,h⟩
theorem zn9 (h1:PS X st t) (h2:PSs X zc2 u):PSs X (st::zc2) (zwv t u):=by
 intro pins s σ H D I h
 refine wpAny_execs_cons (thn (h1 pins s σ H {D with nx:=u D} I h) λf s1 q=> ?_)
 cases f with
 | next=>
  obtain ⟨σ',H',I',q⟩:=q
  exact h2 pins s1 σ' H' D I' q
 | ret v=>exact q
 | brk=>exact q
 | cont=>exact q
theorem zrB (h1:PS X st t):PSs X [st] t:=by
 intro pins s σ H D I h
 refine wpAny_execs_cons (thn (h1 pins s σ H D I h) λf s1 q=> ?_)
 cases f with
 | next=>exact wpAny_execs_nil q
 | ret v=>exact q
 | brk=>exact q
 | cont=>exact q
theorem Inv.quiet {pins:List (Addr×Obj)} {σ:St} {H:Hp} {s:Shared} (I:Inv X pins σ H s):interactive X.env=false:=by simp [interactive,I.ok.kind]
def zuW (te:TE):TS:=λD σ H=>te σ H λ_ H1=>D.nx σ H1
theorem zqD (he:PE X e te) (hs:swapsWith e none pos.line X.env=pure false:=by rfl):PS X (.Expr e pos) (zuW te):=by
 intro pins s σ H D I h
 exact wpAny_Expr_any (thn (he pins s σ H _ I h) λv s1 ⟨x,H1,I1,r1,q1⟩=>⟨σ,H1,I1,q1⟩) I.quiet hs
def zwf (te:TE):TS:=λD σ H=>te σ H D.rt
theorem ztC (he:PE X e te):PS X (.Return (some e) pos) (zwf te):=by
 intro pins s σ H D I h
 exact wpAny_Return_some (thn (he pins s σ H _ I h) λv s1 ⟨x,H1,I1,r1,q1⟩=>⟨x,σ,H1,I1,r1,q1⟩)
def zv2 (c:TT) (t u:TS):TS:=λD σ H=>c σ H λb H1=>if b=true then t D σ H1 else u D σ H1
theorem zuK {c:Expr} {a b:List Stmt} {tc:TT} (hc:PT X c tc) (ha:PSs X a t) (hb:PSs X b u):PS X (.If c a b pos) (zv2 tc t u):=by
 intro pins s σ H D I h
 refine wpAny_If (thn (hc pins s σ H _ I h) λd s1 ⟨H1,I1,q1⟩=> ?_)
 cases d with
 | true=>exact ha pins s1 σ H1 D I1 q1
 | false=>exact hb pins s1 σ H1 D I1 q1
end
abbrev TG:=V->St->Hp->(St->Hp->Prop)->Prop
abbrev TGs:=List V->St->Hp->(St->Hp->Prop)->Prop
def PG (X:Cx) (target:Expr) (t:TG):Prop:=
 ∀ (pins:List (Addr×Obj)) (s:Shared) (σ:St) (H:Hp) (v:V) (u:Value) (Q:St->Hp->Prop),Inv X pins σ H s->zbO v u->t v σ H Q->
  wpAny (model X.prog X.w) X.A (assign target X.env u) (λ_ s'=> ∃ σ' H',Inv X pins σ' H' s'/\Q σ' H') X.xe s
def PGs (X:Cx) (ts:List Expr) (t:TGs):Prop:=
 ∀ (pins:List (Addr×Obj)) (s:Shared) (σ:St) (H:Hp) (vs:List V) (us:List Value) (Q:St->Hp->Prop),Inv X pins σ H s->za4 vs us->t vs σ H Q->
  wpAny (model X.prog X.w) X.A (assignInOrder ((assignEach ts X.env).map (·.2)) us) (λ_ s'=> ∃ σ' H',Inv X pins σ' H' s'/\Q σ' H') X.xe s
abbrev zuf:=V->V->V->Hp->(Hp->Prop)->Prop
def zvp (X:Cx) (t:zuf):Prop:=
 ∀ (pins:List (Addr×Obj)) (s:Shared) (σ:St) (H:Hp) (o i v:V) (ov iv u:Value) (Q:Hp->Prop),Inv X pins σ H s->zbO o ov->zbO i iv->zbO v u->t o i v H Q->
  wpAny (model X.prog X.w) X.A (setItem ov iv u) (λ_ s'=> ∃ H',Inv X pins σ H' s'/\Q H') X.xe s
section
variable {X:Cx} {pos:Pos}
def zpX (i:Nat):TG:=λv σ H Q=>Q (σ.set i (some v)) H
theorem zpN {i:Nat} {x:Str} (hN:X.N.Nodup) (hi:X.N[i]? = some x) (hx:Loc X.env.scope x) (hf:X.fn x=true\/X.env.scope.names.lookup x=some .local:=by first | exact .inl rfl | exact .inr rfl | assumption):PG X (.Name x pos) (zpX i):=by
 intro pins s σ H v u Q I r h
 exact wpAny_assign_Name (zht I hN hi hx r (λs' I'=>⟨_,H,I',h⟩) hf)
def zv1:TGs:=λvs σ H Q=>vs=[]/\Q σ H
def zuI (t:TG) (u:TGs):TGs:=λvs σ H Q=> ∃ v r,vs=v::r/\t v σ H λσ' H'=>u r σ' H' Q
theorem zrm:PGs X [] zv1:=by
 intro pins s σ H vs us Q I r h
 obtain ⟨e,h⟩:=h
 subst e
 cases r
 exact assignInOrder_nil ⟨σ,H,I,h⟩
theorem zob {e:Expr} {es:List Expr} {t:TG} {u:TGs} (h1:PG X e t) (h2:PGs X es u)
  (hs:(assignEach (e::es) X.env).map (·.2)=assign e X.env::(assignEach es X.env).map (·.2):=by rfl):PGs X (e::es) (zuI t u):=by
 intro pins s σ H vs us Q I r h
 obtain ⟨v,vr,e1,h⟩:=h
 subst e1
 cases r with
 | cons r rr=>
  rw [hs]
  refine assignInOrder_cons (thn (h1 pins s σ H _ _ _ I r h) λ_ s1 ⟨σ1,H1,I1,q1⟩=> ?_)
  exact h2 pins s1 σ1 H1 _ _ Q I1 rr q1
def zv9 (K:W.Frag) (n:Nat) (t:TGs):TG:=λv σ H Q=> ∃ a xs,v= .ref a/\SqT K H a xs/\xs.length=n/\t xs σ H Q
theorem zsF {es:List Expr} {k:Nat} {t:TGs} {n:Nat} (hc:X.calm=true) (h:PGs X es t)
  (hn:(assignEach es X.env).length=n:=by rfl) (hst:(assignEach es X.env).findIdx? (·.1)=none:=by rfl):PG X (.Tuple es k pos) (zv9 X.K n t):=by
 intro pins s σ H v u Q I r hw
 obtain ⟨a,xs,e1,hq,hl,hw⟩:=hw
 subst e1
 cases r
 obtain ⟨its,rv,ht,hz⟩:=I.tuple hq
 refine assign_Tuple_tuple (I.ok.hd hc) ht (by simp [hn, <-hl,rv.length]) hst λh' hx=> ?_
 have I1:Inv X pins σ H {s with heap:=h'}:=I.kept (t':=s.toks) λb o e=>hx b o (qaR (qaQ e)) e
 exact h pins _ σ H xs _ Q I1 (by simpa using rv) hw
def zvN (to ti:TE) (t:zuf):TG:=λv σ H Q=>to σ H λo H1=>ti σ H1 λi H2=>t o i v H2 λH3=>Q σ H3
theorem ztw {o i:Expr} {to ti:TE} {t:zuf} (ho:PE X o to) (hi:PE X i ti) (hs:zvp X t)
  (ha: ∀ v,assign (.Subscript o i pos) X.env v=(do
    let ov<-holding [v] (eval o X.env)
    let iv<-holding [v,ov] (eval i X.env)
    standAt pos
    holding [v,ov,iv] (setItem ov iv v)
    release [v,ov,iv] []):=by intro _;rfl):PG X (.Subscript o i pos) (zvN to ti t):=by
 intro pins s σ H v u Q I r h
 rw [ha]
 refine qaW (qaO (thn (ho pins s σ H _ I h) λov s1 ⟨x,H1,I1,r1,q1⟩=> ?_))
 refine qaW (qaO (thn (hi pins s1 σ H1 _ I1 q1) λiv s2 ⟨y,H2,I2,r2,q2⟩=> ?_))
 refine qaW (wpAny_standAt (qaW (qaO (thn (hs pins s2 σ H2 x y v ov iv u _ I2 r1 r2 r q2) λ_ s3 ⟨H3,I3,q3⟩=> ?_))))
 exact wpAny_release ⟨σ,H3,I3,q3⟩
def zvH (te:TE) (g:TG):TS:=λD σ H=>te σ H λx H1=>g x σ H1 D.nx
theorem zrX {tg e:Expr} {te:TE} {g:TG} (he:PE X e te) (hg:PG X tg g) (hs:swapsWithSole [tg] e pos.line X.env=pure false:=by rfl) (hw:swappedStores [tg] e X.env=pure none:=by rfl)
  (h1:(assignEach [tg] X.env).map (·.2)=[assign tg X.env]:=by rfl):PS X (.Assign [tg] e pos) (zvH te g):=by
 intro pins s σ H D I h
 refine wpAny_Assign_stores (thn (he pins s σ H _ I h) λv s1 ⟨x,H1,I1,r1,q1⟩=> ?_) hs hw
 rw [h1]
 exact thn (hg pins s1 σ H1 x v _ I1 r1 q1) λ_ s2 q=>q
theorem zs0 {i:Nat} {x:Str} {e:Expr} {te:TE} {pos':Pos} (hN:X.N.Nodup) (hi:X.N[i]? = some x) (hx:Loc X.env.scope x) (he:PE X e te) (hs:swapsWith e (some (.Name x pos')) pos.line X.env=pure false:=by rfl) (hf:X.fn x=true\/X.env.scope.names.lookup x=some .local:=by first | exact .inl rfl | exact .inr rfl | assumption):
  PS X (.Assign [.Name x pos'] e pos) (zvH te (zpX i)):=by
 intro pins s σ H D I h
 refine wpAny_Assign_Name (thn (he pins s σ H _ I h) λv s1 ⟨y,H1,I1,r1,q1⟩=> ?_) hs
 exact zht I1 hN hi hx r1 (λs2 I2=>⟨_,H1,I2,q1⟩) hf
end
section
variable {X:Cx} {pos:Pos}
def ztm (c:TT) (tb:TS):TS:=λD σ H=> ∃ W:Nat->St->Hp->Prop,(∃ m,W m σ H)/\ ∀ m σ H,W m σ H->
 c σ H λb H1=>if b=true then ∃ N:St->Hp->Prop,(∀ σ' H',N σ' H'-> ∃ m',m'<m/\W m' σ' H')/\tb {D with nx:=N,ct:=N,bk:=D.nx} σ H1 else D.nx σ H1
theorem znE {c:Expr} {body:List Stmt} {tc:TT} {tb:TS} (hp:PassesOwn (model X.prog X.w) X.A X.env X.xe) (hc:PT X c tc) (hb:PSs X body tb):PS X (.While c body [] pos) (ztm tc tb):=by
 intro pins s σ H D I h
 obtain ⟨W,⟨m0,w0⟩,turn⟩:=h
 refine wpAny_While (codeAny_whileLoop (λn s'=> ∃ σ' H',Inv X pins σ' H' s'/\W n σ' H') ?_ m0 ⟨σ,H,I,w0⟩)
 rintro n s1 ⟨σ1,H1,I1,w1⟩
 refine wpAny_passesOwn hp (thn (hc pins s1 σ1 H1 _ I1 (turn n σ1 H1 w1)) λb s2 ⟨H2,I2,q2⟩=> ?_)
 cases b with
 | true=>
  obtain ⟨N,hN,q2⟩:=q2
  rw [qa4 rfl]
  refine wpAny_passesOwn hp (thn (hb pins s2 σ1 H2 _ I2 q2) λf s3 q3=> ?_)
  cases f with
  | next=>
   obtain ⟨σ3,H3,I3,n3⟩:=q3
   obtain ⟨m',hm,w3⟩:=hN σ3 H3 n3
   exact ⟨m',hm,σ3,H3,I3,w3⟩
  | cont=>
   obtain ⟨σ3,H3,I3,n3⟩:=q3
   obtain ⟨m',hm,w3⟩:=hN σ3 H3 n3
   exact ⟨m',hm,σ3,H3,I3,w3⟩
  | brk=>exact q3
  | ret v=>exact q3
 | false=>
  rw [qa5 Bool.false_ne_true]
  exact wpAny_execs_nil ⟨σ1,H2,I2,q2⟩
end
structure It where
 go:Nat->Hp->Prop
 yld:Nat->Hp->V->Hp->Prop
 stop:Nat->Hp->Prop
def zj7 (X:Cx) (pins:List (Addr×Obj)) (H:Hp) (b:Addr):Prop:=
 H b=none/\b≠X.env.locals/\b∉X.fs/\(b∈X.ex\/X.s₀.heap.objs.size<=b)/\(∀ x c,X.env.cells.lookup x=some c->c≠b)/\ ∀ p∈X.pn++pins,p.1≠b
theorem Inv.fpOk {X:Cx} {pins:List (Addr×Obj)} {σ:St} {H H':Hp} {s:Shared} {b:Addr} (I:Inv X pins σ H s) (hb:s.heap.objs.size<=b) (hn:H' b=none):zj7 X pins H' b:=by
 refine ⟨hn,ne_of_gt (qaw I.lt hb),I.nofs hb,.inr (qaS I.sz hb),λx c e z=> ?_,λp hp z=> ?_⟩
 ·obtain ⟨v,q⟩:=I.cell x c e
  exact absurd (qaw q.lt (by rw [z];exact hb)) (qaN _)
 ·exact absurd (qaw (qaQ (I.pin p hp).1) (by rw [z];exact hb)) (qaN _)
structure zqo (P:Program) (w:World) (K:W.Frag) (tg:Expr) (J:It) (fp:List Addr) (it:Addr) (tn:Nat->Heap->Prop):Prop where
 mem:it∈fp
 obj: ∀ i h,tn i h-> ∀ b∈fp, ∃ o,h.get? b=some o/\ ∀ v,o.data≠ .cell v
 keep: ∀ i h h',tn i h->(∀ b∈fp, ∀ o,h.get? b=some o->h'.get? b=some o)->tn i h'
 item: ∀ (X:Cx),X.prog=P->X.w=w->X.K=K-> ∀ (i:Nat) (pins:List (Addr×Obj)) (s:Shared) (σ:St) (H:Hp) (E:Value->Shared->Prop),Inv X pins σ H s->(∀ b∈fp,zj7 X pins H b)->tn i s.heap->J.go i H->
  wpAny (model P w) X.A (pyNext (.ref it)) (λr s1=> ∃ u,r=some u/\
    wpAny (model P w) X.A (letOwnedTupleGo tg (.ref it) u) (λ_ s2=> ∃ x H',Inv X pins σ H' s2/\zbO x u/\J.yld i H x H'/\tn (i+1) s2.heap/\ ∀ b∈fp,H' b=none) E s1) E s
 done: ∀ (X:Cx),X.prog=P->X.w=w->X.K=K-> ∀ (i:Nat) (pins:List (Addr×Obj)) (s:Shared) (σ:St) (H:Hp) (E:Value->Shared->Prop),Inv X pins σ H s->(∀ b∈fp,zj7 X pins H b)->tn i s.heap->J.stop i H->
  wpAny (model P w) X.A (pyNext (.ref it)) (λr s1=>r=none/\Inv X pins σ H s1) E s
 self: ∀ (A:Around) (i:Nat) (s:Shared) (Q:Value->Shared->Prop) (E:Value->Shared->Prop),tn i s.heap->Q (.ref it) s->wpAny (model P w) A (pyIter (.ref it)) Q E s
abbrev TI:=St->Hp->(It->Hp->Prop)->Prop
def PIE (X:Cx) (pins:List (Addr×Obj)) (σ:St) (tg:Expr) (R:It->Hp->Prop) (itv:Value) (s2:Shared):Prop:=
 ∃ (it:Addr) (fp:List Addr) (tn:Nat->Heap->Prop) (J:It) (H':Hp),itv= .ref it/\Inv X pins σ H' s2/\zqo X.prog X.w X.K tg J fp it tn/\tn 0 s2.heap/\(∀ b∈fp,zj7 X pins H' b)/\R J H'
def PI (X:Cx) (tg iter:Expr) (wi:TI):Prop:=
 ∀ (pins:List (Addr×Obj)) (s:Shared) (σ:St) (H:Hp) (R:It->Hp->Prop),Inv X pins σ H s->wi σ H R->
  wpAny (model X.prog X.w) X.A (eval iter X.env) (λv s1=>wpAny (model X.prog X.w) X.A (pyIter v) (PIE X pins σ tg R) X.xe s1) X.xe s
theorem zoN {M:Model} {A:Around} {E:Value->Shared->Prop} {s:Shared} {tg:Expr} {it:Addr} {u:Value} {o:Obj} {n:String} {vs:Array Value} {Q:Unit->Shared->Prop} (ho:s.heap.get? it=some o) (hc:o.cls= .type n) (hd:o.data= .fields vs)
  (hn:["enumerate","zip","dict_itemiterator","dict_reverseitemiterator","odict_iterator","itertools.zip_longest","itertools.pairwise"].contains n=false) (hQ:Q () s):wpAny M A (letOwnedTupleGo tg (.ref it) u) Q E s:=by
 unfold letOwnedTupleGo
 cases tg<;>first
  | exact qaX hQ
  | (cases u<;>first
      | exact qaX hQ
      | (refine qaW (wpAny_load ho ?_)
         rw [hc,hd]
         show wpAny M A (if (["enumerate","zip","dict_itemiterator","dict_reverseitemiterator","odict_iterator","itertools.zip_longest","itertools.pairwise"].contains n && vs[0]? == some (rawInt _))=true then _ else _) Q E s
         rw [qa5 (by intro h;rw [hn,Bool.false_and] at h;cases h)]
         exact qaX hQ))
def Itl (K:W.Frag) (a:Addr):It:=
 ⟨λi H=> ∃ xs x,SqL K H a xs/\xs[i]? = some x,λi H x H'=>H'=H/\ ∀ xs,SqL K H a xs->xs[i]? = some x,λi H=> ∃ xs,SqL K H a xs/\xs.length<=i⟩
def Itt (K:W.Frag) (a:Addr):It:=
 ⟨λi H=> ∃ xs x,SqT K H a xs/\xs[i]? = some x,λi H x H'=>H'=H/\ ∀ xs,SqT K H a xs->xs[i]? = some x,λi H=> ∃ xs,SqT K H a xs/\xs.length<=i⟩
def Itr (lo:Int) (n:Nat):It:=⟨λi _=>i<n,λi H x H'=>H'=H/\x= .int (lo+i),λi _=>n<=i⟩
theorem zio.keep {A:Around} {H H':Hp} (x:zio A H) (k: ∀ b o u,H b=some (.frz o u)->H' b=some (.frz o u)):zio A H':=by
 rcases x with x | ⟨a,o,cls,head,vs,x1,x2,x3⟩
 ·exact .inl x
 ·exact .inr ⟨a,o,cls,head,vs,x1,k _ _ _ x2,x3⟩
theorem zio.at_ {A:Around} {P:Program} {w:World} {H:Hp} {h:Heap} (x:zio A H) (ok:HOk P w H h):L3.zmp A h:=by
 rcases x with x | ⟨a,o,cls,head,vs,x1,x2,x3⟩
 ·exact .inl x
 ·exact .inr ⟨a,cls,head,x1,o,vs,(ok a _ x2).1,x3⟩
theorem Inv.handA {X:Cx} {pins:List (Addr×Obj)} {σ:St} {H:Hp} {s:Shared} (I:Inv X pins σ H s):zio X.A H:=I.ok.hx.keep I.base.frzs
theorem Inv.hand {X:Cx} {pins:List (Addr×Obj)} {σ:St} {H:Hp} {s:Shared} (I:Inv X pins σ H s):L3.zmp X.A s.heap:=I.handA.at_ I.hok
theorem zlR {P:Program} {w:World} {K:W.Frag} {tg:Expr} (a it:Addr):zqo P w K tg (Itl K a) [it] it (λi h=>h.IsListIter it a i) where
 mem:=by simp
 obj:=λi h st b hb=>by
  have e:b=it:=by simpa using hb
  subst e
  obtain ⟨o,e,c,d⟩:=st
  exact ⟨o,e,λv z=>by rw [d] at z;cases z⟩
 keep:=λi h h' st k=>st.at λo e=>k it (by simp) o e
 item:=by
  intro X hP hw hK i pins s σ H E I hf st hg
  subst hP hw hK
  obtain ⟨xs,x,hq,hx⟩:=hg
  obtain ⟨its,rv,p,hz⟩:=I.list hq
  obtain ⟨u,hu,ru⟩:=rv.get hx
  obtain ⟨f0,f1,f2,f3,f4,f5⟩:=hf it (by simp)
  refine wpAny_pyNext_list_item st p.isList (x:=u) (by simpa using hu) λh' st' sb=> ?_
  have I1:Inv X pins σ H {s with heap:=h'}:=I.turned (t':=s.toks) (λb o hb e=>(sb.2 b hb).trans e) f0 f1 f3 f4 f5
  obtain ⟨o,e,c,d⟩:=id st'
  exact ⟨u,rfl,zoN (s:={s with heap:=h'}) e c d (by decide) ⟨x,H,I1,ru,⟨rfl,λys hy=>by rw [I.list_inj hy hq];exact hx⟩,st',λb hb=>(hf b hb).1⟩⟩
 done:=by
  intro X hP hw hK i pins s σ H E I hf st hg
  subst hP hw hK
  obtain ⟨xs,hq,hx⟩:=hg
  obtain ⟨its,rv,p,hz⟩:=I.list hq
  obtain ⟨f0,f1,f2,f3,f4,f5⟩:=hf it (by simp)
  have hl:=rv.length
  exact L3.zjM I.hand st p.isList (by simp;omega) λh' eb=>⟨rfl,I.turned (t':=s.toks) (λb o hb e=>eb b o hb e) f0 f1 f3 f4 f5⟩
 self:=λ_ _ _ _ _ st h=>wpAny_pyIter_listiter st h
theorem zkR {P:Program} {w:World} {K:W.Frag} {tg:Expr} (a it:Addr):zqo P w K tg (Itt K a) [it] it (λi h=>h.IsTupleIter it a i) where
 mem:=by simp
 obj:=λi h st b hb=>by
  have e:b=it:=by simpa using hb
  subst e
  obtain ⟨o,e,c,d⟩:=st
  exact ⟨o,e,λv z=>by rw [d] at z;cases z⟩
 keep:=λi h h' st k=>st.at λo e=>k it (by simp) o e
 item:=by
  intro X hP hw hK i pins s σ H E I hf st hg
  subst hP hw hK
  obtain ⟨xs,x,hq,hx⟩:=hg
  obtain ⟨its,rv,p,hz⟩:=I.tuple hq
  obtain ⟨u,hu,ru⟩:=rv.get hx
  obtain ⟨f0,f1,f2,f3,f4,f5⟩:=hf it (by simp)
  refine wpAny_pyNext_tuple_item st (show s.heap.IsTuple a its.toArray from p) (x:=u) (by simpa using hu) λh' st' sb=> ?_
  have I1:Inv X pins σ H {s with heap:=h'}:=I.turned (t':=s.toks) (λb o hb e=>(sb.2 b hb).trans e) f0 f1 f3 f4 f5
  obtain ⟨o,e,c,d⟩:=id st'
  exact ⟨u,rfl,zoN (s:={s with heap:=h'}) e c d (by decide) ⟨x,H,I1,ru,⟨rfl,λys hy=>by rw [I.tuple_inj hy hq];exact hx⟩,st',λb hb=>(hf b hb).1⟩⟩
 done:=by
  intro X hP hw hK i pins s σ H E I hf st hg
  subst hP hw hK
  obtain ⟨xs,hq,hx⟩:=hg
  obtain ⟨its,rv,p,hz⟩:=I.tuple hq
  obtain ⟨f0,f1,f2,f3,f4,f5⟩:=hf it (by simp)
  have hl:=rv.length
  exact L3.zmc I.hand st (show s.heap.IsTuple a its.toArray from p) (by simp;omega) λh' eb=>⟨rfl,I.turned (t':=s.toks) (λb o hb e=>eb b o hb e) f0 f1 f3 f4 f5⟩
 self:=λ_ _ _ _ _ st h=>wpAny_pyIter_tupleiter st h
theorem zkV {P:Program} {w:World} {K:W.Frag} {tg:Expr} (it:Addr) (lo:Int) (n:Nat):zqo P w K tg (Itr lo n) [it] it (λi h=>IsRangeIter h it (lo+(i:Nat)*1) ((n:Int) - (i:Nat)) 1) where
 mem:=by simp
 obj:=λi h st b hb=>by
  have e:b=it:=by simpa using hb
  subst e
  exact ⟨_,st,λv z=>by
    have z':Data.fields _=Data.cell v:=z
    cases z'⟩
 keep:=λi h h' st k=>k it (by simp) _ st
 item:=by
  intro X hP hw hK i pins s σ H E I hf st hg
  subst hP hw hK
  obtain ⟨f0,f1,f2,f3,f4,f5⟩:=hf it (by simp)
  refine wpAny_pyNext_range_item st (by have:i<n:=hg;omega) λh' st' kk=> ?_
  have e1:lo+(i:Nat)*1+1=lo+((i+1:Nat):Int)*1:=by omega
  have e2:(n:Int) - (i:Nat) - 1=(n:Int) - ((i+1:Nat):Int):=by omega
  rw [e1,e2] at st'
  have I1:Inv X pins σ H {s with heap:=h',toks:=s.toks+1}:=I.turned (λb o hb e=>(kk.2 b hb).trans e) f0 f1 f3 f4 f5
  refine ⟨_,rfl,zoN (s:={s with heap:=h',toks:=s.toks+1}) (n:="range_iterator") st' rfl rfl (by decide) ⟨.int (lo+i),H,I1,⟨s.toks,?_⟩,⟨rfl,rfl⟩,st',λb hb=>(hf b hb).1⟩⟩
  rw [mul_one]
 done:=by
  intro X hP hw hK i pins s σ H E I hf st hg
  subst hP hw hK
  obtain ⟨f0,f1,f2,f3,f4,f5⟩:=hf it (by simp)
  exact L3.zhZ I.hand st (by have:n<=i:=hg;omega) λh' eb=>⟨rfl,I.turned (t':=s.toks) (λb o hb e=>eb b o hb e) f0 f1 f3 f4 f5⟩
 self:=λ_ _ _ _ _ st h=>wpAny_pyIter_rangeiter st h
section
variable {X:Cx} {tg:Expr}
theorem zoq {pins:List (Addr×Obj)} {σ:St} {H:Hp} {s:Shared} {R:It->Hp->Prop} {E:Value->Shared->Prop} {lo hi:Int} {t u v:Tok} {tk:Nat} (I:Inv X pins σ H s) (h1: -(2^62)<=lo) (h2:lo<2^62) (h3: -(2^62)<=hi) (h4:hi<2^62)
  (q:R (Itr lo (hi - lo).toNat) H):wpAny (model X.prog X.w) X.A (pyIter (.ref s.heap.objs.size)) (PIE X pins σ tg R) E {s with heap:=s.heap.push {cls:= .type "range",data:= .fields #[.int lo t,.int hi u,.int 1 v]},toks:=tk}:=by
 refine wpAny_pyIter_range (IsRange.new ..) (small_one h1 h2 h3 h4) ?_
 have I1:Inv X pins σ H {s with heap:=s.heap.push {cls:= .type "range",data:= .fields #[.int lo t,.int hi u,.int 1 v]},toks:=tk}:=I.kept λb o e=>qag _ e
 refine ⟨(s.heap.push {cls:= .type "range",data:= .fields #[.int lo t,.int hi u,.int 1 v]}).objs.size,[(s.heap.push {cls:= .type "range",data:= .fields #[.int lo t,.int hi u,.int 1 v]}).objs.size],_,_,H,rfl,
   I1.kept (t':=tk) λb o e=>qag _ e,zkV _ lo (hi - lo).toNat,?_,λb hb=> ?_,q⟩
 ·have e1:lo+((0:Nat):Int)*1=lo:=by simp
  have e2:(((hi - lo).toNat:Nat):Int) - ((0:Nat):Int)=Builtin.Range.rangeSize lo hi 1:=by rw [rangeSize_one];split<;>omega
  show IsRangeIter _ _ (lo+((0:Nat):Int)*1) ((((hi - lo).toNat:Nat):Int) - ((0:Nat):Int)) 1
  rw [e1,e2]
  exact qar _ rfl
 ·have e:b=(s.heap.push {cls:= .type "range",data:= .fields #[.int lo t,.int hi u,.int 1 v]}).objs.size:=by simpa using hb
  subst e
  exact I1.fpOk (qaV _) (I1.hok.fresh (qaV _))
def zvw (ta:TA):TI:=λσ H R=>ta σ H λvs H1=> ∃ j:Int,vs=[.int j]/\ -(2^62)<=j/\j<2^62/\R (Itr 0 j.toNat) H1
theorem zmm {a:Expr} {ta:TA} {p pos:Pos} (hg:Gl X "range") (hm:X.mg "range"=none) (ha:PA X [a] ta) (hs:starEach [a] X.env=[(false,eval a X.env)]:=by rfl):PI X tg (.Call (.Name "range" p) [a] [] pos) (zvw ta):=by
 intro pins s σ H R I h
 refine Call_ (zgQ I hg hm boot_range (PyProof.Rows.callWith_type1 (thn (ha pos pins s σ H _ I h) λus s1 ⟨vs,H1,I1,r1,q1⟩=> ?_) hs rfl))
 obtain ⟨j,e,q1,q2,q⟩:=q1
 subst e
 cases r1 with
 | cons r rr=>
  cases rr
  obtain ⟨t,rfl⟩:=r
  exact call_range_1 (zoq I1 ⋯ ⋯ q1 q2 (by simpa using q))
def zwF (wi:TI) (g:TG) (tb:TS):TS:=λD σ H=>wi σ H λJ H1=> ∃ W:Nat->Nat->St->Hp->Prop,(∃ m,W 0 m σ H1)/\ ∀ i m σ H,W i m σ H->
 (J.stop i H/\D.nx σ H)\/(J.go i H/\ ∃ N:St->Hp->Prop,(∀ σ' H',N σ' H'-> ∃ m',m'<m/\W (i+1) m' σ' H')/\ ∀ x H',J.yld i H x H'->g x σ H' λσ2 H2=>tb {D with nx:=N,ct:=N,bk:=D.nx} σ2 H2)
def zh1 (fp:List Addr) (h:Heap):List (Addr×Obj):=fp.filterMap λb=>(h.get? b).map λo=>(b,o)
theorem zdW {fp:List Addr} {h:Heap} {b:Addr} {o:Obj} (hb:b∈fp) (e:h.get? b=some o):(b,o)∈zh1 fp h:=List.mem_filterMap.mpr ⟨b,hb,by rw [e];rfl⟩
theorem zmX {fp:List Addr} {h:Heap} {p:Addr×Obj} (hp:p∈zh1 fp h):p.1∈fp/\h.get? p.1=some p.2:=by
 obtain ⟨b,hb,e⟩:=List.mem_filterMap.mp hp
 cases q:h.get? b with
 | none=>rw [q] at e;cases e
 | some o=>
  rw [q] at e
  have e':(b,o)=p:=Option.some.inj e
  subst e'
  exact ⟨hb,q⟩
theorem Inv.pinned {pins:List (Addr×Obj)} {σ:St} {H:Hp} {s:Shared} {fp:List Addr} (I:Inv X pins σ H s) (hf: ∀ b∈fp,zj7 X pins H b) (ho: ∀ b∈fp, ∃ o,s.heap.get? b=some o/\ ∀ v,o.data≠ .cell v):Inv X (pins++zh1 fp s.heap) σ H s:=
 I.pins_of λp hp=>(qaK.mp hp).elim (λz=>I.pin p (qak _ z)) λz=>by
  obtain ⟨hb,e⟩:=zmX z
  obtain ⟨f0,f1,f2,_⟩:=hf p.1 hb
  obtain ⟨o,e',d⟩:=ho p.1 hb
  rw [e] at e';cases e'
  exact ⟨e,f0,f1,f2,d⟩
theorem Inv.unpinned {pins pl:List (Addr×Obj)} {σ:St} {H:Hp} {s:Shared} (I:Inv X (pins++pl) σ H s):Inv X pins σ H s:=I.pins_of λp hp=>I.pin p (qak _ (mem_append_left _ hp))
theorem zsI {iter:Expr} {body:List Stmt} {wi:TI} {g:TG} {tb:TS} {pos:Pos} (hp:PassesOwn (model X.prog X.w) X.A X.env X.xe) (hc:X.calm=true) (hi:PI X tg iter wi) (hg:PG X tg g) (hb:PSs X body tb)
  (hs: ∀ x,foldedSetIterable iter X.env x=pure x:=by intro _;rfl):PS X (.For tg iter body [] pos) (zwF wi g tb):=by
 intro pins s σ H D I h
 refine wpAny_For (thn (hi pins s σ H _ I h) λv s1 h1=>thn h1 λitv s2 h2=> ?_) hs
 obtain ⟨it,fp,tn,J,H2,e,I2,T,st2,f2,W,⟨m0,w0⟩,turn⟩:=h2
 subst e
 have stat: ∀ {H':Hp},(∀ b∈fp,H' b=none)-> ∀ b∈fp,zj7 X pins H' b:=λhn b hb=>⟨hn b hb,(f2 b hb).2⟩
 refine codeAny_forLoop_any (λn s'=> ∃ i σ' H',Inv X pins σ' H' s'/\tn i s'.heap/\(∀ b∈fp,H' b=none)/\W i n σ' H') ?_ m0 ⟨0,σ,H2,I2,st2,λb hb=>(f2 b hb).1,w0⟩
 rintro n s3 ⟨i,σ3,H3,I3,st3,fr3,w3⟩
 rcases turn i n σ3 H3 w3 with ⟨stop,qn⟩ | ⟨go,N,hN,step⟩
 ·refine wpAny_passesOwn hp (thn (T.done X rfl rfl rfl i pins s3 σ3 H3 X.xe I3 (stat fr3) st3 stop) λr s4 ⟨hr,I4⟩=> ?_)
  subst hr
  exact wpAny_execs_nil ⟨σ3,H3,I4,qn⟩
 ·refine wpAny_passesOwn hp (thn (T.item X rfl rfl rfl i pins s3 σ3 H3 X.xe I3 (stat fr3) st3 go) λr s4 ⟨u,hr,h4⟩=> ?_)
  subst hr
  refine wpAny_passesOwn hp (thn h4 λ_ s5 ⟨x,H5,I5,r5,y5,st5,fr5⟩=> ?_)
  have I5':=I5.pinned (stat fr5) (T.obj _ _ st5)
  refine wpAny_passesOwn hp (thn (hg _ s5 σ3 H5 x u _ I5' r5 (step x H5 y5)) λ_ s6 ⟨σ6,H6,I6,q6⟩=> ?_)
  refine wpAny_passesOwn hp (thn (hb _ s6 σ6 H6 _ I6 q6) λf s7 q7=> ?_)
  have again: ∀ {σ7:St} {H7:Hp},Inv X (pins++zh1 fp s5.heap) σ7 H7 s7->N σ7 H7-> ∃ m,m<n/\ ∃ i σ' H',Inv X pins σ' H' s7/\tn i s7.heap/\(∀ b∈fp,H' b=none)/\W i m σ' H':=λ{σ7 H7} I7 n7=>by
   obtain ⟨m',hm,w7⟩:=hN σ7 H7 n7
   refine ⟨m',hm,i+1,σ7,H7,I7.unpinned,T.keep _ _ _ st5 λb hb o e=>(I7.pin (b,o) (qak _ (qak _ (zdW hb e)))).1,λb hb=> ?_,w7⟩
   obtain ⟨o,e,d⟩:=T.obj _ _ st5 b hb
   exact (I7.pin (b,o) (qak _ (qak _ (zdW hb e)))).2.1
  cases f with
  | next=>obtain ⟨σ7,H7,I7,n7⟩:=q7;exact again I7 n7
  | cont=>obtain ⟨σ7,H7,I7,n7⟩:=q7;exact again I7 n7
  | brk=>obtain ⟨σ7,H7,I7,q7⟩:=q7;exact ⟨σ7,H7,I7.unpinned,q7⟩
  | ret v=>obtain ⟨x7,σ7,H7,I7,r7,q7⟩:=q7;exact ⟨x7,σ7,H7,I7.unpinned,r7,q7⟩
end
abbrev R2:=V->V->Hp->VK->Prop
def OpR (X:Cx) (f:Value->Value->Sem Value) (r:R2):Prop:=
 ∀ (pins:List (Addr×Obj)) (s:Shared) (σ:St) (H:Hp) (x y:V) (v u:Value) (Q:VK),Inv X pins σ H s->zbO x v->zbO y u->r x y H Q->
  wpAny (model X.prog X.w) X.A (f v u) (EP X pins σ Q) X.xe s
def UnR (X:Cx) (f:Value->Sem Value) (r:V->Hp->VK->Prop):Prop:=
 ∀ (pins:List (Addr×Obj)) (s:Shared) (σ:St) (H:Hp) (x:V) (v:Value) (Q:VK),Inv X pins σ H s->zbO x v->r x H Q->
  wpAny (model X.prog X.w) X.A (f v) (EP X pins σ Q) X.xe s
def zaK (X:Cx) (f:Value) (r:List V->Hp->VK->Prop):Prop:=
 ∀ (pins:List (Addr×Obj)) (s:Shared) (σ:St) (H:Hp) (xs:List V) (us:List Value) (Q:VK),Inv X pins σ H s->za4 xs us->r xs H Q->
  wpAny (model X.prog X.w) X.A (call f us) (EP X pins σ Q) X.xe s
def zv5 (X:Cx) (r:V->Hp->(Bool->Hp->Prop)->Prop):Prop:=
 ∀ (pins:List (Addr×Obj)) (s:Shared) (σ:St) (H:Hp) (x:V) (v:Value) (Q:Bool->Hp->Prop),Inv X pins σ H s->zbO x v->r x H Q->
  wpAny (model X.prog X.w) X.A (truthy v) (TP X pins σ Q) X.xe s
def tOp (r:R2) (ta tb:TE):TE:=λσ H Q=>ta σ H λx H1=>tb σ H1 λy H2=>r x y H2 Q
def tUn (r:V->Hp->VK->Prop) (ta:TE):TE:=λσ H Q=>ta σ H λx H1=>r x H1 Q
def rI (C:Int->Int->Prop) (g:Int->Int->V):R2:=λx y H Q=> ∃ i j,x= .int i/\y= .int j/\C i j/\Q (g i j) H
def rI0 (g:Int->Int->V):R2:=λx y H Q=> ∃ i j,x= .int i/\y= .int j/\Q (g i j) H
def rU (g:Int->V):V->Hp->VK->Prop:=λx H Q=> ∃ i,x= .int i/\Q (g i) H
section
variable {X:Cx} {a b c:Expr} {ta tb tc:TE} {pos:Pos}
theorem zvl (ha:PE X a ta) (hb:PE X b tb) {pins:List (Addr×Obj)} {s:Shared} {σ:St} {H:Hp} {R:V->V->Hp->Prop} (I:Inv X pins σ H s)
  (h:ta σ H λx H1=>tb σ H1 λy H2=>R x y H2) {Q:Value->Shared->Prop} {f:Value->Value->Sem Value}
  (hf: ∀ v u s2 x y H2,Inv X pins σ H2 s2->zbO x v->zbO y u->R x y H2->wpAny (model X.prog X.w) X.A (f v u) Q X.xe s2):
  wpAny (model X.prog X.w) X.A (eval a X.env) (λv s₁=>wpAny (model X.prog X.w) X.A (eval b X.env) (λu s₂=>wpAny (model X.prog X.w) X.A (f v u) Q X.xe s₂) X.xe s₁) X.xe s:=by
 refine thn (ha pins s σ H _ I h) λv s1 ⟨x,H1,I1,r1,q1⟩=> ?_
 refine thn (hb pins s1 σ H1 _ I1 q1) λu s2 ⟨y,H2,I2,r2,q2⟩=> ?_
 exact hf v u s2 x y H2 I2 r1 r2 q2
theorem zvz {op:Operator} {r:R2} (ho:OpR X (binaryOp op) r) (ha:PE X a ta) (hb:PE X b tb):PE X (.BinOp a op b pos) (tOp r ta tb):=by
 intro pins s σ H Q I h
 exact wpAny_BinOp (zvl ha hb I h λv u s2 x y H2 I2 rx ry q=>ho pins s2 σ H2 x y v u Q I2 rx ry q)
theorem zs7 {op:UnaryOp} {r:V->Hp->VK->Prop} (ho:UnR X (unaryOp op) r) (ha:PE X a ta):PE X (.UnaryOp op a pos) (tUn r ta):=by
 intro pins s σ H Q I h
 exact UnaryOp_ (thn (ha pins s σ H _ I h) λv s1 ⟨x,H1,I1,r1,q1⟩=>ho pins s1 σ H1 x v Q I1 r1 q1)
theorem opI {f:Value->Value->Sem Value} {C:Int->Int->Prop} {g:Int->Int->Int}
  (rule: ∀ (i j:Int) (t u:Tok) (s:Shared) (Q:Value->Shared->Prop) (E:Value->Shared->Prop),C i j->Q (.int (g i j) s.toks) {s with toks:=s.toks+1}->wpAny (model X.prog X.w) X.A (f (.int i t) (.int j u)) Q E s):
  OpR X f (rI C λi j=> .int (g i j)):=by
 intro pins s σ H x y v u Q I rx ry h
 obtain ⟨i,j,rfl,rfl,hc,q⟩:=h
 obtain ⟨t,rfl⟩:=rx
 obtain ⟨t',rfl⟩:=ry
 exact rule i j t t' s _ _ hc ⟨.int (g i j),H,I.tok _,⟨_,rfl⟩,q⟩
theorem zus {f:Value->Value->Sem Value} {g:Int->Int->Int}
  (rule: ∀ (i j:Int) (t u:Tok) (s:Shared) (Q:Value->Shared->Prop) (E:Value->Shared->Prop),Q (.int (g i j) s.toks) {s with toks:=s.toks+1}->wpAny (model X.prog X.w) X.A (f (.int i t) (.int j u)) Q E s):
  OpR X f (rI0 λi j=> .int (g i j)):=by
 intro pins s σ H x y v u Q I rx ry h
 obtain ⟨i,j,rfl,rfl,q⟩:=h
 obtain ⟨t,rfl⟩:=rx
 obtain ⟨t',rfl⟩:=ry
 exact rule i j t t' s _ _ ⟨.int (g i j),H,I.tok _,⟨_,rfl⟩,q⟩
theorem zug {f:Value->Value->Sem Value} {g:Int->Int->Bool}
  (rule: ∀ (i j:Int) (t u:Tok) (s:Shared) (Q:Value->Shared->Prop) (E:Value->Shared->Prop),Q (.bool (g i j)) s->wpAny (model X.prog X.w) X.A (f (.int i t) (.int j u)) Q E s):
  OpR X f (rI0 λi j=> .bl (g i j)):=by
 intro pins s σ H x y v u Q I rx ry h
 obtain ⟨i,j,rfl,rfl,q⟩:=h
 obtain ⟨t,rfl⟩:=rx
 obtain ⟨t',rfl⟩:=ry
 exact rule i j t t' s _ _ ⟨.bl (g i j),H,I,rfl,q⟩
def zvb (i j:Int):Prop:=0<=j/\j<=1000000/\i.natAbs<2^64
def zux (i j:Int):Prop:=(-(2^64)<i/\i<2^64)\/(-(2^64)<j/\j<2^64)
theorem zux.ok {i j:Int} (h:zux i j):IntMulOk i j:=by
 rcases h with ⟨h1,h2⟩ | ⟨h1,h2⟩
 ·exact .of_left (intBits_le_64 h1 h2)
 ·exact .of_right (intBits_le_64 h1 h2)
theorem zt2:OpR X (binaryOp .Add) (rI0 λi j=> .int (i+j)):=zus λ_ _ _ _ _ _ _ q=>add_int q
theorem zsC:OpR X (binaryOp .Sub) (rI0 λi j=> .int (i - j)):=zus λ_ _ _ _ _ _ _ q=>sub_int q
theorem ztd:OpR X (binaryOp .Mult) (rI zux λi j=> .int (i*j)):=opI λ_ _ _ _ _ _ _ hc q=>mul_int q hc.ok
theorem ztp:OpR X (binaryOp .Mod) (rI (λ_ j=>0<j) λi j=> .int (i % j)):=opI λi j _ _ _ _ _ hc q=>by
 have h1:(0:Int)<j:=hc
 exact mod_int' ⋯ (by rw [Int.fmod_eq_emod_of_nonneg i ⋯];exact q)
theorem zsh:OpR X (binaryOp .Pow) (rI zvb λi j=> .int (i^j.toNat)):=opI λ_ _ _ _ _ _ _ hc q=>pow_int_small hc.1 hc.2.1 hc.2.2 q
theorem zvj:OpR X (binaryOp .BitOr) (rI0 λi j=> .int (Builtin.bitOr i j)):=zus λ_ _ _ _ _ _ _ q=>or_int q
theorem unI {f:Value->Sem Value} {g:Int->Int}
  (rule: ∀ (i:Int) (t:Tok) (s:Shared) (Q:Value->Shared->Prop) (E:Value->Shared->Prop),Q (.int (g i) s.toks) {s with toks:=s.toks+1}->wpAny (model X.prog X.w) X.A (f (.int i t)) Q E s):
  UnR X f (rU λi=> .int (g i)):=by
 intro pins s σ H x v Q I rx h
 obtain ⟨i,rfl,q⟩:=h
 obtain ⟨t,rfl⟩:=rx
 exact rule i t s _ _ ⟨.int (g i),H,I.tok _,⟨_,rfl⟩,q⟩
theorem zpI:UnR X (unaryOp .USub) (rU λi=> .int (-i)):=unI λ_ _ _ _ _ q=>neg_int q
end
section
variable {X:Cx} {a b c:Expr} {ta tb tc:TE} {pos:Pos}
theorem zrY {pins:List (Addr×Obj)} {σ:St} {H:Hp} {s:Shared} {Q:VK} {k k':Bool} (I:Inv X pins σ H s) (q:Q (.bl k) H) (e:k=k'):EP X pins σ Q (.bool k') s:=by
 subst e
 exact ⟨.bl k,H,I,rfl,q⟩
theorem zuP:OpR X (compareOp .Lt) (rI0 λi j=> .bl (decide (i<j))):=zug λ_ _ _ _ _ _ _ q=>lt_int q
theorem zvs:OpR X (compareOp .LtE) (rI0 λi j=> .bl (decide (i<=j))):=zug λ_ _ _ _ _ _ _ q=>le_int q
theorem zuy:OpR X (compareOp .Gt) (rI0 λi j=> .bl (decide (j<i))):=zug λ_ _ _ _ _ _ _ q=>gt_int q
theorem zuR:OpR X (compareOp .GtE) (rI0 λi j=> .bl (decide (j<=i))):=zug λ_ _ _ _ _ _ _ q=>ge_int q
theorem OpR.or {f:Value->Value->Sem Value} {r r':R2} (h:OpR X f r) (h':OpR X f r'):OpR X f (λx y H Q=>r x y H Q\/r' x y H Q):=by
 intro pins s σ H x y v u Q I rx ry q
 rcases q with q | q
 ·exact h pins s σ H x y v u Q I rx ry q
 ·exact h' pins s σ H x y v u Q I rx ry q
theorem zqu {op:CmpOp} {r:R2} (ho:OpR X (compareOp op) r) (ha:PE X a ta) (hb:PE X b tb) (hm:behindInMarks op b=false):PE X (.Compare a [op] [b] pos) (tOp r ta tb):=by
 intro pins s σ H Q I h
 exact wpAny_Compare1 (zvl ha hb I h λv u s2 x y H2 I2 rx ry q=>ho pins s2 σ H2 x y v u Q I2 rx ry q) hm
def zsv (t:TE):TT:=λσ H Q=>t σ H λx H'=> ∃ k,x= .bl k/\Q k H'
theorem zq8 {op:CmpOp} {r:R2} (ho:OpR X (compareOp op) r) (ha:PE X a ta) (hb:PE X b tb) (hm:behindInMarks op b=false):PT X (.Compare a [op] [b] pos) (zsv (tOp r ta tb)):=by
 intro pins s σ H Q I h
 refine wpAny_isTrue_Compare1 (thn (ha pins s σ H _ I h) λv s1 ⟨x,H1,I1,r1,q1⟩=>thn (hb pins s1 σ H1 _ I1 q1) λu s2 ⟨y,H2,I2,r2,q2⟩=>
   thn (ho pins s2 σ H2 x y v u _ I2 r1 r2 q2) λc s3 ⟨z,H3,I3,r3,k,e,q3⟩=> ?_) hm
 subst e
 cases r3
 exact wpAny_truthy_bool ⟨H3,I3,q3⟩
def zpi (r r':R2) (ta tb tc:TE):TE:=λσ H Q=>ta σ H λx H1=>tb σ H1 λy H2=>r x y H2 λz H3=> ∃ k,z= .bl k/\
 (if k=true then tc σ H3 λw' H4=>r' y w' H4 Q else Q (.bl false) H3)
theorem zo7 {op op':CmpOp} {r r':R2} (ho:OpR X (compareOp op) r) (ho':OpR X (compareOp op') r') (ha:PE X a ta) (hb:PE X b tb) (hc:PE X c tc)
  (hm:lastMarks [op,op'] [b,c]=false:=by with_unfolding_all rfl):PT X (.Compare a [op,op'] [b,c] pos) (zsv (zpi r r' ta tb tc)):=by
 intro pins s σ H Q I h
 refine isTrue_chain (thn (ha pins s σ H _ I h) λv s1 ⟨x,H1,I1,r1,q1⟩=>test_link (thn (hb pins s1 σ H1 _ I1 q1) λu s2 ⟨y,H2,I2,r2,q2⟩=>
   thn (ho pins s2 σ H2 x y v u _ I2 r1 r2 q2) λd s3 ⟨z,H3,I3,r3,k,e,q3⟩=> ?_)) hm
 subst e
 cases r3
 refine wpAny_truthy_bool ?_
 cases k with
 | false=>
  obtain ⟨k',e',q'⟩:=q3
  cases e'
  exact ite_ff ⟨H3,I3,q'⟩
 | true=>
  refine ite_tt (test_last (thn (hc pins s3 σ H3 _ I3 q3) λw' s4 ⟨z',H4,I4,r4,q4⟩=>thn (ho' pins s4 σ H4 y z' u w' _ I4 r2 r4 q4) λd' s5 ⟨z2,H5,I5,r5,k2,e2,q5⟩=> ?_))
  subst e2
  cases r5
  exact wpAny_truthy_bool ⟨H5,I5,q5⟩
def zvY (K:W.Frag) (x:V) (H:Hp) (k:Bool):Prop:=
 match x with
 | .non=>k=false
 | .bl b=>k=b
 | .int i=>k=(i != 0)
 | .str y=>y.length<=sizeLine/\k=((y.length:Int) != 0)
 | .byt y=>y.size<=sizeLine/\k=((y.size:Int) != 0)
 | .ref p=>(∃ xs,SqL K H p xs/\k= !xs.isEmpty)\/(∃ xs,SqT K H p xs/\k= !xs.isEmpty)\/ ∃ kvs,H p=some (.dK kvs)/\k= !kvs.isEmpty
 | _=>False
theorem zkH {κ:Type} {kvs:List (κ×V)} {vs:List (κ×Value)} (r:KV kvs vs):(!vs.isEmpty)= !kvs.isEmpty:=by
 cases r<;>rfl
theorem zg1 {xs:List V} {its:List Value} (r:za4 xs its):(!its.toArray.isEmpty)= !xs.isEmpty:=by
 cases r<;>simp
theorem zik:(sizeLine:Nat)<2^63:=by rw [sizeLine_eq];decide
theorem zsN:zv5 X (λx H Q=> ∃ k,zvY X.K x H k/\Q k H):=by
 intro pins s σ H x v Q I rx h
 obtain ⟨k,e,q⟩:=h
 have hl:=zik
 have hs:sizeLine=16777216:=sizeLine_eq
 cases x with
 | non=>
  cases rx
  have e':k=false:=e
  subst e'
  exact truthy_none ⟨H,I,q⟩
 | bl b=>
  cases rx
  have e':k=b:=e
  subst e'
  exact wpAny_truthy_bool ⟨H,I,q⟩
 | int i=>
  obtain ⟨t,rfl⟩:=rx
  have e':k=(i != 0):=e
  subst e'
  exact PySem.P.truthy_int ⟨H,I,q⟩
 | str y=>
  obtain ⟨t,rfl⟩:=rx
  obtain ⟨hy,e'⟩:y.length<=sizeLine/\k=((y.length:Int) != 0):=e
  subst e'
  exact PySem.P.truthy_str ⋯ ⟨H,I.tok _,q⟩
 | byt y=>
  obtain ⟨t,rfl⟩:=rx
  obtain ⟨hy,e'⟩:y.size<=sizeLine/\k=((y.size:Int) != 0):=e
  subst e'
  exact W.truthy_bytes ⋯ ⟨H,I.tok _,q⟩
 | ref p=>
  cases rx
  have e':(∃ xs,SqL X.K H p xs/\k= !xs.isEmpty)\/(∃ xs,SqT X.K H p xs/\k= !xs.isEmpty)\/ ∃ kvs,H p=some (.dK kvs)/\k= !kvs.isEmpty:=e
  rcases e' with ⟨xs,hx,e'⟩ | ⟨xs,hx,e'⟩ | ⟨kvs,hx,e'⟩
  ·subst e'
   obtain ⟨its,r,pl,hz⟩:=I.list hx
   have hlen:=r.length
   exact wpAny_truthy_list pl.isList (by simp only [qaA];omega) ⟨H,I.tok _,by rw [zg1 r];exact q⟩
  ·subst e'
   obtain ⟨its,r,pl,hz⟩:=I.tuple hx
   have hlen:=r.length
   exact truthy_tuple pl (by simp only [qaA];omega) ⟨H,I.tok _,by rw [zg1 r];exact q⟩
  ·subst e'
   obtain ⟨hz,hS,vs,r,m⟩:kvs.length<=sizeLine/\(p==sysModules)=false/\ ∃ vs,KV kvs vs/\s.heap.DictOf (zek X.prog X.w) p vs:=I.hok p _ hx
   have hlen:kvs.length=vs.length:=Paired.length r
   exact wpAny_truthy_dict hS m ⋯ ⟨H,I.tok _,by rw [zkH r];exact q⟩
 | _=>exact (show False from e).elim
theorem znS (ha:PE X a ta) (he: ∀ whole,isTrue a X.env whole=(do let v<-whole;standAt a.pos;holding [v] (truthy v))):
  PT X a (λσ H Q=>ta σ H λx H'=> ∃ k,zvY X.K x H' k/\Q k H'):=by
 intro pins s σ H Q I h
 exact isTrue_plain (thn (ha pins s σ H _ I h) λv s1 ⟨x,H1,I1,r1,q1⟩=>zsN pins s1 σ H1 x v Q I1 r1 q1) (he _)
theorem zlj:OpR X (binaryOp .Add) (λx y H Q=> ∃ i j,x= .str i/\y= .str j/\i.length+j.length<=sizeLine/\Q (.str (i++j)) H):=by
 intro pins s σ H x y v u Q I rx ry h
 obtain ⟨i,j,rfl,rfl,hz,q⟩:=h
 obtain ⟨t,rfl⟩:=rx
 obtain ⟨t',rfl⟩:=ry
 exact add_str (λt' tk=>⟨.str (i++j),H,I.tok _,⟨_,rfl⟩,q⟩) hz
theorem zen {x:V} {us:List Value} (r:za4 [x] us): ∃ u,us=[u]/\zbO x u:=by
 cases r with
 | cons r1 r2=>cases r2;exact ⟨_,rfl,r1⟩
theorem zpP {x y:V} {us:List Value} (r:za4 [x,y] us): ∃ u w',us=[u,w']/\zbO x u/\zbO y w':=by
 cases r with
 | cons r1 r2=>
  cases r2 with
  | cons r3 r4=>cases r4;exact ⟨_,_,rfl,r1,r3⟩
theorem zmh (hc:X.calm=true):zaK X (.builtin "max") (λxs H Q=> ∃ i j,xs=[.int i,.int j]/\Q (.int (if j>i then j else i)) H):=by
 intro pins s σ H xs us Q I r h
 obtain ⟨i,j,rfl,q⟩:=h
 obtain ⟨u,w',rfl,⟨t,rfl⟩,⟨t',rfl⟩⟩:=zpP r
 refine max_two_ints (I.ok.hd hc) λh' tk k=>⟨_,H,I.kept k,?_,q⟩
 by_cases hj:j>i
 ·rw [qa4 hj,qa4 hj];exact ⟨_,rfl⟩
 ·rw [qa5 hj,qa5 hj];exact ⟨_,rfl⟩
theorem zlC (hc:X.calm=true):zaK X (.builtin "min") (λxs H Q=> ∃ i j,xs=[.int i,.int j]/\Q (.int (if j<i then j else i)) H):=by
 intro pins s σ H xs us Q I r h
 obtain ⟨i,j,rfl,q⟩:=h
 obtain ⟨u,w',rfl,⟨t,rfl⟩,⟨t',rfl⟩⟩:=zpP r
 refine min_two_ints (I.ok.hd hc) λh' tk k=>⟨_,H,I.kept k,?_,q⟩
 by_cases hj:j<i
 ·rw [qa4 hj,qa4 hj];exact ⟨_,rfl⟩
 ·rw [qa5 hj,qa5 hj];exact ⟨_,rfl⟩
end
structure zro (h:Heap) (x dx C:Addr) (mA:Str->Option Value):Prop where
 obj:h.get? x=some (W.instObj C dx)
 ns:h.Ns1 dx mA
 ne:dx≠x
theorem zmg {h:Heap} {dx:Addr} {mA:Str->Option Value} (n:h.Ns1 dx mA): ∃ od,h.get? dx=some od/\ ∀ name,W.lookIn name od=some (mA name):=by
 obtain ⟨o,es,ep,ho,hd,hk,_,hm⟩:=n
 refine ⟨o,ho,λname=> ?_⟩
 have e:=hm name
 unfold nsFind findBy at e
 rw [<- Array.find?_toList] at e
 unfold W.lookIn
 rw [hd]
 dsimp only
 split
 ·rename_i y q
  rw [q] at e
  exact congrArg some e
 ·rename_i q
  rw [q] at e
  have a:es.toList.any (·.refKey)=false:=by
   rw [List.any_eq_false]
   intro y hy
   obtain ⟨z,t,hkey⟩:=hk y (Array.mem_toList_iff.mp hy)
   simp [DictEntry.refKey,hkey]
  have a': ¬es.toList.any (·.refKey)=true:=by rw [a];exact Bool.false_ne_true
  rw [qa5 a']
  exact congrArg some e
theorem zro.look {h:Heap} {x dx C:Addr} {mA:Str->Option Value} (I:zro h x dx C mA): ∃ od,W.InstAt h x (W.instObj C dx) C (some od)/\ ∀ name,W.lookIn name od=some (mA name):=
 let ⟨od,ho,hl⟩:=zmg I.ns
 ⟨od,⟨I.obj,rfl,rfl,ho⟩,hl⟩
section
variable {prog:Program} {w:World} {A:Around} {E:Value->Shared->Prop} {s:Shared} {K:W.Frag} {x dx C f:Addr} {mA:Str->Option Value} {name:Str} {v:Value}
theorem zqW {expr:Bool} {Q:Value->Shared->Prop} (X:K.In s.heap) (I:zro s.heap x dx C mA) (hg:W.plainGet K C name=true) (hh:W.hasDictIn K C=true)
  (ha:W.findIn K (.ref C) name=some none) (hv:mA name=some v) (hv':W.handedIn v=true) (h:Q v {s with toks:=s.toks+1}):
  wpAny (model prog w) A (getAttr (.ref x) name expr) Q E s:=by
 obtain ⟨od,J,hl⟩:=I.look
 exact W.get_value X J (W.plainGet_of hg).1 (W.findObj_own hh ha rfl (by rw [hl,hv])) hv' h
theorem znW {pl:Sem Bool} {Q:Value×List Value->Shared->Prop} (X:K.In s.heap) (I:zro s.heap x dx C mA) (hg:W.plainGet K C name=true)
  (hf:W.findIn K (.ref C) name=some (some (.ref f))) (ht:W.isFn K (.ref f)=true) (hv:mA name=none) (h:Q (.ref f,[.ref x]) s):
  wpAny (model prog w) A (getMethod (.ref x) name pl) Q E s:=by
 obtain ⟨od,J,hl⟩:=I.look
 exact W.method_fn X J (W.plainGet_of hg).1 (W.plainGet_of hg).2 hf (beq_iff_eq.mp ht) (by show (W.lookIn name od).map (·.isSome)=some false;rw [hl,hv];rfl) h
theorem zrd {ns:List Str} {Q:Unit->Shared->Prop} (X:K.In s.heap) (I:zro s.heap x dx C mA)
  (hs:W.findIn K (.ref C) "__setattr__"=some (some (.builtin "object.__setattr__"))) (hp:W.plainOver K C=true) (ht:W.takerIn K C name=some none) (hh:W.hasDictIn K C=true)
  (hw:PySem.Within mA ns) (hsz:ns.length<=sizeLine)
  (h: ∀ h',zro h' x dx C (λy=>if y=name then some v else mA y)->Heap.SameBut dx s.heap h'->Q () {s with heap:=h',toks:=s.toks+2}):
  wpAny (model prog w) A (setAttr (.ref x) name v) Q E s:=by
 obtain ⟨od,J,hl⟩:=I.look
 refine W.set_plain X J hs (W.osa_open (s:={s with toks:=s.toks+1}) (r:=none) X J hp ht λb=> ?_)
 obtain ⟨cd,hc,hd'⟩:=W.any_some hh
 have hx:s.heap.get? x=some ⟨.ref C,some dx,.plain, #[]⟩:=I.obj
 refine qaW (qaX (qaW (qaW (wpAny_loadPart hx (qaW (W.Looks.here (s:={s with toks:=s.toks+1}) (W.looks_clsIn X hc) ?_))))))
 rw [hd']
 refine qaX (a:=some dx) (qaW (qaX (qaW ?_)))
 refine wpAny_nsSet1 (s:={s with toks:=s.toks+1}) I.ns λh' hn2 hs2=> ?_
 obtain ⟨oD,esD,epD,hoD,hdD,hcD⟩:=hn2.count (PySem.Within.cons name v hw)
 refine qaW (wpAny_lookBehind hoD (by rw [hdD];exact pastItsLine_dict (qaS hcD (by rw [qaE];omega))) ?_)
 exact qaX (h _ ⟨(hs2.2 _ (Ne.symm I.ne)).trans I.obj,hn2,I.ne⟩ hs2)
theorem zoC {R:Result->Shared->Prop} {vs:List Value} {kw:List (Str×Value)} (X:K.In s.heap) (hm:W.makesIn K C=true)
  (hi:W.findIn K (.ref C) "__init__"=some (some (.ref f))) (hf:W.typeIn K (.ref f)=some (.type "function"))
  (h:codeAny (model prog w) (A.under (.builtin "type.__call__" ⟨.ref C::vs,kw⟩)) (.call (.ref f) ⟨.ref (s.heap.objs.size+1)::vs,kw⟩) (W.InitBack (s.heap.objs.size+1) R)
    {s with heap:=(s.heap.push W.emptyDict).push (W.instObj C s.heap.objs.size)}):
  codeAny (model prog w) A (.call (.ref C) ⟨vs,kw⟩) R s:=by
 obtain ⟨hh,g,d,t,os⟩:=s
 exact W.make_core (W.makes_of X hm) (W.looks_findIn X hi) (λself=>W.bind_fn X self hf) (.inl rfl) h
end
def zhS (f:Str) (v:V):List (Str×V)->List (Str×V)
 | []=>[(f,v)]
 | (g,x)::r=>if g=f then (g,v)::r else (g,x)::zhS f v r
theorem zgi (f g:Str) (v:V): ∀ fs:List (Str×V),(zhS f v fs).lookup g=if g=f then some v else fs.lookup g
 | []=>by
  show List.lookup g [(f,v)]=_
  by_cases h:g=f
  ·have hb:(g==f)=true:=beq_iff_eq.mpr h
   simp only [List.lookup,hb,qa4 h]
  ·have hb:(g==f)=false:=beq_eq_false_iff_ne.mpr h
   simp only [List.lookup,hb,qa5 h]
 | (k,x)::r=>by
  have ih:=zgi f g v r
  rw [show zhS f v ((k,x)::r)=(if k=f then (k,v)::r else (k,x)::zhS f v r) from rfl]
  by_cases hk:k=f
  ·rw [qa4 hk]
   by_cases h:g=k
   ·have hb:(g==k)=true:=beq_iff_eq.mpr h
    simp only [List.lookup,hb,qa4 (h.trans hk)]
   ·have hb:(g==k)=false:=beq_eq_false_iff_ne.mpr h
    simp only [List.lookup,hb,qa5 (λe:g=f=>h (e.trans hk.symm))]
  ·rw [qa5 hk]
   by_cases h:g=k
   ·have hb:(g==k)=true:=beq_iff_eq.mpr h
    simp only [List.lookup,hb,qa5 (λe:g=f=>hk (h.symm.trans e))]
   ·have hb:(g==k)=false:=beq_eq_false_iff_ne.mpr h
    simp only [List.lookup,hb]
    exact ih
theorem zfS (f:Str) (v:V): ∀ fs:List (Str×V),f∈(zhS f v fs).map (·.1)/\ ∀ g,g∈fs.map (·.1)->g∈(zhS f v fs).map (·.1)
 | []=>⟨by simp [zhS],λg h=>by simp at h⟩
 | (k,x)::r=>by
  obtain ⟨i1,i2⟩:=zfS f v r
  rw [show zhS f v ((k,x)::r)=(if k=f then (k,v)::r else (k,x)::zhS f v r) from rfl]
  by_cases hk:k=f
  ·rw [qa4 hk]
   subst hk
   exact ⟨by simp,λg h=>by simpa using h⟩
  ·rw [qa5 hk]
   refine ⟨?_,λg h=> ?_⟩
   ·rw [qaM]
    exact qan _ i1
   ·rw [qaM] at h ⊢
    rcases qaP.mp h with e | e
    ·exact qaP.mpr (.inl e)
    ·exact qan _ (i2 g e)
theorem zfZ (f:Str) (v:V): ∀ fs:List (Str×V),(zhS f v fs).length<=fs.length+1
 | []=>by simp [zhS]
 | (k,x)::r=>by
  have ih:=zfZ f v r
  rw [show zhS f v ((k,x)::r)=(if k=f then (k,v)::r else (k,x)::zhS f v r) from rfl]
  by_cases hk:k=f
  ·rw [qa4 hk,qaE,qaE];omega
  ·rw [qa5 hk,qaE,qaE];omega
theorem znD.some_of {v:V} {o:Option Value} (r:znD (some v) o): ∃ u,o=some u/\zbO v u:=by
 cases o with
 | none=>exact (show False from r).elim
 | some u=>exact ⟨u,rfl,r⟩
theorem znD.none_of {o:Option Value} (r:znD none o):o=none:=by
 cases o with
 | none=>rfl
 | some u=>exact (show False from r).elim
theorem znt {v:V} {u:Value} (r:zbO v u):W.handedIn u=true:=by
 cases v with
 | non=>cases (show u=Value.none from r);rfl
 | bl b=>cases (show u=Value.bool b from r);rfl
 | int i=>obtain ⟨t,e⟩:=(show ∃ t,u=Value.int i t from r);cases e;rfl
 | str x=>obtain ⟨t,e⟩:=(show ∃ t,u=Value.str x t from r);cases e;rfl
 | byt b=>obtain ⟨t,e⟩:=(show ∃ t,u=Value.bytes b t from r);cases e;rfl
 | flt b=>obtain ⟨t,e⟩:=(show ∃ t,u=Value.float b t from r);cases e;rfl
 | ref a=>cases (show u=Value.ref a from r);rfl
 | ty n=>cases (show u=Value.type n from r);rfl
section
variable {P:Program} {w:World} {H H':Hp} {h h':Heap} {a C dx:Addr} {fs fs':List (Str×V)}
theorem zhP (hok:HOk P w H h) (e:H a=some (.ins C dx fs)): ∃ mA,zro h a dx C mA/\(∀ f,znD (fs.lookup f) (mA f))/\PySem.Within mA (fs.map (·.1))/\fs.length<=1000/\H dx=some (.own a):=by
 obtain ⟨d,z,ne,ob,mA,n,r,q⟩:=(show zcf P w H h a (.ins C dx fs) from hok a _ e)
 exact ⟨mA,⟨ob,n,ne⟩,r,q,z,d⟩
end
structure Cls (K:W.Frag) (C:Addr):Prop where
 pg:W.plainGet K C Str.empty=true
 hd:W.hasDictIn K C=true
 po:W.plainOver K C=true
 sa:W.findIn K (.ref C) "__setattr__"=some (some (.builtin "object.__setattr__"))
theorem Cls.get {K:W.Frag} {C:Addr} (c:Cls K C) (f:Str):W.plainGet K C f=true:=c.pg
def zfE (K:W.Frag) (C:Addr) (f:Str):Prop:=W.findIn K (.ref C) f=some none
theorem zfE.taker {K:W.Frag} {C:Addr} {f:Str} (n:zfE K C f):W.takerIn K C f=some none:=by
 unfold W.takerIn
 rw [show W.findIn K (.ref C) f=some none from n]
 rfl
structure Con (K:W.Frag) (C:Addr) (f:Str) (v:V) (u:Value):Prop where
 at_:W.findIn K (.ref C) f=some (some u)
 rel:zbO v u
 get:W.specialIn K u "__get__"=some none
 cp:W.copiedNames.contains f=false
structure zi3 (K:W.Frag) (C:Addr) (m:Str) (f:Addr):Prop where
 at_:W.findIn K (.ref C) m=some (some (.ref f))
 fn:W.isFn K (.ref f)=true
 kp:W.keepIn K (.ref f)=true
section
variable {X:Cx} {pins:List (Addr×Obj)} {σ:St} {H:Hp} {s:Shared} {a C dx:Addr} {fs:List (Str×V)} {f:Str} {v:V} {A:Around} {E:Value->Shared->Prop}
theorem zk6 {b:Bool} {Q:Value->Shared->Prop} (I:Inv X pins σ H s) (e:H a=some (.ins C dx fs)) (c:Cls X.K C) (n:zfE X.K C f) (l:fs.lookup f=some v)
  (h: ∀ u s',Inv X pins σ H s'->zbO v u->Q u s'):wpAny (model X.prog X.w) A (getAttr (.ref a) f b) Q E s:=by
 obtain ⟨mA,O,r,_,_,_⟩:=zhP I.hok e
 obtain ⟨u,hu,ru⟩:=znD.some_of (v:=v) (o:=mA f) (by rw [<- l];exact r f)
 exact zqW I.kIn O (c.get f) c.hd n hu (znt ru) (h u _ (I.tok _) ru)
theorem zgT {m:Str} {g:Addr} {pl:Sem Bool} {Q:Value×List Value->Shared->Prop} (I:Inv X pins σ H s) (e:H a=some (.ins C dx fs)) (c:Cls X.K C) (k:zi3 X.K C m g) (l:fs.lookup m=none)
  (h:Q (.ref g,[.ref a]) s):wpAny (model X.prog X.w) A (getMethod (.ref a) m pl) Q E s:=by
 obtain ⟨mA,O,r,_,_,_⟩:=zhP I.hok e
 have hn:mA m=none:=znD.none_of (by rw [<- l];exact r m)
 exact znW I.kIn O (c.get m) k.at_ k.fn hn h
theorem zkZ {y:V} {u:Value} {Q:Unit->Shared->Prop} (I:Inv X pins σ H s) (e:H a=some (.ins C dx fs)) (c:Cls X.K C) (n:zfE X.K C f) (hl:fs.length<1000) (ry:zbO y u)
  (h: ∀ s',Inv X pins σ (upd H a (.ins C dx (zhS f y fs))) s'->Q () s'):wpAny (model X.prog X.w) A (setAttr (.ref a) f u) Q E s:=by
 obtain ⟨mA,O,r,wi,_,ho⟩:=zhP I.hok e
 have hz:(fs.map (·.1)).length<=sizeLine:=by rw [qaH,sizeLine_eq];omega
 refine zrd I.kIn O c.sa c.po n.taker c.hd wi hz λh' O' sb=>h _ ?_
 have hd: ∃ o,h'.get? dx=some o:=let ⟨o,_,_,e',_⟩:=O'.ns;⟨o,e'⟩
 refine I.write (x:=a) (e:=dx) (by rw [e];exact True.intro) (.inr ho) (λb q hb z=>(sb.2 b hb).trans z) hd ?_
 refine ⟨by rw [zaE O.ne];exact ho,?_,O.ne,O'.obj,_,O'.ns,λg=> ?_,λg hg=> ?_⟩
 ·have:=zfZ f y fs;omega
 ·show znD ((zhS f y fs).lookup g) (if g=f then some u else mA g)
  rw [zgi]
  by_cases q:g=f
  ·rw [qa4 q,qa4 q];exact ry
  ·rw [qa5 q,qa5 q];exact r g
 ·by_cases q:g=f
  ·rw [q];exact (zfS f y fs).1
  ·refine (zfS f y fs).2 g (wi g λz=>hg ?_)
   show (if g=f then some u else mA g)=none
   rw [qa5 q];exact z
theorem Inv.made (I:Inv X pins σ H s):Inv X pins σ (upd (upd H s.heap.objs.size (.own (s.heap.objs.size+1))) (s.heap.objs.size+1) (.ins C s.heap.objs.size []))
  {s with heap:=(s.heap.push W.emptyDict).push (W.instObj C s.heap.objs.size)}:=by
 have e1:(s.heap.push W.emptyDict).get? s.heap.objs.size=some W.emptyDict:=qar s.heap rfl
 have e2:((s.heap.push W.emptyDict).push (W.instObj C s.heap.objs.size)).get? (s.heap.objs.size+1)=some (W.instObj C s.heap.objs.size):=by
  have:=qar (s.heap.push W.emptyDict) (o:=W.instObj C s.heap.objs.size) rfl
  rwa [qaL] at this
 have e3:(s.heap.push W.emptyDict).Ns s.heap.objs.size (λ_=>none):=⟨W.emptyDict, #[],_,e1,rfl,(λe he=>absurd he (by simp)),λ_=>rfl⟩
 have I1:=I.laid (a:=s.heap.objs.size) (o:= .own (s.heap.objs.size+1)) (h':=s.heap.push W.emptyDict) (t':=s.toks) (λb u q=>qag _ q) (qaV _) ⟨_,e1⟩
 refine I1.laid (a:=s.heap.objs.size+1) (o:= .ins C s.heap.objs.size []) (t':=s.toks) (λb u q=>qag _ q) (le_of_eq (qaL _ _)) ?_
 have ne:s.heap.objs.size≠s.heap.objs.size+1:=qaR (lt_succ_self _)
 refine ⟨by rw [zaE ne,za2],zero_le _,ne,e2,λ_=>none,(Heap.Ns1.of_empty e3).at λo q=>qag _ q,λ_=>True.intro,λy hy=>absurd rfl hy⟩
theorem zrs {prog:Program} {w:World} {env:Env} {e:Expr} {f:Str} {pos:Pos} {s:Shared} {Q:Value->Shared->Prop} (hb:attributeBase e f env (eval e env)=eval e env)
  (h:wpAny (model prog w) A (eval e env) (λo s₁=>wpAny (model prog w) A (getAttr o f true) Q E s₁) E s):wpAny (model prog w) A (eval (.Attribute e f pos) env) Q E s:=
 Attribute_any_ h (by rw [arm_eval_Attribute,hb])
end
def zwk (K:W.Frag) (ta:TE) (f:Str):TE:=λσ H Q=>ta σ H λx H1=> ∃ a C dx fs v,x= .ref a/\H1 a=some (.ins C dx fs)/\Cls K C/\zfE K C f/\fs.lookup f=some v/\Q v H1
def zv8 (K:W.Frag) (ta tv:TE) (f:Str):TS:=λD σ H=>tv σ H λy H1=>ta σ H1 λx H2=> ∃ a C dx fs,x= .ref a/\H2 a=some (.ins C dx fs)/\Cls K C/\zfE K C f/\fs.length<1000/\
 D.nx σ (upd H2 a (.ins C dx (zhS f y fs)))
section
variable {X:Cx} {o e value:Expr} {f:Str} {pos pos' tpos:Pos} {ta tv:TE}
theorem zsT (he:PE X e ta) (hb:attributeBase e f X.env (eval e X.env)=eval e X.env):PE X (.Attribute e f pos) (zwk X.K ta f):=by
 intro pins s σ H Q I h
 refine zrs hb (thn (he pins s σ H _ I h) λu s1 ⟨x,H1,I1,rx,a,C,dx,fs,v,ex,ea,c,n,l,q⟩=> ?_)
 subst ex
 obtain rfl:u=Value.ref a:=rx
 exact zk6 I1 ea c n l λu' s2 I2 ru=>⟨v,H1,I2,ru,q⟩
theorem ztx (ha:PE X o ta) (hv:PE X value tv) (hs:swapsWith value (some (.Attribute o f pos')) pos.line X.env=pure false):PS X (.Assign [.Attribute o f pos'] value pos) (zv8 X.K ta tv f):=by
 intro pins s σ H D I h
 refine plainObj_wpAny_Assign_Attribute (thn (hv pins s σ H _ I h) λu s1 ⟨y,H1,I1,ry,q⟩=>thn (ha pins s1 σ H1 _ I1 q) λov s2 ⟨x,H2,I2,rx,a,C,dx,fs,ex,ea,c,n,l,q2⟩=> ?_) hs
 subst ex
 obtain rfl:ov=Value.ref a:=rx
 exact zkZ I2 ea c n l ry λs3 I3=>⟨σ,_,I3,q2⟩
end
section
variable {X:Cx} {pins:List (Addr×Obj)} {σ:St} {H:Hp} {s:Shared} {A:Around} {E:Value->Shared->Prop} {Q:Value->Shared->Prop} {c:Value} {b:Bool}
inductive zkr (K:W.Frag) (H:Hp):V->Value->Prop where
 | non:zkr K H .non (.type "NoneType")
 | bl (x:Bool):zkr K H (.bl x) (.type "bool")
 | int (i:Int):zkr K H (.int i) (.type "int")
 | str (x:Str):zkr K H (.str x) (.type "str")
 | flt (x:UInt64):zkr K H (.flt x) (.type "float")
 | lst {a:Addr} {xs:List V} (e:H a=some (.lst xs)):zkr K H (.ref a) (.type "list")
 | frz {a:Addr} {o:Obj} {xs:List V} (e:H a=some (.frz o (.lst xs))):zkr K H (.ref a) (.type "list")
 | tup {a:Addr} {xs:List V} (e:H a=some (.tup xs)):zkr K H (.ref a) (.type "tuple")
 | dK {a:Addr} {kvs:List (Key×V)} (e:H a=some (.dK kvs)):zkr K H (.ref a) (.type "dict")
 | dT {a:Addr} {kvs:List (List Key×V)} (e:H a=some (.dT kvs)):zkr K H (.ref a) (.type "dict")
 | ins {a C dx:Addr} {fs:List (Str×V)} (e:H a=some (.ins C dx fs)) (cl:Cls K C) (ha:W.findIn K (.ref C) "__class__"=some (some (.builtin "object.__class__")))
   (hn:W.specialIn K (.builtin "object.__class__") "__get__"=some (some (.builtin "getset_descriptor.__get__"))) (htk:W.takesIn K (.builtin "object.__class__")=some true)
   (hm:W.mroIn K C (.type "object")=some true):zkr K H (.ref a) (.ref C)
theorem znx {x:V} {u t:Value} (I:Inv X pins σ H s) (rx:zbO x u) (ty:zkr X.K H x t) (e:W.kitOne X.K t c=some b) (h: ∀ tk,Q (.bool b) {s with toks:=tk}):
  wpAny (model X.prog X.w) A (call (.builtin "isinstance") [u,c]) Q E s:=by
 cases ty with
 | non=>cases (show u=Value.none from rx);exact W.kia_one W.kitx_none I.kIn True.intro e (λz=>nomatch z) h
 | bl y=>cases (show u=Value.bool y from rx);exact W.kia_one W.kitx_bool I.kIn True.intro e (λz=>nomatch z) h
 | int i=>obtain ⟨t,q⟩:=(show ∃ t,u=Value.int i t from rx);cases q;exact W.kia_one W.kitx_int I.kIn True.intro e (λz=>nomatch z) h
 | str y=>obtain ⟨t,q⟩:=(show ∃ t,u=Value.str y t from rx);cases q;exact W.kia_one W.kitx_str I.kIn True.intro e (λz=>nomatch z) h
 | flt y=>obtain ⟨t,q⟩:=(show ∃ t,u=Value.float y t from rx);cases q;exact W.kia_one W.kitx_float I.kIn True.intro e (λz=>nomatch z) h
 | @lst a xs ea=>
  cases (show u=Value.ref a from rx)
  obtain ⟨_,_,n,_,h1⟩:=(show zcf X.prog X.w H s.heap a (.lst xs) from I.hok a _ ea)
  exact W.kia_one W.kitx_list I.kIn ⟨_,h1,rfl⟩ e (λz=>nomatch z) h
 | @frz a ob xs ea=>
  cases (show u=Value.ref a from rx)
  obtain ⟨_,_,_,n,_,h1⟩:=(show zcf X.prog X.w H s.heap a (.frz ob (.lst xs)) from I.hok a _ ea)
  exact W.kia_one W.kitx_list I.kIn ⟨_,h1,rfl⟩ e (λz=>nomatch z) h
 | @tup a xs ea=>
  cases (show u=Value.ref a from rx)
  obtain ⟨_,_,_,p⟩:=(show zcf X.prog X.w H s.heap a (.tup xs) from I.hok a _ ea)
  obtain ⟨o,h1,h2,_⟩:=p
  exact W.kia_one W.kitx_tuple I.kIn ⟨o,h1,h2⟩ e (λz=>nomatch z) h
 | @dK a kvs ea=>
  cases (show u=Value.ref a from rx)
  obtain ⟨_,_,vs,_,p⟩:=(show zcf X.prog X.w H s.heap a (.dK kvs) from I.hok a _ ea)
  obtain ⟨o,es,ep,h1,h2,_⟩:=p
  exact W.kia_one W.kitx_dict I.kIn ⟨o,h1,h2.1⟩ e (λz=>nomatch z) h
 | @dT a kvs ea=>
  cases (show u=Value.ref a from rx)
  obtain ⟨_,_,xs,_,o,es,ep,h1,h2,_⟩:=(show zcf X.prog X.w H s.heap a (.dT kvs) from I.hok a _ ea)
  exact W.kia_one W.kitx_dict I.kIn ⟨o,h1,h2.1⟩ e (λz=>nomatch z) h
 | @ins a C dx fs ea cl ha hn htk hm=>
  cases (show u=Value.ref a from rx)
  obtain ⟨mA,O,_⟩:=zhP I.hok ea
  obtain ⟨od,J,_⟩:=O.look
  exact W.kia_one (W.kitx_own (cl.get _) cl.hd ha hn htk hm) I.kIn J e (λz=>nomatch z) h
end
structure zd8 (k:Nat) (A:Around):Prop where
 hd:A.handled=none
 dp:A.depth+3*k+5<recursionLimit
 un:A.units+16*k+200<cLine
theorem zd8.mono {j k:Nat} {A:Around} (r:zd8 k A) (h:j<=k):zd8 j A:=⟨r.hd,by have:=r.dp;omega,by have:=r.un;omega⟩
theorem zd8.deeper {k:Nat} {A:Around} (r:zd8 (k+1) A) (env:Env):zd8 k (A.deeper env):=
 ⟨r.hd,by have:=r.dp;show A.depth+1+3*k+5<_;omega,by have:=r.un;show A.units+3+16*k+200<_;omega⟩
theorem zk5 {A:Around} {C:Addr} {us:List Value} {kw:List (Str×Value)}:(A.under (.builtin "type.__call__" ⟨.ref C::us,kw⟩)).depth=A.depth+1:=by
 first | rfl | simp [Around.under,Code.weight,Code.isCreation,Code.isGuard,Code.isCaller,Code.frames,Code.isFrame,guardIds]
theorem zld {A:Around} {C:Addr} {us:List Value} {kw:List (Str×Value)}:(A.under (.builtin "type.__call__" ⟨.ref C::us,kw⟩)).units=A.units+1:=by
 first | rfl | simp [Around.under,Code.cUnits,Code.frames,Code.isFrame]
theorem zd8.make {k:Nat} {A:Around} (r:zd8 (k+1) A) (C:Addr) (us:List Value) (kw:List (Str×Value)):zd8 k (A.under (.builtin "type.__call__" ⟨.ref C::us,kw⟩)):=
 ⟨r.hd,by have:=r.dp;rw [zk5];omega,by have:=r.un;rw [zld];omega⟩
theorem zd8.depth {k:Nat} {A:Around} (r:zd8 k A):A.depth<recursionLimit:=by have:=r.dp;omega
theorem zd8.units {k:Nat} {A:Around} (r:zd8 k A):A.units+64<cLine:=by have:=r.un;omega
def zvS:TA:=λ_ H Q=>Q [] H
def zvt (ta:TE) (tr:TA):TA:=λσ H Q=>ta σ H λx H1=>tr σ H1 λxs H2=>Q (x::xs) H2
section
variable {X:Cx} {e:Expr} {es:List Expr} {te:TE} {t:TA} {pos:Pos}
theorem zdx:PA X [] zvS:=λ_ _ _ _ H Q I h=>Calls.spliced_nil ⟨[],H,I,.nil,h⟩
theorem zb3 (ha:PE X e te) (hr:PA X es t) (hs:starEach (e::es) X.env=(false,eval e X.env)::starEach es X.env:=by rfl):PA X (e::es) (zvt te t):=by
 intro pos pins s σ H Q I h
 rw [hs]
 show wpAny _ _ (spliced ((false,eval e X.env)::backTo pos (starEach es X.env))) _ _ s
 refine Calls.spliced_cons (thn (ha pins s σ H _ I h) λu s1 ⟨x,H1,I1,r1,q1⟩=> ?_)
 exact thn (hr pos pins s1 σ H1 _ I1 q1) λus s2 ⟨xs,H2,I2,r2,q2⟩=>⟨x::xs,H2,I2,.cons r1 r2,q2⟩
def zwb (t:TA):TE:=λσ H Q=>t σ H λxs H1=>xs.length<=sizeLine/\ ∀ p,H1 p=none->Q (.ref p) (upd H1 p (.tup xs))
def ztT (t:TA):TE:=λσ H Q=>t σ H λxs H1=>xs.length<=sizeLine/\ ∀ p,H1 p=none->Q (.ref p) (upd H1 p (.lst xs))
theorem ztK {x1} (h:PA X es t):PE X (.Tuple es x1 pos) (zwb t):=by
 intro pins s σ H Q I hq
 refine wpAny_Tuple_spliced (thn (h pos pins s σ H _ I hq) λus s1 ⟨xs,H1,I1,r,z,q⟩=>⟨by rw [<- r.length];exact z,?_⟩)
 have hf:H1 s1.heap.objs.size=none:=I1.hok.fresh (qaV _)
 refine ⟨.ref s1.heap.objs.size,upd H1 s1.heap.objs.size (.tup xs),I1.laid (t':=s1.toks) (λb u e=>qag _ e) (qaV _) ?_,rfl,q _ hf⟩
 exact ⟨z,us,r,⟨_,qar _ rfl,rfl,_,rfl,rfl⟩⟩
theorem zpL (h:PA X es t):PE X (.List es pos) (ztT t):=by
 intro pins s σ H Q I hq
 refine wpAny_List_spliced (thn (h pos pins s σ H _ I hq) λus s1 ⟨xs,H1,I1,r,z,q⟩=>⟨by rw [<- r.length];exact z,?_⟩)
 have hf:H1 s1.heap.objs.size=none:=I1.hok.fresh (qaV _)
 refine ⟨.ref s1.heap.objs.size,upd H1 s1.heap.objs.size (.lst xs),I1.laid (t':=s1.toks) (λb u e=>qag _ e) (qaV _) ?_,rfl,q _ hf⟩
 exact ⟨z,us,0,r,qar _ rfl⟩
end
abbrev Sp:=List V->Hp->VK->XK->Prop
abbrev CXT:=List Env->Hp->Shared->XK->Value->Shared->Prop
structure zpp (P:Program) (w:World) (K:W.Frag) (mg:Str->Option Value) (base:Heap) (A:Around) (outer:List Env) (s:Shared) (H:Hp):Prop where
 frames:A.frames=some outer
 mod:Mod K mg base
 bs: ∀ b o,base.get? b=some o->s.heap.get? b=some o/\H b=none
 bsz:base.objs.size<=s.heap.objs.size
 funs:s.heap.FunFrames base outer
 frf: ∀ b∈frs outer,H b=none
 hok:HOk P w H s.heap
 bare:AllBare s.gens
 hand:zio A H
def CE (outer:List Env) (P:Program) (w:World) (H:Hp) (s:Shared) (Q:VK) (u:Value) (s':Shared):Prop:=
 ∃ v H',s'.os=s.os/\AllBare s'.gens/\Un (frs outer) [] H H' s.heap s'.heap/\HOk P w H' s'.heap/\zbO v u/\Q v H'
def CR (CX:CXT) (outer:List Env) (P:Program) (w:World) (H:Hp) (s:Shared) (Q:VK) (E:XK) (r:Result) (s':Shared):Prop:=
 match r with
 | .ok (.ret u)=>CE outer P w H s Q u s'
 | .ok _=>False
 | .error e=>CX outer H s E e s'
structure zbr (P:Program) (w:World) (K:W.Frag) (mg:Str->Option Value) (base:Heap) (CX:CXT) (k:Nat) (f:Addr) (fd:FuncData) (ps:List Str) (sp:Sp):Prop where
 len: ∀ vs H Q E,sp vs H Q E->vs.length=ps.length
 run: ∀ (A:Around) (outer:List Env) (s:Shared) (H:Hp) (args:Args) (us:List Value) (vs:List V) (Q:VK) (E:XK),zd8 k A->zpp P w K mg base A outer s H->BindsTo s fd args (ps.zip us)->za4 vs us->sp vs H Q E->
  codeAny (model P w) A (.call (.ref f) args) (CR CX outer P w H s Q E) s
theorem zpp.make {P:Program} {w:World} {K:W.Frag} {mg:Str->Option Value} {base:Heap} {A:Around} {outer:List Env} {s:Shared} {H:Hp} (e:zpp P w K mg base A outer s H) (C:Addr) (us:List Value) (kw:List (Str×Value)):
  zpp P w K mg base (A.under (.builtin "type.__call__" ⟨.ref C::us,kw⟩)) outer s H:=⟨by first | exact e.frames | (simpa [Around.under,Code.envs,Code.isFrame,pushEnvs] using e.frames),e.mod,e.bs,e.bsz,e.funs,e.frf,e.hok,e.bare,e.hand⟩
section
variable {X:Cx} {pins:List (Addr×Obj)} {σ:St} {H:Hp} {s s':Shared}
theorem Inv.env0 (I:Inv X pins σ H s):zpp X.prog X.w X.K X.mg X.base X.A X.stack s H:=
 ⟨I.ok.frames,I.ok.mod,I.bs,qaS I.ok.bsz I.sz,I.stack,I.stkFree,I.hok,I.bare,I.handA⟩
theorem Inv.after {Q:VK} {u:Value} (I:Inv X pins σ H s) (h:CE X.stack X.prog X.w H s Q u s'):EP X pins σ Q u s':=by
 obtain ⟨v,H',os,bare,un,hok,r,q⟩:=h
 obtain ⟨hh,g,d,t,os'⟩:=s'
 obtain rfl:os'=s.os:=os
 exact ⟨v,H',I.call (h':=hh) (g':=g) (d':=d) (t':=t) (ch:=[]) un hok bare (λb z=>absurd z (by simp)),r,q⟩
end
def zuw (sp:Sp) (dvs:List V) (E:XK) (t:TA):TE:=λσ H Q=>t σ H λvs H1=>sp (vs++dvs) H1 Q E
def zss (C:Addr) (m:Str) (sp:Sp) (dvs:List V) (E:XK) (ta:TE) (t:TA):TE:=λσ H Q=>ta σ H λx H1=> ∃ a dx fs,x= .ref a/\H1 a=some (.ins C dx fs)/\fs.lookup m=none/\
 t σ H1 λvs H2=>sp (x::(vs++dvs)) H2 Q E
def zvr (C:Addr) (sp:Sp) (dvs:List V) (E:XK) (t:TA):TE:=λσ H Q=>t σ H λvs H1=> ∀ x dx,H1 x=none->H1 dx=none->dx≠x->
 sp (.ref x::(vs++dvs)) (upd (upd H1 dx (.own x)) x (.ins C dx [])) (λv H2=>v= .non/\Q (.ref x) H2) E
def zay (K:W.Frag) (fd:FuncData) (ps:List Str) (ds:List Value):Prop:=
 ∀ (s:Shared) (us:List Value),K.In s.heap->(us++ds).length=ps.length->BindsTo s fd ⟨us,[]⟩ (ps.zip (us++ds))
theorem zay.all {K:W.Frag} {fd:FuncData} {ps:List Str} (h: ∀ us:List Value,us.length=ps.length->bindArgs fd ⟨us,[]⟩=pure (ps.zip us)):zay K fd ps []:=λs us _ hl=>by
 rw [append_nil] at hl ⊢
 exact .of_eq (h us hl)
def zfI (CX:CXT) (X:Cx) (E:XK):Prop:= ∀ (pins:List (Addr×Obj)) (σ:St) (H:Hp) (s:Shared) (e:Value) (s':Shared),Inv X pins σ H s->CX X.stack H s E e s'->X.xe e s'
section
variable {X:Cx} {CX:CXT} {k:Nat} {f C:Addr} {fd:FuncData} {ps:List Str} {sp:Sp} {dvs:List V} {ds:List Value} {E:XK} {x m:Str} {p pos apos:Pos} {e o:Expr} {es:List Expr} {ta:TE} {t:TA}
theorem zl0 {pins:List (Addr×Obj)} {σ:St} {H:Hp} {s:Shared} {Q:VK} {us:List Value} {vs:List V} (F:zbr X.prog X.w X.K X.mg X.base CX k f fd ps sp) (hr:zd8 k X.A) (hb:zay X.K fd ps ds) (hd:za4 dvs ds) (hx:zfI CX X E)
  (I:Inv X pins σ H s) (r:za4 vs us) (h:sp (vs++dvs) H Q E):wpAny (model X.prog X.w) X.A (call (.ref f) us) (EP X pins σ Q) X.xe s:=by
 have r2:za4 (vs++dvs) (us++ds):=r.append hd
 have hl:(us++ds).length=ps.length:=by rw [<- r2.length];exact F.len _ _ _ _ h
 refine wpAny_call (codeAny_mono (F.run X.A X.stack s H ⟨us,[]⟩ (us++ds) (vs++dvs) Q E hr I.env0 (hb s us I.kIn hl) r2 h) λr s' hq=> ?_)
 cases r with
 | error e=>exact hx pins σ H s e s' I hq
 | ok fl=>
  cases fl with
  | ret u=>exact I.after hq
  | next=>exact qa0 hq
  | brk=>exact qa0 hq
  | cont=>exact qa0 hq
theorem zp0 (F:zbr X.prog X.w X.K X.mg X.base CX k f fd ps sp) (hr:zd8 k X.A) (hg:Gl X x) (hm:X.mg x=some (.ref f)) (hk:W.keepIn X.K (.ref f)=true) (hb:zay X.K fd ps ds) (hd:za4 dvs ds) (hx:zfI CX X E)
  (ha:PA X (e::es) t) (hdb:(x==("__debug__":Str))=false:=by decide) (he:starEach (e::es) X.env=(false,eval e X.env)::starEach es X.env:=by rfl) (hpl:(backTo pos (starEach es X.env)).any (·.1)=false:=by rfl):
  PE X (.Call (.Name x p) (e::es) [] pos) (zuw sp dvs E t):=by
 intro pins s σ H Q I h
 refine wpAny_Call_Name_kw (zjg I hg hm ?_ hdb)
 refine W.callWith_K (h₀:=X.base) I.ok.mod.kin hk (thn (ha pos pins s σ H _ I h) λus s1 ⟨vs,H1,I1,r,q⟩=>⟨I1.kIn,?_⟩) he hpl
 exact zl0 F hr hb hd hx I1 r q
theorem zru {pl:Sem Bool} (he:PE X o ta) (c:Cls X.K C) (hm:zi3 X.K C m f) (F:zbr X.prog X.w X.K X.mg X.base CX k f fd ps sp) (hr:zd8 k X.A) (hb:zay X.K fd ps ds) (hd:za4 dvs ds) (hx:zfI CX X E) (ha:PA X (e::es) t)
  (hst:starEach (e::es) X.env=(false,eval e X.env)::starEach es X.env:=by rfl) (hpl:(backTo pos (starEach es X.env)).any (·.1)=false:=by rfl)
  (ht:eval (.Call (.Attribute o m apos) (e::es) [] pos) X.env=(do
    let ov<-eval o X.env
    standAt apos.atName
    let (f,first)<-holding [ov] (getMethod ov m pl)
    callWith pos f first (backTo pos (starEach (e::es) X.env)) (backToKw pos (keywordEach [] X.env))):=by rfl):
  PE X (.Call (.Attribute o m apos) (e::es) [] pos) (zss C m sp dvs E ta t):=by
 intro pins s σ H Q I h
 refine W.methodCall_KW (pl:=pl) (thn (he pins s σ H _ I h) λu s1 ⟨x,H1,I1,rx,a,dx,fs,ex,ea,l,q⟩=> ?_) ht
 subst ex
 obtain rfl:u=Value.ref a:=rx
 refine zgT I1 ea c hm l ?_
 refine W.callWith_K (first:=[.ref a]) (h₀:=X.base) I.ok.mod.kin hm.kp (thn (ha pos pins s1 σ H1 _ I1 q) λus s2 ⟨vs,H2,I2,r,q2⟩=>⟨I2.kIn,?_⟩) hst hpl
 exact zl0 (us:= .ref a::us) (vs:= .ref a::vs) F hr hb hd hx I2 (.cons rfl r) q2
theorem zoz {pl:Sem Bool} (he:PE X o ta) (c:Cls X.K C) (hm:zi3 X.K C m f) (F:zbr X.prog X.w X.K X.mg X.base CX k f fd ps sp) (hr:zd8 k X.A) (hb:zay X.K fd ps ds) (hd:za4 dvs ds) (hx:zfI CX X E)
  (ht:eval (.Call (.Attribute o m apos) [] [] pos) X.env=(do
    let ov<-eval o X.env
    standAt apos.atName
    let (f,first)<-holding [ov] (getMethod ov m pl)
    callWith pos f first (backTo pos (starEach [] X.env)) (backToKw pos (keywordEach [] X.env))):=by rfl):
  PE X (.Call (.Attribute o m apos) [] [] pos) (zss C m sp dvs E ta zvS):=by
 intro pins s σ H Q I h
 refine W.methodCall_KW (pl:=pl) (thn (he pins s σ H _ I h) λu s1 ⟨x,H1,I1,rx,a,dx,fs,ex,ea,l,q⟩=> ?_) ht
 subst ex
 obtain rfl:u=Value.ref a:=rx
 refine zgT I1 ea c hm l ?_
 exact W.callWith_K0 (first:=[.ref a]) I1.kIn hm.kp (zl0 (us:=[.ref a]) (vs:=[.ref a]) F hr hb hd hx I1 (.cons rfl .nil) q)
structure Mk (K:W.Frag) (C f:Addr):Prop where
 makes:W.makesIn K C=true
 init:W.findIn K (.ref C) "__init__"=some (some (.ref f))
 fn:W.isFn K (.ref f)=true
 kp:W.keepIn K (.ref C)=true
theorem zoM {pins:List (Addr×Obj)} {σ:St} {H:Hp} {s:Shared} {Q:VK} {us:List Value} {vs:List V} (M:Mk X.K C f) (F:zbr X.prog X.w X.K X.mg X.base CX k f fd ps sp) (hr:zd8 (k+1) X.A) (hb:zay X.K fd ps ds) (hd:za4 dvs ds)
  (hx:zfI CX X E) (I:Inv X pins σ H s) (r:za4 vs us)
  (h: ∀ x dx,H x=none->H dx=none->dx≠x->sp (.ref x::(vs++dvs)) (upd (upd H dx (.own x)) x (.ins C dx [])) (λv H2=>v= .non/\Q (.ref x) H2) E):
  wpAny (model X.prog X.w) X.A (call (.ref C) us) (EP X pins σ Q) X.xe s:=by
 have hq:=h (s.heap.objs.size+1) s.heap.objs.size (I.hok.fresh (le_succ _)) (I.hok.fresh (qaV _)) (qaR (lt_succ_self _))
 have I2:=Inv.made (C:=C) I
 have r2:za4 (V.ref (s.heap.objs.size+1)::(vs++dvs)) (Value.ref (s.heap.objs.size+1)::(us++ds)):= .cons rfl (r.append hd)
 have hl:(Value.ref (s.heap.objs.size+1)::us++ds).length=ps.length:=by
  have e:=r2.length
  rw [F.len _ _ _ _ hq] at e
  exact e.symm
 refine wpAny_call (zoC (f:=f) I.kIn M.makes M.init (beq_iff_eq.mp M.fn) (codeAny_mono (F.run _ X.stack _ _ ⟨Value.ref (s.heap.objs.size+1)::us,[]⟩ (Value.ref (s.heap.objs.size+1)::(us++ds)) _ _ E (hr.make C us [])
   (I2.env0.make C us []) (hb _ (Value.ref (s.heap.objs.size+1)::us) I2.kIn hl) r2 hq) λr s' hq'=> ?_))
 cases r with
 | error e=>exact hx pins σ _ _ e s' I2 hq'
 | ok fl=>
  cases fl with
  | ret u=>
   obtain ⟨v,H',I3,rv,ev,q3⟩:=I2.after hq'
   subst ev
   exact ⟨rv,⟨V.ref (s.heap.objs.size+1),H',I3,rfl,q3⟩⟩
  | next=>exact qa0 hq'
  | brk=>exact qa0 hq'
  | cont=>exact qa0 hq'
theorem zqh (M:Mk X.K C f) (F:zbr X.prog X.w X.K X.mg X.base CX k f fd ps sp) (hr:zd8 (k+1) X.A) (hg:Gl X x) (hm:X.mg x=some (.ref C)) (hb:zay X.K fd ps ds) (hd:za4 dvs ds) (hx:zfI CX X E)
  (ha:PA X (e::es) t) (hdb:(x==("__debug__":Str))=false:=by decide) (he:starEach (e::es) X.env=(false,eval e X.env)::starEach es X.env:=by rfl) (hpl:(backTo pos (starEach es X.env)).any (·.1)=false:=by rfl):
  PE X (.Call (.Name x p) (e::es) [] pos) (zvr C sp dvs E t):=by
 intro pins s σ H Q I h
 refine wpAny_Call_Name_kw (zjg I hg hm ?_ hdb)
 refine W.callWith_K (h₀:=X.base) I.ok.mod.kin M.kp (thn (ha pos pins s σ H _ I h) λus s1 ⟨vs,H1,I1,r,q⟩=>⟨I1.kIn,?_⟩) he hpl
 exact zoM M F hr hb hd hx I1 r q
end
section
variable {X:Cx} {CX:CXT} {k:Nat} {f C:Addr} {fd:FuncData} {ps ks:List Str} {sp:Sp} {E:XK} {x m:Str} {p pos apos kpos:Pos} {e o:Expr} {es:List Expr} {kws:List Keyword} {te ta:TE} {t tk:TA} {nm:Option Str}
structure zvL (K:W.Frag) (fd:FuncData) (ps ks:List Str) (g:List Value->List Value->List Value) (gV:List V->List V->List V):Prop where
 to: ∀ (s:Shared) (us ws:List Value),K.In s.heap->(g us ws).length=ps.length->BindsTo s fd ⟨us,ks.zip ws⟩ (ps.zip (g us ws))
 rel: ∀ {vs:List V} {us:List Value} {zs:List V} {ws:List Value},za4 vs us->za4 zs ws->za4 (gV vs zs) (g us ws)
variable {g:List Value->List Value->List Value} {gV:List V->List V->List V}
end
structure zan (N P:List Str) (sc:Scope):Prop where
 kind:sc.kind= .function
 co:sc.isCoroutine=false
 gen:sc.isGenerator=false
 nd:N.Nodup
 pre:N.take P.length=P
 par: ∀ x∈P,sc.names.lookup x=some .local\/sc.names.lookup x=some .cell
 nofree: ∀ y∈sc.names,y.2≠ .free
theorem ziI {kindOf:Str->Option NameKind} {x:Str}: ∀ {binds:List (Str×Value)} {m:Str->Option Value},(∀ v,(x,v)∉binds)->bindL kindOf binds m x=m x
 | [],_,_=>rfl
 | (n,v)::r,m,h=>by
  unfold bindL
  rw [ziI λw hw=>h w (qan _ hw)]
  split
  ·have:x≠n:=by rintro rfl;exact h v qau
   simp [this]
  ·rfl
theorem ziu {kindOf:Str->Option NameKind} {x:Str}: ∀ {binds:List (Str×Value)} {m:Str->Option Value},(∀ v,(x,v)∉binds)->bindC kindOf binds m x=m x
 | [],_,_=>rfl
 | (n,v)::r,m,h=>by
  unfold bindC
  rw [ziu λw hw=>h w (qan _ hw)]
  split
  ·rfl
  ·have:x≠n:=by rintro rfl;exact h v qau
   simp [this]
theorem ziz {kindOf:Str->Option NameKind} {x:Str} {v:Value}: ∀ {P:List Str} {vs:List Value} {i:Nat} {m:Str->Option Value},P.Nodup->P[i]? = some x->vs[i]? = some v->kindOf x=some .local->
  bindL kindOf (P.zip vs) m x=some v
 | [],_,_,_,_,h,_,_=>by simp at h
 | _::_,[],_,_,_,_,h,_=>by simp at h
 | p::P,w::vs,0,m,nd,h1,h2,hk=>by
  simp at h1 h2;subst h1;subst h2
  show bindL kindOf ((p,w)::P.zip vs) m p=_
  unfold bindL
  rw [ziI λv hv=>(nodup_cons.mp nd).1 (List.of_mem_zip hv).1,qa4 hk]
  simp
 | p::P,w::vs,i+1,m,nd,h1,h2,hk=>by
  show bindL kindOf ((p,w)::P.zip vs) m x=_
  unfold bindL
  exact ziz (i:=i) (nodup_cons.mp nd).2 (by simpa using h1) (by simpa using h2) hk
theorem zh4 {kindOf:Str->Option NameKind} {x:Str} {v:Value}: ∀ {P:List Str} {vs:List Value} {i:Nat} {m:Str->Option Value},P.Nodup->P[i]? = some x->vs[i]? = some v->kindOf x≠some .local->
  bindC kindOf (P.zip vs) m x=some v
 | [],_,_,_,_,h,_,_=>by simp at h
 | _::_,[],_,_,_,_,h,_=>by simp at h
 | p::P,w::vs,0,m,nd,h1,h2,hk=>by
  simp at h1 h2;subst h1;subst h2
  show bindC kindOf ((p,w)::P.zip vs) m p=_
  unfold bindC
  rw [ziu λv hv=>(nodup_cons.mp nd).1 (List.of_mem_zip hv).1,qa5 hk]
  simp
 | p::P,w::vs,i+1,m,nd,h1,h2,hk=>by
  show bindC kindOf ((p,w)::P.zip vs) m x=_
  unfold bindC
  exact zh4 (i:=i) (nodup_cons.mp nd).2 (by simpa using h1) (by simpa using h2) hk
def zgp (N:List Str) (vs:List V):St:=vs.map some++replicate (N.length - vs.length) none
def zqY (CX:CXT) (P:Program) (w:World) (K:W.Frag) (mg:Str->Option Value) (base:Heap) (N:List Str) (qual:Str) (scope:Scope) (f:Addr) (cd:Value) (A:Around) (outer:List Env) (s:Shared) (H:Hp) (E:XK):Cx where
 prog:=P
 w:=w
 K:=K
 mg:=mg
 base:=base
 A:=A.deeper (envOfC qual scope s.heap.objs.size f cd)
 N:=N
 s₀:=s
 H₀:=H
 env:=envOfC qual scope s.heap.objs.size f cd
 outer:=outer
 stack:=envOfC qual scope s.heap.objs.size f cd::outer
 ex:=[]
 calm:=true
 fn:=λ_=>true
 pn:=[]
 xe:=λe s'=>wpAny (model P w) (A.deeper (envOfC qual scope s.heap.objs.size f cd)) (leaving (envOfC qual scope s.heap.objs.size f cd) e) (λ_ s''=>CX outer H s E e s'') (λe' s''=>CX outer H s E e' s'') s'
theorem zkk {sc:Scope} {n:Nat} {x:Str} (h:sc.names.lookup x=some .cell): ∃ c,(cellsFrom n sc.names []).lookup x=some c:=by
 have q:=W.cellsFrom_some sc.names n [] (.inl h)
 exact Option.isSome_iff_exists.mp q
theorem zlY {CX:CXT} {P:Program} {w:World} {K:W.Frag} {mg:Str->Option Value} {base:Heap} {N ps:List Str} {qual:Str} {scope:Scope} {f:Addr} {cd:Value} {A:Around} {outer:List Env} {s s1:Shared} {H:Hp} {E:XK} {us:List Value} {vs:List V}
  (S:zan N ps scope) {cm:Bool} (hd:cm=true->A.handled=none) (e0:zpp P w K mg base A outer s H) (hl:vs.length=ps.length) (r:za4 vs us)
  (x:InCallC s s.heap.objs.size (bindL (envOfC qual scope s.heap.objs.size f cd).kindOf (ps.zip us) λ_=>none) (cellsFrom (s.heap.objs.size+1) scope.names []) (bindC (envOfC qual scope s.heap.objs.size f cd).kindOf (ps.zip us) λ_=>none) s1):
  Inv {zqY CX P w K mg base N qual scope f cd A outer s H E with calm:=cm} [] (zgp N vs) H s1:=by
 have hpl:ps.length<=N.length:=by have:=congrArg List.length S.pre;rw [length_take] at this;omega
 obtain ⟨h1,tk,rfl,hk⟩:=x.done
 have noA: ∀ b:Addr,b∉(zqY CX P w K mg base N qual scope f cd A outer s H E).ex:=λb z=>absurd (show b∈([]:List Addr) from z) (by simp)
 refine ⟨⟨e0.mod,S.kind,rfl,rfl,qaV _,λy z c h1 h2=> ?_,λy hy=> ?_,λy c _ h=> ?_,hd,e0.hand,Around.frames_deeper e0.frames,.inr ⟨rfl,rfl⟩,λb z=>absurd z (noA b),e0.bs,e0.bsz,λb _ _=>noA b,λb z=>absurd z (noA b),e0.funs,e0.frf⟩,
   rfl,e0.bare,Un.kept hk,⟨_,x.toInCall.ns,λi y v h1 h2 h3=> ?_⟩,λy c h=>⟨_,x.cell y c h⟩,e0.hok.fresh (qaV _),λy c h=> ?_,λp hp=>absurd (show p∈([]:List (Addr×Obj)) from hp) (by simp),e0.hok.kept hk,?_⟩
 ·exact name_of_addr x.apart (PySem.mem_of_lookup h1) (PySem.mem_of_lookup h2)
 ·have hy:scope.names.lookup y=some .cell\/scope.names.lookup y=some .free:=hy
  rcases hy with hy | hy
  ·exact zkk hy
  ·exact absurd rfl (S.nofree _ (PySem.mem_of_lookup hy))
 ·exact le_of_lt (x.above y c (PySem.mem_of_lookup h))
 ·have hi:i<vs.length:=by
   unfold zgp at h2
   by_cases hi:i<vs.length
   ·exact hi
   ·rw [qaa (by simpa using hi)] at h2
    rw [List.getElem?_replicate] at h2
    split at h2<;>cases h2
  have ha:vs[i]? = some v:=by
   unfold zgp at h2
   rw [qad (by simpa using hi),List.getElem?_map] at h2
   cases e:vs[i]? with
   | none=>rw [e] at h2;cases h2
   | some a=>rw [e] at h2;cases h2;rfl
  obtain ⟨u,hu,rv⟩:=r.get ha
  have hp:ps[i]? = some y:=by
   rw [<- S.pre,List.getElem?_take_of_lt ⋯];exact h1
  have ndP:ps.Nodup:=by rw [<- S.pre];exact S.nd.sublist (List.take_sublist _ _)
  refine ⟨u,rv,?_⟩
  rcases S.par y (List.mem_of_getElem? hp) with k | k
  ·exact .inl ⟨k,ziz ndP hp hu k⟩
  ·obtain ⟨c,e⟩:=zkk (n:=s.heap.objs.size+1) k
   refine .inr ⟨.inl k,c,e,?_⟩
   have q:=x.cell y c e
   rw [zh4 ndP hp hu (by show scope.names.lookup y≠_;rw [k];decide)] at q
   exact q
 ·exact e0.hok.fresh (le_of_lt (x.above y c (PySem.mem_of_lookup h)))
 ·unfold zgp
  show _=N.length
  rw [qav,qaH,List.length_replicate]
  omega
theorem zvc {CX:CXT} {P:Program} {w:World} {K:W.Frag} {mg:Str->Option Value} {base:Heap} {k:Nat} {f:Addr} {name qual:Str} {params:Arguments} {body:List Stmt} {scope:Scope} {dV kV doc pm cdv ct oc:Value} {an od:Option Addr}
  {osl:Array (Option Value)} {N ps:List Str} {sp:Sp} (lk:K.lookup f=some ⟨oc,od,.func (W.fnOf name qual params body scope dV kV doc pm an cdv ct),osl⟩) (hcd:W.codeIn K cdv qual=true) (S:zan N ps scope)
  (len: ∀ vs H Q E,sp vs H Q E->vs.length=ps.length)
  (hbody: ∀ (A:Around) (outer:List Env) (s:Shared) (H:Hp) (vs:List V) (Q:VK) (E:XK),zd8 k (A.deeper (envOfC qual scope s.heap.objs.size f cdv))->sp vs H Q E->
    ∃ t,PSs (zqY CX P w K mg base N qual scope f cdv A outer s H E) body t/\t {nx:=λ_ H'=>Q .non H',rt:=Q} (zgp N vs) H):
  zbr P w K mg base CX (k+1) f (W.fnOf name qual params body scope dV kV doc pm an cdv ct) ps sp:=by
 refine ⟨len,λA outer s H args us vs Q E hr e0 hb r hsp=> ?_⟩
 have hl:=len _ _ _ _ hsp
 have KX:K.In s.heap:=e0.mod.kin.keeps λb o e=>(e0.bs b o e).1
 have lim:s.heap.NoLimit:=e0.mod.nolimit.keeps λb o e=>(e0.bs b o e).1
 have hkind: ∀ y∈ps.zip us,scope.names.lookup y.1=some .local\/(scope.names.lookup y.1=some .cell/\((cellsFrom (s.heap.objs.size+1) scope.names []).lookup y.1).isSome=true):=λ⟨n,v⟩ hy=>by
  rcases S.par n (List.of_mem_zip hy).1 with q | q
  ·exact .inl q
  ·exact .inr ⟨q,W.cellsFrom_some _ _ _ (.inl q)⟩
 refine codeAny_call_function hr.depth (KX _ _ lk) rfl S.co S.gen rfl (W.codeRec_of KX hcd) (hb _ _ _ _ ?_)
 refine wpAny_newFunctionEnv_cells S.kind hkind λenv he s1 x=> ?_
 subst he
 refine ⟨lim.keeps x.toInCall.keep,codeAny_func ?_⟩
 obtain ⟨t,ht,hq⟩:=hbody A outer s H vs Q E (hr.deeper _) hsp
 have I:Inv (zqY CX P w K mg base N qual scope f cdv A outer s H E) [] (zgp N vs) H s1:=zlY (cm:=true) S (λ_=>hr.hd) e0 hl r x
 refine qaZ (ht [] s1 (zgp N vs) H _ I hq) (λfl s' hs=> ?_) λe s' hs=>hs
 have fin: ∀ {σ':St} {H':Hp} {v:V} {u:Value},Inv (zqY CX P w K mg base N qual scope f cdv A outer s H E) [] σ' H' s'->zbO v u->Q v H'->CE outer P w H s Q u s':=
  λ{σ' H' v u} J rv q=>⟨v,H',J.os,J.bare,J.base,J.hok,rv,q⟩
 cases fl with
 | ret u=>
  obtain ⟨v,σ',H',J,rv,q⟩:=hs
  exact fin J rv q
 | next=>
  obtain ⟨σ',H',J,q⟩:=hs
  exact fin (v:=V.non) (u:=Value.none) J rfl q
 | brk=>
  obtain ⟨_,_,_,q⟩:=hs
  exact qa0 q
 | cont=>
  obtain ⟨_,_,_,q⟩:=hs
  exact qa0 q
section
variable {X:Cx} {x:Str} {p pos:Pos} {e:Expr} {es:List Expr} {t:TA} {id T:String} {r:List V->Hp->VK->Prop}
def tCB (r:List V->Hp->VK->Prop) (t:TA):TE:=λσ H Q=>t σ H λvs H1=>r vs H1 Q
theorem zhu (hc:zaK X (.builtin id) r) (hg:Gl X x) (hm:X.mg x=none) (hv:bootBuiltins x=some (.builtin id)) (ha:PA X (e::es) t) (hn:x≠"__name__":=by decide) (hdb:(x==("__debug__":Str))=false:=by decide)
  (he:starEach (e::es) X.env=(false,eval e X.env)::starEach es X.env:=by rfl) (hpl:(backTo pos (starEach es X.env)).any (·.1)=false:=by rfl):PE X (.Call (.Name x p) (e::es) [] pos) (tCB r t):=by
 intro pins s σ H Q I h
 refine wpAny_Call_Name_kw (zgQ I hg hm hv ?_ hn hdb)
 exact PyProof.Rows.callWith_builtin1 (thn (ha pos pins s σ H _ I h) λus s1 ⟨vs,H1,I1,r1,q1⟩=>hc pins s1 σ H1 vs us Q I1 r1 q1) he hpl
theorem zdi (hc:zaK X (.type T) r) (hg:Gl X x) (hm:X.mg x=none) (hv:bootBuiltins x=some (.type T)) (ha:PA X (e::es) t) (hn:x≠"__name__":=by decide) (hdb:(x==("__debug__":Str))=false:=by decide)
  (he:starEach (e::es) X.env=(false,eval e X.env)::starEach es X.env:=by rfl) (hpl:(backTo pos (starEach es X.env)).any (·.1)=false:=by rfl):PE X (.Call (.Name x p) (e::es) [] pos) (tCB r t):=by
 intro pins s σ H Q I h
 refine wpAny_Call_Name_kw (zgQ I hg hm hv ?_ hn hdb)
 exact PyProof.Rows.callWith_type1 (thn (ha pos pins s σ H _ I h) λus s1 ⟨vs,H1,I1,r1,q1⟩=>hc pins s1 σ H1 vs us Q I1 r1 q1) he hpl
end
end L2
namespace HT
def zci:List Int->List Int->Bool
 | [],[]=>false
 | [],_::_=>true
 | _::_,[]=>false
 | x::xs,y::ys=>if x=y then zci xs ys else decide (x<y)
theorem zdd (x y:Int) (xs ys:List Int):zci (x::xs) (y::ys)=if x=y then zci xs ys else decide (x<y):=rfl
theorem zhh:zci [] []=false:=rfl
theorem zgv (y:Int) (ys:List Int):zci [] (y::ys)=true:=rfl
theorem zgx (x:Int) (xs:List Int):zci (x::xs) []=false:=rfl
theorem zoK (A:Around) (s:Shared) (a:Int) (t:Tok) (c:Int) (u:Tok): ∃ e,SeqAt.EqAt A s (.int a t) (.int c u) e/\(e=true↔a=c):=
 ⟨(a==c),SeqAt.EqAt.int_int a t c u,by simp⟩
theorem zkh (A:Around) (s:Shared) (a:Int) (t:Tok) (c:Int) (u:Tok) (prog:Program) (w:World) (E:Value->Shared->Prop) (Q:Value->Shared->Prop) (h:Q (.bool (decide (a<c))) s):
  wpAny (model prog w) A (richCompare .Lt (.int a t) (.int c u)) Q E s:=
 (PyProof.Rows.lt_int h:wpAny (model prog w) A (compareOp .Lt (.int a t) (.int c u)) Q E s)
section
open PySem.SeqAt
open PySem.AutoSeq1 (wpAny_loadPart')
open PySem.MeetsSeq PySem.MeetsSeq2 PySem.MeetsSeq3
theorem zhi (l b:Addr) (items items2:Array Value) (n n2:Nat) (dd dd2:Option Addr) (sl sl2:Array (Option Value)) (ns ms:List Int) (hi:IntsAre items.toList ns) (hj:IntsAre items2.toList ms):
  Meets (Builtin.«tuple.__lt__» ⟨[.ref l,.ref b],[]⟩)
   (λ_ R s=>s.heap.get? l=some {cls:= .type "tuple",dict:=dd,data:= .seq items n,slots:=sl}/\s.heap.get? b=some {cls:= .type "tuple",dict:=dd2,data:= .seq items2 n2,slots:=sl2}/\
     R (.ok (.ret (.bool (zci ns ms)))) s):=
 .of_wp λprog w A R s h=>by
  obtain ⟨hp,g,d,tk,os⟩:=s;obtain ⟨hl,hb,h⟩:=h
  have f2:=AutoSeq1.sub_tuple_tuple
  have z1:items.size=ns.length:=by rw [<- hi.length];simp
  have z2:items2.size=ms.length:=by rw [<- hj.length];simp
  wp_walk using wpAny_loadPart' hl,wpAny_loadPart' hb,wpAny_forIn_list _ (λzc2 b s'=>b.1=none/\s'=⟨hp,g,d,tk,os⟩/\ ∃ (vs ws:List Value) (ns' ms':List Int),zc2=vs.zip ws/\
    IntsAre vs ns'/\IntsAre ws ms'/\ns'.length+items2.size=ms'.length+items.size/\R (.ok (.ret (.bool (zci ns' ms')))) ⟨hp,g,d,tk,os⟩) _
  case turn=>
   rintro ⟨y,x⟩ zc2 b s' ⟨hb',rfl,vs,ws,ns',ms',hz,hvi,hwi,hlen,hR⟩
   cases hvi with
   | nil=>rw [List.zip_nil_left] at hz;cases hz
   | cons a t hvi'=>
    cases hwi with
    | nil=>rw [List.zip_nil_right] at hz;cases hz
    | cons c u hwi'=>
     rw [List.zip_cons_cons] at hz
     injection hz with hyx hrest
     injection hyx with hy hx
     subst hy hx
     rw [zdd] at hR
     simp only [qaE] at hlen
     obtain ⟨e,he,hiff⟩:=zoK A.in1 ⟨hp,g,d,tk,os⟩ a t c u
     refine qaW (he prog w _ _ ?_)
     cases e with
     | true=>
      rw [qa4 (hiff.mp rfl)] at hR
      wp_walk
      exact ⟨rfl,rfl,_,_,_,_,hrest,hvi',hwi',⋯,hR⟩
     | false=>
      rw [qa5 (λq=>absurd (hiff.mpr q) Bool.false_ne_true)] at hR
      have hri:=zkh A.in1 ⟨hp,g,d,tk,os⟩ a t c u prog w
      wp_walk using hri
      exact ⟨_,rfl,by simpa using hR⟩
  case fin=>
   rintro ⟨b1,b2⟩ s' ⟨hb',rfl,vs,ws,ns',ms',hz,hvi,hwi,hlen,hR⟩
   simp only at hb'
   subst hb'
   have hv:zci ns' ms'=decide (items.size<items2.size):=by
    cases hvi with
    | nil=>
     cases hwi with
     | nil=>
      simp only [qaJ] at hlen
      rw [zhh]
      exact (decide_eq_false ⋯).symm
     | cons c u hw=>
      simp only [qaJ,qaE] at hlen
      rw [zgv]
      exact (decide_eq_true ⋯).symm
    | cons a t hv=>
     cases hwi with
     | nil=>
      simp only [qaJ,qaE] at hlen
      rw [zgx]
      exact (decide_eq_false ⋯).symm
     | cons c u hw=>
      rw [List.zip_cons_cons] at hz
      cases hz
   rw [hv] at hR
   wp_walk
   exact ⟨_,rfl,by simpa [Builtin.Tuple.tupleCompareSizes] using hR⟩
  case h=>
   exact ⟨rfl,rfl,items.toList,items2.toList,ns,ms,rfl,hi,hj,⋯,h⟩
end
section
variable {prog:Program} {w:World} {A:Around} {E:Value->Shared->Prop} {s:Shared}
theorem zg4 {l b:Addr} {items items2:Array Value} {ns ms:List Int} {Q:Value->Shared->Prop} (hl:IsTup s.heap l items) (hb:IsTup s.heap b items2) (hi:IntsAre items.toList ns) (hj:IntsAre items2.toList ms)
  (hu:A.units<cLine) (h:Q (.bool (zci ns ms)) s):wpAny (model prog w) A (compareOp .Lt (.ref l) (.ref b)) Q E s:=by
 obtain ⟨⟨cls,dd,data,sl⟩,ho,hc,n,hd⟩:=id hl
 obtain ⟨⟨cls2,dd2,data2,sl2⟩,ho2,hc2,n2,hd2⟩:=id hb
 simp only at hc hd hc2 hd2
 subst hc hd hc2 hd2
 exact richCompare_meets_room (op:= .Lt) ⟨_,ho,rfl⟩ ⟨_,ho2,rfl⟩ PySem.F.slot_tuple_lt PySem.F.entry_tuple_lt (PySem.F.args_tuple_lt_2 _ _) (zhi l b items items2 n n2 dd dd2 sl sl2 ns ms hi hj)
  ⟨ho,ho2,show Value.bool (zci ns ms)≠Value.notImplemented/\Q (.bool (zci ns ms)) s from ⟨(λx=>nomatch x),h⟩⟩ hu
theorem zqt {t b:Addr} {vs ws:List Value} {Q:Value->Shared->Prop} (ht:IsTup s.heap t vs.toArray) (hb:IsTup s.heap b ws.toArray) (hv:vs≠[])
  (h1:ws=[]->Q (.ref t) s) (h2:ws≠[]->Q (.ref s.heap.objs.size) {s with heap:=s.heap.push {cls:= .type "tuple",data:= .seq (vs++ws).toArray}})
  (hsz:vs.length+ws.length<=sizeLine):wpAny (model prog w) A (binaryOp .Add (.ref t) (.ref b)) Q E s:=by
 obtain ⟨⟨cls,dd,data,sl⟩,ho,hc,n,hd⟩:=id ht
 obtain ⟨⟨cls2,dd2,data2,sl2⟩,ho2,hc2,n2,hd2⟩:=id hb
 simp only at hc hd hc2 hd2
 subst hc hd hc2 hd2
 have e:vs.toArray++ws.toArray=(vs++ws).toArray:=by simp
 by_cases hw:ws=[]
 ·exact concat_meets ⟨_,ho,rfl⟩ ⟨_,ho2,rfl⟩ noFill_tuple_add seq_tuple_add PySem.F.slot_tuple_add PySem.F.entry_tuple_add (PySem.F.args_tuple_add_2 _ _)
   (tuple_addW1 t b vs.toArray ws.toArray n n2 dd dd2 sl sl2 (by simpa using hv) (by simp [hw])) ⟨ho,ho2,h1 hw⟩
 ·refine concat_meets ⟨_,ho,rfl⟩ ⟨_,ho2,rfl⟩ noFill_tuple_add seq_tuple_add PySem.F.slot_tuple_add PySem.F.entry_tuple_add (PySem.F.args_tuple_add_2 _ _)
   (tuple_addW2 t b vs.toArray ws.toArray n n2 dd dd2 sl sl2 (by simpa using hv) (by simpa using hw) (by rw [qaA,qaA];exact hsz)) ⟨ho,ho2,?_⟩
  rw [e]
  exact h2 hw
def sIx (n d:Nat):Option Int->Nat
 | none=>d
 | some v=>if v<0 then (v+(n:Int)).toNat else min v.toNat n
theorem zmA (n d k:Nat):sIx n d (some (k:Int))=min k n:=by
 show (if (k:Int)<0 then ((k:Int)+(n:Int)).toNat else min (k:Int).toNat n)=min k n
 rw [qa5 ⋯,qaB]
theorem zte (n d:Nat) (hd:d<=n) (o:Option Int):sIx n d o<=n:=by
 cases o with
 | none=>exact hd
 | some v=>
  show (if v<0 then (v+(n:Int)).toNat else min v.toNat n)<=n
  by_cases hv:v<0
  ·rw [qa4 hv];omega
  ·rw [qa5 hv];exact Nat.min_le_right _ _
theorem zns (v:Int) (n d:Nat):(if v<0 then max (v+(n:Int)) 0 else min v (n:Int))=((sIx n d (some v):Nat):Int):=by
 show (if v<0 then max (v+(n:Int)) 0 else min v (n:Int))=(((if v<0 then (v+(n:Int)).toNat else min v.toNat n):Nat):Int)
 by_cases hv:v<0
 ·simp only [qa4 hv];omega
 ·simp only [qa5 hv];omega
theorem zk3 (lo hi:Option Int) (n:Nat):Builtin.Slice.sliceAdjust lo hi 1 (n:Int)=(((sIx n 0 lo:Nat):Int),((sIx n n hi:Nat):Int)):=by
 have h1: ¬((1:Int)<0):=by omega
 unfold Builtin.Slice.sliceAdjust
 simp only [h1,if_false]
 refine Prod.ext ?_ ?_
 ·cases lo with
  | none=>rfl
  | some v=>exact zns v n 0
 ·cases hi with
  | none=>rfl
  | some v=>exact zns v n n
theorem zlg (i j:Nat):Builtin.Slice.slicePlaces (i:Int) (j:Int) 1=j - i:=by
 unfold Builtin.Slice.slicePlaces
 have h1:(1:Int)>0:=by omega
 simp only [h1,if_true,ediv_one]
 split<;>omega
theorem zgP {v:Value} {o:Option Int} {Q:Option Int->Shared->Prop} (p:IsPart v o) (h:Q o s):wpAny (model prog w) A (Builtin.Slice.slicePartIndex v) Q E s:=by
 cases p with
 | none=>exact slicePart_none h
 | int i t=>exact slicePart_int h
theorem zdA {sl:Addr} {vl vu:Value} {lo hi:Option Int} {n:Nat} {Q:Int×Int×Nat->Shared->Prop} (hs:s.heap.IsSliceOf sl vl vu .none) (pl:IsPart vl lo) (pu:IsPart vu hi)
  (h:Q (((sIx n 0 lo:Nat):Int),1,sIx n n hi - sIx n 0 lo) s):wpAny (model prog w) A (Builtin.Slice.sliceApplied (.ref sl) (pure (n:Int))) Q E s:=by
 obtain ⟨os,hos,hcs,hds⟩:=id hs
 unfold Builtin.Slice.sliceApplied Builtin.Slice.sliceFields
 refine qaW (qaW (wpAny_field hos hds (x:=vl) rfl (qaW (wpAny_field hos hds (x:=vu) rfl (qaW (wpAny_field hos hds (x:= .none) rfl (qaX ?_)))))))
 refine qaW (slicePart_none ?_)
 show wpAny _ _ (if ((1:Int)==0)=true then _ else _) _ _ s
 rw [qa5 (by decide)]
 refine qaW (zgP pl (qaW (zgP pu (qaW (qaX ?_)))))
 show wpAny _ _ (match Builtin.Slice.sliceAdjust lo hi 1 (n:Int) with | (lo,hi)=>pure (lo,(1:Int),Builtin.Slice.slicePlaces lo hi 1)) _ _ s
 rw [zk3 lo hi n]
 show wpAny _ _ (pure (((sIx n 0 lo:Nat):Int),(1:Int),Builtin.Slice.slicePlaces ((sIx n 0 lo:Nat):Int) ((sIx n n hi:Nat):Int) 1)) _ _ s
 rw [zlg]
 exact qaX h
theorem zoS (xs:Array Value) (i k:Nat):((List.range k).filterMap λ(m:Nat)=>xs[((i:Int)+(m:Int)*1).toNat]?).toArray=((xs.toList.drop i).take k).toArray:=by
 have e:(λ(m:Nat)=>xs[((i:Int)+(m:Int)*1).toNat]?)=λm=>xs[i+m]? := by
  funext m
  have:((i:Int)+(m:Int)*1).toNat=i+m:=by omega
  rw [this]
 rw [e]
 have:=pick_run xs i k
 rw [List.filterMap_map] at this
 have e2:((λx=>xs[x]?)∘λx=>i+x)=λm=>xs[i+m]? := rfl
 rw [e2] at this
 rw [this]
theorem zeW {t sl:Addr} {items:Array Value} {vl vu:Value} {lo hi:Option Int} {Q:Value->Shared->Prop} (ht:IsTup s.heap t items) (hs:s.heap.IsSliceOf sl vl vu .none) (pl:IsPart vl lo) (pu:IsPart vu hi)
  (hw: ¬(sIx items.size 0 lo=0/\sIx items.size items.size hi=items.size))
  (h:Q (.ref s.heap.objs.size) {s with heap:=s.heap.push {cls:= .type "tuple",data:= .seq ((items.toList.drop (sIx items.size 0 lo)).take (sIx items.size items.size hi - sIx items.size 0 lo)).toArray}})
  (hsz:items.size<=sizeLine):wpAny (model prog w) A (getItem (.ref t) (.ref sl)) Q E s:=by
 have htake:sizeOk (.seq ((items.toList.drop (sIx items.size 0 lo)).take (sIx items.size items.size hi - sIx items.size 0 lo)).toArray):=by
  show ((items.toList.drop (sIx items.size 0 lo)).take (sIx items.size items.size hi - sIx items.size 0 lo)).toArray.size<=sizeLine
  rw [qaA,length_take,length_drop,qas]
  omega
 have hj:sIx items.size items.size hi<=items.size:=zte _ _ (qaV _) hi
 obtain ⟨os,hos,hcs,hds⟩:=id hs
 have hTs:s.TypeIs (.ref sl) "slice":=⟨os,hos,hcs⟩
 unfold getItem
 try with_reducible refine qaO ?_
 first | refine qaW (qaX ?_) | skip
 refine qaW (wpAny_sequenceKey ht.typeIs (by decide) ?_)
 refine qaW (wpAny_callSpecial?_slot (name:=Str.ofString "__getitem__") ht.typeIs PyProof.Rows.slot_tuple_getitem
   (wpAny_call_entry PyProof.Rows.slot_tuple_getitem ht.typeIs entry_tuple_getitem ?_ (args_tuple_getitem _ _)))
 show wpAny _ _ (Builtin.Tuple.tupleItemsOf (.ref t)>>=_) _ _ s
 refine qaW (tupleItemsOf_ ht ?_)
 refine qaW (wpAny_typeOf hTs ?_)
 rw [qa4 (by decide)]
 refine qaW (zdA hs pl pu ?_)
 have hno: ¬((((sIx items.size 0 lo:Nat):Int)==0 && (1:Int)==1 && (sIx items.size items.size hi - sIx items.size 0 lo)==items.size)=true):=by
  intro q
  rw [qaG,qaG] at q
  have q1:((sIx items.size 0 lo:Nat):Int)=0:=eq_of_beq q.1.1
  have q2:sIx items.size items.size hi - sIx items.size 0 lo=items.size:=eq_of_beq q.2
  exact hw ⟨⋯,⋯⟩
 show wpAny _ _ (if (((sIx items.size 0 lo:Nat):Int)==0 && (1:Int)==1 && (sIx items.size items.size hi - sIx items.size 0 lo)==items.size)=true then _ else _) _ _ s
 rw [qa5 hno,zoS]
 first
  | exact qaW (m:=Builtin.Tuple.tupleExact _) (qaC (qaX ⟨_,rfl,qaX h⟩) htake)
  | exact qaW (m:=Builtin.Tuple.tupleExact _) (qaC (qaW (qaX (qaX ⟨_,rfl,qaX h⟩))) htake)
  | exact qaW (qaW (m:=Builtin.Tuple.tupleExact _) (qaC (qaX (qaX ⟨_,rfl,qaX h⟩)) htake))
  | exact qaW (qaW (m:=Builtin.Tuple.tupleExact _) (qaC (qaX ⟨_,rfl,qaX h⟩) htake))
end
end HT
namespace L2
abbrev TO:=St->Hp->(Option Int->Hp->Prop)->Prop
def PO (X:Cx) (e:Option Expr) (t:TO):Prop:=
 ∀ (pins:List (Addr×Obj)) (s:Shared) (σ:St) (H:Hp) (Q:Option Int->Hp->Prop),Inv X pins σ H s->t σ H Q->
  wpAny (model X.prog X.w) X.A (evalPart e X.env) (λu s'=> ∃ o H',Inv X pins σ H' s'/\IsPart u o/\Q o H') X.xe s
def zrE:TO:=λ_ H Q=>Q none H
def zvm (t:TE):TO:=λσ H Q=>t σ H λx H1=> ∃ i,x= .int i/\Q (some i) H1
theorem zb4 {ns:List Int}: ∀ {us:List Value},za4 (ns.map V.int) us->IntsAre us ns:=by
 induction ns with
 | nil=>intro us r;rw [map_nil] at r;cases r;exact .nil
 | cons n ns ih=>
  intro us r
  rw [qaM] at r
  cases r with
  | cons r1 r2=>
   obtain ⟨t,e⟩:=r1
   subst e
   exact .cons n t (ih r2)
section
variable {X:Cx} {e:Expr} {te:TE} {lo hi:Option Expr} {tl th:TO} {pos p2:Pos}
theorem zqC:PO X none zrE:=by
 intro pins s σ H Q I h
 rw [evalPart_none]
 exact qaX ⟨none,H,I,.none,h⟩
theorem zry (h:PE X e te):PO X (some e) (zvm te):=by
 intro pins s σ H Q I hw
 rw [evalPart_some]
 refine thn (h pins s σ H _ I hw) λu s1 ⟨x,H1,I1,r1,q1⟩=> ?_
 obtain ⟨i,rfl,q⟩:=q1
 obtain ⟨t,rfl⟩:=r1
 exact ⟨some i,H1,I1,.int i t,q⟩
def SlR (X:Cx) (r:V->Option Int->Option Int->Hp->VK->Prop):Prop:=
 ∀ (pins:List (Addr×Obj)) (s:Shared) (σ:St) (H:Hp) (x:V) (v vl vu:Value) (lo hi:Option Int) (sl:Addr) (Q:VK),Inv X pins σ H s->zbO x v->s.heap.IsSliceOf sl vl vu .none->IsPart vl lo->IsPart vu hi->r x lo hi H Q->
  ∃ T id,typeLookup (.type T) "__getitem__"=pure (some (.builtin id))/\s.TypeIs v T/\wpAny (model X.prog X.w) X.A (getItem v (.ref sl)) (EP X pins σ Q) X.xe s
theorem SlR.or {r r':V->Option Int->Option Int->Hp->VK->Prop} (h:SlR X r) (h':SlR X r'):SlR X (λx lo hi H Q=>r x lo hi H Q\/r' x lo hi H Q):=by
 intro pins s σ H x v vl vu lo hi sl Q I rx hs pl pu q
 rcases q with q | q
 ·exact h pins s σ H x v vl vu lo hi sl Q I rx hs pl pu q
 ·exact h' pins s σ H x v vl vu lo hi sl Q I rx hs pl pu q
def tSl (r:V->Option Int->Option Int->Hp->VK->Prop) (te:TE) (tl th:TO):TE:=λσ H Q=>te σ H λx H1=>tl σ H1 λl H2=>th σ H2 λu H3=>r x l u H3 Q
theorem zoc {r:V->Option Int->Option Int->Hp->VK->Prop} (hr:SlR X r) (he:PE X e te) (hl:PO X lo tl) (hu:PO X hi th):PE X (.Subscript e (.Slice lo hi none p2) pos) (tSl r te tl th):=by
 intro pins s σ H Q I h
 refine Subscript_ (thn (he pins s σ H _ I h) λv s1 ⟨x,H1,I1,r1,q1⟩=> ?_)
 refine wpAny_Slice (thn (hl pins s1 σ H1 _ I1 q1) λvl s2 ⟨l,H2,I2,pl,q2⟩=>thn (hu pins s2 σ H2 _ I2 q2) λvu s3 ⟨u,H3,I3,pu,q3⟩=> ?_)
 rw [evalPart_none]
 refine qaX ?_
 have I4:Inv X pins σ H3 {s3 with heap:=s3.heap.push {cls:= .type "slice",data:= .fields #[vl,vu,.none]}}:=I3.kept (t':=s3.toks) λb ob q=>qag _ q
 obtain ⟨T,id,hT,ht,hg⟩:=hr pins {s3 with heap:=s3.heap.push {cls:= .type "slice",data:= .fields #[vl,vu,.none]}} σ H3 x v vl vu l u s3.heap.objs.size Q I4 r1 (Heap.IsSliceOf.new ..) pl pu q3
 show wpAny (model X.prog X.w) X.A (subscriptTail e (.Slice lo hi none p2) v (.ref s3.heap.objs.size)) (EP X pins σ Q) X.xe {s3 with heap:=s3.heap.push {cls:= .type "slice",data:= .fields #[vl,vu,.none]}}
 exact tail_any (ops:=[.ref s3.heap.objs.size,v]) ht hT hg (by with_unfolding_all rfl)
def zph (xs:List V) (lo hi:Option Int):List V:=(xs.drop (HT.sIx xs.length 0 lo)).take (HT.sIx xs.length xs.length hi - HT.sIx xs.length 0 lo)
theorem zfQ (xs:List V) (lo hi:Option Int):(zph xs lo hi).length<=xs.length:=by
 unfold zph
 rw [length_take,length_drop]
 omega
def zwp (K:W.Frag):V->Option Int->Option Int->Hp->VK->Prop:=λx lo hi H Q=> ∃ a xs,x= .ref a/\SqT K H a xs/\
 ¬ (HT.sIx xs.length 0 lo=0/\HT.sIx xs.length xs.length hi=xs.length)/\ ∀ p,H p=none->Q (.ref p) (upd H p (.tup (zph xs lo hi)))
theorem zsQ:SlR X (zwp X.K):=by
 intro pins s σ H x v vl vu lo hi sl Q I rx hs pl pu h
 obtain ⟨a,xs,rfl,hx,hw,q⟩:=h
 cases rx
 obtain ⟨its,r,ht,hz⟩:=I.tuple hx
 have hlen:its.toArray.size=xs.length:=by rw [qaA];exact r.length.symm
 refine ⟨"tuple",_,PyProof.Rows.slot_tuple_getitem.lookup,ht.typeIs,?_⟩
 refine HT.zeW ht hs pl pu (by rw [hlen];exact hw) ?_ (by rw [hlen];exact hz)
 rw [hlen]
 refine ⟨.ref s.heap.objs.size,_,I.laid (t':=s.toks) (o:= .tup (zph xs lo hi)) (λb ob q=>qag _ q) (qaV _) ?_,rfl,q _ (I.hok.fresh (qaV _))⟩
 exact ⟨qaS (zfQ xs lo hi) hz,_,(r.drop (HT.sIx xs.length 0 lo)).take (HT.sIx xs.length xs.length hi - HT.sIx xs.length 0 lo),zll.new _ _⟩
def zvi (K:W.Frag):R2:=λx y H Q=> ∃ a b xs ys,x= .ref a/\y= .ref b/\SqT K H a xs/\SqT K H b ys/\xs≠[]/\xs.length+ys.length<=sizeLine/\
 (ys=[]->Q (.ref a) H)/\(ys≠[]-> ∀ p,H p=none->Q (.ref p) (upd H p (.tup (xs++ys))))
theorem za4.nil_iff {xs:List V} {us:List Value} (r:za4 xs us):us=[]↔xs=[]:=by
 cases r with
 | nil=>simp
 | cons _ _=>simp
theorem zpY:OpR X (binaryOp .Add) (zvi X.K):=by
 intro pins s σ H x y v u Q I rx ry h
 obtain ⟨a,b,xs,ys,rfl,rfl,ha,hb,hx,hz,q1,q2⟩:=h
 cases rx
 cases ry
 obtain ⟨its,r1,p1,_⟩:=I.tuple ha
 obtain ⟨its2,r2,p2,_⟩:=I.tuple hb
 refine HT.zqt p1 p2 (λz=>hx (r1.nil_iff.mp z)) (λz=>⟨.ref a,H,I,rfl,q1 (r2.nil_iff.mp z)⟩) (λz=> ?_) (by rw [<- r1.length, <-r2.length];exact hz)
 refine ⟨.ref s.heap.objs.size,_,I.laid (t':=s.toks) (o:= .tup (xs++ys)) (λb ob q=>qag _ q) (qaV _) ?_,rfl,q2 (λw=>z (r2.nil_iff.mpr w)) _ (I.hok.fresh (qaV _))⟩
 exact ⟨by rw [qav];exact hz,_,r1.append r2,zll.new _ _⟩
end
def ixN (n:Nat) (i:Int):Option Nat:=if 0<=i then (if i<n then some i.toNat else none) else if -(n:Int)<=i then some (i+n).toNat else none
def atI {α:Type} (xs:List α) (i:Int):Option α:=(ixN xs.length i).bind λj=>xs[j]?
theorem zlt {n:Nat} {i:Int} {j:Nat} (h:ixN n i=some j):seqIndex? i n=some j/\j<n/\ -(n:Int)<=i/\i<n:=by
 unfold ixN at h
 by_cases h0:0<=i
 ·rw [qa4 h0] at h
  by_cases h1:i<n
  ·rw [qa4 h1] at h
   have e:i.toNat=j:=Option.some.inj h
   exact ⟨by rw [seqIndex_of h0 h1,e],⋯,⋯,h1⟩
  ·rw [qa5 h1] at h;cases h
 ·rw [qa5 h0] at h
  by_cases h1: -(n:Int)<=i
  ·rw [qa4 h1] at h
   have e:(i+n).toNat=j:=Option.some.inj h
   exact ⟨by rw [seqIndex_neg ⋯ h1,e],⋯,h1,⋯⟩
  ·rw [qa5 h1] at h;cases h
theorem zlD {α:Type} {xs:List α} {i:Int} {v:α} (h:atI xs i=some v): ∃ j,seqIndex? i xs.length=some j/\xs[j]? = some v/\j<xs.length/\ -(xs.length:Int)<=i/\i<xs.length:=by
 unfold atI at h
 cases e:ixN xs.length i with
 | none=>rw [e] at h;cases h
 | some j=>
  rw [e] at h
  obtain ⟨h1,h2,h3,h4⟩:=zlt e
  exact ⟨j,h1,h,h2,h3,h4⟩
theorem zdM {α:Type} {xs:List α} {j:Nat} {v:α} (h:xs[j]? = some v):atI xs (j:Int)=some v:=by
 have hj:j<xs.length:=(qac.mp h).1
 have e:ixN xs.length (j:Int)=some j:=by
  unfold ixN
  rw [qa4 ⋯,qa4 ⋯];simp
 unfold atI;rw [e];exact h
def zjm (b:Expr):Prop:= ∀ o i,subscripted b false o i=operate [o,i] (getItem o i)
def IxR (X:Cx) (r:R2):Prop:=
 ∀ (value slice:Expr) (pins:List (Addr×Obj)) (s:Shared) (σ:St) (H:Hp) (x y:V) (v u:Value) (Q:VK),Inv X pins σ H s->zbO x v->zbO y u->r x y H Q->
  subscripted slice false v u=operate [v,u] (getItem v u)->wpAny (model X.prog X.w) X.A (subscriptTail value slice v u) (EP X pins σ Q) X.xe s
def MtR (X:Cx) (id:String) (r:V->List V->Hp->VK->Prop):Prop:=
 ∀ (pins:List (Addr×Obj)) (s:Shared) (σ:St) (H:Hp) (x:V) (xs:List V) (v:Value) (us:List Value) (Q:VK),Inv X pins σ H s->zbO x v->za4 xs us->r x xs H Q->
  wpAny (model X.prog X.w) X.A (call (.builtin id) (v::us)) (EP X pins σ Q) X.xe s
section
variable {X:Cx} {a b:Expr} {ta tb:TE} {pos:Pos}
theorem IxR.or {r r':R2} (h:IxR X r) (h':IxR X r'):IxR X (λx y H Q=>r x y H Q\/r' x y H Q):=by
 intro value slice pins s σ H x y v u Q I rx ry q hs
 rcases q with q | q
 ·exact h value slice pins s σ H x y v u Q I rx ry q hs
 ·exact h' value slice pins s σ H x y v u Q I rx ry q hs
theorem zvg {r:R2} (hr:IxR X r) (ha:PE X a ta) (hb:PE X b tb) (hs:zjm b):PE X (.Subscript a b pos) (tOp r ta tb):=by
 intro pins s σ H Q I h
 exact Subscript_ (zvl ha hb I h λv u s2 x y H2 I2 rx ry q=>hr a b pins s2 σ H2 x y v u Q I2 rx ry q (hs _ _))
def zwi (K:W.Frag):R2:=λx y H Q=> ∃ p xs i v,x= .ref p/\y= .int i/\SqL K H p xs/\atI xs i=some v/\Q v H
def zwj (K:W.Frag):R2:=λx y H Q=> ∃ p xs i v,x= .ref p/\y= .int i/\SqT K H p xs/\atI xs i=some v/\Q v H
theorem zp3:IxR X (zwi X.K):=by
 intro value slice pins s σ H x y v u Q I rx ry h hs
 obtain ⟨p,xs,i,z,rfl,rfl,hq,he,q⟩:=h
 cases rx
 obtain ⟨t,rfl⟩:=ry
 obtain ⟨its,r,pl,hz⟩:=I.list hq
 obtain ⟨j,h1,h2,h3,h4,h5⟩:=zlD he
 obtain ⟨w,ew,rw'⟩:=r.get h2
 have hl:=r.length
 have hn:=zik
 have fin:EP X pins σ Q w s:=⟨z,H,I,rw',q⟩
 by_cases h0:0<=i
 ·have hj:i.toNat=j:=by
   rw [seqIndex_of h0 h5] at h1
   exact Option.some.inj h1
  exact item_listR pl.isList h0 ⋯ (by rw [hj];simpa using ew) fin hs
 ·have hj:(i+(its.toArray.size:Int)).toNat=j:=by
   rw [seqIndex_neg ⋯ h4] at h1
   rw [qaA, <-hl]
   exact Option.some.inj h1
  exact subscriptTail_builtinR (x:=w) pl.isList.typeIs slot_list_getitem.lookup
   (wpAny_getItem_list_neg (Q:=λr s'=>r=w/\EP X pins σ Q r s') pl.isList ⋯ (by rw [qaA]<;>omega) ⋯ (by rw [hj];simpa using ew) ⟨rfl,fin⟩) hs
theorem zsJ:IxR X (zwj X.K):=by
 intro value slice pins s σ H x y v u Q I rx ry h hs
 obtain ⟨p,xs,i,z,rfl,rfl,hq,he,q⟩:=h
 cases rx
 obtain ⟨t,rfl⟩:=ry
 obtain ⟨its,r,pl,hz⟩:=I.tuple hq
 obtain ⟨j,h1,h2,h3,h4,h5⟩:=zlD he
 obtain ⟨w,ew,rw'⟩:=r.get h2
 have hl:=r.length
 have hn:=zik
 have fin:EP X pins σ Q w s:=⟨z,H,I,rw',q⟩
 exact subscriptTail_builtinR (x:=w) pl.typeIs slot_tuple_getitem.lookup
  (getItem_tuple (j:=j) (Q:=λr s'=>r=w/\EP X pins σ Q r s') pl ⋯ ⋯ (by rw [qaA, <-hl];exact h1) (by simpa using ew) ⟨rfl,fin⟩) hs
theorem zkS (its:List Value) (n j:Nat) (u:Value):Obj.mapSeq (·.setIfInBounds j u) {cls:= .type "list",data:= .seq its.toArray n}={cls:= .type "list",data:= .seq (its.set j u).toArray n}:=by
 simp [Obj.mapSeq]
theorem Inv.lst {pins:List (Addr×Obj)} {σ:St} {H:Hp} {s:Shared} {p:Addr} {xs:List V} (I:Inv X pins σ H s) (h:H p=some (.lst xs)):
  ∃ (its:List Value) (n:Nat),za4 xs its/\s.heap.get? p=some {cls:= .type "list",data:= .seq its.toArray n}/\xs.length<=sizeLine:=by
 obtain ⟨z,its,n,r,e⟩:=I.hok p _ h
 exact ⟨its,n,r,e,z⟩
theorem Inv.lstUpd {pins:List (Addr×Obj)} {σ:St} {H:Hp} {s:Shared} {p:Addr} {xs ys:List V} {its its':List Value} {n n':Nat} {f:Obj->Obj} (I:Inv X pins σ H s) (h:H p=some (.lst xs))
  (ho:s.heap.get? p=some {cls:= .type "list",data:= .seq its.toArray n}) (hf:f {cls:= .type "list",data:= .seq its.toArray n}={cls:= .type "list",data:= .seq its'.toArray n'}) (r:za4 ys its') (hz:ys.length<=sizeLine) (t:Nat):
  Inv X pins σ (upd H p (.lst ys)) {s with heap:=s.heap.update p f,toks:=t}:=by
 have e:(s.heap.update p f).get? p=some {cls:= .type "list",data:= .seq its'.toArray n'}:=by
  rw [qal f ho (by rw [hf]<;>rfl),hf]
 refine I.write (x:=p) (e:=p) (by rw [h];trivial) (.inl rfl) (λb u hb q=>(qah _ _ (Ne.symm hb)).trans q) ⟨_,e⟩ ?_
 exact ⟨hz,its',n',r,e⟩
def zup:V->V->V->Hp->(Hp->Prop)->Prop:=λo i v H Q=> ∃ p xs k j,o= .ref p/\i= .int k/\H p=some (.lst xs)/\ixN xs.length k=some j/\Q (upd H p (.lst (xs.set j v)))
theorem zoi:zvp X zup:=by
 intro pins s σ H o i v ov iv u Q I ro ri rv h
 obtain ⟨p,xs,k,j,rfl,rfl,hp,hj,q⟩:=h
 cases ro
 obtain ⟨t,rfl⟩:=ri
 obtain ⟨its,n,r,ho,hz⟩:=I.lst hp
 obtain ⟨h1,h2,h3,h4⟩:=zlt hj
 have hl:=r.length
 have hn:=zik
 have I':Inv X pins σ (upd H p (.lst (xs.set j v))) {s with heap:=s.heap.update p (Obj.mapSeq (·.setIfInBounds j u))}:=
  I.lstUpd hp ho (zkS its n j u) (r.set rv j) (by rw [qaI];exact hz) s.toks
 by_cases h0:0<=k
 ·have hk:k.toNat=j:=by
   rw [seqIndex_of h0 h4] at h1
   exact Option.some.inj h1
  exact W.ki_setAt ho h0 ⋯ (by rw [qaA, <-hl];exact h4) (by rw [hk];exact ⟨_,I',q⟩)
 ·have hk:(k+(its.toArray.size:Int)).toNat=j:=by
   rw [seqIndex_neg ⋯ h3] at h1
   rw [qaA, <-hl]
   exact Option.some.inj h1
  exact W.ki_setBack ho ⋯ (by rw [qaA, <-hl];exact h3) ⋯ (by rw [hk];exact ⟨_,I',q⟩)
theorem ziQ (lo hi:Option Int) (n:Nat):(sliceBounds lo hi none n).1=((HT.sIx n 0 lo:Nat):Int)/\(sliceBounds lo hi none n).2.1=((HT.sIx n n hi:Nat):Int)/\(sliceBounds lo hi none n).2.2=1:=by
 refine ⟨?_,?_,rfl⟩
 ·cases lo with
  | none=>simp [sliceBounds,HT.sIx]
  | some i=>
   simp only [sliceBounds,HT.sIx,Option.getD_none,show (1:Int)>0 by decide,if_true]
   by_cases h:i<0
   ·simp only [h,if_true]<;>omega
   ·simp only [h,if_false]<;>omega
 ·cases hi with
  | none=>simp [sliceBounds,HT.sIx]
  | some i=>
   simp only [sliceBounds,HT.sIx,Option.getD_none,show (1:Int)>0 by decide,if_true]
   by_cases h:i<0
   ·simp only [h,if_true]<;>omega
   ·simp only [h,if_false]<;>omega
theorem zha (its:List Value) (lo hi:Option Int):slicePick its.toArray lo hi none=((its.drop (HT.sIx its.length 0 lo)).take (HT.sIx its.length its.length hi - HT.sIx its.length 0 lo)).toArray:=by
 obtain ⟨h1,h2,h3⟩:=ziQ lo hi its.toArray.size
 unfold slicePick
 rw [h1,h2,h3]
 simp only [sliceRange_one,pick_run,qaA]<;>rfl
def zwg (K:W.Frag):V->Option Int->Option Int->Hp->VK->Prop:=λx lo hi H Q=> ∃ a xs,x= .ref a/\SqL K H a xs/\ ∀ p,H p=none->Q (.ref p) (upd H p (.lst (zph xs lo hi)))
theorem zpQ:SlR X (zwg X.K):=by
 intro pins s σ H x v vl vu lo hi sl Q I rx hs pl pu h
 obtain ⟨a,xs,rfl,hx,q⟩:=h
 cases rx
 obtain ⟨its,r,ht,hz⟩:=I.list hx
 have hlen:=r.length
 refine ⟨"list",_,slot_list_getitem.lookup,ht.isList.typeIs,?_⟩
 refine wpAny_getItem_list_slice ht.isList hs pl pu .none (by simp) ?_ (by rw [qaA]<;>omega)
 rw [zha, <-hlen]
 refine ⟨.ref s.heap.objs.size,_,I.laid (t':=s.toks) (o:= .lst (zph xs lo hi)) (λb ob q=>qag _ q) (qaV _) ?_,rfl,q _ (I.hok.fresh (qaV _))⟩
 exact ⟨qaS (zfQ xs lo hi) hz,_,0,(r.drop (HT.sIx xs.length 0 lo)).take (HT.sIx xs.length xs.length hi - HT.sIx xs.length 0 lo),qar _ rfl⟩
theorem ziq:zaK X (.builtin "len") (λxs H Q=> ∃ p ys,xs=[.ref p]/\(SqL X.K H p ys\/SqT X.K H p ys)/\Q (.int ys.length) H):=by
 intro pins s σ H xs us Q I r h
 obtain ⟨p,ys,rfl,hq,q⟩:=h
 obtain ⟨u,rfl,rx⟩:=zen r
 cases rx
 have hn:=zik
 rcases hq with hq | hq
 ·obtain ⟨its,r',pl,hz⟩:=I.list hq
  have hlen:=r'.length
  exact Calls.call_len_list pl.isList (by simp only [qaA]<;>omega) ⟨.int ys.length,H,I.tok _,⟨s.toks+1,by rw [qaA,hlen]⟩,q⟩
 ·obtain ⟨its,r',pl,hz⟩:=I.tuple hq
  have hlen:=r'.length
  exact len_tuple pl (by simp only [qaA]<;>omega) ⟨.int ys.length,H,I.tok _,⟨s.toks+1,by rw [qaA,hlen]⟩,q⟩
theorem zii:zaK X (.type "list") (λxs H Q=> ∃ p ys,xs=[.ref p]/\(SqL X.K H p ys\/SqT X.K H p ys)/\ ∀ l,H l=none->Q (.ref l) (upd H l (.lst ys))):=by
 intro pins s σ H xs us Q I r h
 obtain ⟨p,ys,rfl,hq,q⟩:=h
 obtain ⟨u,rfl,rx⟩:=zen r
 cases rx
 have fin: ∀ (its:List Value),za4 ys its->ys.length<=sizeLine-> ∀ (h':Heap) (c':Nat),(∀ b o',s.heap.get? b=some o'->h'.get? b=some o')->
   h'.get? s.heap.objs.size=some {cls:= .type "list",dict:=none,data:= .seq its.toArray c',slots:= #[]}->EP X pins σ Q (.ref s.heap.objs.size) {s with heap:=h'}:=λits r' hz h' c' kp e=>
  ⟨.ref s.heap.objs.size,_,I.laid (t':=s.toks) kp (qaV _) (show zcf X.prog X.w _ h' _ (.lst ys) from ⟨hz,its,c',r',e⟩),rfl,q _ (I.hok.fresh (qaV _))⟩
 rcases hq with hq | hq
 ·obtain ⟨its,r',pl,hz⟩:=I.list hq
  have hlen:=r'.length
  obtain ⟨o,ho,hc,n,hd⟩:=pl.isList
  exact call_list_seq p (.inl rfl) ho hc hd (λh' c' kp e=>fin its r' hz h' c' kp e) (by simp only [qaA]<;>omega)
 ·obtain ⟨its,r',pl,hz⟩:=I.tuple hq
  have hlen:=r'.length
  obtain ⟨o,ho,hc,n,hd⟩:=pl
  exact call_list_seq p (.inr rfl) ho hc hd (λh' c' kp e=>fin its r' hz h' c' kp e) (by simp only [qaA]<;>omega)
theorem zhN:zaK X (.type "tuple") (λxs H Q=> ∃ p ys,xs=[.ref p]/\((SqL X.K H p ys/\ ∀ l,H l=none->Q (.ref l) (upd H l (.tup ys)))\/(SqT X.K H p ys/\Q (.ref p) H))):=by
 intro pins s σ H xs us Q I r h
 obtain ⟨p,ys,rfl,h⟩:=h
 obtain ⟨u,rfl,rx⟩:=zen r
 cases rx
 rcases h with ⟨hq,q⟩ | ⟨hq,q⟩
 ·obtain ⟨its,r',pl,hz⟩:=I.list hq
  have hlen:=r'.length
  refine call_tuple_list pl.isList (λh' kp=> ?_) (by simp only [qaA]<;>omega)
  have I1:Inv X pins σ H {s with heap:=h'}:=I.kept (t':=s.toks) kp
  have I2:Inv X pins σ (upd H h'.objs.size (.tup ys)) {s with heap:=h'.push {cls:= .type "tuple",data:= .seq its.toArray}}:=
   I1.laid (t':=s.toks) (λb o e=>qag _ e) (qaV _) (show zcf X.prog X.w _ _ _ (.tup ys) from ⟨hz,its,r',zll.new _ _⟩)
  exact ⟨.ref h'.objs.size,_,I2,rfl,q _ (I1.hok.fresh (qaV _))⟩
 ·obtain ⟨its,r',pl,hz⟩:=I.tuple hq
  exact call_tuple_same pl ⟨.ref p,H,I,rfl,q⟩
def tyV (K:W.Frag) (T:String) (x:V) (H:Hp):Prop:=match x with
 | .str _=>T="str"
 | .int _=>T="int"
 | .ref p=>(T="list"/\ ∃ xs,SqL K H p xs)\/(T="tuple"/\ ∃ xs,SqT K H p xs)\/
   (T="dict"/\((∃ kvs,H p=some (.dK kvs))\/ ∃ kvs,H p=some (.dT kvs)))\/(T="set"/\ ∃ S n,H p=some (.set S n))
 | _=>False
theorem zr7 {pins:List (Addr×Obj)} {σ:St} {H:Hp} {s:Shared} {T:String} {x:V} {v:Value} (I:Inv X pins σ H s) (r:zbO x v) (ty:tyV X.K T x H):
  s.TypeIs v T/\ ∀ a,v= .ref a-> ∃ ob,s.heap.get? a=some ob/\ob.dict=none:=by
 cases x with
 | str z=>
  obtain ⟨t,rfl⟩:=r
  cases (show T="str" from ty)
  exact ⟨typeIs_str s z t,λ_ e=>nomatch e⟩
 | int i=>
  obtain ⟨t,rfl⟩:=r
  cases (show T="int" from ty)
  exact ⟨typeIs_int s i t,λ_ e=>nomatch e⟩
 | ref p=>
  cases r
  rcases ty with ⟨rfl,xs,hq⟩ | ⟨rfl,xs,hq⟩ | ⟨rfl,hk⟩ | ⟨rfl,S,n,hk⟩
  ·obtain ⟨its,_,pl,_⟩:=I.list hq
   refine ⟨pl.isList.typeIs,λa e=> ?_⟩
   cases e
   obtain ⟨o,n,e,c,hd,_⟩:=pl
   exact ⟨o,e,hd⟩
  ·obtain ⟨its,_,⟨o,e,c,n,_,hd⟩,_⟩:=I.tupleD hq
   refine ⟨⟨o,e,c⟩,λa e2=> ?_⟩
   cases e2
   exact ⟨o,e,hd⟩
  ·have z: ∃ o,s.heap.get? p=some o/\o.ExactDict:=by
    rcases hk with ⟨kvs,hk⟩ | ⟨kvs,hk⟩
    ·obtain ⟨_,_,_,_,o,_,_,e,ex,_⟩:=I.hok p _ hk
     exact ⟨o,e,ex⟩
    ·obtain ⟨_,_,_,_,o,_,_,e,ex,_⟩:=I.hok p _ hk
     exact ⟨o,e,ex⟩
   obtain ⟨o,e,ex⟩:=z
   refine ⟨⟨o,e,ex.1⟩,λa e2=> ?_⟩
   cases e2
   exact ⟨o,e,ex.2.1⟩
  ·obtain ⟨o,_,_,_,e,ex,_⟩:=I.hok p _ hk
   refine ⟨⟨o,e,ex.1⟩,λa e2=> ?_⟩
   cases e2
   exact ⟨o,e,ex.2.1⟩
 | _=>exact qa0 ty
def tBM (K:W.Frag) (T:String) (r:V->List V->Hp->VK->Prop) (to:TE) (t:TA):TE:=λσ H Q=>to σ H λx H1=>tyV K T x H1/\t σ H1 λxs H2=>r x xs H2 Q
variable {o e:Expr} {es:List Expr} {to:TE} {t:TA} {name:Str} {apos cpos:Pos} {T id:String} {r:V->List V->Hp->VK->Prop}
theorem zo2 (pa:PlainAttrs T) (slot:Slot T name id) (hty:typeOf (.builtin id)=pure (.type "method_descriptor")) (hm:MtR X id r) (ho:PE X o to) (ha:PA X (e::es) t)
  (hbase:attributeBase o name X.env (eval o X.env)=eval o X.env:=by rfl)
  (hfew:((backTo cpos (starEach (e::es) X.env)).all (λx=> !x.1) && (backToKw cpos (keywordEach [] X.env)).all (λx=>x.1.isSome)
    && decide ((e::es).length+([]:List Keyword).length+(if ([]:List Keyword).isEmpty then 0 else 1)<30))=true:=by rfl)
  (hline:(apos.endLine==cpos.line)=true:=by rfl) (hs:starEach (e::es) X.env=(false,eval e X.env)::starEach es X.env:=by rfl) (hplain:(backTo cpos (starEach es X.env)).any (·.1)=false:=by rfl):
  PE X (.Call (.Attribute o name apos) (e::es) [] cpos) (tBM X.K T r to t):=by
 intro pins s σ H Q I h
 refine wpAny_Call_method_late hbase hfew hline rfl (thn (ho pins s σ H _ I h) λv s1 ⟨x,H1,I1,r1,ty,q1⟩=> ?_)
 obtain ⟨h1,h2⟩:=zr7 I1 r1 ty
 refine ⟨T,id,pa,slot,hty,h1,h2,?_⟩
 have hA:=ha cpos pins s1 σ H1 _ I1 q1
 rw [hs] at hA ⊢
 refine Calls.callWith_builtin (by show (false || (backTo cpos (starEach es X.env)).any (·.1))=false;rw [hplain]<;>rfl) (Calls.evalArgs_plain ?_)
 exact thn hA λus s2 ⟨vs,H2,I2,r2,q2⟩=>hm pins s2 σ H2 x vs v us Q I2 r1 r2 q2
end
def MtM (X:Cx) (id:String) (r:V->List V->Hp->VK->Prop):Prop:=
 ∀ (pins:List (Addr×Obj)) (s:Shared) (σ:St) (H:Hp) (x:V) (xs:List V) (v:Value) (us:List Value) (Q:VK),Inv X pins σ H s->zbO x v->za4 xs us->r x xs H Q->
  wpAny (model X.prog X.w) X.A (call (.builtin id) (v::us)) (EP X pins σ Q) X.xe s
theorem za4.one: ∀ {x:V} {us:List Value},za4 [x] us-> ∃ u,us=[u]/\zbO x u
 | _,_,.cons r .nil=>⟨_,rfl,r⟩
theorem za4.two: ∀ {x y:V} {us:List Value},za4 [x,y] us-> ∃ u v,us=[u,v]/\zbO x u/\zbO y v
 | _,_,_,.cons r (.cons q .nil)=>⟨_,_,rfl,r,q⟩
theorem za4.eraseIdx: ∀ {xs:List V} {us:List Value} (i:Nat),za4 xs us->za4 (xs.eraseIdx i) (us.eraseIdx i)
 | _,_,_,.nil=> .nil
 | _,_,0,.cons _ t=>t
 | _,_,i+1,.cons r t=> .cons r (za4.eraseIdx i t)
theorem za4.reverse {xs:List V} {us:List Value} (h:za4 xs us):za4 xs.reverse us.reverse:=by
 induction h with
 | nil=>exact .nil
 | cons r t ih=>rw [reverse_cons,reverse_cons];exact za4.append ih (.cons r .nil)
theorem za4.rep {xs:List V} {us:List Value} (h:za4 xs us): ∀ k:Nat,za4 (replicate k xs).flatten (replicate k us).flatten
 | 0=> .nil
 | k+1=>by
  rw [replicate_succ,replicate_succ,flatten_cons,flatten_cons]
  exact za4.append h (za4.rep h k)
theorem zig {α:Type}: ∀ (l:List α) (i:Nat),(l.eraseIdx i).length<=l.length
 | [],_=>qaV _
 | _::_,0=>le_succ _
 | _::r,i+1=>Nat.succ_le_succ (zig r i)
theorem ziv (its:List Value): ∀ (k:Nat) (acc:List Value),
  List.foldl (λx1 x2=>x1++x2) acc.toArray (replicate k its.toArray)=(acc++(replicate k its).flatten).toArray
 | 0,acc=>by simp
 | k+1,acc=>by
  have e:acc.toArray++its.toArray=(acc++its).toArray:=by simp
  have e2:(acc++its)++(replicate k its).flatten=acc++(replicate (k+1) its).flatten:=by
   rw [replicate_succ,flatten_cons,List.append_assoc]
  rw [<- e2, <-ziv its k (acc++its), <-e,replicate_succ,foldl_cons]
section
variable {X:Cx} {pins:List (Addr×Obj)} {σ:St} {H:Hp} {s:Shared} {l b:Addr} {xs ys zs:List V}
theorem Inv.lset {its its':List Value} {n:Nat} {f:Array Value->Array Value} {t':Nat} (I:Inv X pins σ H s) (hH:H l=some (.lst xs))
  (e:s.heap.get? l=some {cls:= .type "list",data:= .seq its.toArray n}) (hf:f its.toArray=its'.toArray) (hv:za4 ys its') (hz:ys.length<=sizeLine):
  Inv X pins σ (upd H l (.lst ys)) {s with heap:=s.heap.update l (Obj.mapSeq f),toks:=t'}:=by
 have q:=PySem.IsL.update e f
 rw [hf] at q
 refine I.write (x:=l) (e:=l) (by rw [hH];exact trivial) (.inl rfl) (λb' u hb hu=>(qah s.heap (Obj.mapSeq f) (Ne.symm hb)).trans hu) ⟨_,q⟩ ?_
 exact ⟨hz,its',_,hv,q⟩
theorem Inv.lnew {its:List Value} {t':Nat} (I:Inv X pins σ H s) (hv:za4 ys its) (hz:ys.length<=sizeLine):
  Inv X pins σ (upd H s.heap.objs.size (.lst ys)) {s with heap:=s.heap.push {cls:= .type "list",data:= .seq its.toArray},toks:=t'}:=
 I.laid (λ_ _ q=>qag _ q) (qaV _) ⟨hz,its,0,hv,qar _ rfl⟩
theorem Inv.fresh (I:Inv X pins σ H s):H s.heap.objs.size=none:=I.hok.fresh (qaV _)
theorem Inv.lstM (I:Inv X pins σ H s) (hH:H l=some (.lst xs)):xs.length<=sizeLine/\ ∃ (its:List Value) (n:Nat),za4 xs its/\xs.length=its.length/\s.heap.get? l=some {cls:= .type "list",data:= .seq its.toArray n}:=by
 obtain ⟨z,its,n,r,e⟩:=I.hok l _ hH
 exact ⟨z,its,n,r,r.length,e⟩
theorem zo1 {n:Nat} (h:n<=sizeLine):Builtin.List.listTooLong n=false:=by
 unfold Builtin.List.listTooLong
 exact decide_eq_false ⋯
end
section
variable {X:Cx}
def zrG:V->List V->Hp->VK->Prop:=λx vs H Q=> ∃ l xs y,x= .ref l/\vs=[y]/\H l=some (.lst xs)/\xs.length<sizeLine/\Q .non (upd H l (.lst (xs++[y])))
theorem ziO:MtM X "list.append" zrG:=by
 intro pins s σ H x vs v us Q I rx rv h
 obtain ⟨l,xs,y,rfl,rfl,hH,hz,q⟩:=h
 cases rx
 obtain ⟨u,rfl,ru⟩:=rv.one
 obtain ⟨z,its,n,r,hl,e⟩:=I.lstM hH
 refine call_meets F.slot_list_append ⟨_,e,rfl⟩ F.entry_list_append (F.args_list_append_2 _ _) (PySem.list_append l its.toArray n u (by rw [qaA];omega)) ⟨e,?_⟩
 refine ⟨.non,_,I.lset (its':=its++[u]) hH e (by simp) (r.append (.cons ru .nil)) ?_,rfl,q⟩
 rw [qav,List.length_singleton]
 omega
def zt8:V->List V->Hp->VK->Prop:=λx vs H Q=> ∃ l xs i k y,x= .ref l/\vs=[.int i]/\H l=some (.lst xs)/\ -(2^63)<=i/\i<2^63/\seqIndex? i xs.length=some k/\xs[k]? = some y/\Q y (upd H l (.lst (xs.eraseIdx k)))
theorem znQ:MtM X "list.pop" zt8:=by
 intro pins s σ H x vs v us Q I rx rv h
 obtain ⟨l,xs,i,k,y,rfl,rfl,hH,h1,h2,hk,hy,q⟩:=h
 cases rx
 obtain ⟨u,rfl,ru⟩:=rv.one
 obtain ⟨t,rfl⟩:=ru
 obtain ⟨z,its,n,r,hl,e⟩:=I.lstM hH
 obtain ⟨w,hw,rw'⟩:=r.get hy
 refine call_meets F.slot_list_pop ⟨_,e,rfl⟩ F.entry_list_pop (F.args_list_pop_2 _ _)
  (MeetsSeq.list_pop_at l its.toArray n i t k w (fitsIndex_both h1 h2) (by rw [qaA, <-hl];exact hk) (by rw [<- Array.getElem?_toList];exact hw) (by rw [qaA];omega)) ⟨e,?_⟩
 refine ⟨y,_,I.lset (its':=its.eraseIdx k) hH e ?_ (r.eraseIdx k) ?_,rw',q⟩
 ·show its.toArray.eraseIdxIfInBounds k=(its.eraseIdx k).toArray
  rw [List.eraseIdxIfInBounds_toArray]
 ·have:=zig xs k
  omega
def zwE:R2:=λx y H Q=> ∃ l b xs zs,x= .ref l/\y= .ref b/\H l=some (.lst xs)/\H b=some (.lst zs)/\xs.length+zs.length<=sizeLine/\ ∀ p,H p=none->Q (.ref p) (upd H p (.lst (xs++zs)))
theorem zti:OpR X (binaryOp .Add) zwE:=by
 intro pins s σ H x y v u Q I rx ry h
 obtain ⟨l,b,xs,zs,rfl,rfl,hH,hB,hz,q⟩:=h
 cases rx
 cases ry
 obtain ⟨z,its,n,r,hl,e⟩:=I.lstM hH
 obtain ⟨z2,its2,n2,r2,hl2,e2⟩:=I.lstM hB
 refine PySem.P.add_list e e2 ?_ (by rw [qaA,qaA];omega)
 have ea:its.toArray++its2.toArray=(its++its2).toArray:=by simp
 rw [ea]
 exact ⟨.ref _,_,I.lnew (t':=s.toks) (r.append r2) (by rw [qav];omega),rfl,q _ I.fresh⟩
theorem zrC {α:Type} (xs:List α) (k:Nat):(replicate k xs).flatten.length=k*xs.length:=by
 induction k with
 | zero=>simp
 | succ k ih=>rw [replicate_succ,flatten_cons,qav,ih,Nat.succ_mul,Nat.add_comm]
end
section
variable {prog:Program} {w:World} {A:Around} {E:Value->Shared->Prop} {s:Shared}
end
section
variable {X:Cx}
end
end L2
namespace Att
open PySem.W PySem.Calls
theorem zfM {P:Params} {h:Heap}: ∀ (ns:List Int) (vs:List Value),WellAll P h vs (ns.map WData.int)->IntsAre vs ns:=by
 intro ns
 induction ns with
 | nil=>
  intro vs w
  rw [map_nil] at w
  cases w
  exact .nil
 | cons n ns ih=>
  intro vs w
  rw [qaM] at w
  cases w with
  | cons a b=>
   cases a
   exact .cons _ _ (ih _ b)
theorem zm2 {l:OpenLaw} {n:Nat} (hn:l.most=some n) {P:Params} {h:Heap} {args:List WData} {vals:List Value}
  (hpre:l.row.toRowW.claim.pre args=true) (hwl:WellAll P h vals args):
  ∃ a vs ns,vals=[Value.ref a]/\args=[WData.list (ns.map WData.int)]/\h.get? a=some {cls:= .type "list",data:= .seq vs.toArray}/\IntsAre vs ns/\ns.length<=n:=by
 have hsh:WShape.hasAll [] args [.list .int]=true:=(pre_splitW hpre).1
 have hc:l.pre.holds [] {args:=args}=true:=(pre_splitW hpre).2
 obtain ⟨d,r,rfl,h1,h2⟩:=hasAllW_cons hsh
 obtain rfl:=hasAllW_nil h2
 obtain ⟨xs,rfl,h3⟩:=hasW_list h1
 obtain ⟨ns,rfl⟩:=items_int h3
 have hlen:ns.length<=n:=by
  unfold OpenLaw.pre at hc
  have h4:(WTm.not (.lt (.lit (.int (n:Int))) (.len (.arg 0)))).holds [] {args:=[.list (ns.map .int)]}=true:=by
   have h4:=(holds_andW hc).1
   rw [hn] at h4
   exact h4
  have h5:=condW_of h4 (w_not (w_lt w_lit (w_len_list (w_arg rfl))))
  rw [qaH] at h5
  refine Nat.le_of_not_lt λq=> ?_
  have q':(n:Int)<((ns.length:Nat):Int):=by omega
  first
   | (rw [decide_eq_true q'] at h5;exact absurd h5 (by decide))
   | (simp at h5;omega)
 cases hwl with
 | cons w1 w2=>
  cases w2
  cases w1 with
  | list ho hall=>exact ⟨_,_,ns,rfl,rfl,ho,zfM ns _ hall,hlen⟩
theorem zmy (l:OpenLaw) (args:List WData):l.row.toRowW.claim.post args (.bool true) args=true:=
 postW_of (r:=l.row.toRowW) (X:=(true==true))
  (show WShape.has [] (.bool true) .bool=true by first | rfl | decide | simp [WShape.has,WShape.arms,WShape.armsAll])
  (show (WTm.eq .res (.lit (.bool true))).value [] {args:=args,res:=some (.bool true),after:=args}=some (.bool (true==true)) from w_eq_bool (w_res rfl) w_lit) rfl
section
variable {prog:Program} {w:World} {A:Around} {E:Value->Shared->Prop} {s:Shared} {K:Frag}
end
end Att
namespace L2
theorem zfU: ∀ {vs:List Value} {ns:List Int},IntsAre vs ns->za4 (ns.map V.int) vs
 | _,_,.nil=> .nil
 | _,_,.cons n t h=> .cons ⟨t,rfl⟩ (zfU h)
def zvJ (H:Hp):Prop:= ∀ b,H b=none\/ ∃ o xs,H b=some (.frz o (.lst xs))
theorem zog {P:Program} {w:World} {K:W.Frag} {mg mb:Str->Option Value} {CX:CXT} {k:Nat} {fa a:Addr} {fd:FuncData} {x:Str} {sp:Sp} {s₁:Shared} {vs:List Value} {ns:List Int}
  (KX:K.In s₁.heap) (hns:s₁.heap.Ns mainGlobals mg) (hb:s₁.heap.Ns builtinsNs mb) (hbb: ∀ x:Str,x≠"__name__"->mb x=bootBuiltins x) (hlim:s₁.heap.NoLimit) (hg:s₁.gens= #[])
  (ha:s₁.heap.get? a=some {cls:= .type "list",data:= .seq vs.toArray}) (hi:IntsAre vs ns) (hl:ns.length<=sizeLine) (hr:zd8 k callerA)
  (F: ∀ base:Heap,K.In base->base.Ns mainGlobals mg->zbr P w K mg base CX k fa fd [x] sp) (hbind: ∀ (s:Shared) (u:Value),BindsTo s fd ⟨[u],[]⟩ [(x,u)])
  (hsp: ∀ H:Hp,zvJ H->SqL K H a (ns.map V.int)->sp [.ref a] H (λv _=>v= .bl true) λ_ _ _=>False)
  (hCX: ∀ H e s',CX [] H s₁ (λ_ _ _=>False) e s'->False):
  codeAny (model P w) callerA (.call (.ref fa) ⟨[.ref a],[]⟩) (λr s'=>r= .ok (.ret (.bool true))/\OldK s₁.heap s'.heap/\s'.os=s₁.os/\AllBare s'.gens) s₁:=by
 have rv:=zfU hi
 have lenV:=hi.length
 have core: ∀ H:Hp,zvJ H->SqL K H a (ns.map V.int)->HOk P w H s₁.heap->(∀ b,H b≠none->b=a)->(H a≠none->K.lookup a=none)->
   codeAny (model P w) callerA (.call (.ref fa) ⟨[.ref a],[]⟩) (λr s'=>r= .ok (.ret (.bool true))/\OldK s₁.heap s'.heap/\s'.os=s₁.os/\AllBare s'.gens) s₁:=by
  intro H hO hS hok hA hK
  have base_of: ∀ {b:Addr} {o:Obj},s₁.heap.get? b=some o->H b=none->(zoF s₁.heap H).get? b=some o:=λe n=>zo6 e n
  have noA: ∀ {b:Addr} {o:Obj} {es:Array DictEntry} {ep:Nat},s₁.heap.get? b=some o->o.data= .dict es ep->H b=none:=λ{b o es ep} e d=>by
   cases q:H b with
   | none=>rfl
   | some u=>
    have e':b=a:=hA b (by rw [q];simp)
    subst e'
    rw [ha] at e;cases e
    have d':Data.seq vs.toArray _=Data.dict es ep:=d
    cases d'
  have nsK: ∀ {b:Addr} {m:Str->Option Value},s₁.heap.Ns b m->(zoF s₁.heap H).Ns b m:=λ{b m} ⟨o,es,ep,e,d,r⟩=>⟨o,es,ep,base_of e (noA e d),d,r⟩
  have hKb:K.In (zoF s₁.heap H):=λb o e=>base_of (KX b o e) (by
    cases q:H b with
    | none=>rfl
    | some u=>
      have e':b=a:=hA b (by rw [q];simp)
      subst e'
      rw [hK (by rw [q];simp)] at e;cases e)
  have hM:Mod K mg (zoF s₁.heap H):=⟨hKb,nsK hns,⟨mb,nsK hb,hbb⟩,let ⟨mc,h1,h2⟩:=hlim;⟨mc,nsK h1,h2⟩⟩
  have e0:zpp P w K mg (zoF s₁.heap H) callerA [] s₁ H:=⟨rfl,hM,λb o e=>zrn e,le_of_eq (znp _ _),trivial,λb hb=>absurd (show b∈([]:List Addr) from hb) (by simp),hok,.of_eq hg,.inl rfl⟩
  refine codeAny_mono ((F _ hKb (nsK hns)).run callerA [] s₁ H ⟨[.ref a],[]⟩ [.ref a] [.ref a] _ _ hr e0 (hbind s₁ (.ref a)) (.cons rfl .nil) (hsp H hO hS)) λr s' h=> ?_
  cases r with
  | error e=>exact (hCX H e s' h).elim
  | ok fl=>
   cases fl with
   | next=>exact qa0 h
   | brk=>exact qa0 h
   | cont=>exact qa0 h
   | ret u=>
    obtain ⟨v,H',os,bare,un,hok',r',q⟩:=h
    have q':v= .bl true:=q
    subst q'
    obtain rfl:u=Value.bool true:=r'
    refine ⟨rfl,OldK.of_keep λb o e=> ?_,os,bare⟩
    cases q:H b with
    | none=>exact un.keep b o e q (by intro z;exact absurd (show b∈([]:List Addr) from z) (by simp)) (by simp)
    | some u=>
     rcases hO b with z | ⟨ob,xs,z⟩
     ·rw [q] at z;cases z
     ·have z2:=un.frzs b ob _ z
      obtain ⟨e1,_⟩:=hok b _ z
      obtain ⟨e2,_⟩:=hok' b _ z2
      rw [e] at e1;cases e1
      exact e2
 cases hk:K.lookup a with
 | some o=>
  have e:=KX a o hk
  rw [ha] at e
  cases e
  refine core (λ_=>none) (λ_=> .inl rfl) (.inr ⟨_,vs.toArray,_,hk,rfl,rfl,rfl,by rw [qaA,lenV];exact hl,by simpa using rv⟩) (λb u z=>by have z':(none:Option HO)=some u:=z;cases z') (λb z=>absurd rfl z) λz=>absurd rfl z
 | none=>
  refine core (λb=>if b=a then some (.frz {cls:= .type "list",data:= .seq vs.toArray} (.lst (ns.map V.int))) else none) (λb=> ?_) (.inl (.inr ⟨{cls:= .type "list",data:= .seq vs.toArray},qa4 rfl⟩)) (λb u z=> ?_) (λb z=> ?_) λ_=>hk
  ·by_cases hb:b=a
   ·exact .inr ⟨_,_,qa4 hb⟩
   ·exact .inl (qa5 hb)
  ·by_cases hb:b=a
   ·have z':=(qa4 hb).symm.trans z
    cases z'
    subst hb
    exact ⟨ha,by rw [qaH];exact hl,vs,_,rv,ha⟩
   ·have z':=(qa5 hb).symm.trans z
    cases z'
  ·by_cases hb:b=a
   ·exact hb
   ·exact absurd (qa5 hb) z
def ze1 (s:Stmt):Arguments:=match s with
 | .FunctionDef _ a _ _ _ _ _ _ _ _=>a
 | _=>{posonlyargs:=[],args:=[],vararg:=none,kwonlyargs:=[],kw_defaults:=[],kwarg:=none,defaults:=[]}
def zdK (s:Stmt):List Stmt:=match s with
 | .FunctionDef _ _ b _ _ _ _ _ _ _=>b
 | _=>[]
def zae (s:Stmt):Scope:=match s with
 | .FunctionDef _ _ _ _ _ _ sc _ _ _=>sc
 | _=>{kind:= .function,names:=[],isGenerator:=false,isCoroutine:=false}
abbrev CX0:CXT:=λ_ _ _ _ _ _=>False
abbrev E0:XK:=λ_ _ _=>False
theorem zo9 {X:Cx}:zfI CX0 X E0:=λ_ _ _ _ _ _ _ h=>h.elim
structure Fun (K:W.Frag) (x qual:Str) (st:Stmt) (f:Addr) (fd:FuncData):Prop where
 ex: ∃ (oc:Value) (od:Option Addr) (kV doc pm:Value) (an:Option Addr) (cdv ct:Value) (osl:Array (Option Value)),
  fd=W.fnOf x qual (ze1 st) (zdK st) (zae st) .none kV doc pm an cdv ct/\K.lookup f=some ⟨oc,od,.func fd,osl⟩/\W.codeIn K cdv qual=true
 kp:W.keepIn K (.ref f)=true
section
variable {P:Program} {w:World} {K:W.Frag} {mg:Str->Option Value} {base:Heap}
theorem Fun.ok {x qual:Str} {st:Stmt} {f:Addr} {fd:FuncData} {N ps:List Str} {k:Nat} {sp:Sp} (F:Fun K x qual st f fd) (S:zan N ps (zae st)) (len: ∀ vs H Q E,sp vs H Q E->vs.length=ps.length)
  (hbody: ∀ (cdv:Value) (A:Around) (outer:List Env) (s:Shared) (H:Hp) (vs:List V) (Q:VK) (E:XK),zd8 k (A.deeper (envOfC qual (zae st) s.heap.objs.size f cdv))->sp vs H Q E->
    ∃ t,PSs (zqY CX0 P w K mg base N qual (zae st) f cdv A outer s H E).nox (zdK st) t/\t {nx:=λ_ H'=>Q .non H',rt:=Q} (zgp N vs) H):zbr P w K mg base CX0 (k+1) f fd ps sp:=by
 obtain ⟨oc,od,kV,doc,pm,an,cdv,ct,osl,rfl,lk,hcd⟩:=F.ex
 refine zvc lk hcd S len λA outer s H vs Q E hr hsp=> ?_
 obtain ⟨t,h,q⟩:=hbody cdv A outer s H vs Q E hr hsp
 exact ⟨t,h.nox,q⟩
theorem Fun.binds {x qual:Str} {st:Stmt} {f:Addr} {fd:FuncData} {ps:List Str} (F:Fun K x qual st f fd)
  (h: ∀ (kV doc pm:Value) (an:Option Addr) (cdv ct:Value) (us:List Value),us.length=ps.length->bindArgs (W.fnOf x qual (ze1 st) (zdK st) (zae st) .none kV doc pm an cdv ct) ⟨us,[]⟩=pure (ps.zip us)):zay K fd ps []:=by
 obtain ⟨oc,od,kV,doc,pm,an,cdv,ct,osl,rfl,lk,hcd⟩:=F.ex
 exact .all (h kV doc pm an cdv ct)
theorem zaw {x qual:Str} {st:Stmt} {f:Addr} {oc:Value} {od an:Option Addr} {osl:Array (Option Value)} {kV doc pm cdv ct:Value} (l:K.lookup f=some ⟨oc,od,.func (W.fnOf x qual (ze1 st) (zdK st) (zae st) .none kV doc pm an cdv ct),osl⟩)
  (c:W.codeIn K cdv qual=true) (k:W.keepIn K (.ref f)=true):Fun K x qual st f (W.fnOf x qual (ze1 st) (zdK st) (zae st) .none kV doc pm an cdv ct):=⟨⟨oc,od,kV,doc,pm,an,cdv,ct,osl,rfl,l,c⟩,k⟩
end
section
variable {X:Cx}
theorem pv (i:Nat) {x:Str} {pos:Pos} (hN:X.N[i]? = some x:=by rfl) (hv:Vis X.env.scope x:=by first | exact Or.inl rfl | exact Or.inr (Or.inl rfl) | exact Or.inr (Or.inr rfl)) (hd:(x==("__debug__":Str))=false:=by decide)
  (hcd:(x==("__classdict__":Str))=false:=by decide):PE X (.Name x pos) (zvR i):=zpj hN hv hd hcd
end
theorem zrI {A B:Prop} (h:B):if false=true then A else B:=by
 rw [qa5 Bool.false_ne_true]
 exact h
theorem zrR {A B:Prop} (h:A):if true=true then A else B:=by
 rw [qa4 rfl]
 exact h
def zbM (cells:List (Str×Addr)):List (Str×NameKind)->List (Str×Addr)->List (Str×Addr)
 | [],acc=>acc
 | (n,k)::r,acc=>if k== .free then zbM cells r ((n,(cells.lookup n).getD 0)::acc) else zbM cells r acc
theorem zeJ {scope:Scope} {env:Env} (h: ∀ x∈scope.names,x.2= .free-> ∃ c,env.cells.lookup x.1=some c):closureFor scope env=pure (zbM env.cells scope.names []):=by
 simp only [closureFor]
 generalize hn:scope.names=names at h
 clear hn
 generalize hacc:([]:List (Str×Addr))=acc
 clear hacc
 have key: ∀ (names:List (Str×NameKind)) (acc:List (Str×Addr)),(∀ x∈names,x.2= .free-> ∃ c,env.cells.lookup x.1=some c)->
   (forIn (m:=Sem) names acc λ(x:Str×NameKind) (r:List (Str×Addr))=>(match x with
     | (name,kind)=>if (kind==NameKind.free)=true then do
         let a<-cellOf env name
         pure (ForInStep.yield ((name,a)::r))
       else pure (ForInStep.yield r)))=pure (zbM env.cells names acc):=by
  intro names
  induction names with
  | nil=>intro acc _;rfl
  | cons x r ih=>
   intro acc h
   obtain ⟨n,k⟩:=x
   rw [List.forIn_cons]
   unfold zbM
   by_cases hk:(k==NameKind.free)=true
   ·simp only [hk,if_true]
    obtain ⟨c,hc⟩:=h (n,k) qau (by simpa using hk)
    have e:cellOf env n=pure c:=by unfold cellOf;rw [show env.cells.lookup n=some c from hc]
    rw [e,show (env.cells.lookup n).getD 0=c by rw [show env.cells.lookup n=some c from hc];rfl]
    exact ih _ λy hy=>h y (qan _ hy)
   ·simp only [hk,if_false]
    exact ih _ λy hy=>h y (qan _ hy)
 have k:=key names acc h
 refine Eq.trans (congrArg (λ(z:Sem (List (Str×Addr)))=>z>>=λr=>pure r) k) ?_
 rfl
theorem ze2 {cells:List (Str×Addr)}: ∀ {names:List (Str×NameKind)} {acc:List (Str×Addr)} {n:Str} {c:Addr},(n,c)∈zbM cells names acc->
  (n,c)∈acc\/((n,NameKind.free)∈names/\c=(cells.lookup n).getD 0)
 | [],_,_,_,h=> .inl h
 | (y,k)::r,acc,n,c,h=>by
  unfold zbM at h
  by_cases hk:(k==NameKind.free)=true
  ·rw [qa4 hk] at h
   have ek:k= .free:=by simpa using hk
   subst ek
   rcases ze2 h with h | ⟨h1,h2⟩
   ·rcases qaP.mp h with e | h
    ·cases e
     exact .inr ⟨qau,rfl⟩
    ·exact .inl h
   ·exact .inr ⟨qan _ h1,h2⟩
  ·rw [qa5 hk] at h
   rcases ze2 h with h | ⟨h1,h2⟩
   ·exact .inl h
   ·exact .inr ⟨qan _ h1,h2⟩
theorem zep {cells:List (Str×Addr)} {x:Str} {c:Addr} (hc:cells.lookup x=some c): ∀ (names:List (Str×NameKind)) (acc:List (Str×Addr)),((x,NameKind.free)∈names\/acc.lookup x=some c)->(zbM cells names acc).lookup x=some c
 | [],acc,h=>h.elim (λz=>nomatch z) id
 | (y,k)::r,acc,h=>by
  unfold zbM
  by_cases hk:(k==NameKind.free)=true
  ·rw [qa4 hk]
   refine zep hc r _ ?_
   by_cases hy:x=y
   ·subst hy
    exact .inr (by rw [lookup_cons,beq_self_eq_true,hc];rfl)
   ·rcases h with h | h
    ·rcases qaP.mp h with e | h
     ·cases e;exact absurd rfl hy
     ·exact .inl h
    ·refine .inr ?_
     rw [lookup_cons,show (x==y)=false by simpa using hy]
     exact h
  ·rw [qa5 hk]
   refine zep hc r _ ?_
   rcases h with h | h
   ·rcases qaP.mp h with e | h
    ·cases e;exact absurd rfl hk
    ·exact .inl h
   ·exact .inr h
theorem zdu: ∀ {names:List (Str×NameKind)} {n:Nat} {acc:List (Str×Addr)} {x:Str} {c:Addr},(x,c)∈cellsFrom n names acc->(x,c)∈acc\/(n<=c/\(x,NameKind.cell)∈names)
 | [],_,_,_,_,h=> .inl h
 | (y,k)::r,n,acc,x,c,h=>by
  unfold cellsFrom at h
  by_cases hk:(k==NameKind.cell)=true
  ·rw [qa4 hk] at h
   have ek:k= .cell:=by simpa using hk
   subst ek
   rcases zdu h with h | ⟨h,h'⟩
   ·rcases qaP.mp h with e | h
    ·cases e;exact .inr ⟨qaV _,qau⟩
    ·exact .inl h
   ·exact .inr ⟨Nat.le_of_succ_le h,qan _ h'⟩
  ·rw [qa5 hk] at h
   rcases zdu h with h | ⟨h,h'⟩
   ·exact .inl h
   ·exact .inr ⟨h,qan _ h'⟩
theorem zcy {x:Str} {c:Addr}: ∀ (names:List (Str×NameKind)) (n:Nat) (acc:List (Str×Addr)),(x,NameKind.cell)∉names->acc.lookup x=some c->(cellsFrom n names acc).lookup x=some c
 | [],_,_,_,h=>h
 | (y,k)::r,n,acc,hn,h=>by
  unfold cellsFrom
  by_cases hk:(k==NameKind.cell)=true
  ·rw [qa4 hk]
   have ek:k= .cell:=by simpa using hk
   subst ek
   refine zcy r _ _ (λz=>hn (qan _ z)) ?_
   have hy:x≠y:=λe=>hn (by rw [e];exact qau)
   rw [lookup_cons,show (x==y)=false by simpa using hy]
   exact h
  ·rw [qa5 hk]
   exact zcy r _ _ (λz=>hn (qan _ z)) h
theorem zcC: ∀ (names:List (Str×NameKind)) (n:Nat) (acc:List (Str×Addr)),(∀ x c,(x,c)∈acc->c<n)->(acc.Pairwise λx y=>x.2≠y.2)->(cellsFrom n names acc).Pairwise λx y=>x.2≠y.2
 | [],_,_,_,h=>h
 | (y,k)::r,n,acc,hlt,h=>by
  unfold cellsFrom
  by_cases hk:(k==NameKind.cell)=true
  ·rw [qa4 hk]
   refine zcC r (n+1) _ (λx c hm=> ?_) (qay.mpr ⟨λz hz e=> ?_,h⟩)
   ·rcases qaP.mp hm with e | hm
    ·cases e;exact lt_succ_self _
    ·exact lt_succ_of_lt (hlt x c hm)
   ·have:=hlt z.1 z.2 hz
    have e':n=z.2:=e
    exact qaN _ (e'▸this)
  ·rw [qa5 hk]
   exact zcC r n acc hlt h
def zqx (env:Env) (scope:Scope) (C:Addr):Env:=
 {scope:=relabel scope env,locals:=C,globals:=env.globals,cells:=cellsFrom (C+1) scope.names (zbM env.cells scope.names []),qual:=env.qual,func:=none,code:=env.code,frame:=env.frame,builtins:=env.builtins}
section
variable {M:Model} {A:Around} {E:Value->Shared->Prop} {s:Shared}
theorem zgs {scope:Scope} {env:Env} {cl:List (Str×Addr)} {Q:Env->Shared->Prop}
  (hQ: ∀ h',(∀ b o,s.heap.get? b=some o->h'.get? b=some o)->h'.Ns s.heap.objs.size (λ_=>none)->(∀ x c,(x,NameKind.cell)∈scope.names->(x,c)∈cellsFrom (s.heap.objs.size+1) scope.names cl->(x,c)∉cl->h'.IsCell c none)->
    Q {scope,locals:=s.heap.objs.size,globals:=env.globals,cells:=cellsFrom (s.heap.objs.size+1) scope.names cl,qual:=env.qual,func:=none,code:=env.code,frame:=env.frame,builtins:=env.builtins} {s with heap:=h'}):
  wpAny M A (newFunctionEnv scope env.globals cl [] env.qual none .none (some env)) Q E s:=by
 simp only [newFunctionEnv,Option.isSome_some,if_true]
 refine qaW (wpAny_alloc ?_)
 refine qaW (wpAny_layCells _ (λname kind cells=>by cases hkc:kind==NameKind.cell<;>simp [hkc]) _ _ _ _ ?_)
 simp only [List.forIn_nil]
 refine qaW (qaX (qaX ?_))
 rw [show ({s with heap:=s.heap.push {cls:= .type "dict",data:= .dict #[]}}:Shared).heap.objs.size=s.heap.objs.size+1 from qaL ..]
 have key: ∀ (names:List (Str×NameKind)) (h:Heap) (acc:List (Str×Addr)) (x:Str) (c:Addr),(x,c)∈cellsFrom h.objs.size names acc->(x,c)∉acc->(pushCells h names).IsCell c none:=by
  intro names
  induction names with
  | nil=>intro h acc x c hm hn;exact absurd hm hn
  | cons y r ih=>
   intro h acc x c hm hn
   obtain ⟨n,k⟩:=y
   unfold cellsFrom at hm
   unfold pushCells
   by_cases hk:(k==NameKind.cell)=true
   ·rw [qa4 hk] at hm ⊢
    by_cases hin:(x,c)∈((n,h.objs.size)::acc)
    ·rcases qaP.mp hin with e | e
     ·cases e
      exact ⟨_,pushCells_keeps _ _ _ _ (qar _ rfl),rfl⟩
     ·exact absurd e hn
    ·refine ih (h.push {cls:= .type "cell",data:= .cell none}) ((n,h.objs.size)::acc) x c ?_ hin
     rw [qaL]
     exact hm
   ·rw [qa5 hk] at hm ⊢
    exact ih h acc x c hm hn
 refine hQ _ (λb o e=>pushCells_keeps _ _ b o (qag _ e)) ((Heap.Ns.new s.heap (.type "dict")).keeps (pushCells_keeps _ _)) λx c _ hm hn=> ?_
 refine key scope.names _ cl x c ?_ hn
 rw [qaL]
 exact hm
end
section
variable {prog:Program} {w:World} {A:Around} {E:Value->Shared->Prop} {R:Result->Shared->Prop} {s:Shared}
theorem ziF {elt target iter:Expr} {ifs:List Expr} {scope:Scope} {pos:Pos} {it acc:Value} {env:Env} (I:Nat->Shared->Prop)
  (turn: ∀ n s,I n s->wpAny (model prog w) A (pyNext it) (λr s₁=>match r with
    | none=>R (.ok .next) s₁
    | some v=>wpAny (model prog w) A (letOwnedTupleGo target it v) (λ_ s₁'=>wpAny (model prog w) A (assign target env v) (λ_ s₂=>
        wpAny (model prog w) A (forIn ifs true λc r=>if r=true then do let ok<-isTrue c env (eval c env);pure (ForInStep.yield ok) else pure (ForInStep.yield r)) (λok s₃=>
          if ok=true then wpAny (model prog w) A (eval elt env) (λx s₄=>
            wpAny (model prog w) A (call (.builtin "list.append") [acc,x]) (λ_ s₅=> ∃ m,m<n/\I m s₅) (λ_ _=>False) s₄) (λ_ _=>False) s₃
          else ∃ m,m<n/\I m s₃) (λ_ _=>False) s₂) (λ_ _=>False) s₁') (λ_ _=>False) s₁) (λ_ _=>False) s)
  (n:Nat) (h:I n s):
  codeAny (model prog w) A (.compLoop (.ListComp elt [⟨target,iter,ifs,0⟩] scope pos) 0 it acc env) R s:=by
 refine codeAny_loop rfl I (λn s hI=> ?_) n h
 show wpAny _ A ((compTurn (.ListComp elt [⟨target,iter,ifs,0⟩] scope pos) 0 it acc env).onRaise (λx=>do noteFrame x env;theTreesLotGoes x)) _ _ s
 refine wpAny_noted ?_
 rw [compTurn_list]
 refine qaW (wpAny_standAt (qaW (qaZ (turn n s hI) (λr s₁ h₁=> ?_) λ_ _ h'=>h'.elim)))
 cases r with
 | none=>exact qaX h₁
 | some v=>
  refine qaW (qaZ h₁ (λ_ s₁' h₁'=> ?_) λ_ _ h'=>h'.elim)
  refine qaW (qaZ h₁' (λ_ s₂ h₂=>qaW (qaZ h₂ (λok s₃ h₃=> ?_) λ_ _ h'=>h'.elim)) λ_ _ h'=>h'.elim)
  cases ok with
  | false=>exact qaX ⟨rfl,h₃⟩
  | true=>
   exact qaW (qaW (qaZ h₃ (λx s₄ h₄=>qaW (qaZ h₄ (λ_ s₅ h₅=>qaX (qaX ⟨rfl,h₅⟩)) λ_ _ h'=>h'.elim)) λ_ _ h'=>h'.elim))
end
abbrev cxB (X:Cx) (scope:Scope) (N:List Str) (s:Shared) (H:Hp) (fp:List Addr):Cx:=
 {prog:=X.prog,w:=X.w,K:=X.K,mg:=X.mg,base:=X.base,A:=X.A,N:=N,s₀:=s,H₀:=H,env:=zqx X.env scope s.heap.objs.size,outer:=X.stack,stack:=X.stack,ex:=fp,
   fn:=λx=>scope.names.lookup x==some .cell,calm:=X.calm,pn:=[],xe:=λ_ _=>False}
def zpB (Xn:List (Str×NameKind)) (XN:List Str) (names:List (Str×NameKind)) (N:List Str) (src:List (Option Nat)):Bool:=
 decide N.Nodup && decide (names.map (·.1)).Nodup && (src.length==N.length) &&
 names.all (λx=>x.2 != .local || names.lookup x.1==some .local) &&
 names.all (λx=>x.2 != .cell || names.lookup x.1==some .cell) &&
 names.all (λx=>x.2 != .free || Xn.lookup x.1==some .cell || Xn.lookup x.1==some .free) &&
 (N.zip src).all (λp=>match p.2 with
   | none=>true
   | some i=>XN[i]? == some p.1 && names.lookup p.1==some .free)
structure BOk (X:Cx) (scope:Scope) (N:List Str) (src:List (Option Nat)):Prop where
 kind:scope.kind= .function
 nd:N.Nodup
 keys:(scope.names.map (·.1)).Nodup
 len:src.length=N.length
 locs: ∀ x∈scope.names,x.2= .local->scope.names.lookup x.1=some .local
 cels: ∀ x∈scope.names,x.2= .cell->scope.names.lookup x.1=some .cell
 free: ∀ x∈scope.names,x.2= .free->X.env.kindOf x.1=some .cell\/X.env.kindOf x.1=some .free
 src: ∀ (k i:Nat) (x:Str),src[k]? = some (some i)->N[k]? = some x->X.N[i]? = some x/\scope.names.lookup x=some .free
theorem BOk.of {X:Cx} {scope:Scope} {N:List Str} {src:List (Option Nat)} {Xn:List (Str×NameKind)} {XN:List Str} (hk:scope.kind= .function) (hX:X.env.scope.names=Xn) (hN:X.N=XN)
  (h:zpB Xn XN scope.names N src=true):BOk X scope N src:=by
 unfold zpB at h
 simp only [qaG,qaD,all_eq_true,beq_iff_eq] at h
 obtain ⟨⟨⟨⟨⟨⟨h1,h2⟩,h3⟩,h4⟩,h4'⟩,h5⟩,h6⟩:=h
 refine ⟨hk,h1,h2,h3,λx hx e=> ?_,λx hx e=> ?_,λx hx e=> ?_,λk i x e1 e2=> ?_⟩
 ·have:=h4 x hx
  rw [e] at this
  simpa using this
 ·have:=h4' x hx
  rw [e] at this
  simpa using this
 ·have:=h5 x hx
  rw [e] at this
  unfold Env.kindOf
  rw [hX]
  simpa using this
 ·have hm:(x,some i)∈N.zip src:=by
   refine List.mem_iff_getElem?.mpr ⟨k,?_⟩
   rw [List.getElem?_zip_eq_some]
   exact ⟨e2,e1⟩
  have:=h6 _ hm
  dsimp only at this
  simp only [qaG,beq_iff_eq] at this
  rw [hN]
  exact this
def bStart (src:List (Option Nat)) (σ:St):St:=src.map λo=>o.bind λi=>(σ[i]?).join
theorem zgn {scope:Scope} {env:Env} {x:Str}:(relabel scope env).names.lookup x=(scope.names.lookup x).map λk=>if (k== .free && env.scope.kind== .function && env.kindOf x==some .cell) then .cell else k:=by
 show List.lookup x (scope.names.map _)=_
 induction scope.names with
 | nil=>rfl
 | cons y r ih=>
  obtain ⟨n,k⟩:=y
  rw [qaM]
  dsimp only
  by_cases hx:x=n
  ·subst hx
   by_cases hc:(k==NameKind.free && env.scope.kind== .function && env.kindOf x==some .cell)=true
   ·rw [qa4 hc,lookup_cons,lookup_cons,beq_self_eq_true]
    dsimp only [Option.map]
    rw [qa4 hc]
   ·rw [qa5 hc,lookup_cons,lookup_cons,beq_self_eq_true]
    dsimp only [Option.map]
    rw [qa5 hc]
  ·have hb:(x==n)=false:=by simpa using hx
   by_cases hc:(k==NameKind.free && env.scope.kind== .function && env.kindOf n==some .cell)=true
   ·rw [qa4 hc,lookup_cons,lookup_cons,hb]
    exact ih
   ·rw [qa5 hc,lookup_cons,lookup_cons,hb]
    exact ih
section
variable {X:Cx} {pins:List (Addr×Obj)} {σ:St} {H:Hp} {s:Shared} {scope:Scope} {N:List Str} {src:List (Option Nat)} {fp:List Addr}
theorem zqK (I:Inv X pins σ H s) (B:BOk X scope N src) {x:Str} {c:Addr} (h:(x,c)∈zbM X.env.cells scope.names []):X.env.cells.lookup x=some c/\(x,NameKind.free)∈scope.names:=by
 rcases ze2 h with z | ⟨z,e⟩
 ·exact nomatch z
 ·obtain ⟨c',hc⟩:=I.ok.has x (B.free _ z rfl)
  rw [hc] at e
  exact ⟨by rw [hc,e];rfl,z⟩
theorem zie {l:List (Str×NameKind)} (h:(l.map (·.1)).Nodup) {x:Str} {j k:NameKind} (a:(x,j)∈l) (b:(x,k)∈l):j=k:=by
 induction l with
 | nil=>exact nomatch a
 | cons y r ih=>
  obtain ⟨h1,h2⟩:=nodup_cons.mp (show (y.1::r.map (·.1)).Nodup from h)
  rcases qaP.mp a with e | a<;>rcases qaP.mp b with e' | b
  ·rw [<- e] at e';cases e';rfl
  ·exact absurd (qaU.mpr ⟨_,b,by rw [<- e]⟩) h1
  ·exact absurd (qaU.mpr ⟨_,a,by rw [<- e']⟩) h1
  ·exact ih h2 a b
theorem ze3 (I:Inv X pins σ H s): ∀ (names:List (Str×NameKind)) (acc:List (Str×Addr)),(∀ x∈names,x.2= .free-> ∃ c,X.env.cells.lookup x.1=some c)->(names.map (·.1)).Nodup->(∀ x c,(x,c)∈acc->X.env.cells.lookup x=some c/\x∉names.map (·.1))->
  (acc.Pairwise λx y=>x.2≠y.2)->(zbM X.env.cells names acc).Pairwise λx y=>x.2≠y.2
 | [],_,_,_,_,h=>h
 | (n,k)::r,acc,hf,nd,ha,h=>by
  unfold zbM
  obtain ⟨h1,h2⟩:=nodup_cons.mp (show (n::r.map (·.1)).Nodup from nd)
  by_cases hk:(k==NameKind.free)=true
  ·rw [qa4 hk]
   obtain ⟨c,hc⟩:=hf (n,k) qau (by simpa using hk)
   have hc:X.env.cells.lookup n=some c:=hc
   rw [show (X.env.cells.lookup n).getD 0=c by rw [hc];rfl]
   refine ze3 I r _ (λx hx=>hf x (qan _ hx)) h2 (λx c' hm=> ?_) (qay.mpr ⟨λy hy e=> ?_,h⟩)
   ·rcases qaP.mp hm with e | hm
    ·cases e;exact ⟨hc,h1⟩
    ·exact ⟨(ha x c' hm).1,λz=>(ha x c' hm).2 (qan _ z)⟩
   ·obtain ⟨q1,q2⟩:=ha y.1 y.2 hy
    have e':c=y.2:=e
    rw [<- e'] at q1
    have:=I.ok.inj _ _ _ hc q1
    exact q2 (by rw [<- this];exact qau)
  ·rw [qa5 hk]
   exact ze3 I r acc (λx hx=>hf x (qan _ hx)) h2 (λx c' hm=>⟨(ha x c' hm).1,λz=>(ha x c' hm).2 (qan _ z)⟩) h
theorem zmD (I:Inv X pins σ H s) (B:BOk X scope N src) (hf: ∀ b∈fp,zj7 X pins H b) (hfo: ∀ b∈fp, ∃ o,s.heap.get? b=some o) {h':Heap} (hk: ∀ b o,s.heap.get? b=some o->h'.get? b=some o) (hns:h'.Ns s.heap.objs.size (λ_=>none))
  (hce: ∀ x c,(x,NameKind.cell)∈scope.names->(x,c)∈cellsFrom (s.heap.objs.size+1) scope.names (zbM X.env.cells scope.names [])->(x,c)∉zbM X.env.cells scope.names []->h'.IsCell c none):
  Inv (cxB X scope N s H fp) [] (bStart src σ) H {s with heap:=h'}:=by
 have cin: ∀ {x:Str} {c:Addr},(x,c)∈zbM X.env.cells scope.names []->X.env.cells.lookup x=some c/\(x,NameKind.free)∈scope.names:=λh=>zqK I B h
 have old: ∀ {x:Str} {c:Addr},X.env.cells.lookup x=some c->c<s.heap.objs.size:=λ{x c} h=>(let ⟨_,q⟩:=I.cell x c h;q.lt)
 have all: ∀ {x:Str} {c:Addr},(x,c)∈cellsFrom (s.heap.objs.size+1) scope.names (zbM X.env.cells scope.names [])->(X.env.cells.lookup x=some c/\(x,NameKind.free)∈scope.names)\/(s.heap.objs.size<c/\(x,NameKind.cell)∈scope.names):=λ{x c} h=>by
  rcases zdu h with z | ⟨z,z'⟩
  ·exact .inl (cin z)
  ·exact .inr ⟨z,z'⟩
 have lk: ∀ {x:Str} {c:Addr},(zqx X.env scope s.heap.objs.size).cells.lookup x=some c->(x,c)∈cellsFrom (s.heap.objs.size+1) scope.names (zbM X.env.cells scope.names []):=λh=>PySem.mem_of_lookup h
 have hasF: ∀ x∈scope.names,x.2= .free-> ∃ c,X.env.cells.lookup x.1=some c:=λx hx e=>I.ok.has x.1 (B.free x hx e)
 have ap:(cellsFrom (s.heap.objs.size+1) scope.names (zbM X.env.cells scope.names [])).Pairwise λx y=>x.2≠y.2:=
  zcC _ _ _ (λx c hm=>lt_succ_of_lt (old (cin hm).1)) (ze3 I scope.names [] hasF B.keys (λ_ _ z=>nomatch z) .nil)
 have outer: ∀ {x:Str} {c:Addr},(x,NameKind.free)∈scope.names->X.env.cells.lookup x=some c->(zqx X.env scope s.heap.objs.size).cells.lookup x=some c:=λ{x c} h1 h2=>
  zcy _ _ _ (λz=>nomatch zie B.keys h1 z) (zep h2 scope.names [] (.inl h1))
 have kinds: ∀ x,(zqx X.env scope s.heap.objs.size).kindOf x=(scope.names.lookup x).map λk=>if (k== .free && X.env.scope.kind== .function && X.env.kindOf x==some .cell) then .cell else k:=λx=>zgn
 have ckind: ∀ x,((zqx X.env scope s.heap.objs.size).kindOf x=some .cell\/(zqx X.env scope s.heap.objs.size).kindOf x=some .free)->scope.names.lookup x=some .cell\/scope.names.lookup x=some .free:=λx h=>by
  rw [kinds x] at h
  cases e:scope.names.lookup x with
  | none=>rw [e] at h;simp at h
  | some k=>
   rw [e] at h
   cases k<;>simp at h ⊢
 refine ⟨⟨I.ok.mod,B.kind,I.ok.glob,I.ok.blt,qaV _,λx y c h1 h2=>name_of_addr ap (lk h1) (lk h2),λx hx=> ?_,λx c hfn hx=> ?_,I.ok.hd,I.handA,I.ok.frames,.inl rfl,λb hb=> ?_,I.bs,qaS I.ok.bsz I.sz,λb o e hb=> ?_,λb hb hb'=> ?_,I.stack,I.stkFree⟩,
   rfl,I.bare,Un.kept hk,⟨_,hns,λi x v h1 h2 h3=> ?_⟩,λx c h=> ?_,I.hok.fresh (qaV _),λx c h=> ?_,λp hp=>absurd (show p∈([]:List (Addr×Obj)) from hp) (by simp),I.hok.kept hk,?_⟩
 ·-- has
  rcases ckind x hx with h | h
  ·exact Option.isSome_iff_exists.mp (W.cellsFrom_some scope.names _ _ (.inl h))
  ·have hm:=PySem.mem_of_lookup h
   obtain ⟨c,hc⟩:=hasF _ hm rfl
   exact ⟨c,outer hm hc⟩
 ·-- cab
  have hfn:scope.names.lookup x=some .cell:=by simpa using hfn
  rcases all (lk hx) with ⟨_,z⟩ | ⟨z,_⟩
  ·exact absurd (zie B.keys z (PySem.mem_of_lookup hfn)) (by decide)
  ·exact le_of_lt z
 ·-- exf
  obtain ⟨o,ho⟩:=hfo b hb
  refine ⟨qaR (qaQ ho),λx c hx z=> ?_⟩
  rcases all (lk hx) with ⟨q,_⟩ | ⟨q,_⟩
  ·exact (hf b hb).2.2.2.2.1 x c q z
  ·have:=qaQ ho
   rw [<- z] at this
   exact qaN _ (lt_trans q this)
 ·-- noex
  rcases (hf b hb).2.2.2.1 with z | z
  ·exact I.ok.noex b o e z
  ·exact qaN _ (qaw (qaw (qaQ e) I.ok.bsz) z)
 ·-- exfs
  rcases qaP.mp (I.stkSub b hb') with z | z
  ·exact (hf b hb).2.1 z
  ·exact (hf b hb).2.2.1 z
 ·-- loc
  unfold bStart at h2
  rw [List.getElem?_map] at h2
  cases e:src[i]? with
  | none=>rw [e] at h2;cases h2
  | some o=>
   rw [e] at h2
   cases o with
   | none=>cases h2
   | some j=>
    have h2:(σ[j]?).join=some v:=by simpa using h2
    have e3:σ[j]? = some (some v):=by
     cases q:σ[j]? with
     | none=>rw [q] at h2;cases h2
     | some z=>rw [q] at h2;simp at h2;rw [h2]
    obtain ⟨b1,b2⟩:=B.src i j x e h1
    have hm:=PySem.mem_of_lookup b2
    obtain ⟨m,hn,hl⟩:=I.loc
    have hfr:=B.free _ hm rfl
    obtain ⟨u,r,l⟩:=hl j x v b1 e3 (.inr hfr)
    rcases l with ⟨k,_⟩ | ⟨k,c,hc,q⟩
    ·rcases hfr with z | z<;>(have z':=k.symm.trans z;cases z')
    ·refine ⟨u,r,.inr ⟨?_,c,outer hm hc,q.keeps hk⟩⟩
     rw [kinds x,b2]
     dsimp only [Option.map]
     split
     ·exact .inl rfl
     ·exact .inr rfl
 ·-- cell
  rcases all (lk h) with ⟨q,_⟩ | ⟨q,q'⟩
  ·obtain ⟨v,z⟩:=I.cell x c q
   exact ⟨v,z.keeps hk⟩
  ·exact ⟨none,hce x c q' (lk h) λz=>absurd (lt_trans q (old (cin z).1)) (qaN _)⟩
 ·-- freeC
  rcases all (lk h) with ⟨q,_⟩ | ⟨q,q'⟩
  ·exact I.freeC x c q
  ·exact I.hok.fresh (le_of_lt q)
 ·unfold bStart
  rw [qaH]
  exact B.len
end
def PCs (X:Cx) (ifs:List Expr) (t:TT):Prop:=
 ∀ (pins:List (Addr×Obj)) (s:Shared) (σ:St) (H:Hp) (Q:Bool->Hp->Prop),Inv X pins σ H s->t σ H Q->
  wpAny (model X.prog X.w) X.A (forIn ifs true λc r=>if r=true then do let ok<-isTrue c X.env (eval c X.env);pure (ForInStep.yield ok) else pure (ForInStep.yield r)) (TP X pins σ Q) X.xe s
def zww:TT:=λ_ H Q=>Q true H
theorem zpS {X:Cx}:PCs X [] zww:=λpins s σ H Q I h=>wpAny_tests_nil ⟨H,I,h⟩
theorem zrp {X:Cx} {c:Expr} {t:TT} (h:PT X c t):PCs X [c] t:=λpins s σ H Q I hw=>wpAny_tests_one (h pins s σ H Q I hw)
def zuh (J:It) (g:TG) (tc:TT) (te:TE) (σ0:St) (H1:Hp) (D:Addr) (Q:Hp->Prop):Prop:=
 ∃ W:Nat->Nat->St->Hp->Prop,(∃ m,W 0 m σ0 (upd H1 D (.lst [])))/\ ∀ i m σ' H',W i m σ' H'->
  (J.stop i H'/\Q H')\/(J.go i H'/\ ∃ Nn:St->Hp->Prop,(∀ σ2 H2,Nn σ2 H2-> ∃ m',m'<m/\W (i+1) m' σ2 H2)/\ ∀ x H2,J.yld i H' x H2->g x σ' H2 λσ2 H3=>tc σ2 H3 λb H4=>
    if b=true then te σ2 H4 λy H5=> ∃ xs,H5 D=some (.lst xs)/\xs.length<sizeLine/\Nn σ2 (upd H5 D (.lst (xs++[y]))) else Nn σ2 H4)
section
variable {X:Cx} {scope:Scope} {N:List Str} {src:List (Option Nat)} {tg iter elt:Expr} {ifs:List Expr} {pos:Pos}
theorem zjU {pins:List (Addr×Obj)} {σ:St} {H:Hp} {s₂:Shared} {it:Addr} {fp:List Addr} {tn:Nat->Heap->Prop} {J:It} {g:TG} {tc:TT} {te:TE} {Q:Addr->Hp->Prop} {E:Value->Shared->Prop} {RR:Value->Addr->Result->Shared->Prop}
  (B:BOk X scope N src)
  (hg: ∀ s H fp,PG (cxB X scope N s H fp) tg g) (ht: ∀ s H fp,PCs (cxB X scope N s H fp) ifs tc) (he: ∀ s H fp,PE (cxB X scope N s H fp) elt te)
  (I2:Inv X pins σ H s₂) (T:zqo X.prog X.w X.K tg J fp it tn) (st2:tn 0 s₂.heap) (f2: ∀ b∈fp,zj7 X pins H b) (hw: ∀ D,H D=none->zuh J g tc te (bStart src σ) H D (Q D))
  (hRR: ∀ D C H' s' m,Inv X pins σ H' s'->s'.heap.Ns C m->s₂.heap.objs.size<=C->C<s'.heap.objs.size->H' C=none->Q D H'->RR (.ref D) C (.ok .next) s'):
  wpAny (model X.prog X.w) X.A (newList []) (λacc s₃=>wpAny (model X.prog X.w) X.A (newFunctionEnv scope X.env.globals (zbM X.env.cells scope.names []) [] X.env.qual none .none (some X.env)) (λcenv s₄=>
    codeAny (model X.prog X.w) X.A (.compStart (.ListComp elt [⟨tg,iter,ifs,0⟩] scope pos) 0 (.ref it) acc {cenv with scope:=relabel scope X.env}) (RR acc cenv.locals) s₄) E s₃) E s₂:=by
 refine qaC (zgs λh₁ hk₁ hns₁ hce₁=> ?_)
 dsimp only at hk₁ hns₁ hce₁ ⊢
 have hfresh:H s₂.heap.objs.size=none:=I2.hok.fresh (qaV _)
 have I3:Inv X pins σ (upd H s₂.heap.objs.size (.lst [])) {s₂ with heap:=s₂.heap.push {cls:= .type "list",dict:=none,data:= .seq ([]:List Value).toArray}}:=by
  have:=I2.lnew (its:=[]) (ys:=[]) (t':=s₂.toks) .nil (zero_le _)
  exact this
 obtain ⟨W,⟨m0,w0⟩,turn⟩:=hw _ hfresh
 generalize hD:s₂.heap.objs.size=D at*
 generalize hs3:({s₂ with heap:=s₂.heap.push {cls:= .type "list",dict:=none,data:= .seq ([]:List Value).toArray}}:Shared)=s₃ at*
 have hh3:s₂.heap.push {cls:= .type "list",dict:=none,data:= .seq ([]:List Value).toArray}=s₃.heap:=by rw [<- hs3]
 rw [hh3] at hk₁ hns₁ hce₁ ⊢
 have push3: ∀ b o,s₂.heap.get? b=some o->s₃.heap.get? b=some o:=λb o e=>by rw [<- hs3];exact qag _ e
 have sz3:s₃.heap.objs.size=D+1:=by rw [<- hs3, <-hD];exact qaL ..
 have fpo: ∀ b∈fp, ∃ o,s₂.heap.get? b=some o/\ ∀ v,o.data≠ .cell v:=T.obj _ _ st2
 have fpD: ∀ b∈fp,b≠D:=λb hb z=>by
  obtain ⟨o,e,_⟩:=fpo b hb
  have:=qaQ e
  rw [z, <-hD] at this
  exact qaN _ this
 have f3: ∀ b∈fp,zj7 X pins (upd H D (.lst [])) b:=λb hb=>⟨by rw [zaE (fpD b hb)];exact (f2 b hb).1,(f2 b hb).2⟩
 have I4:Inv (cxB X scope N s₃ (upd H D (.lst [])) fp) [] (bStart src σ) (upd H D (.lst [])) {s₃ with heap:=h₁}:=
  zmD I3 B f3 (λb hb=>let ⟨o,e,_⟩:=fpo b hb;⟨o,push3 b o e⟩) hk₁ hns₁ hce₁
 have fB: ∀ {H':Hp},(∀ b∈fp,H' b=none)-> ∀ b∈fp,zj7 (cxB X scope N s₃ (upd H D (.lst [])) fp) [] H' b:=λ{H'} hn b hb=>
  ⟨hn b hb,(I4.ok.exf b hb).1,I4.ok.exfs b hb,.inl hb,λx c e=>(I4.ok.exf b hb).2 x c e,λp hp=>absurd (show p∈([]:List (Addr×Obj)) from hp) (by simp)⟩
 have stat4: ∀ s',s'=({s₃ with heap:=h₁}:Shared)->codeAny (model X.prog X.w) X.A (.compLoop (.ListComp elt [⟨tg,iter,ifs,0⟩] scope pos) 0 (.ref it) (.ref D) (zqx X.env scope s₃.heap.objs.size)) (RR (.ref D) s₃.heap.objs.size) s':=by
  intro s' es
  refine ziF (λn s'=> ∃ i σ' H',Inv (cxB X scope N s₃ (upd H D (.lst [])) fp) [] σ' H' s'/\tn i s'.heap/\(∀ b∈fp,H' b=none)/\W i n σ' H') ?_ m0 ⟨0,_,_,by rw [es];exact I4,by rw [es];exact T.keep _ _ _ st2 λb hb o e=>hk₁ b o (push3 b o e),λb hb=>(f3 b hb).1,w0⟩
  rintro n s5 ⟨i,σ5,H5,I5,st5,fr5,w5⟩
  rcases turn i n σ5 H5 w5 with ⟨stop,qn⟩ | ⟨go,Nn,hN,step⟩
  ·refine thn (T.done (cxB X scope N s₃ (upd H D (.lst [])) fp) rfl rfl rfl i [] s5 σ5 H5 _ I5 (fB fr5) st5 stop) λr s6 ⟨hr,I6⟩=> ?_
   subst hr
   obtain ⟨m,hnC,_⟩:=I6.loc
   have un:=I6.base
   have u2:Un (frs X.stack) fp H H5 s₂.heap s6.heap:=by
    refine Un.trans ?_ un
    have:=Un.laid (fs:=frs X.stack) (ex:=fp) (H:=H) (h:=s₂.heap) (h':=s₃.heap) (a:=D) (o:= .lst []) push3 (le_of_eq hD) hfresh
    exact this
   refine hRR D _ H5 s6 m (I2.call' (ch:=fp) (by rw [I6.os, <-hs3]) u2 I6.hok I6.bare λb hb=> ?_) hnC (by rw [sz3];exact le_succ _) hnC.lt I6.free qn
   obtain ⟨q0,q1,q2,q3,q4,q5⟩:=f2 b hb
   exact ⟨q3,q1,q4,q5⟩
  ·refine thn (T.item (cxB X scope N s₃ (upd H D (.lst [])) fp) rfl rfl rfl i [] s5 σ5 H5 _ I5 (fB fr5) st5 go) λr s6 ⟨u,hr,h6⟩=> ?_
   subst hr
   refine thn h6 λ_ s7 ⟨x,H7,I7,r7,y7,st7,fr7⟩=> ?_
   have I7':=I7.pinned (fB fr7) (T.obj _ _ st7)
   refine thn (hg _ _ _ _ s7 σ5 H7 x u _ I7' r7 (step x H7 y7)) λ_ s8 ⟨σ8,H8,I8,q8⟩=> ?_
   refine thn (ht _ _ _ _ s8 σ8 H8 _ I8 q8) λok s9 ⟨H9,I9,q9⟩=> ?_
   have again: ∀ {σ7:St} {Hz:Hp} {sz:Shared},Inv (cxB X scope N s₃ (upd H D (.lst [])) fp) ([]++zh1 fp s7.heap) σ7 Hz sz->Nn σ7 Hz-> ∃ m,m<n/\ ∃ i σ' H',Inv (cxB X scope N s₃ (upd H D (.lst [])) fp) [] σ' H' sz/\tn i sz.heap/\(∀ b∈fp,H' b=none)/\W i m σ' H':=λ{σz Hz sz} Iz nz=>by
    obtain ⟨m',hm,wz⟩:=hN _ _ nz
    refine ⟨m',hm,i+1,_,_,Iz.unpinned,T.keep _ _ _ st7 λb hb o e=>(Iz.pin (b,o) (qak _ (qak _ (zdW hb e)))).1,λb hb=> ?_,wz⟩
    obtain ⟨o,e,d⟩:=T.obj _ _ st7 b hb
    exact (Iz.pin (b,o) (qak _ (qak _ (zdW hb e)))).2.1
   cases ok with
   | false=>
    rw [qa5 (by decide)] at q9
    rw [qa5 (by decide)]
    exact again I9 q9
   | true=>
    rw [qa4 rfl] at q9
    rw [qa4 rfl]
    refine thn (he _ _ _ _ s9 σ8 H9 _ I9 q9) λy s10 ⟨yv,H10,I10,ry,xs,e10,z10,q10⟩=> ?_
    refine thn (ziO (X:=cxB X scope N s₃ (upd H D (.lst [])) fp) _ s10 σ8 H10 (.ref D) [yv] (.ref D) [y] (λ_ Hf=>Nn σ8 Hf) I10 rfl (.cons ry .nil) ⟨D,xs,yv,rfl,rfl,e10,z10,q10⟩) λ_ s11 ⟨_,H11,I11,_,q11⟩=> ?_
    exact again I11 q11
 exact codeAny_compStart_list (stat4 _ (by rw [<- hs3])) (T.self _ 0 _ _ _ (T.keep _ _ _ st2 λb hb o e=>hk₁ b o (push3 b o e)) (stat4 _ (by rw [<- hs3])))
def zo8 (wi:TI) (g:TG) (tc:TT) (te:TE) (src:List (Option Nat)):TE:=λσ H Q=>wi σ H λJ H1=> ∀ D,H1 D=none->zuh J g tc te (bStart src σ) H1 D λH'=>Q (.ref D) H'
theorem Inv.letGo {pins:List (Addr×Obj)} {σ:St} {H:Hp} {s:Shared} {C:Addr} {m:Str->Option Value} {h':Heap} (I:Inv X pins σ H s) (hn:s.heap.Ns C m) (hn':H C=none) (hC:X.s₀.heap.objs.size<=C) (hL:C≠X.env.locals) (hp: ∀ p∈X.pn++pins,p.1≠C) (hs:Heap.SameBut C s.heap h'):Inv X pins σ H {s with heap:=h'}:=by
 refine I.turned (t':=s.toks) (it:=C) (λb o hb e=>(hs.2 b hb).trans e) hn' hL (.inr hC) (λx c e z=> ?_) hp
 obtain ⟨v,o,ho,hd⟩:=I.cell x c e
 obtain ⟨o',es,ep,ho',hd',_⟩:=hn
 rw [z,ho'] at ho
 cases ho
 rw [hd'] at hd
 cases hd
theorem zmx {wi:TI} {g:TG} {tc:TT} {te:TE} (B:BOk X scope N src) (hi:PI X tg iter wi)
  (hg: ∀ s H fp,PG (cxB X scope N s H fp) tg g) (ht: ∀ s H fp,PCs (cxB X scope N s H fp) ifs tc) (he: ∀ s H fp,PE (cxB X scope N s H fp) elt te)
  (hs: ∀ x,foldedSetIterable iter X.env x=pure x:=by intro _;rfl):PE X (.ListComp elt [⟨tg,iter,ifs,0⟩] scope pos) (zo8 wi g tc te src):=by
 intro pins s σ H Q I h
 rw [eval_ListComp]
 refine wpAny_comprehension_free (use:=none) rfl hs (zeJ λx hx e=>I.ok.has x.1 (B.free x hx e)) B.kind B.locs ?_
 refine thn (hi pins s σ H _ I h) λv s1 h1=>thn h1 λitv s2 h2=> ?_
 obtain ⟨it,fp,tn,J,H2,e,I2,T,st2,f2,hw⟩:=h2
 subst e
 refine zjU (RR:=λacc C=>compPost (model X.prog X.w) X.A X.xe none (EP X pins σ Q) acc C) (Q:=λD H'=>Q (.ref D) H') B hg ht he I2 T st2 f2 hw ?_
 intro D C H' s' m I' hn hC hCs hf q
 refine ⟨m,hn,λh' hs'=>⟨.ref D,H',I'.letGo hn hf (qaS I2.sz hC) (λz=> ?_) (λp hp z=> ?_) hs',rfl,q⟩⟩
 ·exact qaN _ (qaw (z▸I2.lt) hC)
 ·have:=qaQ (I2.pin p hp).1
  rw [z] at this
  exact qaN _ (qaw this hC)
theorem zk0 {wi:TI} {g:TG} {tc:TT} {te:TE} {i:Nat} {y:Str} {py spos:Pos} (B:BOk X scope N src) (hi:PI X tg iter wi)
  (hg: ∀ s H fp,PG (cxB X scope N s H fp) tg g) (ht: ∀ s H fp,PCs (cxB X scope N s H fp) ifs tc) (he: ∀ s H fp,PE (cxB X scope N s H fp) elt te)
  (hN:X.N.Nodup) (hy:X.N[i]? = some y) (hx:Loc X.env.scope y) (hsw:swapsWith (.ListComp elt [⟨tg,iter,ifs,0⟩] scope pos) (some (.Name y py)) spos.line X.env=pure true)
  (hf:X.fn y=true\/X.env.scope.names.lookup y=some .local:=by first | exact .inl rfl | exact .inr rfl | assumption)
  (hs: ∀ x,foldedSetIterable iter X.env x=pure x:=by intro _;rfl):PS X (.Assign [.Name y py] (.ListComp elt [⟨tg,iter,ifs,0⟩] scope pos) spos) (zvH (zo8 wi g tc te src) (zpX i)):=by
 intro pins s σ H D0 I h
 rw [exec_Assign_Name_used _ _ _ _ hsw]
 refine qaW (wpAny_standAt (qaW ?_))
 show wpAny _ X.A (do let _<-comprehension (.ListComp elt [⟨tg,iter,ifs,0⟩] scope pos) scope X.env _ (newList []) false (eval iter X.env) (some (assign (.Name y py) X.env))) _ _ s
 refine qaW (qaZ (wpAny_comprehension_free (use:=some (assign (.Name y py) X.env)) (Q:=λ_ s'=>SP X pins D0 .next s') rfl hs (zeJ λx hx e=>I.ok.has x.1 (B.free x hx e)) B.kind B.locs ?_)
   (λ_ s' hq=>qaX (qaX hq)) λ_ _ e=>e)
 refine thn (hi pins s σ H _ I h) λv s1 h1=>thn h1 λitv s2 h2=> ?_
 obtain ⟨it,fp,tn,J,H2,e,I2,T,st2,f2,hw⟩:=h2
 subst e
 refine zjU (RR:=λacc C=>compPost (model X.prog X.w) X.A X.xe (some (assign (.Name y py) X.env)) (λ_ s'=>SP X pins D0 .next s') acc C) (Q:=λD H'=>D0.nx (σ.set i (some (.ref D))) H') B hg ht he I2 T st2 f2 hw ?_
 intro D C H' s' m I' hn hC hCs hf' q
 show wpAny _ X.A (assign (.Name y py) X.env (.ref D)) _ _ _
 have hCL:C≠X.env.locals:=λz=>qaN _ (qaw (z▸I2.lt) hC)
 have hCp: ∀ p∈X.pn++pins,p.1≠C:=λp hp z=>by
  have:=qaQ (I2.pin p hp).1
  rw [z] at this
  exact qaN _ (qaw this hC)
 have hCc: ∀ x c,X.env.cells.lookup x=some c->c≠C:=λx c e z=>by
  obtain ⟨v,hv⟩:=I2.cell x c e
  exact qaN _ (qaw (z▸hv.lt) hC)
 obtain ⟨oC,es,ep,hoC,hdC,hrest⟩:=hn
 have hCfs:C∉X.fs:=I2.nofs hC
 have Ip:Inv X (pins++[(C,oC)]) σ H' s':=I'.pins_of λp hp=>by
  rcases qaK.mp hp with z | z
  ·exact I'.pin p (qak _ z)
  ·obtain rfl:p=(C,oC):=by simpa using z
   exact ⟨hoC,hf',hCL,hCfs,λv z=>by have z':=hdC.symm.trans z;cases z'⟩
 refine wpAny_assign_Name (zht Ip hN hy hx (v:= .ref D) rfl (λs3 I3=> ?_) hf)
 have hC3:=(I3.pin (C,oC) (by simp)).1
 refine ⟨m,⟨oC,es,ep,hC3,hdC,hrest⟩,λh' hs'=> ?_⟩
 exact ⟨_,H',(I3.unpinned).letGo ⟨oC,es,ep,hC3,hdC,hrest⟩ hf' (qaS I2.sz hC) hCL hCp hs',q⟩
end
end L2
namespace L3
open L2
inductive D where
 | non | bl (b:Bool) | int (i:Int) | str (x:Str) | tup (xs:List D) | lst (xs:List D) | cel (n:Nat) | set (xs:List Int) | dct | fn (a:Addr) | scr (xs:List D) | exn (c:String)
inductive C where
 | lst (xs:List D) | dic (kvs:List (Int×D)) | dit (ks:List (List Int)) | ins (c:String) (fs:List (Str×D)) | dead
abbrev Hh:=List C
structure Io where
 c:List (Option Addr)
 x:List Addr
def Io.Has (ι:Io) (a:Addr):Prop:=some a∈ι.c\/a∈ι.x
inductive R (α:Type) where
 | ok (a:α) (h:Hh) | exc (c:String) (h:Hh) | bad
def M (α:Type):=Hh->R α
@[inline] def M.bind {α β:Type} (m:M α) (f:α->M β):M β:=λh=>match m h with
 | .ok a h'=>f a h'
 | .exc c h'=> .exc c h'
 | .bad=> .bad
@[inline] def M.pure {α:Type} (a:α):M α:=λh=> .ok a h
noncomputable instance:Monad M where
 pure:=M.pure
 bind:=M.bind
noncomputable def M.bad {α:Type}:M α:=λ_=> .bad
def KL (K:W.Frag) (a:Addr) (xs:List V):Prop:=SqL K (λ_=>none) a xs
mutual
noncomputable def Rel (K:W.Frag) (ι:Io) (H:Hp):D->V->Prop
 | .non,v=>v= .non
 | .bl b,v=>v= .bl b
 | .int i,v=>v= .int i
 | .str x,v=>v= .str x
 | .tup ds,v=> ∃ a vs,v= .ref a/\(H a=some (.tup vs)/\ ¬ι.Has a)/\zau K ι H ds vs
 | .lst ds,v=> ∃ a vs,v= .ref a/\(H a=some (.lst vs)/\ ¬ι.Has a)/\zau K ι H ds vs
 | .scr ds,v=> ∃ a vs,v= .ref a/\((Rd H a (.lst vs)/\ ¬ι.Has a)\/KL K a vs)/\zau K ι H ds vs
 | .cel n,v=> ∃ a,v= .ref a/\(ι.c[n]? = some (some a)\/ι.c[n]? = some none)
 | .set xs,v=> ∃ a,v= .ref a/\H a=some (.set (λk=>xs.any (· == k)) xs.length)/\ ¬ι.Has a
 | .dct,v=> ∃ a,v= .ref a/\H a=some (.dK [])/\ ¬ι.Has a
 | .fn a,v=>v= .ref a
 | .exn c,v=> ∃ a o C head vs,v= .ref a/\(H a=some (.frz o (.own 0))/\ ¬ι.Has a)/\W.nsIn K mainGlobals (c:Str)=some (some (.ref C))/\o.cls= .ref C/\o.dict=none/\o.data= .fields vs/\vs[2]? = some .none/\vs[1]? = some head
noncomputable def zau (K:W.Frag) (ι:Io) (H:Hp):List D->List V->Prop
 | [],vs=>vs=[]
 | d::ds,vs=> ∃ v r,vs=v::r/\Rel K ι H d v/\zau K ι H ds r
end
structure zbW (ι:Io) (H:Hp) (ι':Io) (H':Hp):Prop where
 old: ∀ (n:Nat) (o:Option Addr),ι.c[n]? = some o->ι'.c[n]? = some o\/ι'.c[n]? = some none
 new: ∀ a,some a∈ι'.c->some a∈ι.c\/H a=none
 hid:ι'.x=ι.x
 hidk: ∀ a∈ι.x,H' a=H a
 keep: ∀ b o,H b=some o-> ¬ι.Has b->H' b=some o
theorem zbW.refl (ι:Io) (H:Hp):zbW ι H ι H:=⟨λ_ _ h=> .inl h,λ_ h=> .inl h,rfl,λ_ _=>rfl,λ_ _ h _=>h⟩
theorem zbW.nin {ι ι':Io} {H H':Hp} (s:zbW ι H ι' H') {a:Addr} {o:HO} (h:H a=some o) (n: ¬ι.Has a): ¬ι'.Has a:=λz=>by
 rcases z with z | z
 ·rcases s.new a z with z | z
  ·exact n (.inl z)
  ·rw [h] at z;cases z
 ·rw [s.hid] at z;exact n (.inr z)
theorem zbW.trans {ι ι1 ι2:Io} {H H1 H2:Hp} (s:zbW ι H ι1 H1) (t:zbW ι1 H1 ι2 H2):zbW ι H ι2 H2 where
 old:=λn o h=>by
  rcases s.old n o h with h | h
  ·exact t.old n o h
  ·rcases t.old n _ h with h | h<;>exact .inr h
 new:=λa h=>by
  rcases t.new a h with h | h
  ·exact s.new a h
  ·by_cases z:some a∈ι.c
   ·exact .inl z
   ·refine .inr ?_
    cases q:H a with
    | none=>rfl
    | some o=>
     by_cases z':a∈ι.x
     ·rw [s.hidk a z',q] at h;cases h
     ·rw [s.keep a o q (λw=>w.elim z z')] at h;cases h
 hid:=t.hid.trans s.hid
 hidk:=λa h=>(t.hidk a (by rw [s.hid];exact h)).trans (s.hidk a h)
 keep:=λb o h n=>t.keep b o (s.keep b o h n) (s.nin h n)
structure Pass (ι:Io) (H:Hp) (ι':Io) (H':Hp):Prop where
 old: ∀ (n:Nat) (o:Option Addr),ι.c[n]? = some o->ι'.c[n]? = some o\/ι'.c[n]? = some none
 keep: ∀ b o,H b=some o-> ¬ι.Has b->H' b=some o/\ ¬ι'.Has b
theorem zbW.pass {ι ι':Io} {H H':Hp} (s:zbW ι H ι' H'):Pass ι H ι' H':=⟨s.old,λb o h n=>⟨s.keep b o h n,s.nin h n⟩⟩
theorem Pass.rd {ι ι':Io} {H H':Hp} (s:Pass ι H ι' H') {a:Addr} {u:HO} (h:Rd H a u) (n: ¬ι.Has a):Rd H' a u/\ ¬ι'.Has a:=by
 rcases h with h | ⟨o,h⟩
 ·exact ⟨.inl (s.keep _ _ h n).1,(s.keep _ _ h n).2⟩
 ·exact ⟨.inr ⟨o,(s.keep _ _ h n).1⟩,(s.keep _ _ h n).2⟩
section
variable {K:W.Frag} {ι ι':Io} {H H':Hp}
mutual
theorem Rel.pass (s:Pass ι H ι' H'): ∀ {d:D} {v:V},Rel K ι H d v->Rel K ι' H' d v
 | .non,_,h=>by simpa [Rel] using h
 | .bl _,_,h=>by simpa [Rel] using h
 | .int _,_,h=>by simpa [Rel] using h
 | .str _,_,h=>by simpa [Rel] using h
 | .tup ds,v,h=>by
  simp only [Rel] at h ⊢
  obtain ⟨a,vs,e,h1,h2⟩:=h
  exact ⟨a,vs,e,s.keep _ _ h1.1 h1.2,zau.pass s h2⟩
 | .lst ds,v,h=>by
  simp only [Rel] at h ⊢
  obtain ⟨a,vs,e,h1,h2⟩:=h
  exact ⟨a,vs,e,s.keep _ _ h1.1 h1.2,zau.pass s h2⟩
 | .scr ds,v,h=>by
  simp only [Rel] at h ⊢
  obtain ⟨a,vs,e,h1,h2⟩:=h
  exact ⟨a,vs,e,h1.imp (λz=>s.rd z.1 z.2) id,zau.pass s h2⟩
 | .cel n,v,h=>by
  simp only [Rel] at h ⊢
  obtain ⟨a,e,h⟩:=h
  refine ⟨a,e,?_⟩
  rcases h with h | h
  ·exact s.old n _ h
  ·rcases s.old n _ h with h | h<;>exact .inr h
 | .set xs,v,h=>by
  simp only [Rel] at h ⊢
  obtain ⟨a,e,h,n⟩:=h
  exact ⟨a,e,(s.keep _ _ h n).1,(s.keep _ _ h n).2⟩
 | .dct,v,h=>by
  simp only [Rel] at h ⊢
  obtain ⟨a,e,h,n⟩:=h
  exact ⟨a,e,(s.keep _ _ h n).1,(s.keep _ _ h n).2⟩
 | .fn _,_,h=>by simpa [Rel] using h
 | .exn _,_,h=>by
  simp only [Rel] at h ⊢
  obtain ⟨a,o,C,head,vs,e,h1,h2⟩:=h
  exact ⟨a,o,C,head,vs,e,s.keep _ _ h1.1 h1.2,h2⟩
theorem zau.pass (s:Pass ι H ι' H'): ∀ {ds:List D} {vs:List V},zau K ι H ds vs->zau K ι' H' ds vs
 | [],_,h=>by simpa [zau] using h
 | d::ds,_,h=>by
  simp only [zau] at h ⊢
  obtain ⟨v,r,e,h1,h2⟩:=h
  exact ⟨v,r,e,Rel.pass s h1,zau.pass s h2⟩
end
theorem Rel.step (s:zbW ι H ι' H') {d:D} {v:V} (h:Rel K ι H d v):Rel K ι' H' d v:=h.pass s.pass
theorem zau.step (s:zbW ι H ι' H') {ds:List D} {vs:List V} (h:zau K ι H ds vs):zau K ι' H' ds vs:=h.pass s.pass
theorem zau.nil:zau K ι H [] []:=by simp [zau]
theorem zau.cons {d:D} {ds:List D} {v:V} {vs:List V} (h:Rel K ι H d v) (t:zau K ι H ds vs):zau K ι H (d::ds) (v::vs):=by simp only [zau];exact ⟨v,vs,rfl,h,t⟩
theorem zau.length: ∀ {ds:List D} {vs:List V},zau K ι H ds vs->ds.length=vs.length
 | [],_,h=>by simp only [zau] at h;subst h;rfl
 | d::ds,_,h=>by
  simp only [zau] at h
  obtain ⟨v,r,rfl,_,h⟩:=h
  simp [zau.length h]
theorem zau.get: ∀ {ds:List D} {vs:List V} {i:Nat} {d:D},zau K ι H ds vs->ds[i]? = some d-> ∃ v,vs[i]? = some v/\Rel K ι H d v
 | [],_,_,_,_,e=>by simp at e
 | d::ds,_,i,x,h,e=>by
  simp only [zau] at h
  obtain ⟨v,r,rfl,h1,h2⟩:=h
  cases i with
  | zero=>simp at e;subst e;exact ⟨v,rfl,h1⟩
  | succ i=>simp at e;simpa using zau.get h2 e
theorem zau.getV: ∀ {ds:List D} {vs:List V} {i:Nat} {v:V},zau K ι H ds vs->vs[i]? = some v-> ∃ d,ds[i]? = some d/\Rel K ι H d v
 | [],_,_,_,h,e=>by simp only [zau] at h;subst h;simp at e
 | d::ds,_,i,x,h,e=>by
  simp only [zau] at h
  obtain ⟨v,r,rfl,h1,h2⟩:=h
  cases i with
  | zero=>simp at e;subst e;exact ⟨d,rfl,h1⟩
  | succ i=>simp at e;simpa using zau.getV h2 e
theorem zau.append: ∀ {ds es:List D} {vs ws:List V},zau K ι H ds vs->zau K ι H es ws->zau K ι H (ds++es) (vs++ws)
 | [],_,_,_,h,t=>by simp only [zau] at h;subst h;exact t
 | d::ds,es,_,ws,h,t=>by
  simp only [zau] at h
  obtain ⟨v,r,rfl,h1,h2⟩:=h
  exact zau.cons h1 (zau.append h2 t)
theorem zau.take: ∀ {ds:List D} {vs:List V} (n:Nat),zau K ι H ds vs->zau K ι H (ds.take n) (vs.take n)
 | _,_,0,_=>by simpa using zau.nil
 | [],_,n+1,h=>by simp only [zau] at h;subst h;exact zau.nil
 | d::ds,_,n+1,h=>by
  simp only [zau] at h
  obtain ⟨v,r,rfl,h1,h2⟩:=h
  exact zau.cons h1 (zau.take n h2)
theorem zau.drop: ∀ {ds:List D} {vs:List V} (n:Nat),zau K ι H ds vs->zau K ι H (ds.drop n) (vs.drop n)
 | _,_,0,h=>h
 | [],_,n+1,h=>by simp only [zau] at h;subst h;exact zau.nil
 | d::ds,_,n+1,h=>by
  simp only [zau] at h
  obtain ⟨v,r,rfl,h1,h2⟩:=h
  exact zau.drop n h2
theorem zau.reverse {ds:List D} {vs:List V} (h:zau K ι H ds vs):zau K ι H ds.reverse vs.reverse:=by
 induction ds generalizing vs with
 | nil=>simp only [zau] at h;subst h;exact zau.nil
 | cons d ds ih=>
  simp only [zau] at h
  obtain ⟨v,r,rfl,h1,h2⟩:=h
  rw [reverse_cons,reverse_cons]
  exact zau.append (ih h2) (zau.cons h1 zau.nil)
theorem zau.set {d:D} {v:V} (hd:Rel K ι H d v): ∀ {ds:List D} {vs:List V} (i:Nat),zau K ι H ds vs->zau K ι H (ds.set i d) (vs.set i v)
 | [],_,_,h=>by simp only [zau] at h;subst h;exact zau.nil
 | x::ds,_,i,h=>by
  simp only [zau] at h
  obtain ⟨w,r,rfl,h1,h2⟩:=h
  cases i with
  | zero=>exact zau.cons hd h2
  | succ i=>exact zau.cons h1 (zau.set hd i h2)
theorem zdk: ∀ {is:List Int} {vs:List V},zau K ι H (is.map D.int) vs↔vs=is.map V.int
 | [],vs=>by simp [zau]
 | i::is,vs=>by
  simp only [qaM,zau]
  constructor
  ·rintro ⟨v,r,rfl,h1,h2⟩
   simp only [Rel] at h1
   rw [h1,zdk.mp h2]
  ·rintro rfl
   exact ⟨_,_,rfl,by simp [Rel],zdk.mpr rfl⟩
def CO (K:W.Frag) (ι:Io) (H:Hp):C->HO->Prop
 | .lst ds,o=> ∃ vs,o= .lst vs/\zau K ι H ds vs
 | .dic kvs,o=> ∃ vs,o= .dK vs/\Paired (λ(p:Int×D) (q:Key×V)=>q.1= .inl p.1/\Rel K ι H p.2 q.2) kvs vs
 | .dit ks,o=>o= .dT (ks.map λk=>(k.map Sum.inl,V.bl true))
 | .ins c fs,o=> ∃ C dx vs,o= .ins C dx vs/\W.nsIn K mainGlobals (c:Str)=some (some (.ref C))/\Paired (λ(p:Str×D) (q:Str×V)=>q.1=p.1/\Rel K ι H p.2 q.2) fs vs
 | .dead,_=>False
theorem CO.pass {c:C} {o:HO} (s:Pass ι H ι' H') (h:CO K ι H c o):CO K ι' H' c o:=by
 cases c with
 | lst ds=>obtain ⟨vs,e,r⟩:=h;exact ⟨vs,e,r.pass s⟩
 | dic kvs=>
  obtain ⟨vs,e,r⟩:=h
  refine ⟨vs,e,?_⟩
  clear e
  induction r with
  | nil=>exact .nil
  | cons a t ih=>exact .cons ⟨a.1,a.2.pass s⟩ ih
 | dit ks=>exact h
 | ins c fs=>
  obtain ⟨C,dx,vs,e,hc,r⟩:=h
  refine ⟨C,dx,vs,e,hc,?_⟩
  clear e
  induction r with
  | nil=>exact .nil
  | cons a t ih=>exact .cons ⟨a.1,a.2.pass s⟩ ih
 | dead=>exact h
structure zbg (K:W.Frag) (ι:Io) (H:Hp) (h:Hh):Prop where
 len:h.length=ι.c.length
 inj: ∀ (m n:Nat) (a:Addr),ι.c[m]? = some (some a)->ι.c[n]? = some (some a)->m=n
 at_: ∀ (n:Nat) (a:Addr) (c:C),ι.c[n]? = some (some a)->h[n]? = some c-> ∃ o,H a=some o/\CO K ι H c o
 dead: ∀ (n:Nat),ι.c[n]? = some none->h[n]? = some .dead
 hidt: ∀ a∈ι.x,(∃ vs,H a=some (.lst vs))/\some a∉ι.c
abbrev Sd:=List (Option D)
def zc3 (K:W.Frag) (ι:Io) (H:Hp) (sd:Sd) (σ:L2.St):Prop:=sd.length=σ.length/\ ∀ (i:Nat) (d:D),sd[i]? = some (some d)-> ∃ v,σ[i]? = some (some v)/\Rel K ι H d v
theorem zc3.pass {sd:Sd} {σ:L2.St} (s:Pass ι H ι' H') (h:zc3 K ι H sd σ):zc3 K ι' H' sd σ:=⟨h.1,λi d e=>let ⟨v,h1,h2⟩:=h.2 i d e;⟨v,h1,h2.pass s⟩⟩
theorem zc3.step {sd:Sd} {σ:L2.St} (s:zbW ι H ι' H') (h:zc3 K ι H sd σ):zc3 K ι' H' sd σ:=⟨h.1,λi d e=>let ⟨v,h1,h2⟩:=h.2 i d e;⟨v,h1,h2.step s⟩⟩
theorem zc3.set {sd:Sd} {σ:L2.St} {d:D} {v:V} (h:zc3 K ι H sd σ) (r:Rel K ι H d v) (i:Nat):zc3 K ι H (sd.set i (some d)) (σ.set i (some v)):=by
 refine ⟨by rw [qaI,qaI];exact h.1,λj d' e=> ?_⟩
 by_cases hij:i=j
 ·subst hij
  by_cases hl:i<sd.length
  ·rw [qai hl] at e
   cases e
   exact ⟨v,by rw [qai (by rw [<- h.1];exact hl)],r⟩
  ·rw [List.getElem?_eq_none (by rw [qaI];omega)] at e
   cases e
 ·rw [qao hij] at e ⊢
  exact h.2 j d' e
end
abbrev St:=L2.St
abbrev XE:=String->Hp->Prop
def Fin {α:Type} (K:W.Frag) (E:XE) (ι:Io) (H:Hp) (r:R α) (P:α->Io->Hp->Prop):Prop:=match r with
 | .ok a h'=> ∀ ι' H',zbW ι H ι' H'->zbg K ι' H' h'->P a ι' H'
 | .exc c h'=> ∀ ι' H',zbW ι H ι' H'->zbg K ι' H' h'->E c H'
 | .bad=>False
section
variable {α β:Type} {K:W.Frag} {E:XE} {ι ι':Io} {H H':Hp}
theorem Fin.step {r:R α} {P:α->Io->Hp->Prop} (s:zbW ι H ι' H') (h:Fin K E ι H r P):Fin K E ι' H' r P:=by
 cases r with
 | ok a h'=>exact λι2 H2 t hr=>h ι2 H2 (s.trans t) hr
 | exc c h'=>exact λι2 H2 t hr=>h ι2 H2 (s.trans t) hr
 | bad=>exact h
theorem Fin.bind {m:M α} {f:α->M β} {h:Hh} {P:β->Io->Hp->Prop} {P':α->Io->Hp->Prop} (q:Fin K E ι H ((m>>=f) h) P)
  (k: ∀ a h' ι' H',m h= .ok a h'->zbW ι H ι' H'->zbg K ι' H' h'->Fin K E ι' H' (f a h') P->P' a ι' H'):Fin K E ι H (m h) P':=by
 have q':Fin K E ι H (M.bind m f h) P:=q
 unfold M.bind at q'
 cases e:m h with
 | ok a h'=>
  rw [e] at q'
  intro ι' H' s hr
  exact k a h' ι' H' e s hr (Fin.step s q')
 | exc c h'=>rw [e] at q';exact q'
 | bad=>rw [e] at q';exact q'
theorem Fin.out {a:α} {h:Hh} {P:α->Io->Hp->Prop} (hr:zbg K ι H h) (q:Fin K E ι H ((pure a:M α) h) P):P a ι H:=q ι H (zbW.refl _ _) hr
end
def zgK (K:W.Frag) (E:XE) (f:Sd->M D):TE:=λσ H Q=> ∃ ι h sd,zc3 K ι H sd σ/\zbg K ι H h/\Fin K E ι H (f sd h) λd ι' H'=> ∀ v,Rel K ι' H' d v->Q v H'
def zjB (K:W.Frag) (E:XE) (f:Sd->M Bool):TT:=λσ H Q=> ∃ ι h sd,zc3 K ι H sd σ/\zbg K ι H h/\Fin K E ι H (f sd h) λb ι' H'=>Q b H'
def zwo (K:W.Frag) (E:XE) (f:Sd->M (List D)):TA:=λσ H Q=> ∃ ι h sd,zc3 K ι H sd σ/\zbg K ι H h/\Fin K E ι H (f sd h) λds ι' H'=> ∀ vs,zau K ι' H' ds vs->Q vs H'
abbrev SE (X:Cx) (E:XE) (e:Expr) (f:Sd->M D):Prop:=PE X e (zgK X.K E f)
abbrev ST (X:Cx) (E:XE) (e:Expr) (f:Sd->M Bool):Prop:=PT X e (zjB X.K E f)
abbrev SA (X:Cx) (E:XE) (es:List Expr) (f:Sd->M (List D)):Prop:=PA X es (zwo X.K E f)
def zdZ (K:W.Frag) (E:XE) (F:D->D->M D):R2:=λx y H Q=> ∃ ι h d1 d2,Rel K ι H d1 x/\Rel K ι H d2 y/\zbg K ι H h/\Fin K E ι H (F d1 d2 h) λd ι' H'=> ∀ v,Rel K ι' H' d v->Q v H'
def zhU (K:W.Frag) (E:XE) (F:List D->M D):List V->Hp->VK->Prop:=λxs H Q=> ∃ ι h ds,zau K ι H ds xs/\zbg K ι H h/\Fin K E ι H (F ds h) λd ι' H'=> ∀ v,Rel K ι' H' d v->Q v H'
theorem PE.imp {X:Cx} {e:Expr} {t t':TE} (h:PE X e t) (m: ∀ σ H Q,t' σ H Q->t σ H Q):PE X e t':=λpins s σ H Q I q=>h pins s σ H Q I (m _ _ _ q)
theorem PT.imp {X:Cx} {e:Expr} {t t':TT} (h:PT X e t) (m: ∀ σ H Q,t' σ H Q->t σ H Q):PT X e t':=λpins s σ H Q I q=>h pins s σ H Q I (m _ _ _ q)
theorem PA.imp {X:Cx} {e:List Expr} {t t':TA} (h:PA X e t) (m: ∀ σ H Q,t' σ H Q->t σ H Q):PA X e t':=λpos pins s σ H Q I q=>h pos pins s σ H Q I (m _ _ _ q)
theorem OpR.imp {X:Cx} {f:Value->Value->Sem Value} {r r':R2} (h:OpR X f r) (m: ∀ x y H Q,r' x y H Q->r x y H Q):OpR X f r':=λpins s σ H x y v u Q I rx ry q=>h pins s σ H x y v u Q I rx ry (m _ _ _ _ q)
theorem zaK.imp {X:Cx} {f:Value} {r r':List V->Hp->VK->Prop} (h:zaK X f r) (m: ∀ xs H Q,r' xs H Q->r xs H Q):zaK X f r':=by
 intro pins s σ H xs us Q I rx q
 exact h pins s σ H xs us Q I rx (m _ _ _ q)
theorem IxR.imp {X:Cx} {r r':R2} (h:IxR X r) (m: ∀ x y H Q,r' x y H Q->r x y H Q):IxR X r':=by
 intro value slice pins s σ H x y v u Q I rx ry q hs
 exact h value slice pins s σ H x y v u Q I rx ry (m _ _ _ _ q) hs
theorem PI.imp {X:Cx} {tg iter:Expr} {t t':TI} (h:PI X tg iter t) (m: ∀ σ H Q,t' σ H Q->t σ H Q):PI X tg iter t':=λpins s σ H Q I q=>h pins s σ H Q I (m _ _ _ q)
theorem PG.imp {X:Cx} {tg:Expr} {t t':TG} (h:PG X tg t) (m: ∀ v σ H Q,t' v σ H Q->t v σ H Q):PG X tg t':=λpins s σ H v u Q I r q=>h pins s σ H v u Q I r (m _ _ _ _ q)
theorem PS.imp {X:Cx} {st:Stmt} {t t':TS} (h:PS X st t) (m: ∀ D σ H,t' D σ H->t D σ H):PS X st t':=λpins s σ H D I q=>h pins s σ H D I (m _ _ _ q)
theorem PSs.imp {X:Cx} {st:List Stmt} {t t':TS} (h:PSs X st t) (m: ∀ D σ H,t' D σ H->t D σ H):PSs X st t':=λpins s σ H D I q=>h pins s σ H D I (m _ _ _ q)
section
variable {X:Cx} {E:XE} {a b e:Expr} {es:List Expr} {pos:Pos} {fa fb:Sd->M D}
theorem te2 {K:W.Frag} {F:D->D->M D} {r:R2} (hr: ∀ x y H Q,zdZ K E F x y H Q->r x y H Q) (σ:St) (H:Hp) (Q:VK) (q:zgK K E (λsd=>do let x<-fa sd;let y<-fb sd;F x y) σ H Q):tOp r (zgK K E fa) (zgK K E fb) σ H Q:=by
 obtain ⟨ι,h,sd,L,hh,q⟩:=q
 refine ⟨ι,h,sd,L,hh,Fin.bind q λd1 h1 ι1 H1 e1 s1 hr1 q1 v r1=> ?_⟩
 refine ⟨ι1,h1,sd,L.step s1,hr1,Fin.bind q1 λd2 h2 ι2 H2 e2 s2 hr2 q2 w r2=> ?_⟩
 exact hr _ _ _ _ ⟨ι2,h2,d1,d2,r1.step s2,r2,hr2,q2⟩
theorem zvn {op:Operator} {F:D->D->M D} (ho:OpR X (binaryOp op) (zdZ X.K E F)) (ha:SE X E a fa) (hb:SE X E b fb):SE X E (.BinOp a op b pos) (λsd=>do let x<-fa sd;let y<-fb sd;F x y):=
 PE.imp (zvz ho ha hb) (te2 λ_ _ _ _ q=>q)
theorem zsL {op:CmpOp} {F:D->D->M D} (ho:OpR X (compareOp op) (zdZ X.K E F)) (ha:SE X E a fa) (hb:SE X E b fb) (hm:behindInMarks op b=false):SE X E (.Compare a [op] [b] pos) (λsd=>do let x<-fa sd;let y<-fb sd;F x y):=
 PE.imp (zqu ho ha hb hm) (te2 λ_ _ _ _ q=>q)
theorem zva {F:D->D->M D} (ho:IxR X (zdZ X.K E F)) (ha:SE X E a fa) (hb:SE X E b fb) (hs:zjm b):SE X E (.Subscript a b pos) (λsd=>do let x<-fa sd;let y<-fb sd;F x y):=
 PE.imp (zvg ho ha hb hs) (te2 λ_ _ _ _ q=>q)
def zdB:D->M Bool
 | .bl b=>pure b
 | _=>M.bad
theorem zf8 {K:W.Frag} {f:Sd->M D} (σ:St) (H:Hp) (Q:Bool->Hp->Prop) (q:zjB K E (λsd=>do let x<-f sd;zdB x) σ H Q):(zgK K E f) σ H λx H1=> ∃ c,x= .bl c/\Q c H1:=by
 obtain ⟨ι,h,sd,L,hh,q⟩:=q
 refine ⟨ι,h,sd,L,hh,Fin.bind q λd1 h1 ι1 H1 e1 s1 hr1 q2 v r1=> ?_⟩
 cases d1 with
 | bl b=>simp only [Rel] at r1;exact ⟨b,r1,Fin.out hr1 q2⟩
 | _=>exact qa0 q2
theorem ztv {op:CmpOp} {F:D->D->M D} (ho:OpR X (compareOp op) (zdZ X.K E F)) (ha:SE X E a fa) (hb:SE X E b fb) (hm:behindInMarks op b=false):
  ST X E (.Compare a [op] [b] pos) (λsd=>do let z<-(do let x<-fa sd;let y<-fb sd;F x y);zdB z):=by
 refine PT.imp (zq8 ho ha hb hm) λσ H Q q=> ?_
 have q1:=zf8 (f:=λsd=>do let x<-fa sd;let y<-fb sd;F x y) σ H Q q
 exact te2 (λ_ _ _ _ q=>q) σ H _ q1
theorem zsY {f:Sd->M D} (h:SE X E e f) (he: ∀ whole,isTrue e X.env whole=(do let v<-whole;standAt e.pos;holding [v] (truthy v)):=by intro _;rfl):ST X E e (λsd=>do let x<-f sd;zdB x):=
 PT.imp (zsK h he) λσ H Q q=>zf8 σ H Q q
theorem ztu {t:Sd->M Bool} (ha:ST X E a t):ST X E (.UnaryOp .Not a pos) (λsd=>do let c<-t sd;pure (!c)):=by
 refine PT.imp (ztl ha) λσ H Q ⟨ι,h,sd,L,hh,q⟩=>⟨ι,h,sd,L,hh,Fin.bind q λc h1 ι1 H1 e1 s1 hr1 q1=> ?_⟩
 exact Fin.out hr1 q1
theorem zsg {t:Sd->M Bool} (ha:ST X E a t):PW X (.BoolOp .Or [a] pos) (zjB X.K E t):=pw_or1 ha
theorem PW.imp {t t':TT} (h:PW X e t) (m: ∀ σ H Q,t' σ H Q->t σ H Q):PW X e t':=λwhole pins s σ H Q I q=>h whole pins s σ H Q I (m _ _ _ q)
theorem zvD {zc2:List Expr} {t u:Sd->M Bool} (ha:ST X E a t) (hb:PW X (.BoolOp .Or (b::zc2) pos) (zjB X.K E u)):PW X (.BoolOp .Or (a::b::zc2) pos) (zjB X.K E λsd=>do let c<-t sd;if c=true then pure true else u sd):=by
 refine PW.imp (pw_or ha hb) λσ H Q ⟨ι,h,sd,L,hh,q⟩=>⟨ι,h,sd,L,hh,Fin.bind q λc h1 ι1 H1 e1 s1 hr1 q1=> ?_⟩
 cases c with
 | false=>exact zrI ⟨ι1,h1,sd,L.step s1,hr1,q1⟩
 | true=>exact zrR (Fin.out hr1 q1)
theorem zrA {op:BoolOp} {vs:List Expr} {t:Sd->M Bool} (h:PW X (.BoolOp op vs pos) (zjB X.K E t)):ST X E (.BoolOp op vs pos) t:=h.pt
theorem zsB {op:BoolOp} (h:SE X E a fa):SE X E (.BoolOp op [a] pos) fa:=zt3 h
theorem zsd {zc2:List Expr} (ha:SE X E a fa) (hb:SE X E (.BoolOp .And (b::zc2) pos) fb):SE X E (.BoolOp .And (a::b::zc2) pos) (λsd=>do let c<-(do let x<-fa sd;zdB x);if c=true then fb sd else pure (.bl false)):=by
 refine PE.imp (zt9 ha hb) λσ H Q ⟨ι,h,sd,L,hh,q⟩=> ?_
 have q1:=zf8 (K:=X.K) (E:=E) (f:=fa) σ H (λc H1=>if c=true then zgK X.K E fb σ H1 Q else Q (.bl false) H1) ⟨ι,h,sd,L,hh,Fin.bind q λc h1 ι1 H1 e1 s1 hr1 q1=> ?_⟩
 ·exact q1
 ·cases c with
  | true=>exact zrR ⟨ι1,h1,sd,L.step s1,hr1,q1⟩
  | false=>exact zrI (Fin.out hr1 q1 _ (by simp [Rel]))
theorem zs4 (ha:SE X E a fa):SE X E (.UnaryOp .Not a pos) (λsd=>do let c<-(do let x<-fa sd;zdB x);pure (.bl (!c))):=by
 refine PE.imp (zs8 ha) λσ H Q ⟨ι,h,sd,L,hh,q⟩=> ?_
 have q1:=zf8 (K:=X.K) (E:=E) (f:=fa) σ H (λc H1=>Q (.bl (!c)) H1) ⟨ι,h,sd,L,hh,Fin.bind q λc h1 ι1 H1 e1 s1 hr1 q1=> ?_⟩
 ·exact q1
 ·exact Fin.out hr1 q1 _ (by simp [Rel])
def zaf (i:Nat):Sd->M D:=λsd=>match sd[i]? with
 | some (some d)=>pure d
 | _=>M.bad
theorem zrU (i:Nat) {x:Str} (hN:X.N[i]? = some x) (hv:Vis X.env.scope x) (hd:(x==("__debug__":Str))=false:=by decide) (hcd:(x==("__classdict__":Str))=false:=by decide):SE X E (.Name x pos) (zaf i):=by
 refine PE.imp (zpj hN hv hd hcd) λσ H Q ⟨ι,h,sd,L,hh,q⟩=> ?_
 unfold zaf at q
 cases e:sd[i]? with
 | none=>rw [e] at q;exact qa0 q
 | some o=>
  rw [e] at q
  cases o with
  | none=>exact qa0 q
  | some d=>
   obtain ⟨v,e1,r⟩:=L.2 i d e
   exact ⟨v,e1,Fin.out hh q v r⟩
theorem zhD {K:W.Frag} {d:D} {v:V} (r: ∀ ι H,Rel K ι H d v) (σ:St) (H:Hp) (Q:VK) (q:zgK K E (λ_=>pure d) σ H Q):tC v σ H Q:=by
 obtain ⟨ι,h,sd,L,hh,q⟩:=q
 exact Fin.out hh q v (r _ _)
theorem ztB {i:Int} {j:Nat}:SE X E (.Constant (.int i) j pos) (λ_=>pure (.int i)):=PE.imp zpJ (zhD λ_ _=>by simp [Rel])
theorem zu6 {i:Bool} {j:Nat}:SE X E (.Constant (.bool i) j pos) (λ_=>pure (.bl i)):=PE.imp zuT (zhD λ_ _=>by simp [Rel])
theorem zoH {x:Str} {i:Int} {t:Tok} (hg:Gl X x) (hm:X.mg x=some (.int i t)) (hd:(x==("__debug__":Str))=false:=by decide):SE X E (.Name x pos) (λ_=>pure (.int i)):=PE.imp (zqS (v:= .int i) hg hm ⟨t,rfl⟩ hd) (zhD λ_ _=>by simp [Rel])
theorem zse:SA X E [] (λ_=>pure []):=PA.imp zdx λσ H Q ⟨ι,h,sd,L,hh,q⟩=>Fin.out hh q [] zau.nil
theorem zrb {fs:Sd->M (List D)} (ha:SE X E e fa) (hr:SA X E es fs) (hs:starEach (e::es) X.env=(false,eval e X.env)::starEach es X.env:=by rfl):SA X E (e::es) (λsd=>do let x<-fa sd;let r<-fs sd;pure (x::r)):=by
 refine PA.imp (zb3 ha hr hs) λσ H Q ⟨ι,h,sd,L,hh,q⟩=>⟨ι,h,sd,L,hh,Fin.bind q λd h1 ι1 H1 e1 s1 hr1 q1 v rv=> ?_⟩
 refine ⟨ι1,h1,sd,L.step s1,hr1,Fin.bind q1 λds h2 ι2 H2 e2 s2 hr2 q2 vs rvs=> ?_⟩
 exact Fin.out hr2 q2 _ (zau.cons (rv.step s2) rvs)
end
theorem zbg.nin {K:W.Frag} {ι:Io} {H:Hp} {h:Hh} (hr:zbg K ι H h) {p:Addr} (hp:H p=none): ¬ι.Has p:=λz=>by
 rcases z with z | z
 ·obtain ⟨n,hn⟩:=List.mem_iff_getElem?.mp z
  have hl:n<h.length:=by rw [hr.len];exact (qac.mp hn).1
  obtain ⟨o,e,_⟩:=hr.at_ n p h[n] hn (by simp [hl])
  rw [hp] at e
  cases e
 ·obtain ⟨⟨o,e⟩,_⟩:=hr.hidt p z
  rw [hp] at e
  cases e
theorem zbg.laidS {K:W.Frag} {ι:Io} {H:Hp} {h:Hh} (hr:zbg K ι H h) {p:Addr} {o:HO} (hp:H p=none):zbW ι H ι (upd H p o):=
 ⟨λ_ _ h=> .inl h,λ_ h=> .inl h,rfl,λa ha=>zaE λz=>hr.nin hp (.inr (z▸ha)),λb o' h _=>by rw [zaE (za0 h hp)];exact h⟩
theorem zbg.laid {K:W.Frag} {ι:Io} {H:Hp} {h:Hh} {p:Addr} {o:HO} (hr:zbg K ι H h) (hp:H p=none):zbg K ι (upd H p o) h:=
 ⟨hr.len,hr.inj,λn a c hn hc=>by
   obtain ⟨o',e2,e3⟩:=hr.at_ n a c hn hc
   exact ⟨o',by rw [zaE (za0 e2 hp)];exact e2,e3.pass (hr.laidS hp).pass⟩,hr.dead,λa ha=>⟨by rw [zaE (show a≠p from λz=>hr.nin hp (.inr (z▸ha)))];exact (hr.hidt a ha).1,(hr.hidt a ha).2⟩⟩
noncomputable def fits (n:Nat):M Unit:=if n<=sizeLine then pure () else M.bad
theorem Fin.fits {α:Type} {K:W.Frag} {E:XE} {ι:Io} {H:Hp} {n:Nat} {f:M α} {h:Hh} {P:α->Io->Hp->Prop} (q:Fin K E ι H ((do L3.fits n;f) h) P):n<=sizeLine/\Fin K E ι H (f h) P:=by
 have q':Fin K E ι H (M.bind (L3.fits n) (λ_=>f) h) P:=q
 unfold M.bind L3.fits at q'
 by_cases hn:n<=sizeLine
 ·rw [qa4 hn] at q'
  exact ⟨hn,q'⟩
 ·rw [qa5 hn] at q'
  exact qa0 q'
section
variable {X:Cx} {E:XE} {es:List Expr} {pos:Pos} {fs:Sd->M (List D)}
theorem zrN {K:W.Frag} {ι:Io} {H:Hp} {h:Hh} {ds:List D} {vs:List V} {Q:VK} (hr:zbg K ι H h) (rl:zau K ι H ds vs) (q:Fin K E ι H ((pure (.tup ds):M D) h) λd ι' H'=> ∀ v,Rel K ι' H' d v->Q v H') {p:Addr} (hp:H p=none):Q (.ref p) (upd H p (.tup vs)):=
 q ι _ (hr.laidS hp) (hr.laid hp) _ (by
   simp only [Rel]
   exact ⟨p,vs,rfl,⟨za2,hr.nin hp⟩,rl.step (hr.laidS hp)⟩)
theorem zpu {K:W.Frag} {ι:Io} {H:Hp} {h:Hh} {ds:List D} {vs:List V} {Q:VK} (hr:zbg K ι H h) (rl:zau K ι H ds vs) (q:Fin K E ι H ((pure (.lst ds):M D) h) λd ι' H'=> ∀ v,Rel K ι' H' d v->Q v H') {p:Addr} (hp:H p=none):Q (.ref p) (upd H p (.lst vs)):=
 q ι _ (hr.laidS hp) (hr.laid hp) _ (by
   simp only [Rel]
   exact ⟨p,vs,rfl,⟨za2,hr.nin hp⟩,rl.step (hr.laidS hp)⟩)
noncomputable def zdO (ds:List D):M D:=λh=> .ok (.cel h.length) (h++[.lst ds])
theorem zqF {K:W.Frag} {ι:Io} {H:Hp} {h:Hh} {c0:C} {o0:HO} {Q:VK} (hr:zbg K ι H h) (co:CO K ι H c0 o0) (q:Fin K E ι H (.ok (.cel h.length) (h++[c0])) λd ι' H'=> ∀ v,Rel K ι' H' d v->Q v H') {p:Addr} (hp:H p=none):Q (.ref p) (upd H p o0):=by
 have hlen:=hr.len
 have nh:=hr.nin hp
 have st:zbW ι H ⟨ι.c++[some p],ι.x⟩ (upd H p o0):=by
  refine ⟨λn o h=> .inl ?_,λa h=> ?_,rfl,λa ha=>zaE λz=>nh (.inr (z▸ha)),λb o' h _=>by rw [zaE (za0 h hp)];exact h⟩
  ·show (ι.c++[some p])[n]? = _
   rw [qad (qac.mp h).1];exact h
  ·rcases qaK.mp h with h | h
   ·exact .inl h
   ·simp at h;subst h;exact .inr hp
 have at_: ∀ (n:Nat) (a:Addr),(ι.c++[some p])[n]? = some (some a)->(ι.c[n]? = some (some a))\/(n=ι.c.length/\a=p):=λn a h=>by
  by_cases hl:n<ι.c.length
  ·rw [qad hl] at h;exact .inl h
  ·rw [qaa ⋯] at h
   have:n - ι.c.length=0:=by
    cases z:n - ι.c.length with
    | zero=>rfl
    | succ k=>rw [z] at h;simp at h
   rw [this] at h
   simp at h
   exact .inr ⟨⋯,h.symm⟩
 refine q _ _ st ⟨?_,λm n a h1 h2=> ?_,λn a c h1 h2=> ?_,λn h1=> ?_,λa ha=>⟨?_,λz=> ?_⟩⟩ _ ?_
 ·show (h++[c0]).length=(ι.c++[some p]).length
  rw [qav,qav,hlen];rfl
 ·rcases at_ m a h1 with z1 | ⟨z1,z1'⟩<;>rcases at_ n a h2 with z2 | ⟨z2,z2'⟩
  ·exact hr.inj m n a z1 z2
  ·subst z2';exact absurd (.inl (List.mem_of_getElem? z1)) nh
  ·subst z1';exact absurd (.inl (List.mem_of_getElem? z2)) nh
  ·rw [z1,z2]
 ·rcases at_ n a h1 with z1 | ⟨z1,z1'⟩
  ·rw [qad (by rw [hlen];exact (qac.mp z1).1)] at h2
   obtain ⟨o',e2,e3⟩:=hr.at_ n a c z1 h2
   exact ⟨o',by rw [zaE (za0 e2 hp)];exact e2,e3.pass st.pass⟩
  ·subst z1 z1'
   rw [<- hlen,qaa (qaV _)] at h2
   simp at h2
   subst h2
   exact ⟨o0,za2,co.pass st.pass⟩
 ·have h1:(ι.c++[some p])[n]? = some none:=h1
  by_cases hl:n<ι.c.length
  ·rw [qad hl] at h1
   rw [qad (by rw [hlen];exact hl)]
   exact hr.dead n h1
  ·rw [qaa ⋯] at h1
   cases z:n - ι.c.length with
   | zero=>rw [z] at h1;simp at h1
   | succ k=>rw [z] at h1;simp at h1
 ·rw [zaE (show a≠p from λz=>nh (.inr (z▸ha)))]
  exact (hr.hidt a ha).1
 ·rcases qaK.mp z with z | z
  ·exact (hr.hidt a ha).2 z
  ·simp at z;subst z;exact nh (.inr ha)
 ·simp only [Rel]
  refine ⟨p,rfl,.inl ?_⟩
  show (ι.c++[some p])[h.length]? = _
  rw [hlen,qaa (qaV _)]
  simp
theorem zvZ {K:W.Frag} {ι:Io} {H:Hp} {h:Hh} {ds:List D} {vs:List V} {Q:VK} (hr:zbg K ι H h) (rl:zau K ι H ds vs) (q:Fin K E ι H (zdO ds h) λd ι' H'=> ∀ v,Rel K ι' H' d v->Q v H') {p:Addr} (hp:H p=none):Q (.ref p) (upd H p (.lst vs)):=
 zqF hr (c0:= .lst ds) ⟨vs,rfl,rl⟩ q hp
theorem zr2 {x1} (h:SA X E es fs):SE X E (.Tuple es x1 pos) (λsd=>do let ds<-fs sd;fits ds.length;pure (.tup ds)):=by
 refine PE.imp (ztK h) λσ H Q ⟨ι,h,sd,L,hh,q⟩=>⟨ι,h,sd,L,hh,Fin.bind q λds h1 ι1 H1 e1 s1 hr1 q1 vs rvs=> ?_⟩
 obtain ⟨z,q2⟩:=Fin.fits q1
 exact ⟨by rw [<- rvs.length];exact z,λp hp=>zrN hr1 rvs q2 hp⟩
theorem zsq (h:SA X E es fs):SE X E (.List es pos) (λsd=>do let ds<-fs sd;fits ds.length;pure (.lst ds)):=by
 refine PE.imp (zpL h) λσ H Q ⟨ι,h,sd,L,hh,q⟩=>⟨ι,h,sd,L,hh,Fin.bind q λds h1 ι1 H1 e1 s1 hr1 q1 vs rvs=> ?_⟩
 obtain ⟨z,q2⟩:=Fin.fits q1
 exact ⟨by rw [<- rvs.length];exact z,λp hp=>zpu hr1 rvs q2 hp⟩
theorem zpR (h:SA X E es fs):SE X E (.List es pos) (λsd=>do let ds<-fs sd;fits ds.length;zdO ds):=by
 refine PE.imp (zpL h) λσ H Q ⟨ι,h,sd,L,hh,q⟩=>⟨ι,h,sd,L,hh,Fin.bind q λds h1 ι1 H1 e1 s1 hr1 q1 vs rvs=> ?_⟩
 obtain ⟨z,q2⟩:=Fin.fits q1
 exact ⟨by rw [<- rvs.length];exact z,λp hp=>zvZ hr1 rvs q2 hp⟩
end
inductive Out where
 | nx (sd:Sd) | rt (d:D) | bk (sd:Sd) | ct (sd:Sd)
def zhA (K:W.Frag) (D0:zrQ):Out->Io->Hp->Prop
 | .nx sd',ι',H'=> ∀ σ',zc3 K ι' H' sd' σ'->D0.nx σ' H'
 | .rt d,ι',H'=> ∀ v,Rel K ι' H' d v->D0.rt v H'
 | .bk sd',ι',H'=> ∀ σ',zc3 K ι' H' sd' σ'->D0.bk σ' H'
 | .ct sd',ι',H'=> ∀ σ',zc3 K ι' H' sd' σ'->D0.ct σ' H'
def zvT (K:W.Frag) (E:XE) (G:Sd->M Out):TS:=λD0 σ H=> ∃ ι h sd,zc3 K ι H sd σ/\zbg K ι H h/\Fin K E ι H (G sd h) (zhA K D0)
abbrev SS (X:Cx) (E:XE) (st:Stmt) (G:Sd->M Out):Prop:=PS X st (zvT X.K E G)
abbrev SSs (X:Cx) (E:XE) (st:List Stmt) (G:Sd->M Out):Prop:=PSs X st (zvT X.K E G)
def zdH (o:Out) (g:Sd->M Out):M Out:=match o with
 | .nx sd=>g sd
 | o=>pure o
section
variable {X:Cx} {E:XE} {pos:Pos}
theorem zsD:SSs X E [] (λsd=>pure (.nx sd)):=PSs.imp zqB λD0 σ H ⟨ι,h,sd,L,hh,q⟩=>Fin.out hh q σ L
theorem zqR {st:Stmt} {zc2:List Stmt} {g g':Sd->M Out} (h1:SS X E st g) (h2:SSs X E zc2 g'):SSs X E (st::zc2) (λsd=>do let o<-g sd;zdH o g'):=by
 refine PSs.imp (zn9 h1 h2) λD0 σ H ⟨ι,h,sd,L,hh,q⟩=>⟨ι,h,sd,L,hh,Fin.bind q λo h1 ι1 H1 e1 s1 hr1 q1=> ?_⟩
 cases o with
 | nx sd'=>exact λσ' L'=>⟨ι1,h1,sd',L',hr1,q1⟩
 | rt d=>exact Fin.out (E:=E) (P:=zhA X.K D0) hr1 q1
 | bk sd'=>exact Fin.out (E:=E) (P:=zhA X.K D0) hr1 q1
 | ct sd'=>exact Fin.out (E:=E) (P:=zhA X.K D0) hr1 q1
theorem zt7 {st:Stmt} {g:Sd->M Out} (h1:SS X E st g):SSs X E [st] g:=zrB h1
theorem ztF {e:Expr} {f:Sd->M D} (he:SE X E e f) (hs:swapsWith e none pos.line X.env=pure false:=by rfl):SS X E (.Expr e pos) (λsd=>do let _<-f sd;pure (.nx sd)):=by
 refine PS.imp (zqD he hs) λD0 σ H ⟨ι,h,sd,L,hh,q⟩=>⟨ι,h,sd,L,hh,Fin.bind q λd h1 ι1 H1 e1 s1 hr1 q1 v rv=> ?_⟩
 exact Fin.out hr1 q1 σ (L.step s1)
theorem zvu {e:Expr} {f:Sd->M D} (he:SE X E e f):SS X E (.Return (some e) pos) (λsd=>do let d<-f sd;pure (.rt d)):=by
 refine PS.imp (ztC he) λD0 σ H ⟨ι,h,sd,L,hh,q⟩=>⟨ι,h,sd,L,hh,Fin.bind q λd h1 ι1 H1 e1 s1 hr1 q1 v rv=> ?_⟩
 exact Fin.out hr1 q1 v rv
theorem zwA {c:Expr} {a b:List Stmt} {t:Sd->M Bool} {g g':Sd->M Out} (hc:ST X E c t) (ha:SSs X E a g) (hb:SSs X E b g'):SS X E (.If c a b pos) (λsd=>do let c<-t sd;if c=true then g sd else g' sd):=by
 refine PS.imp (zuK hc ha hb) λD0 σ H ⟨ι,h,sd,L,hh,q⟩=>⟨ι,h,sd,L,hh,Fin.bind q λc h1 ι1 H1 e1 s1 hr1 q1=> ?_⟩
 cases c with
 | true=>exact zrR ⟨ι1,h1,sd,L.step s1,hr1,q1⟩
 | false=>exact zrI ⟨ι1,h1,sd,L.step s1,hr1,q1⟩
def zsV (K:W.Frag) (E:XE) (g:D->Sd->M Sd):TG:=λv σ H Q=> ∃ ι h sd d,zc3 K ι H sd σ/\zbg K ι H h/\Rel K ι H d v/\Fin K E ι H (g d sd h) λsd' ι' H'=> ∀ σ',zc3 K ι' H' sd' σ'->Q σ' H'
def zvy (K:W.Frag) (E:XE) (g:List D->Sd->M Sd):TGs:=λvs σ H Q=> ∃ ι h sd ds,zc3 K ι H sd σ/\zbg K ι H h/\zau K ι H ds vs/\Fin K E ι H (g ds sd h) λsd' ι' H'=> ∀ σ',zc3 K ι' H' sd' σ'->Q σ' H'
abbrev SG (X:Cx) (E:XE) (tg:Expr) (g:D->Sd->M Sd):Prop:=PG X tg (zsV X.K E g)
abbrev SGs (X:Cx) (E:XE) (tgs:List Expr) (g:List D->Sd->M Sd):Prop:=PGs X tgs (zvy X.K E g)
def za7 (i:Nat):D->Sd->M Sd:=λd sd=>pure (sd.set i (some d))
theorem zp9 (i:Nat) {x:Str} (hN:X.N.Nodup) (hi:X.N[i]? = some x) (hx:Loc X.env.scope x) (hf:X.fn x=true\/X.env.scope.names.lookup x=some .local):SG X E (.Name x pos) (za7 i):=by
 refine PG.imp (zpN hN hi hx hf) λv σ H Q ⟨ι,h,sd,d,L,hh,r,q⟩=> ?_
 exact Fin.out hh q _ (L.set r i)
theorem PGs.imp {tgs:List Expr} {t t':TGs} (h:PGs X tgs t) (m: ∀ v σ H Q,t' v σ H Q->t v σ H Q):PGs X tgs t':=λpins s σ H v u Q I r q=>h pins s σ H v u Q I r (m _ _ _ _ q)
def zhM:List D->Sd->M Sd:=λds sd=>match ds with | []=>pure sd | _=>M.bad
def zcH (g:D->Sd->M Sd) (gs:List D->Sd->M Sd):List D->Sd->M Sd:=λds sd=>match ds with
 | []=>M.bad
 | d::r=>do let sd1<-g d sd;gs r sd1
theorem zrh:SGs X E [] zhM:=by
 refine PGs.imp zrm λv σ H Q ⟨ι,h,sd,ds,L,hh,r,q⟩=> ?_
 cases ds with
 | nil=>simp only [zau] at r;exact ⟨r,Fin.out hh q _ L⟩
 | cons d r=>exact qa0 q
theorem znO {e:Expr} {es:List Expr} {g:D->Sd->M Sd} {gs:List D->Sd->M Sd} (h1:SG X E e g) (h2:SGs X E es gs)
  (hs:(assignEach (e::es) X.env).map (·.2)=assign e X.env::(assignEach es X.env).map (·.2):=by rfl):SGs X E (e::es) (zcH g gs):=by
 refine PGs.imp (zob h1 h2 hs) λv σ H Q ⟨ι,h,sd,ds,L,hh,r,q⟩=> ?_
 cases ds with
 | nil=>exact qa0 q
 | cons d ds=>
  simp only [zau] at r
  obtain ⟨v1,vr,rfl,r1,r2⟩:=r
  refine ⟨v1,vr,rfl,ι,h,sd,d,L,hh,r1,Fin.bind q λsd1 h1 ι1 H1 e1 s1 hr1 q1 σ1 L1=> ?_⟩
  exact ⟨ι1,h1,sd1,ds,L1,hr1,r2.step s1,q1⟩
def zgD (n:Nat) (gs:List D->Sd->M Sd):D->Sd->M Sd:=λd sd=>match d with
 | .tup ds=>if ds.length=n then gs ds sd else M.bad
 | _=>M.bad
theorem zdg {K:W.Frag} {ι:Io} {H:Hp} {ds:List D} {v:V} (h:Rel K ι H (.tup ds) v): ∃ a vs,v= .ref a/\SqT K H a vs/\zau K ι H ds vs:=by
 simp only [Rel] at h
 obtain ⟨a,vs,e,h1,h2⟩:=h
 exact ⟨a,vs,e,.inl (.inl h1.1),h2⟩
theorem zmO {K:W.Frag} {ι:Io} {H:Hp} {ds:List D} {v:V} (h:Rel K ι H (.scr ds) v): ∃ a vs,v= .ref a/\SqL K H a vs/\zau K ι H ds vs:=by
 simp only [Rel] at h
 obtain ⟨a,vs,e,h1,h2⟩:=h
 refine ⟨a,vs,e,?_,h2⟩
 rcases h1 with h1 | h1
 ·exact .inl h1.1
 ·rcases h1 with h1 | h1
  ·rcases h1 with h1 | ⟨o,h1⟩<;>cases h1
  ·exact .inr h1
theorem zeV {K:W.Frag} {ι:Io} {H:Hp} {ds:List D} {v:V} (h:Rel K ι H (.lst ds) v): ∃ a vs,v= .ref a/\SqL K H a vs/\zau K ι H ds vs:=by
 simp only [Rel] at h
 obtain ⟨a,vs,e,h1,h2⟩:=h
 exact ⟨a,vs,e,.inl (.inl h1.1),h2⟩
theorem ztD {es:List Expr} {k:Nat} {gs:List D->Sd->M Sd} {n:Nat} (hc:X.calm=true) (h:SGs X E es gs)
  (hn:(assignEach es X.env).length=n:=by rfl) (hst:(assignEach es X.env).findIdx? (·.1)=none:=by rfl):SG X E (.Tuple es k pos) (zgD n gs):=by
 refine PG.imp (zsF hc h hn hst) λv σ H Q ⟨ι,h,sd,d,L,hh,r,q⟩=> ?_
 cases d with
 | tup ds=>
  obtain ⟨a,vs,e,h1,h2⟩:=zdg r
  have q:Fin X.K E ι H ((if ds.length=n then gs ds sd else M.bad) h) _:=q
  by_cases hl:ds.length=n
  ·rw [qa4 hl] at q
   exact ⟨a,vs,e,h1,by rw [<- h2.length];exact hl,ι,h,sd,ds,L,hh,h2,q⟩
  ·rw [qa5 hl] at q
   exact qa0 q
 | _=>exact qa0 q
theorem zuD {tg e:Expr} {f:Sd->M D} {g:D->Sd->M Sd} (he:SE X E e f) (hg:SG X E tg g) (hs:swapsWithSole [tg] e pos.line X.env=pure false:=by rfl) (hw:swappedStores [tg] e X.env=pure none:=by rfl)
  (h1:(assignEach [tg] X.env).map (·.2)=[assign tg X.env]:=by rfl):SS X E (.Assign [tg] e pos) (λsd=>do let d<-f sd;let sd'<-g d sd;pure (.nx sd')):=by
 refine PS.imp (zrX he hg hs hw h1) λD0 σ H ⟨ι,h,sd,L,hh,q⟩=>⟨ι,h,sd,L,hh,Fin.bind q λd h1 ι1 H1 e1 s1 hr1 q1 v rv=> ?_⟩
 exact ⟨ι1,h1,sd,d,L.step s1,hr1,rv,Fin.bind q1 λsd' h2 ι2 H2 e2 s2 hr2 q2=>Fin.out hr2 q2⟩
theorem zuE (i:Nat) {x:Str} {e:Expr} {f:Sd->M D} {pos':Pos} (hN:X.N.Nodup) (hi:X.N[i]? = some x) (hx:Loc X.env.scope x) (hf:X.fn x=true\/X.env.scope.names.lookup x=some .local) (he:SE X E e f) (hs:swapsWith e (some (.Name x pos')) pos.line X.env=pure false:=by rfl):
  SS X E (.Assign [.Name x pos'] e pos) (λsd=>do let d<-f sd;pure (.nx (sd.set i (some d)))):=by
 refine PS.imp (zs0 hN hi hx he hs hf) λD0 σ H ⟨ι,h,sd,L,hh,q⟩=>⟨ι,h,sd,L,hh,Fin.bind q λd h1 ι1 H1 e1 s1 hr1 q1 v rv=> ?_⟩
 exact Fin.out hr1 q1 _ ((L.step s1).set rv i)
def zuc (H H2:Hp):Prop:=H2=H\/ ∃ q vs,H q=none/\H2=upd H q (.tup vs)
theorem zuc.step {K:W.Frag} {ι:Io} {H H2:Hp} {h:Hh} (g:zuc H H2) (hr:zbg K ι H h):zbW ι H ι H2/\zbg K ι H2 h:=by
 rcases g with e | ⟨q,vs,hq,e⟩
 ·subst e;exact ⟨zbW.refl _ _,hr⟩
 ·subst e;exact ⟨hr.laidS hq,hr.laid hq⟩
structure zqT (K:W.Frag) (ι:Io) (H:Hp) (J:It) (ds:List D):Prop where
 go: ∀ ι' H' (i:Nat),Pass ι H ι' H'->i<ds.length->J.go i H'
 yld: ∀ ι' H' h (i:Nat) x H2,Pass ι H ι' H'->zbg K ι' H' h->i<ds.length->J.yld i H' x H2->zuc H' H2/\ ∃ d,ds[i]? = some d/\Rel K ι' H2 d x
 stop: ∀ ι' H',Pass ι H ι' H'->J.stop ds.length H'
def zvO (K:W.Frag) (E:XE) (f:Sd->M (List D)):TI:=λσ H Q=> ∃ ι h sd,zc3 K ι H sd σ/\zbg K ι H h/\Fin K E ι H (f sd h) λds ι' H'=> ∀ J,zqT K ι' H' J ds->Q J H'
abbrev SI (X:Cx) (E:XE) (tg iter:Expr) (f:Sd->M (List D)):Prop:=PI X tg iter (zvO X.K E f)
def zfe:D->M (List D)
 | .tup ds=>pure ds
 | .lst ds=>pure ds
 | _=>M.bad
theorem znR {K:W.Frag} {ι:Io} {H:Hp} {a:Addr} {vs:List V} {ds:List D} (h: ∀ ι' H',Pass ι H ι' H'->SqT K H' a vs) (rl:zau K ι H ds vs):zqT K ι H (Itt K a) ds where
 go:=λι' H' i s hi=>⟨vs,vs[i]'(by rw [<- rl.length];exact hi),h ι' H' s,by simp⟩
 yld:=λι' H' _ i x H2 s _ hi ⟨e,y⟩=>by
  subst e
  have hx:=y vs (h ι' _ s)
  obtain ⟨d,e1,e2⟩:=rl.getV hx
  exact ⟨.inl rfl,d,e1,e2.pass s⟩
 stop:=λι' H' s=>⟨vs,h ι' H' s,by rw [rl.length];exact qaV _⟩
theorem zn5 {K:W.Frag} {ι:Io} {H:Hp} {a:Addr} {vs:List V} {ds:List D} (h: ∀ ι' H',Pass ι H ι' H'->SqL K H' a vs) (rl:zau K ι H ds vs):zqT K ι H (Itl K a) ds where
 go:=λι' H' i s hi=>⟨vs,vs[i]'(by rw [<- rl.length];exact hi),h ι' H' s,by simp⟩
 yld:=λι' H' _ i x H2 s _ hi ⟨e,y⟩=>by
  subst e
  have hx:=y vs (h ι' _ s)
  obtain ⟨d,e1,e2⟩:=rl.getV hx
  exact ⟨.inl rfl,d,e1,e2.pass s⟩
 stop:=λι' H' s=>⟨vs,h ι' H' s,by rw [rl.length];exact qaV _⟩
theorem Pass.refl (ι:Io) (H:Hp):Pass ι H ι H:=(zbW.refl ι H).pass
theorem zl6 {K:W.Frag} {ι:Io} {H:Hp} {ds:List D} {v:V} (h:Rel K ι H (.tup ds) v): ∃ a vs,v= .ref a/\(∀ ι' H',Pass ι H ι' H'->SqT K H' a vs)/\zau K ι H ds vs:=by
 simp only [Rel] at h
 obtain ⟨a,vs,e,h1,h2⟩:=h
 exact ⟨a,vs,e,λι' H' s=> .inl (.inl (s.keep _ _ h1.1 h1.2).1),h2⟩
theorem zpV {K:W.Frag} {ι:Io} {H:Hp} {ds:List D} {v:V} (h:Rel K ι H (.lst ds) v): ∃ a vs,v= .ref a/\(∀ ι' H',Pass ι H ι' H'->SqL K H' a vs)/\zau K ι H ds vs:=by
 simp only [Rel] at h
 obtain ⟨a,vs,e,h1,h2⟩:=h
 exact ⟨a,vs,e,λι' H' s=> .inl (.inl (s.keep _ _ h1.1 h1.2).1),h2⟩
end
end L3
namespace L2
def zvV (K:W.Frag) (tl:TE):TI:=λσ H R=>tl σ H λx H1=> ∃ a,x= .ref a/\(((∃ xs,SqL K H1 a xs)/\R (Itl K a) H1)\/((∃ xs,SqT K H1 a xs)/\R (Itt K a) H1))
theorem zpM {X:Cx} {tg:Expr} {l:Expr} {tl:TE} (hl:PE X l tl):PI X tg l (zvV X.K tl):=by
 intro pins s σ H R I h
 refine thn (hl pins s σ H _ I h) λv s1 ⟨x,H1,I1,r1,q1⟩=> ?_
 obtain ⟨a,e,⟨⟨xs,hq⟩,q⟩ | ⟨⟨xs,hq⟩,q⟩⟩:=q1
 ·subst e
  cases r1
  obtain ⟨its,rv,p,hz⟩:=I1.list hq
  refine wpAny_pyIter_list p.isList ?_
  refine ⟨s1.heap.objs.size,[s1.heap.objs.size],_,_,H1,rfl,I1.kept (t':=s1.toks) λb o e=>qag _ e,zlR a _,⟨_,qar _ rfl,rfl,rfl⟩,λb hb=> ?_,q⟩
  have e:b=s1.heap.objs.size:=by simpa using hb
  subst e
  exact I1.fpOk (qaV _) (I1.hok.fresh (qaV _))
 ·subst e
  cases r1
  obtain ⟨its,rv,p,hz⟩:=I1.tuple hq
  refine wpAny_pyIter_tuple (show s1.heap.IsTuple a its.toArray from p) ?_
  refine ⟨s1.heap.objs.size,[s1.heap.objs.size],_,_,H1,rfl,I1.kept (t':=s1.toks) λb o e=>qag _ e,zkR a _,⟨_,qar _ rfl,rfl,rfl⟩,λb hb=> ?_,q⟩
  have e:b=s1.heap.objs.size:=by simpa using hb
  subst e
  exact I1.fpOk (qaV _) (I1.hok.fresh (qaV _))
end L2
namespace L3
open L2
section
variable {X:Cx} {E:XE} {pos:Pos}
theorem zsX {tg e:Expr} {f:Sd->M D} (he:SE X E e f):SI X E tg e (λsd=>do let d<-f sd;zfe d):=by
 refine PI.imp (zpM he) λσ H Q ⟨ι,h,sd,L,hh,q⟩=>⟨ι,h,sd,L,hh,Fin.bind q λd h1 ι1 H1 e1 s1 hr1 q1 v rv=> ?_⟩
 cases d with
 | lst ds=>
  obtain ⟨a,vs,e,h1',h2⟩:=zpV rv
  exact ⟨a,e,.inl ⟨⟨vs,h1' _ _ (Pass.refl _ _)⟩,Fin.out hr1 q1 _ (zn5 h1' h2)⟩⟩
 | tup ds=>
  obtain ⟨a,vs,e,h1',h2⟩:=zl6 rv
  exact ⟨a,e,.inr ⟨⟨vs,h1' _ _ (Pass.refl _ _)⟩,Fin.out hr1 q1 _ (znR h1' h2)⟩⟩
 | _=>exact qa0 q1
noncomputable def zdj (lo:Int) (n:Nat):List D:=(List.range n).map λ(k:Nat)=>D.int (lo+(k:Int))
theorem znV {K:W.Frag} {ι:Io} {H:Hp} {lo:Int} {n:Nat}:zqT K ι H (Itr lo n) (zdj lo n) where
 go:=λι' H' i s hi=>by show i<n;simpa [zdj] using hi
 yld:=λι' H' _ i x H2 s _ hi ⟨e,y⟩=>by
  subst e y
  have hi:i<n:=by simpa [zdj] using hi
  refine ⟨.inl rfl,.int (lo+i),?_,by simp [Rel]⟩
  simp [zdj,hi]
 stop:=λι' H' s=>by
  show n<=(zdj lo n).length
  simp [zdj]
def zer (j:Int):Bool:=decide (-(2^62)<=j) && decide (j<2^62)
def zlZ:List D->M (List D)
 | [.int j]=>if zer j=true then pure (zdj 0 j.toNat) else M.bad
 | _=>M.bad
theorem zf9 {j:Int} (h:zer j=true): -(2^62)<=j/\j<2^62:=by
 unfold zer at h
 simpa using h
theorem zq7 {tg a:Expr} {p:Pos} {fs:Sd->M (List D)} (hg:Gl X "range") (hm:X.mg "range"=none) (ha:SA X E [a] fs) (hs:starEach [a] X.env=[(false,eval a X.env)]:=by rfl):
  SI X E tg (.Call (.Name "range" p) [a] [] pos) (λsd=>do let ds<-fs sd;zlZ ds):=by
 refine PI.imp (zmm hg hm ha hs) λσ H Q ⟨ι,h,sd,L,hh,q⟩=>⟨ι,h,sd,L,hh,Fin.bind q λds h1 ι1 H1 e1 s1 hr1 q1 vs rv=> ?_⟩
 match ds,rv,q1 with
 | [.int j],rv,q1=>
  simp only [zau,Rel] at rv
  obtain ⟨v,r,rfl,rfl,rfl⟩:=rv
  have q1:Fin X.K E ι1 H1 ((if zer j=true then (pure (zdj 0 j.toNat):M (List D)) else M.bad) h1) _:=q1
  by_cases hj:zer j=true
  ·rw [qa4 hj] at q1
   exact ⟨j,rfl,(zf9 hj).1,(zf9 hj).2,Fin.out hr1 q1 _ znV⟩
  ·rw [qa5 hj] at q1
   exact qa0 q1
 | [],_,q1=>exact qa0 q1
 | .non::_,_,q1=>exact qa0 q1
 | .bl _::_,_,q1=>exact qa0 q1
 | .str _::_,_,q1=>exact qa0 q1
 | .tup _::_,_,q1=>exact qa0 q1
 | .lst _::_,_,q1=>exact qa0 q1
 | .cel _::_,_,q1=>exact qa0 q1
 | .set _::_,_,q1=>exact qa0 q1
 | .dct::_,_,q1=>exact qa0 q1
 | .fn _::_,_,q1=>exact qa0 q1
 | .scr _::_,_,q1=>exact qa0 q1
 | .exn _::_,_,q1=>exact qa0 q1
 | .int _::_::_,_,q1=>exact qa0 q1
noncomputable def zbq (body:D->Sd->M Out):List D->Sd->M Out
 | [],sd=>pure (.nx sd)
 | x::r,sd=>do
  let o<-body x sd
  match o with
  | .nx sd'=>zbq body r sd'
  | .ct sd'=>zbq body r sd'
  | .bk sd'=>pure (.nx sd')
  | .rt d=>pure (.rt d)
theorem zuH {tg iter:Expr} {body:List Stmt} {fi:Sd->M (List D)} {g:D->Sd->M Sd} {gb:Sd->M Out} (hc:X.calm=true) (hp:PassesOwn (model X.prog X.w) X.A X.env X.xe) (hi:SI X E tg iter fi) (hg:SG X E tg g) (hb:SSs X E body gb)
  (hs: ∀ x,foldedSetIterable iter X.env x=pure x:=by intro _;rfl):SS X E (.For tg iter body [] pos) (λsd=>do let ds<-fi sd;zbq (λx sd=>do let sd1<-g x sd;gb sd1) ds sd):=by
 refine PS.imp (zsI hp hc hi hg hb hs) λD0 σ H ⟨ι,h,sd,L,hh,q⟩=>⟨ι,h,sd,L,hh,Fin.bind q λds h1 ι1 H1 e1 s1 hr1 q1 J ok=> ?_⟩
 refine ⟨λi m σ' H'=>m=ds.length - i/\i<=ds.length/\ ∃ ι' h' sd',zbW ι1 H1 ι' H'/\zc3 X.K ι' H' sd' σ'/\zbg X.K ι' H' h'/\Fin X.K E ι' H' (zbq (λx sd=>do let sd1<-g x sd;gb sd1) (ds.drop i) sd' h') (zhA X.K D0),
   ⟨_,rfl,zero_le _,ι1,h1,sd,zbW.refl _ _,L.step s1,hr1,by simpa using q1⟩,?_⟩
 rintro i m σ2 H2 ⟨rfl,hi2,ι2,h2,sd2,s2,L2,hr2,q2⟩
 by_cases hlt:i<ds.length
 ·right
  refine ⟨ok.go ι2 H2 i s2.pass hlt,λσ' H'=>i+1<=ds.length/\ ∃ ι' h' sd',zbW ι1 H1 ι' H'/\zc3 X.K ι' H' sd' σ'/\zbg X.K ι' H' h'/\Fin X.K E ι' H' (zbq (λx sd=>do let sd1<-g x sd;gb sd1) (ds.drop (i+1)) sd' h') (zhA X.K D0),
    λσ' H' p=>⟨ds.length - (i+1),⋯,rfl,p.1,p.2⟩,λx H3 y=> ?_⟩
  obtain ⟨gr,d,ed,rd⟩:=ok.yld ι2 H2 h2 i x H3 s2.pass hr2 hlt y
  obtain ⟨s3,hr3⟩:=gr.step hr2
  have edr:ds.drop i=d::ds.drop (i+1):=by
   rw [qae hlt]
   rw [qaf hlt] at ed
   rw [Option.some.inj ed]
  rw [edr] at q2
  have q3:Fin X.K E ι2 H3 (zbq (λx sd=>do let sd1<-g x sd;gb sd1) (d::ds.drop (i+1)) sd2 h2) (zhA X.K D0):=Fin.step s3 q2
  refine ⟨ι2,h2,sd2,d,L2.step s3,hr3,rd,?_⟩
  have q5:Fin X.K E ι2 H3 ((g d sd2>>=λsd1=>(gb sd1>>=λo=>(match o with
    | .nx sd'=>zbq (λx sd=>do let sd1<-g x sd;gb sd1) (ds.drop (i+1)) sd'
    | .ct sd'=>zbq (λx sd=>do let sd1<-g x sd;gb sd1) (ds.drop (i+1)) sd'
    | .bk sd'=>pure (.nx sd')
    | .rt d=>pure (.rt d):M Out))) h2) (zhA X.K D0):=by
   have e:(zbq (λx sd=>do let sd1<-g x sd;gb sd1) (d::ds.drop (i+1)) sd2 h2)=((g d sd2>>=λsd1=>(gb sd1>>=λo=>(match o with
     | .nx sd'=>zbq (λx sd=>do let sd1<-g x sd;gb sd1) (ds.drop (i+1)) sd'
     | .ct sd'=>zbq (λx sd=>do let sd1<-g x sd;gb sd1) (ds.drop (i+1)) sd'
     | .bk sd'=>pure (.nx sd')
     | .rt d=>pure (.rt d):M Out))) h2):=by
    show M.bind (M.bind (g d sd2) gb) _ h2=M.bind (g d sd2) _ h2
    unfold M.bind
    cases g d sd2 h2<;>rfl
   rw [<- e]
   exact q3
  refine Fin.bind q5 λsd6 h6 ι6 H6 e6 s6 hr6 q6 σ6 L6=> ?_
  refine ⟨ι6,h6,sd6,L6,hr6,Fin.bind q6 λo h7 ι7 H7 e7 s7 hr7 q7=> ?_⟩
  have st7:zbW ι1 H1 ι7 H7:=((s2.trans s3).trans s6).trans s7
  cases o with
  | nx sd'=>exact λσ' L'=>⟨hlt,ι7,h7,sd',st7,L',hr7,q7⟩
  | ct sd'=>exact λσ' L'=>⟨hlt,ι7,h7,sd',st7,L',hr7,q7⟩
  | bk sd'=>exact λσ' L'=>Fin.out (E:=E) (P:=zhA X.K D0) hr7 q7 σ' L'
  | rt d=>exact λv rv=>Fin.out (E:=E) (P:=zhA X.K D0) hr7 q7 v rv
 ·left
  have e:i=ds.length:=by omega
  subst e
  refine ⟨ok.stop ι2 H2 s2.pass,?_⟩
  rw [List.drop_length] at q2
  exact Fin.out (E:=E) (P:=zhA X.K D0) hr2 q2 σ2 L2
noncomputable def zcg (f:D->M (Option D)):List D->M (List D)
 | []=>pure []
 | x::r=>do
  let o<-f x
  let ys<-zcg f r
  pure (match o with | some y=>y::ys | none=>ys)
def za5 (g:D->Sd->M Sd) (tc:Sd->M Bool) (te:Sd->M D) (sd:Sd) (x:D):M (Option D):=do
 let sd1<-g x sd
 let c<-tc sd1
 if c=true then do
  let y<-te sd1
  pure (some y)
 else pure none
end
def Io.hide (ι:Io) (p:Addr):Io:=⟨ι.c,p::ι.x⟩
def Io.show (ι:Io):Io:=⟨ι.c,ι.x.tail⟩
theorem zoD {ι:Io} {a:Addr} (h:ι.show.Has a):ι.Has a:=h.imp id List.mem_of_mem_tail
section
variable {K:W.Frag} {ι ι':Io} {H H':Hp} {p:Addr} {o:HO} {h:Hh}
theorem zfF (hp:H p=none):Pass ι H (ι.hide p) (upd H p o):=⟨λ_ _ z=> .inl z,λb o' hb n=>⟨by rw [zaE (za0 hb hp)];exact hb,λz=>by
  rcases z with z | z
  · exact n (.inl z)
  · rcases qaP.mp z with z | z
    · rw [z,hp] at hb;cases hb
    · exact n (.inr z)⟩⟩
theorem zf7:Pass ι H ι.show H:=⟨λ_ _ z=> .inl z,λb o' hb n=>⟨hb,λz=>n (zoD z)⟩⟩
theorem zeP (hp:p∈ι.x):Pass ι H ι (upd H p o):=⟨λ_ _ z=> .inl z,λb o' hb n=>⟨by rw [zaE (show b≠p from λz=>n (.inr (z▸hp)))];exact hb,n⟩⟩
theorem zbg.hide {ws:List V} (hr:zbg K ι H h) (hp:H p=none):zbg K (ι.hide p) (upd H p (.lst ws)) h:=
 ⟨hr.len,hr.inj,λn a c h1 h2=>by
   obtain ⟨o',e2,e3⟩:=hr.at_ n a c h1 h2
   exact ⟨o',by rw [zaE (za0 e2 hp)];exact e2,e3.pass (zfF hp)⟩,hr.dead,λa ha=>by
   rcases qaP.mp ha with z | z
   · subst z;exact ⟨⟨ws,za2⟩,λz=>hr.nin hp (.inl z)⟩
   · refine ⟨?_,(hr.hidt a z).2⟩
     rw [zaE (show a≠p from λw=>hr.nin hp (.inr (w▸z)))]
     exact (hr.hidt a z).1⟩
theorem zbg.hid {ws:List V} (hr:zbg K ι H h) (hp:p∈ι.x):zbg K ι (upd H p (.lst ws)) h:=
 ⟨hr.len,hr.inj,λn a c h1 h2=>by
   obtain ⟨o',e2,e3⟩:=hr.at_ n a c h1 h2
   have ne:a≠p:=λz=>(hr.hidt p hp).2 (z▸List.mem_of_getElem? h1)
   exact ⟨o',by rw [zaE ne];exact e2,e3.pass (zeP hp)⟩,hr.dead,λa ha=>by
   refine ⟨?_,(hr.hidt a ha).2⟩
   by_cases z:a=p
   · subst z;exact ⟨ws,za2⟩
   · rw [zaE z];exact (hr.hidt a ha).1⟩
theorem zbg.show (hr:zbg K ι H h):zbg K ι.show H h:=
 ⟨hr.len,hr.inj,λn a c h1 h2=>by
   obtain ⟨o',e2,e3⟩:=hr.at_ n a c h1 h2
   exact ⟨o',e2,e3.pass zf7⟩,hr.dead,λa ha=>hr.hidt a (List.mem_of_mem_tail ha)⟩
theorem ziH {ι1 ι2:Io} {H1 H2:Hp} (hp:H p=none) (hpx:p∉ι.x) (hx:ι1.x=p::ι.x) (s:zbW ι H ι1.show H1) (t:zbW ι1 H1 ι2 H2):zbW ι H ι2.show (upd H2 p o) where
 old:=λn q h=>by
  rcases s.old n q h with h | h
  ·exact t.old n q h
  ·rcases t.old n _ h with h | h<;>exact .inr h
 new:=λa h=>by
  rcases t.new a h with h | h
  ·exact s.new a h
  ·by_cases z:some a∈ι.c
   ·exact .inl z
   ·refine .inr ?_
    cases q:H a with
    | none=>rfl
    | some o=>
     by_cases z':a∈ι.x
     ·rw [s.hidk a z',q] at h;cases h
     ·rw [s.keep a o q (λw=>w.elim z z')] at h;cases h
 hid:=by
  show ι2.x.tail=ι.x
  rw [t.hid,hx]
  rfl
 hidk:=λa ha=>by
  have z:a≠p:=λz=>hpx (z▸ha)
  rw [zaE z,t.hidk a (by rw [hx];exact qan _ ha)]
  exact s.hidk a ha
 keep:=λb q hb n=>by
  have ne:b≠p:=za0 hb hp
  rw [zaE ne]
  refine t.keep b q (s.keep b q hb n) λz=> ?_
  rcases z with z | z
  ·rcases s.new b z with z | z
   ·exact n (.inl z)
   ·rw [hb] at z;cases z
  ·rw [hx] at z
   rcases qaP.mp z with z | z
   ·exact ne z
   ·exact n (.inr z)
theorem zbW.shown {ι2:Io} {H2:Hp} {r:List Addr} (hx:ι.x=p::r) (t:zbW ι H ι2 H2):zbW ι.show H ι2.show H2 where
 old:=t.old
 new:=t.new
 hid:=by show ι2.x.tail=ι.x.tail;rw [t.hid]
 hidk:=λa ha=>t.hidk a (List.mem_of_mem_tail ha)
 keep:=λb q hb n=>by
  by_cases z:b=p
  ·subst z
   rw [t.hidk b (by rw [hx];exact qau)]
   exact hb
  ·refine t.keep b q hb λw=> ?_
   rcases w with w | w
   ·exact n (.inl w)
   ·rw [hx] at w
    rcases qaP.mp w with w | w
    ·exact z w
    ·exact n (.inr (by show b∈ι.x.tail;rw [hx];exact w))
theorem Fin.bindB {α β:Type} {E:XE} {m:M α} {f:α->M β} {P:β->Io->Hp->Prop} {P':α->Io->Hp->Prop} {ιb:Io} {Hb:Hp} (q:Fin K E ιb Hb ((m>>=f) h) P)
  (conv: ∀ ι' H' h',zbW ι H ι' H'->zbg K ι' H' h'-> ∃ ι'',zbW ιb Hb ι'' H'/\zbg K ι'' H' h')
  (k: ∀ a h' ι' H',m h= .ok a h'->zbW ι H ι' H'->zbg K ι' H' h'->Fin K E ιb Hb (f a h') P->P' a ι' H'):Fin K E ι H (m h) P':=by
 have q':Fin K E ιb Hb (M.bind m f h) P:=q
 unfold M.bind at q'
 cases e:m h with
 | ok a h'=>
  rw [e] at q'
  intro ι' H' s hr
  exact k a h' ι' H' e s hr q'
 | exc c h'=>
  rw [e] at q'
  intro ι' H' s hr
  obtain ⟨ι'',s2,hr2⟩:=conv ι' H' h' s hr
  exact q' _ _ s2 hr2
 | bad=>rw [e] at q';exact q'
end
instance:LawfulMonad M:=LawfulMonad.mk' M
 (id_map:=λx=>by
   funext h
   show M.bind x (λa=>M.pure (id a)) h=x h
   unfold M.bind M.pure
   cases x h<;>rfl)
 (pure_bind:=λx f=>rfl)
 (bind_assoc:=λx f g=>by
   funext h
   show M.bind (M.bind x f) g h=M.bind x (λa=>M.bind (f a) g) h
   unfold M.bind
   cases x h<;>rfl)
def zak (src:List (Option Nat)) (sd:Sd):Sd:=src.map λo=>o.bind λi=>(sd[i]?).join
theorem zc3.bStart {K:W.Frag} {ι:Io} {H:Hp} {sd:Sd} {σ:L2.St} {src:List (Option Nat)} (h:zc3 K ι H sd σ):zc3 K ι H (zak src sd) (bStart src σ):=by
 refine ⟨by unfold zak L2.bStart;rw [qaH,qaH],λi d e=> ?_⟩
 unfold zak at e
 unfold L2.bStart
 rw [List.getElem?_map] at e ⊢
 cases z:src[i]? with
 | none=>rw [z] at e;cases e
 | some o=>
  rw [z] at e
  cases o with
  | none=>cases e
  | some j=>
   have e:(sd[j]?).join=some d:=by simpa using e
   cases w:sd[j]? with
   | none=>rw [w] at e;cases e
   | some q=>
    rw [w] at e
    have e:q=some d:=by simpa using e
    subst e
    obtain ⟨v,h1,h2⟩:=h.2 j d w
    exact ⟨v,by simp [h1],h2⟩
def zaH (g:D->Sd->M Sd) (src:List (Option Nat)):Prop:= ∀ x sd h sd1 h1,sd.length=src.length->(∀ (i:Nat),src[i]? = some none->sd[i]? = some none)->g x sd h= .ok sd1 h1->sd1.length=sd.length/\ ∀ (i:Nat) d,src[i]? ≠ some none->sd[i]? = some (some d)->sd1[i]? = some (some d)
def zdr (g:List D->Sd->M Sd) (src:List (Option Nat)):Prop:= ∀ x sd h sd1 h1,g x sd h= .ok sd1 h1->sd1.length=sd.length/\ ∀ (i:Nat) d,src[i]? ≠ some none->sd[i]? = some (some d)->sd1[i]? = some (some d)
theorem zm7 {i:Nat} {src:List (Option Nat)} (h:src[i]? = some none): ∀ x sd h sd1 h1,za7 i x sd h= .ok sd1 h1->sd1.length=sd.length/\ ∀ (j:Nat) d,src[j]? ≠ some none->sd[j]? = some (some d)->sd1[j]? = some (some d):=λx sd h0 sd1 h1 e=>by
 have e:R.ok (sd.set i (some x)) h0= .ok sd1 h1:=e
 cases e
 refine ⟨qaI,λj d hj e=> ?_⟩
 rw [qao (show i≠j from λz=>hj (z▸h))]
 exact e
theorem zaH.name {i:Nat} {src:List (Option Nat)} (h:src[i]? = some none):zaH (za7 i) src:=λx sd h0 sd1 h1 _ _ e=>zm7 h x sd h0 sd1 h1 e
theorem zdr.nil {src:List (Option Nat)}:zdr zhM src:=λx sd h sd1 h1 e=>by
 cases x with
 | nil=>
  have e:R.ok sd h= .ok sd1 h1:=e
  cases e
  exact ⟨rfl,λ_ _ _ z=>z⟩
 | cons _ _=>cases (show R.bad=R.ok sd1 h1 from e)
theorem zdr.cons {i:Nat} {gs:List D->Sd->M Sd} {src:List (Option Nat)} (h:src[i]? = some none) (t:zdr gs src):zdr (zcH (za7 i) gs) src:=λx sd h0 sd1 h1 e=>by
 cases x with
 | nil=>cases (show R.bad=R.ok sd1 h1 from e)
 | cons d r=>
  have e:gs r (sd.set i (some d)) h0= .ok sd1 h1:=e
  obtain ⟨e1,e2⟩:=t r _ h0 sd1 h1 e
  refine ⟨by rw [e1,qaI],λj d' hj z=>e2 j d' hj ?_⟩
  rw [qao (show i≠j from λz=>hj (z▸h))]
  exact z
theorem zaH.tup {n:Nat} {gs:List D->Sd->M Sd} {src:List (Option Nat)} (t:zdr gs src):zaH (zgD n gs) src:=λx sd h0 sd1 h1 _ _ e=>by
 cases x with
 | tup ds=>
  have e:(if ds.length=n then gs ds sd else M.bad) h0= .ok sd1 h1:=e
  by_cases hl:ds.length=n
  ·rw [qa4 hl] at e;exact t _ _ _ _ _ e
  ·rw [qa5 hl] at e;cases (show R.bad=R.ok sd1 h1 from e)
 | _=>cases (show R.bad=R.ok sd1 h1 from e)
section
variable {X:Cx} {E:XE} {scope:Scope} {N:List Str} {src:List (Option Nat)} {tg iter elt:Expr} {ifs:List Expr} {pos:Pos}
abbrev SCs (X:Cx) (E:XE) (ifs:List Expr) (t:Sd->M Bool):Prop:=PCs X ifs (zjB X.K E t)
theorem zr0:SCs X E [] (λ_=>pure true):=λpins s σ H Q I ⟨ι,h,sd,L,hh,q⟩=>zpS pins s σ H Q I (Fin.out hh q)
theorem ztA {c:Expr} {t:Sd->M Bool} (h:ST X E c t):SCs X E [c] t:=zrp h
theorem blk {K:W.Frag} {g:D->Sd->M Sd} {tc:Sd->M Bool} {te:Sd->M D} {J:It} {ds:List D} {ι:Io} {H:Hp} {h:Hh} {sd:Sd} {σ:L2.St} {Q:VK} {p:Addr} (hk:zaH g src) (L:zc3 K ι H sd σ) (hr:zbg K ι H h) (ok:zqT K ι H J ds) (hz:ds.length<=sizeLine)
  (q:Fin K E ι H ((do let ys<-zcg (za5 g tc te (zak src sd)) ds;pure (D.lst ys)) h) λd ι' H'=> ∀ v,Rel K ι' H' d v->Q v H') (hp:H p=none):
  zuh J (zsV K E g) (zjB K E tc) (zgK K E te) (bStart src σ) H p λH'=>Q (.ref p) H':=by
 generalize hP:(λ(d:D) (ι':Io) (H':Hp)=> ∀ v,Rel K ι' H' d v->Q v H')=P at q
 generalize hf:za5 g tc te (zak src sd)=f at q
 have hpx:p∉ι.x:=λz=>hr.nin hp (.inr z)
 have h0len:(zak src sd).length=src.length:=by unfold zak;rw [qaH]
 have h0non: ∀ (i:Nat),src[i]? = some none->(zak src sd)[i]? = some none:=λi e=>by unfold zak;rw [List.getElem?_map,e];rfl
 refine ⟨λi m σ' H'=>m=ds.length - i/\i<=ds.length/\ ∃ ι' h' done vs,ι'.x=p::ι.x/\zbW ι H ι'.show H'/\zc3 K ι' H' (zak src sd) σ'/\zbg K ι' H' h'/\H' p=some (.lst vs)/\zau K ι' H' done vs/\done.length<=i/\
     Fin K E ι H ((do let ys<-zcg f (ds.drop i);pure (D.lst (done++ys))) h') P,
   ⟨_,rfl,zero_le _,ι.hide p,h,[],[],rfl,?_,L.bStart.pass (zfF hp),hr.hide hp,za2,zau.nil,qaV _,?_⟩,?_⟩
 ·have:=hr.laidS (o:= .lst []) hp
  exact ⟨this.old,this.new,this.hid,this.hidk,this.keep⟩
 ·simpa using q
 rintro i m σ2 H2 ⟨rfl,hi2,ι2,h2,done,vs,hx2,s2,L2,hr2,e2,rl2,dl2,q2⟩
 have ps2:Pass ι H ι2 H2:=⟨s2.old,λb o hb n=>⟨s2.keep b o hb n,λz=>by
   rcases z with z | z
   · exact s2.nin hb n (.inl z)
   · rw [hx2] at z
     rcases qaP.mp z with z | z
     · rw [z,hp] at hb;cases hb
     · exact n (.inr z)⟩⟩
 have hp2:p∈ι2.x:=by rw [hx2];exact qau
 have base: ∀ {ι':Io} {H':Hp},zbW ι2 H2 ι' H'->zbW ι H ι'.show H':=λt=>s2.trans (t.shown hx2)
 by_cases hlt:i<ds.length
 ·right
  refine ⟨ok.go ι2 H2 i ps2 hlt,λσ' H'=>i+1<=ds.length/\ ∃ ι' h' done vs,ι'.x=p::ι.x/\zbW ι H ι'.show H'/\zc3 K ι' H' (zak src sd) σ'/\zbg K ι' H' h'/\H' p=some (.lst vs)/\zau K ι' H' done vs/\done.length<=i+1/\
    Fin K E ι H ((do let ys<-zcg f (ds.drop (i+1));pure (D.lst (done++ys))) h') P,λσ' H' z=>⟨ds.length - (i+1),⋯,rfl,z.1,z.2⟩,λx H3 y=> ?_⟩
  obtain ⟨gr,d,ed,rd⟩:=ok.yld ι2 H2 h2 i x H3 ps2 hr2 hlt y
  obtain ⟨s3,hr3⟩:=gr.step hr2
  have edr:ds.drop i=d::ds.drop (i+1):=by
   rw [qae hlt]
   rw [qaf hlt] at ed
   rw [Option.some.inj ed]
  rw [edr] at q2
  have q3:=q2
  have st3:zbW ι2 H2 ι2 H3:=s3
  have e3:H3 p=some (.lst vs):=by rw [s3.hidk p hp2];exact e2
  have eq1:(do let ys<-zcg f (d::ds.drop (i+1));pure (D.lst (done++ys)):M D)=(g d (zak src sd)>>=λsd1=>tc sd1>>=λc=>if c=true then (te sd1>>=λy=>zcg f (ds.drop (i+1))>>=λys=>pure (D.lst (done++[y]++ys))) else (zcg f (ds.drop (i+1))>>=λys=>pure (D.lst (done++ys)))):=by
   rw [zcg]
   rw [<- hf]
   simp only [za5,bind_assoc]
   refine congrArg _ (funext λsd1=> ?_)
   refine congrArg _ (funext λc=> ?_)
   cases c with
   | true=>simp only [if_true,bind_assoc,pure_bind,List.append_assoc,List.cons_append,nil_append]
   | false=>simp only [qax,if_false,pure_bind]
  rw [eq1] at q3
  refine ⟨ι2,h2,zak src sd,d,L2.step s3,hr3,rd,?_⟩
  refine Fin.bindB q3 (λι' H' h' s hr'=>⟨ι'.show,base (s3.trans s),hr'.show⟩) λsd4 h4 ι4 H4 e4 s4 hr4 q4 σ4 L4=> ?_
  have hx4:ι4.x=p::ι.x:=by rw [s4.hid];exact hx2
  obtain ⟨k1,k2⟩:=hk d _ h2 sd4 h4 h0len h0non e4
  refine ⟨ι4,h4,sd4,L4,hr4,Fin.bindB q4 (λι' H' h' s hr'=>⟨ι'.show,base ((s3.trans s4).trans s),hr'.show⟩) λc h5 ι5 H5 e5 s5 hr5 q5=> ?_⟩
  have hx5:ι5.x=p::ι.x:=by rw [s5.hid];exact hx4
  have sub: ∀ {ι':Io} {H':Hp},zc3 K ι' H' sd4 σ4->zc3 K ι' H' (zak src sd) σ4:=λ{ι' H'} z=>⟨by rw [<- k1];exact z.1,λj d' e=>z.2 j d' (k2 j d' (λw=>by rw [h0non j w] at e;cases e) e)⟩
  have st5:zbW ι2 H2 ι5 H5:=(s3.trans s4).trans s5
  cases c with
  | false=>
   exact zrI ⟨hlt,ι5,h5,done,vs,hx5,base st5,sub (L4.step s5),hr5,by rw [st5.hidk p hp2];exact e2,rl2.step st5,Nat.le_succ_of_le dl2,q5⟩
  | true=>
   refine zrR ⟨ι5,h5,sd4,L4.step s5,hr5,Fin.bindB q5 (λι' H' h' s hr'=>⟨ι'.show,base (st5.trans s),hr'.show⟩) λyd h6 ι6 H6 e6 s6 hr6 q6 y ry=> ?_⟩
   have st6:zbW ι2 H2 ι6 H6:=st5.trans s6
   have hx6:ι6.x=p::ι.x:=by rw [s6.hid];exact hx5
   have hp6:p∈ι6.x:=by rw [hx6];exact qau
   have e6':H6 p=some (.lst vs):=by rw [st6.hidk p hp2];exact e2
   refine ⟨vs,e6',by rw [<- rl2.length];omega,hlt,ι6,h6,done++[yd],vs++[y],hx6,ziH hp hpx hx2 s2 st6,?_,hr6.hid hp6,za2,?_,?_,?_⟩
   ·exact ((sub (L4.step s5)).step s6).pass (zeP hp6)
   ·exact ((rl2.step st6).append (zau.cons ry zau.nil)).pass (zeP hp6)
   ·rw [qav,List.length_singleton];omega
   ·exact q6
 ·left
  have e:i=ds.length:=by omega
  subst e
  refine ⟨ok.stop ι2 H2 ps2,?_⟩
  rw [List.drop_length] at q2
  have q3:P (.lst done) ι2.show H2:=by
   have:Fin K E ι H ((pure (D.lst (done++[])):M D) h2) P:=q2
   rw [append_nil] at this
   exact this _ _ s2 hr2.show
  rw [<- hP] at q3
  refine q3 (.ref p) ?_
  simp only [Rel]
  refine ⟨p,vs,rfl,⟨e2,λz=> ?_⟩,rl2.pass zf7⟩
  rcases z with z | z
  ·exact (hr2.hidt p (by rw [hx2];exact qau)).2 z
  ·exact hpx (by have z:p∈ι2.x.tail:=z;rw [hx2] at z;exact z)
noncomputable def zaA (fi:Sd->M (List D)) (g:D->Sd->M Sd) (tc:Sd->M Bool) (te:Sd->M D) (src:List (Option Nat)):Sd->M D:=λsd=>do
 let ds<-fi sd
 fits ds.length
 let ys<-zcg (za5 g tc te (zak src sd)) ds
 pure (D.lst ys)
theorem zm1 {K:W.Frag} {fi:Sd->M (List D)} {g:D->Sd->M Sd} {tc:Sd->M Bool} {te:Sd->M D} (hk:zaH g src) (σ:L2.St) (H:Hp) (Q:VK) (q:zgK K E (zaA fi g tc te src) σ H Q):
  zo8 (zvO K E fi) (zsV K E g) (zjB K E tc) (zgK K E te) src σ H Q:=by
 obtain ⟨ι,h,sd,L,hh,q⟩:=q
 refine ⟨ι,h,sd,L,hh,Fin.bind q λds h1 ι1 H1 e1 s1 hr1 q1 J ok p hp=> ?_⟩
 obtain ⟨z,q2⟩:=Fin.fits q1
 exact blk hk (L.step s1) hr1 ok z q2 hp
theorem zqv {fi:Sd->M (List D)} {g:D->Sd->M Sd} {tc:Sd->M Bool} {te:Sd->M D} (B:BOk X scope N src) (hk:zaH g src) (hi:SI X E tg iter fi)
  (hg: ∀ s H fp,SG (cxB X scope N s H fp) E tg g) (ht: ∀ s H fp,SCs (cxB X scope N s H fp) E ifs tc) (he: ∀ s H fp,SE (cxB X scope N s H fp) E elt te)
  (hs: ∀ x,foldedSetIterable iter X.env x=pure x:=by intro _;rfl):SE X E (.ListComp elt [⟨tg,iter,ifs,0⟩] scope pos) (zaA fi g tc te src):=
 PE.imp (zmx B hi hg ht he hs) (zm1 hk)
theorem znc {fi:Sd->M (List D)} {g:D->Sd->M Sd} {tc:Sd->M Bool} {te:Sd->M D} (i:Nat) {y:Str} {py spos:Pos} (B:BOk X scope N src) (hk:zaH g src) (hi:SI X E tg iter fi)
  (hg: ∀ s H fp,SG (cxB X scope N s H fp) E tg g) (ht: ∀ s H fp,SCs (cxB X scope N s H fp) E ifs tc) (he: ∀ s H fp,SE (cxB X scope N s H fp) E elt te)
  (hN:X.N.Nodup) (hy:X.N[i]? = some y) (hx:Loc X.env.scope y) (hf:X.fn y=true\/X.env.scope.names.lookup y=some .local) (hsw:swapsWith (.ListComp elt [⟨tg,iter,ifs,0⟩] scope pos) (some (.Name y py)) spos.line X.env=pure true)
  (hs: ∀ x,foldedSetIterable iter X.env x=pure x:=by intro _;rfl):SS X E (.Assign [.Name y py] (.ListComp elt [⟨tg,iter,ifs,0⟩] scope pos) spos) (λsd=>do let d<-zaA fi g tc te src sd;pure (.nx (sd.set i (some d)))):=by
 refine PS.imp (zk0 B hi hg ht he hN hy hx hsw hf hs) λD0 σ H ⟨ι,h,sd,L,hh,q⟩=>zm1 hk σ H _ ⟨ι,h,sd,L,hh,Fin.bind q λd h1 ι1 H1 e1 s1 hr1 q1 v rv=> ?_⟩
 exact Fin.out (E:=E) (P:=zhA X.K D0) hr1 q1 _ ((L.step s1).set rv i)
end
section
variable {K:W.Frag} {ι:Io} {H:Hp} {h:Hh} {n:Nat} {a:Addr}
theorem zf6 {o:HO} (hn:ι.c[n]? = some (some a)):Pass ι H ι (upd H a o):=⟨λ_ _ z=> .inl z,λb o' hb nb=>⟨by rw [zaE (show b≠a from λz=>nb (.inl (z▸List.mem_of_getElem? hn)))];exact hb,nb⟩⟩
theorem zbg.cellS {o:HO} (hr:zbg K ι H h) (hn:ι.c[n]? = some (some a)):zbW ι H ι (upd H a o):=
 ⟨λ_ _ z=> .inl z,λ_ z=> .inl z,rfl,λb hb=>zaE λz=>(hr.hidt b hb).2 (z▸List.mem_of_getElem? hn),λb o' hb nb=>((zf6 hn).keep b o' hb nb).1⟩
theorem zbg.cellO {c':C} {o':HO} (hr:zbg K ι H h) (hn:ι.c[n]? = some (some a)) (co:CO K ι H c' o'):zbg K ι (upd H a o') (h.set n c'):=by
 refine ⟨by rw [qaI];exact hr.len,hr.inj,λm b c hm hc=> ?_,λm hm=> ?_,λb hb=>⟨?_,(hr.hidt b hb).2⟩⟩
 ·by_cases e:n=m
  ·subst e
   rw [hn] at hm
   cases hm
   rw [qai (by rw [hr.len];exact (qac.mp hn).1)] at hc
   cases hc
   exact ⟨o',za2,co.pass (zf6 hn)⟩
  ·rw [qao e] at hc
   obtain ⟨o2,e2,e3⟩:=hr.at_ m b c hm hc
   have ne:b≠a:=λz=>by subst z;exact e (hr.inj n m b hn hm)
   exact ⟨o2,by rw [zaE ne];exact e2,e3.pass (zf6 hn)⟩
 ·have e:n≠m:=λz=>by subst z;rw [hn] at hm;cases hm
  rw [qao e]
  exact hr.dead m hm
 ·rw [zaE (show b≠a from λz=>(hr.hidt b hb).2 (z▸List.mem_of_getElem? hn))]
  exact (hr.hidt b hb).1
theorem zbg.cell {ds':List D} {vs':List V} (hr:zbg K ι H h) (hn:ι.c[n]? = some (some a)) (rl:zau K ι H ds' vs'):zbg K ι (upd H a (.lst vs')) (h.set n (.lst ds')):=hr.cellO hn ⟨vs',rfl,rl⟩
theorem zbg.read {ds:List D} {v:V} (hr:zbg K ι H h) (r:Rel K ι H (.cel n) v) (e:h[n]? = some (.lst ds)): ∃ a vs,v= .ref a/\ι.c[n]? = some (some a)/\H a=some (.lst vs)/\zau K ι H ds vs:=by
 simp only [Rel] at r
 obtain ⟨a,e1,r | r⟩:=r
 ·obtain ⟨o,e3,vs,rfl,e4⟩:=hr.at_ n a _ r e
  exact ⟨a,vs,e1,r,e3,e4⟩
 ·rw [hr.dead n r] at e
  cases e
end
noncomputable def zai (n:Nat):M (List D):=λh=>match h[n]? with
 | some (.lst ds)=> .ok ds h
 | _=> .bad
noncomputable def zbF (n:Nat) (ds:List D):M Unit:=λh=> .ok () (h.set n (.lst ds))
theorem zc5 {n:Nat} {h h':Hh} {ds:List D} (e:zai n h= .ok ds h'):h'=h/\h[n]? = some (.lst ds):=by
 unfold zai at e
 cases z:h[n]? with
 | none=>rw [z] at e;cases e
 | some c=>
  rw [z] at e
  cases c with
  | lst xs=>cases e;exact ⟨rfl,rfl⟩
  | dic _=>cases e
  | dit ks=>cases e
  | ins _ _=>cases e
  | dead=>cases e
noncomputable def ofO {α:Type}:Option α->M α
 | some a=>pure a
 | none=>M.bad
def dIx:D->D->M D:=λx y=>match x,y with
 | .tup ds,.int i=>ofO (atI ds i)
 | .lst ds,.int i=>ofO (atI ds i)
 | .scr ds,.int i=>ofO (atI ds i)
 | .cel n,.int i=>do let ds<-zai n;ofO (atI ds i)
 | _,_=>M.bad
theorem zhy {K:W.Frag} {ι:Io} {H:Hp} {ds:List D} {vs:List V} {i:Int} {d:D} (rl:zau K ι H ds vs) (e:atI ds i=some d): ∃ v,atI vs i=some v/\Rel K ι H d v:=by
 unfold atI at e ⊢
 rw [<- rl.length]
 cases z:ixN ds.length i with
 | none=>rw [z] at e;cases e
 | some j=>
  rw [z] at e
  have e:ds[j]? = some d:=e
  exact rl.get e
section
variable {X:Cx} {E:XE}
theorem Fin.ofO {α:Type} {K:W.Frag} {ι:Io} {H:Hp} {h:Hh} {o:Option α} {P:α->Io->Hp->Prop} (hr:zbg K ι H h) (q:Fin K E ι H (L3.ofO o h) P): ∃ a,o=some a/\P a ι H:=by
 cases o with
 | none=>exact qa0 q
 | some a=>exact ⟨a,rfl,Fin.out hr q⟩
theorem zv4:IxR X (zdZ X.K E dIx):=by
 refine IxR.imp (zp3.or zsJ) λx y H Q ⟨ι,h,d1,d2,r1,r2,hr,q⟩=> ?_
 cases d2 with
 | int i=>
  simp only [Rel] at r2
  cases d1 with
  | tup ds=>
   obtain ⟨a,vs,e,h1,h2⟩:=zdg r1
   obtain ⟨d,e1,q⟩:=Fin.ofO hr q
   obtain ⟨v,e2,rv⟩:=zhy h2 e1
   exact .inr ⟨a,vs,i,v,e,r2,h1,e2,q v rv⟩
  | lst ds=>
   obtain ⟨a,vs,e,h1,h2⟩:=zeV r1
   obtain ⟨d,e1,q⟩:=Fin.ofO hr q
   obtain ⟨v,e2,rv⟩:=zhy h2 e1
   exact .inl ⟨a,vs,i,v,e,r2,h1,e2,q v rv⟩
  | scr ds=>
   obtain ⟨a,vs,e,h1,h2⟩:=zmO r1
   obtain ⟨d,e1,q⟩:=Fin.ofO hr q
   obtain ⟨v,e2,rv⟩:=zhy h2 e1
   exact .inl ⟨a,vs,i,v,e,r2,h1,e2,q v rv⟩
  | cel n=>
   have q:Fin X.K E ι H ((zai n>>=λds=>L3.ofO (atI ds i)) h) _:=q
   have q':Fin X.K E ι H (M.bind (zai n) (λds=>L3.ofO (atI ds i)) h) _:=q
   unfold M.bind at q'
   cases z:zai n h with
   | bad=>rw [z] at q';exact qa0 q'
   | exc c h'=>unfold zai at z;split at z<;>cases z
   | ok ds h'=>
    rw [z] at q'
    obtain ⟨rfl,z2⟩:=zc5 z
    obtain ⟨a,vs,e,hn,hH,rl⟩:=hr.read r1 z2
    obtain ⟨d,e1,q⟩:=Fin.ofO hr q'
    obtain ⟨v,e2,rv⟩:=zhy rl e1
    exact .inl ⟨a,vs,i,v,e,r2,SqL.of hH,e2,q v rv⟩
  | _=>exact qa0 q
 | _=>cases d1<;>exact qa0 q
def zlx (o i d:D):M Unit:=match o,i with
 | .cel n,.int k=>do
  let ds<-zai n
  let j<-ofO (ixN ds.length k)
  zbF n (ds.set j d)
 | _,_=>M.bad
theorem zts {o i:Expr} {pos:Pos} {fo fi:Sd->M D} (hp: ∀ {t:zuf},zvp X t->PG X (.Subscript o i pos) (zvN (zgK X.K E fo) (zgK X.K E fi) t)):
  SG X E (.Subscript o i pos) (λd sd=>do let x<-fo sd;let y<-fi sd;zlx x y d;pure sd):=by
 refine PG.imp (hp zoi) λv σ H Q ⟨ι,h,sd,d,L,hr,rd,q⟩=>⟨ι,h,sd,L,hr,Fin.bind q λx h1 ι1 H1 e1 s1 hr1 q1 xv rx=> ?_⟩
 refine ⟨ι1,h1,sd,L.step s1,hr1,Fin.bind q1 λy h2 ι2 H2 e2 s2 hr2 q2 yv ry=> ?_⟩
 cases x with
 | cel n=>
  cases y with
  | int k=>
   have rx2:=rx.step s2
   have q3:Fin X.K E ι2 H2 ((zai n>>=λds=>(ofO (ixN ds.length k)>>=λj=>zbF n (ds.set j d)>>=λ_=>pure sd)) h2) (λsd' ι' H'=> ∀ σ',zc3 X.K ι' H' sd' σ'->Q σ' H'):=by
    have e:(do zlx (.cel n) (.int k) d;pure sd:M Sd)=(zai n>>=λds=>(ofO (ixN ds.length k)>>=λj=>zbF n (ds.set j d)>>=λ_=>pure sd)):=by
     show ((zai n>>=λds=>(ofO (ixN ds.length k)>>=λj=>zbF n (ds.set j d)))>>=λ_=>pure sd)=_
     simp only [bind_assoc]
    rw [<- e]
    exact q2
   have q':Fin X.K E ι2 H2 (M.bind (zai n) (λds=>(ofO (ixN ds.length k)>>=λj=>zbF n (ds.set j d)>>=λ_=>pure sd)) h2) _:=q3
   unfold M.bind at q'
   cases z:zai n h2 with
   | bad=>rw [z] at q';exact qa0 q'
   | exc c h'=>unfold zai at z;split at z<;>cases z
   | ok ds h'=>
    rw [z] at q'
    obtain ⟨rfl,z2⟩:=zc5 z
    obtain ⟨a,vs,e,hn,hH,rl⟩:=hr2.read rx2 z2
    simp only [Rel] at ry
    have q4:Fin X.K E ι2 H2 (M.bind (ofO (ixN ds.length k)) (λj=>zbF n (ds.set j d)>>=λ_=>pure sd) h') _:=q'
    unfold M.bind at q4
    cases z3:ixN ds.length k with
    | none=>rw [z3] at q4;exact qa0 q4
    | some j=>
     rw [z3] at q4
     have q5:Fin X.K E ι2 H2 (R.ok sd (h'.set n (.lst (ds.set j d)))) (λsd' ι' H'=> ∀ σ',zc3 X.K ι' H' sd' σ'->Q σ' H'):=q4
     refine ⟨a,vs,k,j,e,ry,hH,by rw [<- rl.length];exact z3,?_⟩
     have rd2:=(rd.step s1).step s2
     exact q5 ι2 _ (hr2.cellS hn) (hr2.cell hn (rl.set rd2 j)) σ (((L.step s1).step s2).step (hr2.cellS hn))
  | _=>exact qa0 q2
 | _=>cases y<;>exact qa0 q2
end
abbrev E0x:XE:=λ_ _=>False
def zbG (K:W.Frag) (n:Nat) (F:List D->M D):Sp:=λvs H Q _=>vs.length=n/\ ∃ ι h ds,zau K ι H ds vs/\zbg K ι H h/\Fin K E0x ι H (F ds h) λd ι' H'=> ∀ v,Rel K ι' H' d v->Q v H'
def zjW (n:Nat) (ds:List D):Sd:=ds.map some++replicate (n - ds.length) none
def zbX:Out->M D
 | .nx _=>pure .non
 | .rt d=>pure d
 | _=>M.bad
def zca (n:Nat) (G:Sd->M Out) (ds:List D):M D:=do let o<-G (zjW n ds);zbX o
theorem zli {K:W.Frag} {ι:Io} {H:Hp} {ds:List D} {vs:List V} {N:List Str} (h:zau K ι H ds vs):zc3 K ι H (zjW N.length ds) (L2.zgp N vs):=by
 have hl:=h.length
 unfold zjW L2.zgp
 refine ⟨by simp [hl],λi d e=> ?_⟩
 by_cases hi:i<ds.length
 ·rw [qad (by simpa using hi),List.getElem?_map] at e
  cases z:ds[i]? with
  | none=>rw [z] at e;cases e
  | some d'=>
   rw [z] at e
   cases e
   obtain ⟨v,h1,h2⟩:=h.get z
   exact ⟨v,by rw [qad (by rw [qaH, <-hl];exact hi),List.getElem?_map,h1];rfl,h2⟩
 ·rw [qaa (by simpa using hi),List.getElem?_replicate] at e
  split at e<;>cases e
section
variable {P:Program} {w:World} {K:W.Frag} {mg:Str->Option Value} {base:Heap}
theorem zaN {x qual:Str} {st:Stmt} {f:Addr} {fd:FuncData} {N ps:List Str} {k:Nat} {G:Sd->M Out} (F:Fun K x qual st f fd) (S:zan N ps (zae st))
  (hb: ∀ (cdv:Value) (A:Around) (outer:List Env) (s:Shared) (H:Hp) (E:XK),zd8 k (A.deeper (envOfC qual (zae st) s.heap.objs.size f cdv))->SSs (zqY CX0 P w K mg base N qual (zae st) f cdv A outer s H E).nox E0x (zdK st) G):
  zbr P w K mg base CX0 (k+1) f fd ps (zbG K ps.length (zca N.length G)):=by
 refine F.ok S (λvs H Q E h=>h.1) λcdv A outer s H vs Q E hr ⟨hl,ι,h,ds,rl,hh,q⟩=>⟨_,hb cdv A outer s H E hr,ι,h,zjW N.length ds,zli rl,hh,?_⟩
 refine Fin.bind q λo h1 ι1 H1 e1 s1 hr1 q1=> ?_
 cases o with
 | nx sd=>exact λσ' _=>Fin.out hr1 q1 _ (by simp [Rel])
 | rt d=>exact λv rv=>Fin.out hr1 q1 v rv
 | bk sd=>exact qa0 q1
 | ct sd=>exact qa0 q1
end
section
variable {X:Cx} {e:Expr} {es:List Expr} {pos p:Pos}
def zaj (n:Nat) (F:List D->M D) (ds:List D):M D:=if ds.length=n then F ds else M.bad
theorem zq0 {k:Nat} {f:Addr} {fd:FuncData} {ps:List Str} {n:Nat} {F:List D->M D} {fs:Sd->M (List D)} {x:Str} (G:zbr X.prog X.w X.K X.mg X.base CX0 k f fd ps (zbG X.K n F)) (hr:zd8 k X.A) (hg:Gl X x) (hm:X.mg x=some (.ref f)) (hk:W.keepIn X.K (.ref f)=true) (hb:zay X.K fd ps [])
  (ha:SA X E0x (e::es) fs) (hdb:(x==("__debug__":Str))=false:=by decide) (he:starEach (e::es) X.env=(false,eval e X.env)::starEach es X.env:=by rfl) (hpl:(backTo pos (starEach es X.env)).any (·.1)=false:=by rfl):
  SE X E0x (.Call (.Name x p) (e::es) [] pos) (λsd=>do let ds<-fs sd;zaj n F ds):=by
 refine PE.imp (zp0 G hr hg hm hk hb (dvs:=[]) .nil (E:=λ_ _ _=>False) zo9 ha hdb he hpl) λσ H Q ⟨ι,h,sd,L,hh,q⟩=>⟨ι,h,sd,L,hh,Fin.bind q λds h1 ι1 H1 e1 s1 hr1 q1 vs rv=> ?_⟩
 show zbG X.K n F (vs++[]) H1 Q _
 rw [append_nil]
 unfold zaj at q1
 by_cases hl:ds.length=n
 ·rw [qa4 hl] at q1
  exact ⟨by rw [<- rv.length];exact hl,ι1,h1,ds,rv,hr1,q1⟩
 ·rw [qa5 hl] at q1
  exact qa0 q1
end
section
variable {X:Cx} {E:XE}
theorem Fin.guard {α:Type} {K:W.Frag} {ι:Io} {H:Hp} {h:Hh} {c:Prop} [Decidable c] {f:M α} {P:α->Io->Hp->Prop} (q:Fin K E ι H ((if c then f else M.bad) h) P):c/\Fin K E ι H (f h) P:=by
 by_cases hc:c
 ·rw [qa4 hc] at q;exact ⟨hc,q⟩
 ·rw [qa5 hc] at q;exact qa0 q
theorem znM:OpR X (binaryOp .Add) (λx y H Q=> ∃ a b ys,x= .ref a/\y= .ref b/\SqT X.K H a []/\SqT X.K H b ys/\Q (.ref b) H):=by
 intro pins s σ H x y v u Q I rx ry h
 obtain ⟨a,b,ys,rfl,rfl,ha,hb,q⟩:=h
 cases rx
 cases ry
 obtain ⟨its,r1,p1,_⟩:=I.tuple ha
 obtain ⟨its2,r2,p2,_⟩:=I.tuple hb
 cases r1
 obtain ⟨⟨cls,dd,data,sl⟩,ho,hc,n,hd⟩:=id p1
 obtain ⟨⟨cls2,dd2,data2,sl2⟩,ho2,hc2,n2,hd2⟩:=id p2
 simp only at hc hd hc2 hd2
 subst hc hd hc2 hd2
 exact concat_meets ⟨_,ho,rfl⟩ ⟨_,ho2,rfl⟩ noFill_tuple_add seq_tuple_add PySem.F.slot_tuple_add PySem.F.entry_tuple_add (PySem.F.args_tuple_add_2 _ _)
   (tuple_addW0 a b _ _ n n2 dd dd2 sl sl2 (by simp)) ⟨ho,ho2,⟨.ref b,H,I,rfl,q⟩⟩
def zes (x y:D):M D:=match x,y with
 | .int i,.int j=>pure (.int (i+j))
 | .tup xs,.tup ys=>do fits (xs.length+ys.length);pure (.tup (xs++ys))
 | .lst xs,.lst ys=>do fits (xs.length+ys.length);pure (.lst (xs++ys))
 | .str x,.str y=>do fits (x.length+y.length);pure (.str (x++y))
 | _,_=>M.bad
theorem zaV:OpR X (binaryOp .Add) (zdZ X.K E zes):=by
 refine OpR.imp (zt2.or (znM.or (zpY.or (zti.or zlj)))) λx y H Q ⟨ι,h,d1,d2,r1,r2,hr,q⟩=> ?_
 unfold zes at q
 split at q
 ·simp only [Rel] at r1 r2
  exact .inl ⟨_,_,r1,r2,Fin.out hr q _ (by simp [Rel])⟩
 ·rename_i xs ys
  right
  obtain ⟨a,vs,e,h1,h2⟩:=zdg r1
  obtain ⟨b,ws,e',h1',h2'⟩:=zdg r2
  obtain ⟨z,q⟩:=Fin.fits q
  cases xs with
  | nil=>
   simp only [zau] at h2
   subst h2
   exact .inl ⟨a,b,ws,e,e',h1,h1',Fin.out hr q _ (by rw [<- e'];exact r2)⟩
  | cons x0 xr=>
   refine .inr (.inl ⟨a,b,vs,ws,e,e',h1,h1',λz=> ?_,by rw [<- h2.length, <-h2'.length];exact z,λz=> ?_,λz p hp=>zrN hr (h2.append h2') q hp⟩)
   ·subst z
    have:=h2.length
    cases this
   ·subst z
    have:=h2'.length
    cases ys with
    | nil=>rw [append_nil] at q;exact Fin.out hr q _ (by rw [<- e];exact r1)
    | cons _ _=>cases this
 ·rename_i xs ys
  right;right;right;left
  simp only [Rel] at r1 r2
  obtain ⟨a,vs,e,h1,h2⟩:=r1
  obtain ⟨b,ws,e',h1',h2'⟩:=r2
  obtain ⟨z,q⟩:=Fin.fits q
  exact ⟨a,b,vs,ws,e,e',h1.1,h1'.1,by rw [<- h2.length, <-h2'.length];exact z,λp hp=>zpu hr (h2.append h2') q hp⟩
 ·simp only [Rel] at r1 r2
  obtain ⟨z,q⟩:=Fin.fits q
  exact .inr (.inr (.inr (.inr ⟨_,_,r1,r2,z,Fin.out hr q _ (by simp [Rel])⟩)))
 ·exact qa0 q
def dII (C:Int->Int->Bool) (g:Int->Int->D) (x y:D):M D:=match x,y with
 | .int i,.int j=>if C i j=true then pure (g i j) else M.bad
 | _,_=>M.bad
theorem zlE {f:Value->Value->Sem Value} {C:Int->Int->Bool} {C':Int->Int->Prop} {g:Int->Int->V} {g':Int->Int->D} (ho:OpR X f (rI C' g)) (hc: ∀ i j,C i j=true->C' i j) (hg: ∀ i j ι H,Rel X.K ι H (g' i j) (g i j)):OpR X f (zdZ X.K E (dII C g')):=by
 refine OpR.imp ho λx y H Q ⟨ι,h,d1,d2,r1,r2,hr,q⟩=> ?_
 unfold dII at q
 split at q
 ·simp only [Rel] at r1 r2
  obtain ⟨c,q⟩:=Fin.guard q
  exact ⟨_,_,r1,r2,hc _ _ c,Fin.out hr q _ (hg _ _ _ _)⟩
 ·exact qa0 q
theorem zgI {f:Value->Value->Sem Value} {g:Int->Int->V} {g':Int->Int->D} (ho:OpR X f (rI0 g)) (hg: ∀ i j ι H,Rel X.K ι H (g' i j) (g i j)):OpR X f (zdZ X.K E (dII (λ_ _=>true) g')):=by
 refine OpR.imp ho λx y H Q ⟨ι,h,d1,d2,r1,r2,hr,q⟩=> ?_
 unfold dII at q
 split at q
 ·simp only [Rel] at r1 r2
  obtain ⟨c,q⟩:=Fin.guard q
  exact ⟨_,_,r1,r2,Fin.out hr q _ (hg _ _ _ _)⟩
 ·exact qa0 q
def zt4:=dII (λ_ _=>true) λi j=> .int (i - j)
theorem zjc:OpR X (binaryOp .Sub) (zdZ X.K E zt4):=zgI zsC λ_ _ _ _=>by simp [Rel]
def zbp (i:Int):Bool:=decide (-(2^64)<i) && decide (i<2^64)
theorem zdn {i:Int} (h:zbp i=true): -(2^64)<i/\i<2^64:=by unfold zbp at h;simpa using h
theorem zon:OpR X (binaryOp .FloorDiv) (rI (λ_ j=>0<j/\j<2^64) λi j=> .int (i / j)):=opI λi j _ _ _ _ _ hc q=>by
 refine floordiv_int ⋯ (by rw [Int.fdiv_eq_ediv_of_nonneg _ ⋯];exact q) (.inl (PyProof.noPylong_of_log2 ?_))
 have h1:j.natAbs<2^64:=by omega
 have h0:j.natAbs≠0:=by omega
 exact lt_trans ((log2_lt h0).mpr h1) (by decide)
def zrl:=dII (λ_ j=>decide (0<j) && decide (j<2^64)) λi j=> .int (i / j)
theorem zoB:OpR X (binaryOp .FloorDiv) (zdZ X.K E zrl):=zlE zon (λi j h=>by simpa using h) λ_ _ _ _=>by simp [Rel]
def zrK:=dII (λ_ j=>decide (0<j)) λi j=> .int (i % j)
theorem zhv:OpR X (binaryOp .Mod) (zdZ X.K E zrK):=zlE ztp (λi j h=>by simpa using h) λ_ _ _ _=>by simp [Rel]
def zuS (i j:Int):Bool:=decide (0<=j) && decide (j<=1000000) && decide (i.natAbs<2^64)
def zui:=dII zuS λi j=> .int (i^j.toNat)
theorem zoa {i j:Int} (h:zuS i j=true):zvb i j:=by unfold zuS at h;simpa [zvb,and_assoc] using h
theorem zqp:OpR X (binaryOp .Pow) (zdZ X.K E zui):=zlE zsh (λ_ _=>zoa) λ_ _ _ _=>by simp [Rel]
def dOr:=dII (λ_ _=>true) λi j=> .int (Builtin.bitOr i j)
theorem zsr:OpR X (binaryOp .BitOr) (zdZ X.K E dOr):=zgI zvj λ_ _ _ _=>by simp [Rel]
def dLt:=dII (λ_ _=>true) λi j=> .bl (decide (i<j))
theorem zgY:OpR X (compareOp .Lt) (zdZ X.K E dLt):=zgI zuP λ_ _ _ _=>by simp [Rel]
def dLe:=dII (λ_ _=>true) λi j=> .bl (decide (i<=j))
theorem zm8:OpR X (compareOp .LtE) (zdZ X.K E dLe):=zgI zvs λ_ _ _ _=>by simp [Rel]
def dGt:=dII (λ_ _=>true) λi j=> .bl (decide (j<i))
theorem zf2:OpR X (compareOp .Gt) (zdZ X.K E dGt):=zgI zuy λ_ _ _ _=>by simp [Rel]
def dGe:=dII (λ_ _=>true) λi j=> .bl (decide (j<=i))
theorem zlS:OpR X (compareOp .GtE) (zdZ X.K E dGe):=zgI zuR λ_ _ _ _=>by simp [Rel]
def zto:D->M D
 | .int i=>pure (.int (-i))
 | _=>M.bad
theorem zr1 {a:Expr} {pos:Pos} {fa:Sd->M D} (ha:SE X E a fa):SE X E (.UnaryOp .USub a pos) (λsd=>do let x<-fa sd;zto x):=by
 refine PE.imp (zs7 zpI ha) λσ H Q ⟨ι,h,sd,L,hh,q⟩=>⟨ι,h,sd,L,hh,Fin.bind q λd h1 ι1 H1 e1 s1 hr1 q1 v rv=> ?_⟩
 cases d with
 | int i=>simp only [Rel] at rv;exact ⟨i,rv,Fin.out hr1 q1 _ (by simp [Rel])⟩
 | _=>exact qa0 q1
mutual
noncomputable def pd:D->Option PyData
 | .non=>some .none
 | .bl b=>some (.bool b)
 | .int i=>some (.int i)
 | .str x=>some (.str x)
 | .tup xs=>(pdL xs).map .tuple
 | .lst xs=>(pdL xs).map .list
 | .scr xs=>(pdL xs).map .list
 | _=>none
noncomputable def pdL:List D->Option (List PyData)
 | []=>some []
 | x::xs=>match pd x,pdL xs with
  | some a,some r=>some (a::r)
  | _,_=>none
end
mutual
theorem zf1 {pins:List (Addr×Obj)} {σ:L2.St} {H:Hp} {s:Shared} {ι:Io} (I:Inv X pins σ H s): ∀ {d:D} {v:V} {u:Value} {p:PyData},Rel X.K ι H d v->zbO v u->pd d=some p-> ∃ as,Reads s.heap u p as
 | .non,v,u,p,r,ru,e=>by simp only [Rel] at r;subst r;cases ru;cases e;exact ⟨_,.none⟩
 | .bl b,v,u,p,r,ru,e=>by simp only [Rel] at r;subst r;cases ru;cases e;exact ⟨_,.bool _⟩
 | .int i,v,u,p,r,ru,e=>by simp only [Rel] at r;subst r;obtain ⟨t,rfl⟩:=ru;cases e;exact ⟨_,.int _ _⟩
 | .str i,v,u,p,r,ru,e=>by simp only [Rel] at r;subst r;obtain ⟨t,rfl⟩:=ru;cases e;exact ⟨_,.str _ _⟩
 | .tup ds,v,u,p,r,ru,e=>by
  obtain ⟨a,vs,rfl,h1,h2⟩:=zdg r
  cases ru
  obtain ⟨its,rv,pl,_⟩:=I.tuple h1
  obtain ⟨o,ho,hc,n,hd⟩:=pl
  unfold pd at e
  cases z:pdL ds with
  | none=>rw [z] at e;cases e
  | some ps=>
   rw [z] at e;cases e
   obtain ⟨as,q⟩:=ziU I h2 rv z
   exact ⟨_,.tuple ho hc hd (by simpa using q)⟩
 | .lst ds,v,u,p,r,ru,e=>by
  obtain ⟨a,vs,rfl,h1,h2⟩:=zeV r
  cases ru
  obtain ⟨its,rv,pl,_⟩:=I.list h1
  obtain ⟨o,ho,hc,n,hd⟩:=pl.isList
  unfold pd at e
  cases z:pdL ds with
  | none=>rw [z] at e;cases e
  | some ps=>
   rw [z] at e;cases e
   obtain ⟨as,q⟩:=ziU I h2 rv z
   exact ⟨_,.list ho hc hd (by simpa using q)⟩
 | .scr ds,v,u,p,r,ru,e=>by
  obtain ⟨a,vs,rfl,h1,h2⟩:=zmO r
  cases ru
  obtain ⟨its,rv,pl,_⟩:=I.list h1
  obtain ⟨o,ho,hc,n,hd⟩:=pl.isList
  unfold pd at e
  cases z:pdL ds with
  | none=>rw [z] at e;cases e
  | some ps=>
   rw [z] at e;cases e
   obtain ⟨as,q⟩:=ziU I h2 rv z
   exact ⟨_,.list ho hc hd (by simpa using q)⟩
 | .cel n,_,_,_,_,_,e=>by cases e
 | .set xs,_,_,_,_,_,e=>by cases e
 | .dct,_,_,_,_,_,e=>by cases e
 | .fn _,_,_,_,_,_,e=>by cases e
 | .exn _,_,_,_,_,_,e=>by cases e
theorem ziU {pins:List (Addr×Obj)} {σ:L2.St} {H:Hp} {s:Shared} {ι:Io} (I:Inv X pins σ H s): ∀ {ds:List D} {vs:List V} {us:List Value} {ps:List PyData},zau X.K ι H ds vs->za4 vs us->pdL ds=some ps-> ∃ as,ReadsAll s.heap us ps as
 | [],vs,us,ps,r,ru,e=>by simp only [zau] at r;subst r;cases ru;cases e;exact ⟨_,.nil⟩
 | d::ds,vs,us,ps,r,ru,e=>by
  simp only [zau] at r
  obtain ⟨v,vr,rfl,r1,r2⟩:=r
  cases ru with
  | cons ru1 ru2=>
   unfold pdL at e
   cases z:pd d with
   | none=>rw [z] at e;cases e
   | some a=>
    cases z2:pdL ds with
    | none=>rw [z,z2] at e;cases e
    | some b=>
     rw [z,z2] at e
     cases e
     obtain ⟨as,q1⟩:=zf1 I r1 ru1 z
     obtain ⟨bs,q2⟩:=ziU I r2 ru2 z2
     exact ⟨_,.cons q1 q2⟩
end
def zhC (a b:PyData):Bool:=a.canLay0 && b.canLay0 && decide (min a.depth b.depth<=60)
noncomputable def zln (neg:Bool) (x y:D):M D:=match pd x,pd y with
 | some a,some b=>if zhC a b=true then pure (.bl (if neg then !PyData.eqv a b else PyData.eqv a b)) else M.bad
 | _,_=>M.bad
def dEq:=zln false
def dNe:=zln true
theorem zhf {a b:PyData} (h:zhC a b=true):a.canLay0=true/\b.canLay0=true/\min a.depth b.depth<=60:=by unfold zhC at h;simpa [and_assoc] using h
theorem zkA {K:W.Frag} {ι:Io} {H:Hp} {h:Hh} {neg:Bool} {x y:D} {P:D->Io->Hp->Prop} (q:Fin K E ι H (zln neg x y h) P): ∃ a b,pd x=some a/\pd y=some b/\zhC a b=true/\Fin K E ι H ((pure (.bl (if neg then !PyData.eqv a b else PyData.eqv a b)):M D) h) P:=by
 unfold zln at q
 cases e1:pd x with
 | none=>rw [e1] at q;exact qa0 q
 | some a=>
  cases e2:pd y with
  | none=>rw [e1,e2] at q;exact qa0 q
  | some b=>
   rw [e1,e2] at q
   obtain ⟨c,q⟩:=Fin.guard q
   exact ⟨a,b,rfl,rfl,c,q⟩
theorem ze9 (hu:X.A.units+60<cLine):OpR X (compareOp .Eq) (zdZ X.K E dEq):=by
 intro pins s σ H x y v u Q I rx ry ⟨ι,h,d1,d2,r1,r2,hr,q⟩
 obtain ⟨a,b,e1,e2,c,q2⟩:=zkA q
 obtain ⟨c1,c2,c3⟩:=zhf c
 obtain ⟨as,ra⟩:=zf1 I r1 rx e1
 obtain ⟨bs,rb⟩:=zf1 I r2 ry e2
 exact SeqAt.compareEq_reads ra rb c1 c2 ⋯ ⟨.bl _,H,I,rfl,Fin.out hr q2 (.bl _) (by simp [Rel])⟩
theorem zgZ (hu:X.A.units+60<cLine):OpR X (compareOp .NotEq) (zdZ X.K E dNe):=by
 intro pins s σ H x y v u Q I rx ry ⟨ι,h,d1,d2,r1,r2,hr,q⟩
 obtain ⟨a,b,e1,e2,c,q2⟩:=zkA q
 obtain ⟨c1,c2,c3⟩:=zhf c
 obtain ⟨as,ra⟩:=zf1 I r1 rx e1
 obtain ⟨bs,rb⟩:=zf1 I r2 ry e2
 exact SeqAt.compareNe_reads ra rb c1 c2 ⋯ ⟨.bl _,H,I,rfl,Fin.out hr q2 (.bl _) (by simp [Rel])⟩
def zmY (a:PyData) (xs:List PyData):Bool:=a.canLay0 && PyData.canLayAll0 xs && decide (min (PyData.depthAll xs) a.depth<=50)
theorem zkf {a:PyData} {xs:List PyData} (h:zmY a xs=true):a.canLay0=true/\PyData.canLayAll0 xs=true/\min (PyData.depthAll xs) a.depth<=50:=by unfold zmY at h;simpa [and_assoc] using h
def znA (neg:Bool) (x c:D):M D:=match pd x,c with
 | some a,.tup ds=>match pdL ds with
  | some xs=>if zmY a xs=true then pure (.bl (if neg then !xs.any (λy=>PyData.eqv y a) else xs.any λy=>PyData.eqv y a)) else M.bad
  | none=>M.bad
 | some a,.lst ds=>match pdL ds with
  | some xs=>if zmY a xs=true then pure (.bl (if neg then !xs.any (λy=>PyData.eqv y a) else xs.any λy=>PyData.eqv y a)) else M.bad
  | none=>M.bad
 | _,_=>M.bad
def dIn:=znA false
def zh5:=znA true
theorem zjL {K:W.Frag} {ι:Io} {H:Hp} {h:Hh} {neg:Bool} {x c:D} {P:D->Io->Hp->Prop} (q:Fin K E ι H (znA neg x c h) P): ∃ a ds xs,pd x=some a/\pdL ds=some xs/\(c= .tup ds\/c= .lst ds)/\zmY a xs=true/\
  Fin K E ι H ((pure (.bl (if neg then !xs.any (λy=>PyData.eqv y a) else xs.any λy=>PyData.eqv y a)):M D) h) P:=by
 unfold znA at q
 cases e1:pd x with
 | none=>rw [e1] at q;exact qa0 q
 | some a=>
  rw [e1] at q
  cases c with
  | tup ds=>
   dsimp only at q
   cases e2:pdL ds with
   | none=>rw [e2] at q;exact qa0 q
   | some xs=>
    rw [e2] at q
    obtain ⟨c,q⟩:=Fin.guard q
    exact ⟨a,ds,xs,rfl,e2,.inl rfl,c,q⟩
  | lst ds=>
   dsimp only at q
   cases e2:pdL ds with
   | none=>rw [e2] at q;exact qa0 q
   | some xs=>
    rw [e2] at q
    obtain ⟨c,q⟩:=Fin.guard q
    exact ⟨a,ds,xs,rfl,e2,.inr rfl,c,q⟩
  | _=>exact qa0 q
theorem ziR (hu:X.A.units+60<cLine):OpR X (compareOp .In) (zdZ X.K E dIn):=by
 intro pins s σ H x y v u Q I rx ry ⟨ι,h,d1,d2,r1,r2,hr,q⟩
 obtain ⟨a,ds,xs,e1,e2,ec,c,q2⟩:=zjL q
 obtain ⟨c1,c2,c3⟩:=zkf c
 obtain ⟨as,ra⟩:=zf1 I r1 rx e1
 rcases ec with rfl | rfl
 ·obtain ⟨bs,rb⟩:=zf1 I r2 ry (p:= .tuple xs) (by unfold pd;rw [e2];rfl)
  exact SeqAt.in_tuple_reads rb ra c2 c1 ⋯ ⟨.bl _,H,I,rfl,Fin.out hr q2 (.bl _) (by simp [Rel])⟩
 ·obtain ⟨bs,rb⟩:=zf1 I r2 ry (p:= .list xs) (by unfold pd;rw [e2];rfl)
  exact SeqAt.in_list_reads rb ra c2 c1 ⋯ ⟨.bl _,H,I,rfl,Fin.out hr q2 (.bl _) (by simp [Rel])⟩
theorem zfB (hu:X.A.units+60<cLine):OpR X (compareOp .NotIn) (zdZ X.K E zh5):=by
 intro pins s σ H x y v u Q I rx ry ⟨ι,h,d1,d2,r1,r2,hr,q⟩
 obtain ⟨a,ds,xs,e1,e2,ec,c,q2⟩:=zjL q
 obtain ⟨c1,c2,c3⟩:=zkf c
 obtain ⟨as,ra⟩:=zf1 I r1 rx e1
 rcases ec with rfl | rfl
 ·obtain ⟨bs,rb⟩:=zf1 I r2 ry (p:= .tuple xs) (by unfold pd;rw [e2];rfl)
  exact SeqAt.notIn_tuple_reads rb ra c2 c1 ⋯ ⟨.bl _,H,I,rfl,Fin.out hr q2 (.bl _) (by simp [Rel])⟩
 ·obtain ⟨bs,rb⟩:=zf1 I r2 ry (p:= .list xs) (by unfold pd;rw [e2];rfl)
  exact SeqAt.notIn_list_reads rb ra c2 c1 ⋯ ⟨.bl _,H,I,rfl,Fin.out hr q2 (.bl _) (by simp [Rel])⟩
end
end L3
namespace HT
open L2
section
variable {prog:Program} {w:World} {A:Around} {E:Value->Shared->Prop} {s:Shared}
theorem zeg {t sl:Addr} {items:Array Value} {vl vu:Value} {lo hi:Option Int} {Q:Value->Shared->Prop} (ht:IsTup s.heap t items) (hs:s.heap.IsSliceOf sl vl vu .none) (pl:IsPart vl lo) (pu:IsPart vu hi)
  (hw:sIx items.size 0 lo=0/\sIx items.size items.size hi=items.size) (h:Q (.ref t) s):wpAny (model prog w) A (getItem (.ref t) (.ref sl)) Q E s:=by
 obtain ⟨os,hos,hcs,hds⟩:=id hs
 have hTs:s.TypeIs (.ref sl) "slice":=⟨os,hos,hcs⟩
 unfold getItem
 try with_reducible refine qaO ?_
 first | refine qaW (qaX ?_) | skip
 refine qaW (wpAny_sequenceKey ht.typeIs (by decide) ?_)
 refine qaW (wpAny_callSpecial?_slot (name:=Str.ofString "__getitem__") ht.typeIs PyProof.Rows.slot_tuple_getitem
   (wpAny_call_entry PyProof.Rows.slot_tuple_getitem ht.typeIs entry_tuple_getitem ?_ (args_tuple_getitem _ _)))
 show wpAny _ _ (Builtin.Tuple.tupleItemsOf (.ref t)>>=_) _ _ s
 refine qaW (tupleItemsOf_ ht ?_)
 refine qaW (wpAny_typeOf hTs ?_)
 rw [qa4 (by decide)]
 refine qaW (zdA hs pl pu ?_)
 show wpAny _ _ (if (((sIx items.size 0 lo:Nat):Int)==0 && (1:Int)==1 && (sIx items.size items.size hi - sIx items.size 0 lo)==items.size)=true then _ else _) _ _ s
 rw [hw.1,hw.2,qa4 (by simp)]
 refine qaW (m:=Builtin.Tuple.tupleIsExact _) (qaW (wpAny_typeOf ht.typeIs (qaX ?_)))
 rw [qa4 (by decide)]
 refine qaW (wpAny_rule ?_)
 exact qaX ⟨_,rfl,qaX h⟩
theorem zoA (xs:Array Value):((List.range xs.size).filterMap λ(m:Nat)=>xs[((xs.size:Int) - 1+(m:Int)*(-1)).toNat]?).toArray=xs.toList.reverse.toArray:=by
 congr 1
 have e: ∀ n,n<=xs.size->(List.range n).filterMap (λ(m:Nat)=>xs[((xs.size:Int) - 1+(m:Int)*(-1)).toNat]?)=(xs.toList.reverse).take n:=by
  intro n
  induction n with
  | zero=>intro _;simp
  | succ n ih=>
   intro hn
   rw [List.range_succ,List.filterMap_append,ih ⋯,List.take_add_one]
   congr 1
   have e1:((xs.size:Int) - 1+(n:Int)*(-1)).toNat=xs.size - 1 - n:=by omega
   rw [qat,List.filterMap_nil,e1]
   have h1:xs.size - 1 - n<xs.size:=by omega
   rw [List.getElem?_reverse (by simp;omega)]
   simp [h1]
 rw [e _ (qaV _),List.take_of_length_le (by simp)]
end
end HT
namespace L2
section
variable {X:Cx} {e:Expr} {te:TE} {pos p2:Pos}
theorem zrv:SlR X (λx lo hi H Q=> ∃ a xs,x= .ref a/\SqT X.K H a xs/\(HT.sIx xs.length 0 lo=0/\HT.sIx xs.length xs.length hi=xs.length)/\Q (.ref a) H):=by
 intro pins s σ H x v vl vu lo hi sl Q I rx hs pl pu h
 obtain ⟨a,xs,rfl,hx,hw,q⟩:=h
 cases rx
 obtain ⟨its,r,ht,hz⟩:=I.tuple hx
 have hlen:its.toArray.size=xs.length:=by rw [qaA];exact r.length.symm
 refine ⟨"tuple",_,PyProof.Rows.slot_tuple_getitem.lookup,ht.typeIs,?_⟩
 exact HT.zeg ht hs pl pu (by rw [hlen];exact hw) ⟨.ref a,H,I,rfl,q⟩
theorem zfp:fillsNumberSlot (.type "tuple") "mul"=pure false:=
 PySem.fillsNumberSlot_seq (id:="tuple.__mul__") (r:=some (.builtin "tuple.__rmul__")) F.slot_tuple_mul.lookup ⋯ F.slot_tuple_rmul.lookup ⋯
theorem ziy:seqRepeat? (.type "tuple")=pure (some (.builtin "tuple.__mul__")):=by
 unfold seqRepeat?
 rw [PySem.seqSlot_of (T:="tuple") (name:="__mul__") (id:="tuple.__mul__") F.slot_tuple_mul.lookup ⋯,PySem.seqSlot_of (T:="tuple") (name:="__rmul__") (id:="tuple.__rmul__") F.slot_tuple_rmul.lookup ⋯]
 rfl
theorem zgw (k:Int) (t:Tok) (l:Addr) (items:Array Value) (n:Nat) (dd:Option Addr) (sl:Array (Option Value)):
  Meets (Builtin.«int.__rmul__» ⟨[.int k t,.ref l],[]⟩) (λ_ R s=>s.heap.get? l=some {cls:= .type "tuple",dict:=dd,data:= .seq items n,slots:=sl}/\R (.ok (.ret Value.notImplemented)) s):=
 .of_wp λprog w A R s h=>by obtain ⟨hp,g,d,tk,os⟩:=s;obtain ⟨hl,h⟩:=h;wp_walk;exact ⟨_,rfl,h⟩
theorem znl (k:Int) (t:Tok) (l:Addr) (items:Array Value) (n:Nat) (dd:Option Addr) (sl:Array (Option Value)) (hne:items.isEmpty=false) (hk:2<=k) (hk2:k<1000) (hz:items.size*k.toNat<=sizeLine):
  Meets (Builtin.«tuple.__mul__» ⟨[.ref l,.int k t],[]⟩) (λ_ R s=>s.heap.get? l=some {cls:= .type "tuple",dict:=dd,data:= .seq items n,slots:=sl}/\
    R (.ok (.ret (.ref s.heap.objs.size))) {s with heap:=s.heap.push {cls:= .type "tuple",data:= .seq ((replicate k.toNat items).foldl (· ++ ·) #[])}}):=
 .of_wp λprog w A R s h=>by
  obtain ⟨hp,g,d,tk,os⟩:=s;obtain ⟨hl,h⟩:=h
  unfold Builtin.«tuple.__mul__» 
  wp_walk
  have hk63: ¬(decide (k< -2^63) || decide (k>=2^63))=true:=by
   rw [Bool.or_eq_true,qaD,qaD]
   omega
  rw [qa5 hk63]
  dsimp only
  have ht:IsTup hp l items:=⟨_,hl,rfl,_,rfl⟩
  refine qaW (tupleItemsOf_ ht ?_)
  have h1: ¬(items.isEmpty || k==1)=true:=by
   rw [hne,Bool.false_or,beq_iff_eq]
   omega
  rw [qa5 h1]
  have h2: ¬(decide (k<=0) || items.isEmpty)=true:=by
   rw [hne,Bool.or_false,qaD]
   omega
  rw [qa5 h2]
  have hk0:((k.toNat:Nat):Int)=k:=toNat_of_nonneg ⋯
  have hm:((items.size:Nat):Int)*k=((items.size*k.toNat:Nat):Int):=by rw [Int.natCast_mul,hk0]
  have hsl:(sizeLine:Nat)=16777216:=by decide
  have h3: ¬((items.size:Int)*k>(2^63 - 1) / 8):=by
   rw [hm]
   omega
  rw [qa5 h3]
  have h4: ¬Builtin.Tuple.tupleTooMany ((items.size:Int)*k)=true:=by
   unfold Builtin.Tuple.tupleTooMany
   rw [hm,qaD]
   omega
  rw [qa5 h4]
  have hsz:sizeOk (.seq (List.foldl (λx1 x2=>x1++x2) #[] (replicate k.toNat items))):=by
   show (List.foldl (λx1 x2=>x1++x2) #[] (replicate k.toNat items)).size<=sizeLine
   have e: ∀ (m:Nat) (acc:Array Value),(List.foldl (λx1 x2=>x1++x2) acc (replicate m items)).size=acc.size+m*items.size:=by
    intro m
    induction m with
    | zero=>intro acc;simp
    | succ m ih=>intro acc;rw [replicate_succ,foldl_cons,ih,Array.size_append,Nat.succ_mul];omega
   rw [e,Nat.mul_comm]
   simpa using hz
  exact qaW (m:=Builtin.Tuple.tupleExact _) (qaC (qaX ⟨_,rfl,h⟩) hsz)
theorem zqf:OpR X (binaryOp .Mult) (λx y H Q=> ∃ a k xs,x= .ref a/\y= .int k/\SqT X.K H a xs/\xs≠[]/\2<=k/\k<1000/\xs.length*k.toNat<=sizeLine/\ ∀ p,H p=none->Q (.ref p) (upd H p (.tup (replicate k.toNat xs).flatten))):=by
 intro pins s σ H x y v u Q I rx ry h
 obtain ⟨a,k,xs,rfl,rfl,hx,hne,h1,h2,hz,q⟩:=h
 cases rx
 obtain ⟨t,rfl⟩:=ry
 obtain ⟨its,r,ht,_⟩:=I.tuple hx
 have hl:=r.length
 obtain ⟨⟨cls,dd,data,sl⟩,ho,hc,n,hd⟩:=id ht
 simp only at hc hd
 subst hc hd
 have hemp:its.toArray.isEmpty=false:=by
  cases its with
  | nil=>cases r;exact absurd rfl hne
  | cons _ _=>simp
 refine wpAny_binaryOp_repeat_ref (T:="tuple") (U:="int") (by decide) ⟨_,ho,rfl⟩ (λs'=>typeIs_int s' k t) zfp F.fills_int_mul F.slot_int_rmul ziy F.slot_int_index.lookup
  (call_meets F.slot_int_rmul (typeIs_int s k t) F.entry_int_rmul (F.args_int_rmul_2 _ _) (zgw k t a its.toArray n dd sl)
    ⟨ho,rfl,⟨_,ho,rfl⟩,call_meets F.slot_tuple_mul ⟨_,ho,rfl⟩ F.entry_tuple_mul (F.args_tuple_mul_2 _ _) (znl k t a its.toArray n dd sl hemp h1 h2 (by rw [qaA, <-hl];exact hz)) ⟨ho,?_⟩⟩)
 have hnew:List.foldl (λx1 x2=>x1++x2) #[] (replicate k.toNat its.toArray)=(replicate k.toNat its).flatten.toArray:=by
  have:=ziv its k.toNat []
  rw [nil_append] at this
  exact this
 rw [hnew]
 refine ⟨.ref _,_,I.laid (t':=s.toks) (o:= .tup (replicate k.toNat xs).flatten) (λb ob q=>qag _ q) (qaV _) ?_,rfl,q _ (I.hok.fresh (qaV _))⟩
 exact ⟨by rw [zrC,Nat.mul_comm];exact hz,_,r.rep k.toNat,zll.new _ _⟩
end
end L2
namespace LT
abbrev Up (xs:Array Nat):Prop:=xs.toList.Pairwise (· < ·)
theorem Up.lt {xs:Array Nat} (h:Up xs) {i j:Nat} {a b:Nat} (hi:xs[i]? = some a) (hj:xs[j]? = some b) (hij:i<j):a<b:=by
 have hi':xs.toList[i]? = some a:=by simpa using hi
 have hj':xs.toList[j]? = some b:=by simpa using hj
 obtain ⟨h1,e1⟩:=qac.mp hi'
 obtain ⟨h2,e2⟩:=qac.mp hj'
 have:=List.pairwise_iff_getElem.mp h i j h1 h2 hij
 rw [e1,e2] at this
 exact this
theorem zhG {xs:Array Nat} (h:Up xs) (j:Nat): ∀ (fuel lo hi:Nat),hi - lo<=fuel->lo<=hi->hi<=xs.size->(∀ i a,i<lo->xs[i]? = some a->a<j)->(∀ i a,hi<=i->xs[i]? = some a->j<=a)->
  let r:=SetTable.below.go xs j fuel lo hi
  r<=xs.size/\(∀ i a,i<r->xs[i]? = some a->a<j)/\(∀ i a,r<=i->xs[i]? = some a->j<=a)
 | 0,lo,hi,hf,hl,hs,h1,h2=>by
  have e:lo=hi:=by omega
  subst e
  exact ⟨hs,h1,h2⟩
 | fuel+1,lo,hi,hf,hl,hs,h1,h2=>by
  unfold SetTable.below.go
  by_cases hlt:lo<hi
  ·rw [qa4 hlt]
   have hm:(lo+hi) / 2<xs.size:=by omega
   have em:xs[(lo+hi) / 2]? = some xs[(lo+hi) / 2]:=by simp [hm]
   have eg:xs.getD ((lo+hi) / 2) j=xs[(lo+hi) / 2]:=by simp [Array.getD,hm]
   dsimp only
   by_cases hc:xs.getD ((lo+hi) / 2) j<j
   ·rw [qa4 hc]
    refine zhG h j fuel _ hi ⋯ ⋯ hs (λi a hi' e=> ?_) h2
    rw [eg] at hc
    by_cases z:i=(lo+hi) / 2
    ·subst z;rw [em] at e;cases e;exact hc
    ·exact lt_trans (h.lt e em ⋯) hc
   ·rw [qa5 hc]
    refine zhG h j fuel lo _ ⋯ ⋯ ⋯ h1 λi a hi' e=> ?_
    rw [eg] at hc
    by_cases z:i=(lo+hi) / 2
    ·subst z;rw [em] at e;cases e;omega
    ·have:=h.lt em e ⋯
     omega
  ·rw [qa5 hlt]
   have e:lo=hi:=by omega
   subst e
   exact ⟨hs,h1,h2⟩
theorem zhp {xs:Array Nat} (h:Up xs) (j:Nat):SetTable.below xs j<=xs.size/\(∀ i a,i<SetTable.below xs j->xs[i]? = some a->a<j)/\(∀ i a,SetTable.below xs j<=i->xs[i]? = some a->j<=a):=
 zhG h j xs.size 0 xs.size ⋯ (zero_le _) (qaV _) (λ_ _ z=>absurd z (Nat.not_lt_zero _)) λi a z e=>by
  have:=(qab.mp e).1
  omega
theorem zgU {xs:Array Nat} (h:Up xs) {k a:Nat} (e:xs[k]? = some a):SetTable.below xs (a+1)=k+1:=by
 obtain ⟨h1,h2,h3⟩:=zhp h (a+1)
 by_cases c:SetTable.below xs (a+1)<=k
 ·have:=h3 k a c e
  omega
 ·by_cases c2:k+1<SetTable.below xs (a+1)
  ·have hl:k+1<xs.size:=by omega
   have e2:xs[k+1]? = some xs[k+1]:=by simp [hl]
   have a1:=h2 (k+1) _ c2 e2
   have a2:=h.lt e e2 ⋯
   omega
  ·omega
theorem zgS {xs:Array Nat} (h:Up xs):SetTable.below xs 0=0:=by
 obtain ⟨h1,h2,h3⟩:=zhp h 0
 by_cases c:SetTable.below xs 0=0
 ·exact c
 ·have hl:0<xs.size:=by omega
  exact absurd (h2 0 _ ⋯ (show xs[0]? = some xs[0] by simp [hl])) (Nat.not_lt_zero _)
theorem zm3 {xs:Array Nat} (h:Up xs) {j:Nat} (hn:xs[SetTable.below xs j]? ≠ some j):Up (SetTable.insertAt xs (SetTable.below xs j) j):=by
 obtain ⟨h1,h2,h3⟩:=zhp h j
 show (SetTable.insertAt xs (SetTable.below xs j) j).toList.Pairwise (· < ·)
 rw [SetTable.toList_insertAt]
 rw [List.pairwise_append]
 have hsplit:xs.toList.take (SetTable.below xs j)++xs.toList.drop (SetTable.below xs j)=xs.toList:=List.take_append_drop ..
 have hp:(xs.toList.take (SetTable.below xs j)++xs.toList.drop (SetTable.below xs j)).Pairwise (· < ·):=by rw [hsplit];exact h
 obtain ⟨p1,p2,p3⟩:=List.pairwise_append.mp hp
 have tk: ∀ a∈xs.toList.take (SetTable.below xs j),a<j:=λa ha=>by
  obtain ⟨i,hi⟩:=List.mem_iff_getElem?.mp ha
  rw [List.getElem?_take] at hi
  split at hi
  ·rename_i hlt
   exact h2 i a hlt (by simpa using hi)
  ·cases hi
 have dr: ∀ a∈xs.toList.drop (SetTable.below xs j),j<a:=λa ha=>by
  obtain ⟨i,hi⟩:=List.mem_iff_getElem?.mp ha
  rw [List.getElem?_drop] at hi
  have hi':xs[SetTable.below xs j+i]? = some a:=by simpa using hi
  have a1:=h3 _ a ⋯ hi'
  rcases Nat.lt_or_eq_of_le a1 with z | z
  ·exact z
  ·subst z
   exfalso
   cases i with
   | zero=>exact hn hi'
   | succ i=>
    have hl:=(qab.mp hi').1
    have e0:xs[SetTable.below xs j]? = some xs[SetTable.below xs j]:=by
     have:SetTable.below xs j<xs.size:=by omega
     simp [this]
    have b1:=h3 _ _ (qaV _) e0
    have b2:=h.lt e0 hi' ⋯
    omega
 refine ⟨p1,qay.mpr ⟨dr,p2⟩,λa ha b hb=> ?_⟩
 rcases qaP.mp hb with z | z
 ·rw [z];exact tk a ha
 ·exact p3 a ha b z
structure zjw (t:SetTable) (led:Bool):Prop where
 up:Up t.place
 nod:t.dummies= #[]
 led:t.led=led
theorem zjQ {j:Nat}:SetTable.has #[] j=false:=by
 unfold SetTable.has
 simp
theorem znf {t:SetTable} {led:Bool} (g:zjw t led) {j:Nat} (h:t.slot j= .empty):t.place[SetTable.below t.place j]? ≠ some j:=λe=>by
 unfold SetTable.slot at h
 dsimp only at h
 rw [e] at h
 simp at h
theorem zke {t:SetTable} {led:Bool} (g:zjw t led) (f:Nat->Int) (h:Int): ∀ (fuel:Nat) (p:SetTable.Probe) (j:Nat) (d:Option Nat),p.dummy=none->SetTable.probe.go t f h fuel p=some (.empty j d)->t.slot j= .empty/\d=none
 | 0,_,_,_,_,e=>by cases e
 | fuel+1,p,j,d,hp,e=>by
  unfold SetTable.probe.go at e
  have adv: ∀ q:SetTable.Probe,q.dummy=none->(t.advance q).dummy=none:=λq hq=>by
   unfold SetTable.advance
   split<;>exact hq
  split at e
  ·rename_i hs
   cases e
   exact ⟨hs,hp⟩
  ·rename_i hs
   exfalso
   unfold SetTable.slot at hs
   dsimp only at hs
   rw [g.nod,zjQ] at hs
   split at hs<;>simp at hs
  ·split at e
   ·cases e
   ·exact zke g f h fuel _ j d (adv p hp) e
theorem zho {t:SetTable} {led:Bool} (g:zjw t led) {h:Int} {j:Nat} {b:Bool} (e:t.freeSlot h=some (j,b)):t.place[SetTable.below t.place j]? ≠ some j:=by
 unfold SetTable.freeSlot at e
 split at e
 ·rename_i j' d' hpr
  obtain ⟨h1,h2⟩:=zke g _ _ _ _ _ _ rfl hpr
  subst h2
  cases e
  exact znf g h1
 ·cases e
theorem zn6 (n:Nat):Up (Array.range n):=by
 show (Array.range n).toList.Pairwise (· < ·)
 rw [Array.toList_range]
 exact List.pairwise_lt_range
theorem zcK {t:SetTable} {led:Bool} (g:zjw t led) (n:Nat):zjw (t.standIn n) led:=⟨zn6 n,rfl,g.led⟩
theorem zjD {t:SetTable} {led:Bool} (g:zjw t led) (es:Array (Int×Value)) (h:Int) (x:Value):zjw (layNew t es h x).2.1 led:=by
 unfold layNew
 split
 ·rename_i slot wasDummy e
  have g2:zjw (t.put slot).1 led:=by
   refine ⟨zm3 g.up (zho g e),?_,g.led⟩
   show (if SetTable.has t.dummies slot then _ else t.dummies)= #[]
   rw [g.nod,zjQ]
   rfl
  show zjw ((t.put slot).1.orStandIn _) led
  unfold SetTable.orStandIn
  split
  ·exact g2
  ·exact zcK g2 _
 ·exact zcK g _
theorem zmv {mask finger moves:Nat} {led plain:Bool} {hs:Array Int} {t:SetTable} {o:Array Nat} (e:SetTable.laid mask finger moves led plain hs=some (t,o)):zjw t led:=by
 unfold SetTable.laid at e
 cases z:SetTable.layClean mask hs with
 | none=>rw [z] at e;cases e
 | some owner=>
  rw [z] at e
  have e:some (({mask,place:=(((List.range (mask+1)).filterMap λj=>(owner.getD j none).map (j, ·)).map (·.1)).toArray,dummies:= #[],finger,led,moves,plain}:SetTable),_)=some (t,o):=e
  cases e
  refine ⟨?_,rfl,rfl⟩
  show (((List.range (mask+1)).filterMap λj=>(owner.getD j none).map (j, ·)).map (·.1)).toArray.toList.Pairwise (· < ·)
  rw [List.toList_toArray,List.map_filterMap]
  have sub:List.Sublist ((List.range (mask+1)).filterMap λj=>((owner.getD j none).map (j, ·)).map (·.1)) (List.range (mask+1)):=by
   generalize List.range (mask+1)=l
   induction l with
   | nil=>exact .slnil
   | cons a r ih=>
    rw [qat]
    cases q:owner.getD a none with
    | none=>exact ih.cons a
    | some v=>exact ih.cons₂ a
  exact List.pairwise_lt_range.sublist sub
theorem zg8 {t:SetTable} {led:Bool} (g:zjw t led) (es:Array (Int×Value)) (wanted:Nat):zjw (relayAll t es wanted).2.1 led:=by
 unfold relayAll
 split
 ·rename_i t' order e
  have g2:zjw t' t.led:=zmv e
  rw [g.led] at g2
  dsimp only
  split
  ·exact g2
  ·exact zcK g _
 ·exact zcK g _
def zdp (w:World):Bool:= !w.params.followText "set-order"
def zhT (prog:Program) (w:World) (h:Heap) (a:Addr) (S:Int->Bool) (n:Nat):Prop:=
 ∃ ob es ep tb,(h.get? a=some ob/\ob.ExactSet/\ob.data= .set es ep tb)/\ElemsOf (intKind prog w) es.toList/\(∀ k,S k=true↔ ∃ e∈es.toList,(intKind prog w).is k e.2=true)/\
  (es.size<scanBound/\tb.fits es.size=true/\es.size=n)/\zjw tb (zdp w)
theorem zhT.move {prog:Program} {w:World} {h h':Heap} {a:Addr} {S S':Int->Bool} {n n':Nat} (g:zhT prog w h a S n) (k: ∀ ob,h.get? a=some ob->h'.get? a=some ob) (e: ∀ k,S k=S' k) (en:n=n'):zhT prog w h' a S' n':=by
 obtain ⟨ob,es,ep,tb,⟨h1,h2,h3⟩,h4,h5,⟨h6,h7,h8⟩,h9⟩:=g
 exact ⟨ob,es,ep,tb,⟨k ob h1,h2,h3⟩,h4,λz=>by rw [<- e z];exact h5 z,⟨h6,h7,h8.trans en⟩,h9⟩
section
variable {prog:Program} {w:World} {A:Around} {E:Value->Shared->Prop} {s:Shared}
theorem stored {a:Addr} {ob:Obj} {es es':Array (Int×Value)} {ep:Nat} {tb tb':SetTable} {S:Int->Bool} {R:Unit->Shared->Prop} (ho:s.heap.get? a=some ob) (hx:ob.ExactSet) (hd:ob.data= .set es ep tb)
  (hE:ElemsOf (intKind prog w) es'.toList) (hS: ∀ k,S k=true↔ ∃ e∈es'.toList,(intKind prog w).is k e.2=true) (hb:es'.size<scanBound) (hf:tb'.fits es'.size=true) (hg:zjw tb' (zdp w))
  (q: ∀ h',Heap.SameBut a s.heap h'->h'.get? a=some {ob with data:= .set es' (ep+1) tb'}->zhT prog w h' a S es'.size->R () {s with heap:=h'}):wpAny (model prog w) A (storeSet a es' tb') R E s:=by
 have put:=putSet_of es' tb' hd
 have at1:(s.heap.update a (Obj.putSet es' tb')).get? a=some {ob with data:= .set es' (ep+1) tb'}:=by
  have z:=qal (Obj.putSet es' tb') ho (by rw [put];rfl)
  rwa [put] at z
 exact wpAny_storeSet_of ho hd (q _ (Heap.SameBut.update ..) at1 ⟨_,es',ep+1,tb',⟨at1,hx,rfl⟩,hE,hS,⟨hb,hf,rfl⟩,hg⟩) (fits_of_scanBound hb)
theorem zwm {a:Addr} {S:Int->Bool} {n:Nat} {k:Int} {t:Tok} {Q:Bool->Shared->Prop} (g:zhT prog w s.heap a S n) (room:n+1<scanBound)
  (q: ∀ h' b,Heap.SameBut a s.heap h'->zhT prog w h' a (λz=>S z || decide (z=k)) (if S k then n else n+1)->Q b {s with heap:=h'}):
  wpAny (model prog w) A (setAddHashed a (.int k t) ((intKind prog w).hash k)) Q E s:=by
 have kis:(intKind prog w).is k (.int k t)=true:=intKind_is _ _ _ _
 obtain ⟨ob,es,ep,tb,⟨h1,h2,h3⟩,h4,h5,⟨h6,h7,h8⟩,h9⟩:=g
 have scn:(Value.int k t).scannable=true:=rfl
 unfold setAddHashed setAddHashedIn
 refine qaO (qaW (wpAny_setState_of h1 h3 h7 ?_))
 dsimp only
 rw [qa4 (byScan_of scn h6 h4)]
 refine qaW ?_
 unfold setAddByScan
 refine qaW (wpAny_rule (qaW (wpAny_setScan_of kis h1 h3 h7 h4 ?_)))
 cases fi:List.findIdx? (λe=>(intKind prog w).is k e.2) es.toList with
 | some j=>
  obtain ⟨lj,pj,_⟩:=List.findIdx?_eq_some_iff_getElem.mp fi
  have inS:S k=true:=(h5 k).mpr ⟨_,getElem_mem lj,pj⟩
  refine qaX (qaX ?_)
  have z:=q s.heap false (Heap.SameBut.refl ..) ⟨ob,es,ep,tb,⟨h1,h2,h3⟩,h4,λy=> ?_,⟨h6,h7,by rw [inS];exact h8⟩,h9⟩
  ·exact z
  ·rw [<- h5 y,Bool.or_eq_true,qaD]
   exact ⟨λc=>c.elim id λc=>by rw [c];exact inS,.inl⟩
 | none=>
  have noS:S k=false:=by
   rw [<- Bool.not_eq_true,h5 k]
   rintro ⟨e,he,pe⟩
   have:=List.findIdx?_eq_none_iff.mp fi e he
   rw [pe] at this
   cases this
  have L1:=layNew_perm tb es ((intKind prog w).hash k) (.int k t)
  have L2:=layNew_fits tb es ((intKind prog w).hash k) (.int k t)
  have L3:=zjD h9 es ((intKind prog w).hash k) (.int k t)
  generalize hl:layNew tb es ((intKind prog w).hash k) (.int k t)=ln at L1 L2 L3 ⊢
  obtain ⟨es1,tb1,wd,gv⟩:=ln
  dsimp only at L1 L2 L3 ⊢
  rw [Array.toList_push] at L1
  have E1:ElemsOf (intKind prog w) es1.toList:=(h4.push kis scn).perm L1
  have M1: ∀ y,(S y || decide (y=k))=true↔ ∃ e∈es1.toList,(intKind prog w).is y e.2=true:=mem_push_iff kis h5 L1
  have Z1:es1.size=n+1:=by
   have z:=L1.length_eq
   rw [qav,qas,qas] at z
   rw [z,h8];rfl
  have B1:es1.size<scanBound:=by rw [Z1];exact room
  have quiet: ∀ (b:Bool) (s1:Shared) (R:Unit->Shared->Prop),R () s1->wpAny (model prog w) A (match b with | true=>rule "set.scan.the-table-gave-way" | false=>pure ()) R E s1:=λb s1 R z=>by
   cases b
   ·exact qaX z
   ·exact wpAny_rule z
  have fin: ∀ (s1:Shared) (h':Heap),s1={s with heap:=h'}->Heap.SameBut a s.heap h'->zhT prog w h' a (λy=>S y || decide (y=k)) es1.size->Q true s1:=λs1 h' e1 sb gg=>by
   subst e1
   have z:=q h' true sb
   rw [noS] at z
   exact z (by rw [Z1] at gg;exact gg)
  refine qaW (quiet _ _ _ ?_)
  have tail: ∀ (gw:Bool->Sem Unit),(∀ (b:Bool) (s1:Shared) (R:Unit->Shared->Prop),R () s1->wpAny (model prog w) A (gw b) R E s1)->wpAny (model prog w) A (do
      storeSet a es1 tb1
      if (!wd && tb1.tooFull)=true then do
        gw (relayAll tb1 es1 (SetTable.grown es1.size)).2.2
        storeSet a (relayAll tb1 es1 (SetTable.grown es1.size)).1 (relayAll tb1 es1 (SetTable.grown es1.size)).2.1
        pure (some true)
      else pure (some true)) (λr s'=>wpAny (model prog w) A (match r with | some b=>pure b | none=>setAddHashedIn a (.int k t) ((intKind prog w).hash k) 99999) Q E s') E s:=by
   intro gw hgw
   refine qaW (stored h1 h2 h3 E1 M1 B1 L2 L3 λh' sb at1 gg=> ?_)
   by_cases full:(!wd && tb1.tooFull)=true
   ·rw [qa4 full]
    have P2:=relayAll_perm tb1 es1 (SetTable.grown es1.size)
    have F2:=relayAll_fits tb1 es1 (SetTable.grown es1.size)
    have G2:=zg8 L3 es1 (SetTable.grown es1.size)
    generalize relayAll tb1 es1 (SetTable.grown es1.size)=rl at P2 F2 G2 ⊢
    obtain ⟨es2,tb2,gv2⟩:=rl
    dsimp only at P2 F2 G2 ⊢
    have Z2:es2.size=es1.size:=by
     have z:=P2.length_eq
     rwa [qas,qas] at z
    refine qaW (hgw _ _ _ (qaW (stored (s:={s with heap:=h'}) (S:=λy=>S y || decide (y=k)) at1 h2 rfl (E1.perm P2) (λy=>(M1 y).trans ?_) (by rw [Z2];exact B1) F2 G2 λh'' sb2 _ gg2=> ?_)))
    ·exact ⟨λ⟨e,he,pe⟩=>⟨e,P2.mem_iff.mpr he,pe⟩,λ⟨e,he,pe⟩=>⟨e,P2.mem_iff.mp he,pe⟩⟩
    ·exact qaX (qaX (fin _ h'' rfl (sb.trans sb2) (by rw [Z2] at gg2;exact gg2)))
   ·rw [qa5 full]
    exact qaX (qaX (fin _ h' rfl sb gg))
  split
  ·rw [hashByValue_scannable 8 scn]
   refine qaW (qaX ?_)
   exact tail _ λb s1 R z=>by cases b<;>first | exact qaX z | exact wpAny_rule z
  ·refine qaW (qaX ?_)
   exact tail _ λb s1 R z=>by cases b<;>first | exact qaX z | exact wpAny_rule z
end
section
variable {prog:Program} {w:World} {A:Around} {R:Result->Shared->Prop} {it:Addr} {fp wr:List Addr} {G:Array GenState->Array GenState->Prop} {n:Nat} {P:Nat->Value->Prop} {St:Nat->Shared->Prop}
theorem zvQ (W:WalksS prog w A.in1 it fp wr G n P St) (a:Addr) (ha:a∉fp) (val:Nat->Int) (hval: ∀ i v,P i v-> ∃ t,v= .int (val i) t) (room:n+1<scanBound):
  ∀ (left i:Nat) (s:Shared),n - i=left->i<=n->St i s->zhT prog w s.heap a (λz=>(firstMet val i).any (· == z)) (firstMet val i).length->
   (∀ s',Moved (a::wr) G s s'->zhT prog w s'.heap a (λz=>(firstMet val n).any (· == z)) (firstMet val n).length->R (.ok (.ret .none)) s')->
   codeAny (model prog w) A (.builtin "set.update.loop" ⟨[.ref a,.ref it],[]⟩) R s:=by
 have awr:a∉wr:=λz=>ha (W.sub _ z)
 have more: ∀ b∈wr,b∈a::wr:=λb z=> .tail _ z
 intro left
 induction left with
 | zero=>
  intro i s hleft hin st g q
  obtain rfl:i=n:=by omega
  refine codeAny_builtin F.entry_set_update_loop ?_
  rw [qap F.plain_set_update_loop _]
  show wpAny _ _ (pyNext (.ref it)>>=_) _ _ _
  refine qaW (W.done s _ _ st λs' mv=> ?_)
  exact qaX (q s' (mv.mono more) (g.move (λob e=>mv.heap a ob awr e) (λ_=>rfl) rfl))
 | succ left ih=>
  intro i s hleft hin st g q
  have hi:i<n:=by omega
  refine codeAny_builtin F.entry_set_update_loop ?_
  rw [qap F.plain_set_update_loop _]
  show wpAny _ _ (pyNext (.ref it)>>=_) _ _ _
  refine qaW (W.item i s _ _ hi st λv s1 pv st1 mv=> ?_)
  obtain ⟨t,rfl⟩:=hval i v pv
  have g1:zhT prog w s1.heap a (λz=>(firstMet val i).any (· == z)) (firstMet val i).length:=g.move (λob e=>mv.heap a ob awr e) (λ_=>rfl) rfl
  show wpAny _ _ (holding [Value.int (val i) t] (setAdd a (.int (val i) t))>>=_) _ _ _
  refine qaW (qaO ?_)
  unfold setAdd
  refine qaO (qaW ((intKind prog w).pyHash (k:=val i) (intKind_is _ _ _ _) ?_))
  have few:=firstMet_length_le val i
  refine zwm (s:={s1 with toks:=s1.toks+1}) g1 ⋯ λh2 b sb g2=> ?_
  have g3:zhT prog w h2 a (λz=>(firstMet val (i+1)).any (· == z)) (firstMet val (i+1)).length:=
   g2.move (λ_ e=>e) (λz=>by rw [firstMet_succ,step_any]) (by rw [firstMet_succ,step_length])
  have off: ∀ b,b≠a->h2.get? b=s1.heap.get? b:=λb hb=>sb.2 b hb
  refine qaX ⟨plainId_quiet F.plain_set_update_loop _,ih (i+1) _ ⋯ hi (W.frame _ s1 _ _ st1 (le_succ _) λb hb ob e=> ?_) g3 λs3 mv3 g4=> ?_⟩
  ·rw [off b λz=>ha (z▸hb)]
   exact e
  ·refine q s3 (.trans W.gtrans ((mv.mono more).then_heap (le_succ _) λb ob hb e=> ?_) mv3) g4
   rw [off b λz=>hb (z▸ .head _)]
   exact e
end
section
variable {prog:Program} {w:World} {A:Around} {E:Value->Shared->Prop} {s:Shared}
theorem zpr (h:Heap):zhT prog w (h.push {cls:= .type "set",dict:=none,data:= .set #[] 0 (.fresh 0 0 (zdp w))}) h.objs.size (λ_=>false) 0:=
 ⟨_, #[],0,_,⟨qar _ rfl,⟨rfl,rfl,rfl⟩,rfl⟩,λe he=>by simp at he,λk=>by simp,⟨by decide,rfl,rfl⟩,⟨List.Pairwise.nil,rfl,rfl⟩⟩
theorem zwx (x:Value) {Q:Value->Shared->Prop} (q:Q (.ref s.heap.objs.size) {s with heap:=s.heap.push {cls:= .type "set",dict:=none,data:= .set #[] 0 (.fresh 0 0 (zdp w))}}):
  codeAny (model prog w) A (.call (.builtin "set.__new__") ⟨[.type "set",x],[]⟩) (wants Q E) s:=by
 refine codeAny_of_tree ?_
 show wpAny _ _ (do checkBuiltinCall "set.__new__" ⟨[.type "set",x],[]⟩;again (.builtin "set.__new__" ⟨[.type "set",x],[]⟩)) _ _ _
 refine qaW (wpAny_of_eq (F.newCall_set_1 x) (qaX ⟨plainId_quiet F.plain_set_new _,codeAny_builtin F.entry_set_new ?_⟩))
 rw [qap F.plain_set_new _]
 unfold Builtin.«set.__new__» Builtin.Frozenset.newClass
 have self:=sub_set_self
 obtain ⟨hp,gs,dr,tk,os⟩:=s
 dsimp only
 wp_walk
 refine wpAny_askSetting (qaX ?_)
 dsimp only
 simp only [newObj]
 exact qaW (wpAny_alloc (qaX (qaX q)))
theorem zvK {l:Addr} {T:String} {items:Array Value} {ns:List Int} {Q:Value->Shared->Prop} (hh:A.handled=none) (hT:(T="list"/\s.heap.IsList l items)\/(T="tuple"/\s.heap.IsTuple l items)) (hi:IntsAre items.toList ns) (room:items.size+1<scanBound)
  (q: ∀ (h':Heap) (tk:Nat),zhT prog w h' s.heap.objs.size (λz=>(firstMet (λi=>ns.getD i 0) items.size).any (· == z)) (firstMet (λi=>ns.getD i 0) items.size).length->(∀ b ob,s.heap.get? b=some ob->h'.get? b=some ob)->
    Q (.ref s.heap.objs.size) {s with heap:=h',toks:=tk}):wpAny (model prog w) A (call (.type "set") [.ref l]) Q E s:=by
 obtain ⟨c,tl,hmro⟩:=F.called_set.mro
 have hmade:=F.called_set.made
 have hsub:=F.called_set.sub
 refine wpAny_call (codeAny_of_tree ?_)
 show wpAny _ _ (callAny (.type "set") _) _ _ _
 refine qaX ⟨Code.quiet_builtin _ ⋯,codeAny_builtin F.entry_type_call ?_⟩
 rw [Around.under_plain (weight_type_call_type "set" [.ref l] []) rfl]
 have hnt:=F.called_set.notType
 have hcc:=F.called_set.canCreate
 have htc:=F.typeCall_set_1 (.ref l)
 repeat' (first | assumption | wp_step)
 refine codeAny_mono (zwx (.ref l) (E:=E) (Q:=λv s1=>v= .ref s.heap.objs.size/\s1={s with heap:=s.heap.push {cls:= .type "set",dict:=none,data:= .set #[] 0 (.fresh 0 0 (zdp w))}}) ⟨rfl,rfl⟩) λr s1 hr=> ?_
 cases r with
 | error e=>exact hr
 | ok fl=>
  cases fl with
  | ret v=>
   obtain ⟨rfl,rfl⟩:=hr
   have laid:(s.heap.push {cls:= .type "set",dict:=none,data:= .set #[] 0 (.fresh 0 0 (zdp w))}).get? s.heap.objs.size=some {cls:= .type "set",dict:=none,data:= .set #[] 0 (.fresh 0 0 (zdp w))}:=qar _ rfl
   have isSet:Shared.TypeIs {s with heap:=s.heap.push {cls:= .type "set",dict:=none,data:= .set #[] 0 (.fresh 0 0 (zdp w))}} (.ref s.heap.objs.size) "set":=⟨_,laid,rfl⟩
   have hli:=F.called_set.init.lookup
   have hbi:=F.called_set.init.bind (.ref s.heap.objs.size)
   repeat' (first | assumption | wp_step)
   refine codeAny_mono (codeAny_call_builtin (R:=wants (λz s2=>z= .none/\ ∃ h' tk,s2={s with heap:=h',toks:=tk}/\
       zhT prog w h' s.heap.objs.size (λz=>(firstMet (λi=>ns.getD i 0) items.size).any (· == z)) (firstMet (λi=>ns.getD i 0) items.size).length/\(∀ b ob,s.heap.get? b=some ob->h'.get? b=some ob)) E) F.called_set.init.plain F.entry_set_init (check_set_init_1 isSet ?_)) λr2 s2 hr2=> ?_
   ·have keepL: ∀ ob,s.heap.get? l=some ob->(s.heap.push {cls:= .type "set",dict:=none,data:= .set #[] 0 (.fresh 0 0 (zdp w))}).get? l=some ob:=λob e=>qag _ e
    have hval: ∀ (i:Nat) (v:Value),items[i]? = some v-> ∃ t,v= .int ((λi=>ns.getD i 0) i) t:=λi v hv=>IntsAre.int_at hi i v (by rw [Array.getElem?_toList];exact hv)
    have hh3:A.in1.in1.in1.handled=none:=by simp [hh]
    have done1: ∀ (l0:Addr) (h0:Heap) (s':Shared),l0=s.heap.objs.size->Moved [l0,(s.heap.push {cls:= .type "set",dict:=none,data:= .set #[] 0 (.fresh 0 0 (zdp w))}).objs.size] (λa b=>b=a) {s with heap:=h0} s'->(∀ b ob,s.heap.get? b=some ob->h0.get? b=some ob)->
      (∀ b ob,s.heap.get? b=some ob->s'.heap.get? b=some ob)/\s'={s with heap:=s'.heap,toks:=s'.toks}:=λl0 h0 s' e0 mv k0=>by
     refine ⟨λb ob e=>mv.heap b ob (λz=> ?_) (k0 b ob e),?_⟩
     ·have lt:=qaQ e
      rw [qaL,e0] at z
      simp only [qaP,qaF,or_false] at z
      rcases z with z | z
      ·exact qaN _ (z▸lt)
      ·exact qaN _ (Nat.lt_of_succ_lt (z▸lt))
     ·obtain ⟨h',g',d',tk',os'⟩:=s'
      have eg:g'=s.gens:=mv.gens
      have ed:d'=s.drawn:=mv.drawn
      have eo:os'=s.os:=mv.os
      subst eg ed eo
      rfl
    unfold Builtin.«set.__init__» noKeywords Builtin.Frozenset.updateFrom
    generalize hPI:pyIter=PI
    rcases hT with ⟨rfl,hl⟩ | ⟨rfl,hl⟩
    ·obtain ⟨⟨ocl,odi,oda,osl⟩,hol,hcl,nl,hdl⟩:=hl
     simp only at hcl hdl
     subst hcl hdl
     have hol':=keepL _ hol
     have f1:=F.sub_list_set
     have f2:=F.sub_list_frozenset
     have f3:(Value.type "list"==Value.type "dict")=false:=by decide
     wp_walk
     subst hPI
     have hl1:(s.heap.push {cls:= .type "set",dict:=none,data:= .set #[] 0 (.fresh 0 0 (zdp w))}).IsList l items:=⟨_,hol',rfl,nl,rfl⟩
     refine wpAny_pyIter_list hl1 ?_
     refine qaW (wpAny_runValue ?_)
     have ltl:l<s.heap.objs.size:=qaQ hol
     have szp:(s.heap.push {cls:= .type "set",dict:=none,data:= .set #[] 0 (.fresh 0 0 (zdp w))}).objs.size=s.heap.objs.size+1:=qaL ..
     have ne1:l≠(s.heap.push {cls:= .type "set",dict:=none,data:= .set #[] 0 (.fresh 0 0 (zdp w))}).objs.size:=by rw [szp];exact qaR (lt_succ_of_lt ltl)
     have ne2:s.heap.objs.size∉[(s.heap.push {cls:= .type "set",dict:=none,data:= .set #[] 0 (.fresh 0 0 (zdp w))}).objs.size,l]:=by
      rw [szp]
      simp only [qaP,qaF,or_false]
      rintro (z | z)
      ·exact Nat.succ_ne_self _ z.symm
      ·exact qaN _ (z▸ltl)
     refine zvQ ((Walks.list hh3 _ l ne1 items).toS) s.heap.objs.size ne2 (λi=>ns.getD i 0) hval room _ 0 _ rfl (zero_le _) ⟨⟨_,qar _ rfl,rfl,rfl⟩,hl1.push _⟩ ?g0 λs' mv gg=> ?_
     case g0=>exact (zpr s.heap).move (λob e=>qag _ e) (λ_=>rfl) rfl
     obtain ⟨k1,k2⟩:=done1 _ _ s' rfl mv λb ob e=>qag _ (qag _ e)
     exact qaX (qaX ⟨rfl,s'.heap,s'.toks,k2,gg,k1⟩)
    ·obtain ⟨⟨ocl,odi,oda,osl⟩,hol,hcl,nl,hdl⟩:=hl
     simp only at hcl hdl
     subst hcl hdl
     have hol':=keepL _ hol
     have f1:=F.sub_tuple_set
     have f2:=F.sub_tuple_frozenset
     have f3:(Value.type "tuple"==Value.type "dict")=false:=by decide
     wp_walk
     subst hPI
     have hl1:(s.heap.push {cls:= .type "set",dict:=none,data:= .set #[] 0 (.fresh 0 0 (zdp w))}).IsTuple l items:=⟨_,hol',rfl,nl,rfl⟩
     refine wpAny_pyIter_tuple hl1 ?_
     refine qaW (wpAny_runValue ?_)
     have ltl:l<s.heap.objs.size:=qaQ hol
     have szp:(s.heap.push {cls:= .type "set",dict:=none,data:= .set #[] 0 (.fresh 0 0 (zdp w))}).objs.size=s.heap.objs.size+1:=qaL ..
     have ne1:l≠(s.heap.push {cls:= .type "set",dict:=none,data:= .set #[] 0 (.fresh 0 0 (zdp w))}).objs.size:=by rw [szp];exact qaR (lt_succ_of_lt ltl)
     have ne2:s.heap.objs.size∉[(s.heap.push {cls:= .type "set",dict:=none,data:= .set #[] 0 (.fresh 0 0 (zdp w))}).objs.size,l]:=by
      rw [szp]
      simp only [qaP,qaF,or_false]
      rintro (z | z)
      ·exact Nat.succ_ne_self _ z.symm
      ·exact qaN _ (z▸ltl)
     refine zvQ ((Walks.tuple hh3 _ l ne1 items).toS) s.heap.objs.size ne2 (λi=>ns.getD i 0) hval room _ 0 _ rfl (zero_le _) ⟨⟨_,qar _ rfl,rfl,rfl⟩,⟨_,qag _ hol',rfl,nl,rfl⟩⟩ ?g0 λs' mv gg=> ?_
     case g0=>exact (zpr s.heap).move (λob e=>qag _ e) (λ_=>rfl) rfl
     obtain ⟨k1,k2⟩:=done1 _ _ s' rfl mv λb ob e=>qag _ (qag _ e)
     exact qaX (qaX ⟨rfl,s'.heap,s'.toks,k2,gg,k1⟩)
   ·cases r2 with
    | error e=>exact hr2
    | ok fl2=>
     cases fl2 with
     | ret z=>
      obtain ⟨rfl,h',tk,rfl,gg,k1⟩:=hr2
      repeat' (first | assumption | wp_step)
      exact q _ _ gg k1
     | _=>exact hr2.elim
  | _=>exact hr.elim
end
theorem zaR:Slot "set_iterator" "__next__" "set_iterator.__next__":= .of (owner:="set_iterator") (n:="__next__") (by rw [typeLookup_type,builtinLookup_eq_fast];kernel_rfl) ⋯ ⋯ ⋯ (by first | exact .inl ⋯ | exact .inr ⋯) (by rw [isSubtype_type];kernel_rfl)
theorem zeE:Slot "set_iterator" "__iter__" "set_iterator.__iter__":= .of (owner:="set_iterator") (n:="__iter__") (by rw [typeLookup_type,builtinLookup_eq_fast];kernel_rfl) ⋯ ⋯ ⋯ (by first | exact .inl ⋯ | exact .inr ⋯) (by rw [isSubtype_type];kernel_rfl)
theorem zcW:entryFor table "set_iterator.__next__"=some Builtin.«set_iterator.__next__» := entryFor_of_tree (by kernel_rfl)
theorem zgF:entryFor table "set_iterator.__iter__"=some Builtin.«dict_keyiterator.__iter__» := entryFor_alias (id':="dict_keyiterator.__iter__") (by kernel_rfl) rfl ⋯ (by kernel_rfl)
theorem zdl (a:Value):argsOk "set_iterator.__next__" ⟨[a],[]⟩:=by unfold argsOk;kernel_rfl
theorem zhj (a:Value):argsOk "set_iterator.__iter__" ⟨[a],[]⟩:=by unfold argsOk;kernel_rfl
theorem zgu:entryFor table "set.__iter__"=some Builtin.«frozenset.__iter__» := entryFor_alias (id':="frozenset.__iter__") (by kernel_rfl) rfl ⋯ (by kernel_rfl)
def SIt (h:Heap) (it a:Addr) (first:Value) (i n ep:Nat):Prop:=h.get? it=some {cls:= .type "set_iterator",dict:=none,data:= .fields #[first,.int i 0,.ref a,.int n 0,.int ep 0],slots:= #[]}
structure zkc (h:Heap) (a:Addr) (es:Array (Int×Value)) (ep:Nat) (tb:SetTable):Prop where
 at_: ∃ ob,h.get? a=some ob/\ob.ExactSet/\ob.data= .set es ep tb
 fits:tb.fits es.size=true
section
variable {prog:Program} {w:World} {A:Around} {E:Value->Shared->Prop} {s:Shared}
theorem zlW {it a:Addr} {first:Value} {i n ep:Nat} {es:Array (Int×Value)} {tb:SetTable} {Q:Option Value->Shared->Prop} (hI:SIt s.heap it a first i n ep) (hS:zkc s.heap a es ep tb) (hn:es.size=n) (slot:Nat) (hf:first= .int slot 0)
  (q:wpAny (model prog w) A.in1 (do
    match<-setNext a slot i ep with
    | some (x,next)=>
      setField (.ref it) 0 (rawInt next)
      setField (.ref it) 1 (rawInt ((i:Int)+1))
      ret x
    | none=>setField (.ref it) 2 .none;raiseNew (<- newExc (.type "StopIteration") [])) (λf s'=> ∃ v,f= .done (.ret v)/\Q (some v) s') (λe s'=>wpAny (model prog w) A (do if<-isInstance e (.type "StopIteration") then pure none else throw e) Q E s') s):
  wpAny (model prog w) A (pyNext (.ref it)) Q E s:=by
 obtain ⟨ob,ho,hx,hd⟩:=hS.at_
 subst hf
 have tI:s.TypeIs (.ref it) "set_iterator":=⟨_,hI,rfl⟩
 unfold pyNext
 refine qaW (wpAny_attempt (wpAny_callSpecial?_slot (name:=Str.ofString "__next__") tI zaR (wpAny_call_entry zaR tI zcW ?_ (zdl _))))
 unfold Builtin.«set_iterator.__next__»
 refine qaW (m:=slotArgs "__next__" 0 _) (qaX ?_)
 refine qaW (m:=fieldsOf (.ref it)) ?_
 unfold fieldsOf
 refine qaW (wpAny_load hI (qaX ?_))
 refine qaW (wpAny_setEntries_of ho hd hS.fits ?_)
 have same: ¬(((es.size:Nat):Int) != (n:Int))=true:=by rw [hn];simp
 rw [qa5 same]
 exact qaZ q (λf s' ⟨v,e,z⟩=>⟨v,e,qaX z⟩) λe s' z=>z
theorem zl2 {it:Addr} {r:Shared->Prop} {Q:Option Value->Shared->Prop} (hh:A.handled=none) (q: ∀ h',(∀ b ob,s.heap.get? b=some ob->h'.get? b=some ob)->Q none {s with heap:=h'}):
  wpAny (model prog w) A.in1 (do raiseNew (<- newExc (.type "StopIteration") []):Sem PySem.Fin) (λf s'=> ∃ v,f= .done (.ret v)/\Q (some v) s') (λe s'=>wpAny (model prog w) A (do if<-isInstance e (.type "StopIteration") then pure none else throw e) Q E s') s:=by
 refine qaW ?_
 simp only [newExc,newTuple]
 refine qaW (qaC ?_ (by size_fits))
 refine qaW (m:=firstArgMember _ _) (wpAny_of_eq (a:=Value.none) (by first | rfl | (simp only [firstArgMember];rfl)) ?_)
 refine qaC ?_ (by size_fits)
 simp only [raiseNew]
 refine qaW (wpAny_handled ?_)
 rw [show A.in1.handled=none from hh]
 refine qaW (qaX (wpAny_throw ?_))
 refine qaW (wpAny_isInstance (T:="StopIteration") (b:=true) ⟨_,qar _ rfl,rfl⟩ isSubtype_stop ?_)
 exact qaX (q _ λb ob e=>qag _ (qag _ e))
theorem zgN {es:Array (Int×Value)} {tb:SetTable} (hf:tb.fits es.size=true):tb.place.size=es.size:=by
 unfold SetTable.fits at hf
 simp only [qaG,beq_iff_eq] at hf
 exact hf.1
theorem zeQ {a:Addr} {ep i slot:Nat} {es:Array (Int×Value)} {tb:SetTable} {R:Option (Value×Nat)->Shared->Prop} (hS:zkc s.heap a es ep tb) (led:tb.led=true) (bt:w.params.followText "set-order"=false) (pl:(!tb.plain && decide (es.size>1))=false)
  (q:R (match es[SetTable.below tb.place slot]?, tb.place[SetTable.below tb.place slot]? with | some (_,x),some j=>some (x,j+1) | _,_=>none) s):wpAny (model prog w) A (setNext a slot i ep) R E s:=by
 obtain ⟨ob,ho,hx,hd⟩:=hS.at_
 unfold setNext
 refine qaW (wpAny_setState_of ho hd hS.fits ?_)
 dsimp only
 unfold setsByText
 refine qaW (qaW (wpAny_askSetting (qaX ?_)))
 dsimp only
 rw [show (model prog w).w.params.followText "set-order"=false from bt]
 simp only [qax,if_false]
 show wpAny _ _ (if (!tb.plain && decide (es.size>1))=true then _ else _) _ _ _
 rw [qa5 (by rw [pl];exact Bool.false_ne_true)]
 refine qaW ?_
 show wpAny _ _ (if (!tb.led && !es.isEmpty)=true then _ else _) _ _ _
 rw [qa5 (by rw [led];exact Bool.false_ne_true)]
 exact qaX (qaX q)
theorem zfd {a:Addr} {ep i slot:Nat} {es:Array (Int×Value)} {tb:SetTable} {R:Option (Value×Nat)->Shared->Prop} (hS:zkc s.heap a es ep tb) (bt:w.params.followText "set-order"=true)
  (q:R (((pickOrder (w.params.setOrder a ep) es)[i]?).map λe=>(e.2,slot)) s):wpAny (model prog w) A (setNext a slot i ep) R E s:=by
 obtain ⟨ob,ho,hx,hd⟩:=hS.at_
 unfold setNext
 refine qaW (wpAny_setState_of ho hd hS.fits ?_)
 dsimp only
 unfold setsByText
 refine qaW (qaW (wpAny_askSetting (qaX ?_)))
 dsimp only
 rw [show (model prog w).w.params.followText "set-order"=true from bt]
 simp only [if_true]
 rw [qa5 (by simp)]
 refine qaW ?_
 unfold setWalk
 refine qaW (wpAny_setState_of ho hd hS.fits ?_)
 dsimp only
 unfold setsByText
 refine qaW (qaW (wpAny_askSetting (qaX ?_)))
 dsimp only
 rw [show (model prog w).w.params.followText "set-order"=true from bt]
 simp only [if_true]
 refine qaW (wpAny_askSetting (qaX (qaX q)))
theorem zlw {it a:Addr} {n ep i slot nx:Nat} {x:Value} {es:Array (Int×Value)} {tb:SetTable} {Q:Option Value->Shared->Prop} (hI:SIt s.heap it a (.int slot 0) i n ep) (hS:zkc s.heap a es ep tb) (hn:es.size=n)
  (st: ∀ (R:Option (Value×Nat)->Shared->Prop) (E':Value->Shared->Prop),R (some (x,nx)) s->wpAny (model prog w) A.in1 (setNext a slot i ep) R E' s)
  (q: ∀ h',SIt h' it a (.int nx 0) (i+1) n ep->Heap.SameBut it s.heap h'->Q (some x) {s with heap:=h'}):wpAny (model prog w) A (pyNext (.ref it)) Q E s:=by
 refine zlW hI hS hn slot rfl (qaW (st _ _ ?_))
 dsimp only
 refine qaW (wpAny_setField_rec hI (by simp) λh1 a1 sb1=> ?_)
 refine qaW (wpAny_setField_rec (s:={s with heap:=h1}) a1 (by simp) λh2 a2 sb2=> ?_)
 refine qaX ⟨x,rfl,q h2 ?_ (sb1.trans sb2)⟩
 unfold SIt
 rw [a2]
 simp [rawInt]
theorem zpG {it a:Addr} {n ep i slot:Nat} {es:Array (Int×Value)} {tb:SetTable} {Q:Option Value->Shared->Prop} (hh:A.handled=none) (hI:SIt s.heap it a (.int slot 0) i n ep) (hS:zkc s.heap a es ep tb) (hn:es.size=n)
  (st: ∀ (R:Option (Value×Nat)->Shared->Prop) (E':Value->Shared->Prop),R none s->wpAny (model prog w) A.in1 (setNext a slot i ep) R E' s)
  (q: ∀ h',(∀ b ob,b≠it->s.heap.get? b=some ob->h'.get? b=some ob)->Q none {s with heap:=h'}):wpAny (model prog w) A (pyNext (.ref it)) Q E s:=by
 refine zlW hI hS hn slot rfl (qaW (st _ _ ?_))
 dsimp only
 refine qaW (wpAny_setField_rec hI (by simp) λh1 a1 sb1=> ?_)
 exact zl2 (r:=λ_=>True) (it:=it) (s:={s with heap:=h1}) hh λh' k=>q h' λb ob hb e=>k b ob ((sb1.2 b hb).trans e)
end
theorem zdX {α:Type}: ∀ {l:List α} {i:Nat} {x:α},l[i]? = some x->List.Perm l (x::l.eraseIdx i)
 | [],_,_,e=>by simp at e
 | a::r,0,x,e=>by simp at e;subst e;exact .rfl
 | a::r,i+1,x,e=>by
  have e:r[i]? = some x:=by simpa using e
  exact ((zdX e).cons a).trans (.swap x a _)
theorem zff {α:Type} {l:List α} {i:Nat} {x:α} (e:l[i]? = some x):(l.eraseIdx i).length+1=l.length:=by
 have:=(zdX e).length_eq
 rw [qaE] at this
 exact this.symm
theorem zhX {α:Type} (nx:Nat->Nat): ∀ (fuel k:Nat) (left:List α) (out:Array α),left.length=fuel->List.Perm (pickOrder.go nx fuel k left out).toList (out.toList++left)
 | 0,k,left,out,h=>by
  have:left=[]:=List.length_eq_zero_iff.mp h
  subst this
  simp [pickOrder.go]
 | fuel+1,k,left,out,h=>by
  unfold pickOrder.go
  have hl:nx k % left.length<left.length:=Nat.mod_lt _ ⋯
  have e:left[nx k % left.length]? = some left[nx k % left.length]:=by simp [hl]
  rw [e]
  dsimp only
  have hz:=zff e
  refine (zhX nx fuel (k+1) _ _ ⋯).trans ?_
  rw [Array.toList_push,List.append_assoc]
  exact List.Perm.append_left _ (zdX e).symm
theorem zcT {α:Type} (nx:Nat->Nat) (xs:Array α):List.Perm (pickOrder nx xs).toList xs.toList:=by
 have:=zhX nx xs.size 0 xs.toList #[] (by simp)
 simpa [pickOrder] using this
section
variable {prog:Program} {w:World} {A:Around} {E:Value->Shared->Prop} {s:Shared}
theorem zkJ {src:Source} {n:Nat} {Q:Nat->Shared->Prop} (hn:n≠0) (q: ∀ k d,k<n->Q k {s with drawn:=d}):wpAny (model prog w) A (choose src n) Q E s:=λΓ p hΓ=>⟨hn,q _ _ (Nat.mod_lt _ (Nat.pos_of_ne_zero hn))⟩
theorem zfg {α:Type}: ∀ (fuel:Nat) (xs:List α) (s:Shared) (Q:List α->Shared->Prop),xs.length<=fuel->(∀ ys d,List.Perm ys xs->Q ys {s with drawn:=d})->wpAny (model prog w) A (drawOrder fuel xs) Q E s
 | 0,xs,s,Q,h,q=>by
  have:xs=[]:=List.length_eq_zero_iff.mp ⋯
  subst this
  unfold drawOrder
  exact qaX (q [] s.drawn .rfl)
 | fuel+1,[],s,Q,h,q=>by
  unfold drawOrder
  exact qaX (q [] s.drawn .rfl)
 | fuel+1,x::r,s,Q,h,q=>by
  unfold drawOrder
  refine qaW (zkJ (by simp) λk d hk=> ?_)
  have e:(x::r)[k]? = some (x::r)[k]:=by simp [hk]
  rw [e]
  dsimp only
  have hz:=zff e
  refine qaW (zfg fuel ((x::r).eraseIdx k) {s with drawn:=d} _ ⋯ λys d' p=>qaX ?_)
  exact q _ d' ((p.cons _).trans (zdX e).symm)
theorem zk8 {it a tp:Addr} {n ep i p:Nat} {x:Value} {es:Array (Int×Value)} {tb:SetTable} {ps:Array Value} {Q:Option Value->Shared->Prop} (hI:SIt s.heap it a (.ref tp) i n ep) (hS:zkc s.heap a es ep tb) (hn:es.size=n)
  (hT:s.heap.get? tp=some {cls:= .type "tuple",data:= .seq ps}) (hp:ps[i]? = some (.int (p:Nat) 0)) (he:(es[p]?).map (·.2)=some x)
  (q: ∀ h',SIt h' it a (.ref tp) (i+1) n ep->Heap.SameBut it s.heap h'->Q (some x) {s with heap:=h'}):wpAny (model prog w) A (pyNext (.ref it)) Q E s:=by
 obtain ⟨ob,ho,hx,hd⟩:=hS.at_
 have tI:s.TypeIs (.ref it) "set_iterator":=⟨_,hI,rfl⟩
 unfold pyNext
 refine qaW (wpAny_attempt (wpAny_callSpecial?_slot (name:=Str.ofString "__next__") tI zaR (wpAny_call_entry zaR tI zcW ?_ (zdl _))))
 unfold Builtin.«set_iterator.__next__»
 refine qaW (m:=slotArgs "__next__" 0 _) (qaX ?_)
 refine qaW (m:=fieldsOf (.ref it)) ?_
 unfold fieldsOf
 refine qaW (wpAny_load hI (qaX ?_))
 refine qaW (wpAny_setEntries_of ho hd hS.fits ?_)
 have same: ¬(((es.size:Nat):Int) != (n:Int))=true:=by rw [hn];simp
 rw [qa5 same]
 refine qaW (m:=seqItems? (.ref tp)) ?_
 unfold seqItems?
 refine qaW (wpAny_load hT (qaX ?_))
 dsimp only
 rw [show ((i:Nat):Int).toNat=i from qaB i,hp]
 dsimp only
 refine qaW (m:=setNextDrawn a _ _) ?_
 unfold setNextDrawn
 refine qaW (wpAny_setState_of ho hd hS.fits ?_)
 dsimp only
 rw [show ((ep:Nat):Int).toNat=ep from qaB ep,show ((p:Nat):Int).toNat=p from qaB p,qa5 (by simp)]
 cases ee:es[p]? with
 | none=>rw [ee] at he;cases he
 | some e=>
  rw [ee] at he
  cases he
  dsimp only
  refine qaX ?_
  refine qaW (wpAny_setField_rec hI (by simp) λh2 a2 sb2=> ?_)
  refine qaX ⟨_,rfl,qaX (q h2 ?_ sb2)⟩
  unfold SIt
  rw [a2]
  simp [rawInt]
theorem zmJ {it a tp:Addr} {n ep i:Nat} {es:Array (Int×Value)} {tb:SetTable} {ps:Array Value} {Q:Option Value->Shared->Prop} (hh:A.handled=none) (hI:SIt s.heap it a (.ref tp) i n ep) (hS:zkc s.heap a es ep tb) (hn:es.size=n)
  (hT:s.heap.get? tp=some {cls:= .type "tuple",data:= .seq ps}) (hp:ps[i]? = none)
  (q: ∀ h',(∀ b ob,b≠it->s.heap.get? b=some ob->h'.get? b=some ob)->Q none {s with heap:=h'}):wpAny (model prog w) A (pyNext (.ref it)) Q E s:=by
 obtain ⟨ob,ho,hx,hd⟩:=hS.at_
 have tI:s.TypeIs (.ref it) "set_iterator":=⟨_,hI,rfl⟩
 unfold pyNext
 refine qaW (wpAny_attempt (wpAny_callSpecial?_slot (name:=Str.ofString "__next__") tI zaR (wpAny_call_entry zaR tI zcW ?_ (zdl _))))
 unfold Builtin.«set_iterator.__next__»
 refine qaW (m:=slotArgs "__next__" 0 _) (qaX ?_)
 refine qaW (m:=fieldsOf (.ref it)) ?_
 unfold fieldsOf
 refine qaW (wpAny_load hI (qaX ?_))
 refine qaW (wpAny_setEntries_of ho hd hS.fits ?_)
 have same: ¬(((es.size:Nat):Int) != (n:Int))=true:=by rw [hn];simp
 rw [qa5 same]
 refine qaW (m:=seqItems? (.ref tp)) ?_
 unfold seqItems?
 refine qaW (wpAny_load hT (qaX ?_))
 dsimp only
 rw [show ((i:Nat):Int).toNat=i from qaB i,hp]
 dsimp only
 refine qaW (wpAny_setField_rec hI (by simp) λh1 a1 sb1=> ?_)
 refine qaW (wpAny_setField_rec (s:={s with heap:=h1}) a1 (by simp) λh2 a2 sb2=> ?_)
 refine qaZ (zl2 (Q:=Q) (E:=E) (r:=λ_=>True) (it:=it) (s:={s with heap:=h2}) hh λh' k=>q h' λb ob hb e=>k b ob ((sb2.2 b hb).trans ((sb1.2 b hb).trans e))) (λf s' ⟨v,e,z⟩=>⟨v,e,qaX z⟩) λe s' z=>z
theorem zf3 {it a:Addr} {first:Value} {i n ep:Nat} {Q:Value->Shared->Prop} (hI:SIt s.heap it a first i n ep) (q:Q (.ref it) s):wpAny (model prog w) A (pyIter (.ref it)) Q E s:=by
 have tI:s.TypeIs (.ref it) "set_iterator":=⟨_,hI,rfl⟩
 refine wpAny_pyIter_slot tI zeE (wpAny_call_entry zeE tI zgF ?_ (zhj _))
 show wpAny _ _ (ret (.ref it)) _ _ _
 exact qaX ⟨_,rfl,"set_iterator",_,tI,zaR.lookup,q⟩
theorem zkc.keep {h h':Heap} {a:Addr} {es:Array (Int×Value)} {ep:Nat} {tb:SetTable} (x:zkc h a es ep tb) (k: ∀ ob,h.get? a=some ob->h'.get? a=some ob):zkc h' a es ep tb:=
 ⟨let ⟨ob,h1,h2⟩:=x.at_;⟨ob,k ob h1,h2⟩,x.fits⟩
def ziM (tb:SetTable):Nat->Nat
 | 0=>0
 | i+1=>tb.place.getD i 0+1
theorem zkY (hh:A.handled=none) {it a:Addr} {ep:Nat} {es:Array (Int×Value)} {tb:SetTable} (hne:a≠it) (up:Up tb.place) (led:tb.led=true) (bt:w.params.followText "set-order"=false) (pl:(!tb.plain && decide (es.size>1))=false) (hf:tb.fits es.size=true):
  Walks prog w A it [it,a] [it] es.size (λi v=> ∃ e,es.toList[i]? = some e/\v=e.2) (λi h=>SIt h it a (.int (ziM tb i:Nat) 0) i es.size ep/\zkc h a es ep tb) where
 sub:=λb hb=>by simp at hb;simp [hb]
 frame:=λi h h' st k=>⟨k it (by simp) _ st.1,st.2.keep λob e=>k a (by simp) ob e⟩
 item:=λi s Q E hi st q=>by
  have pz:=zgN hf
  have hi2:i<tb.place.size:=by omega
  have bl:SetTable.below tb.place (ziM tb i)=i:=by
   cases i with
   | zero=>exact zgS up
   | succ i=>
    have hi3:i<tb.place.size:=by omega
    have e:tb.place[i]? = some (tb.place.getD i 0):=by simp [hi3,Array.getD]
    exact zgU up e
  have ep':tb.place.getD i 0=tb.place[i]:=by simp [hi2,Array.getD]
  refine zlw (nx:=ziM tb (i+1)) (x:=es[i].2) st.1 st.2 rfl (λR E' r=>zeQ st.2 led bt pl ?_) λh' a1 sb=> ?_
  ·rw [bl]
   have e1:es[i]? = some es[i]:=by simp [hi]
   have e2:tb.place[i]? = some tb.place[i]:=by simp [hi2]
   rw [e1,e2]
   show R (some (es[i].2,tb.place[i]+1)) s
   have e3:ziM tb (i+1)=tb.place[i]+1:=by show tb.place.getD i 0+1=_;rw [ep']
   rw [<- e3]
   exact r
  ·exact q _ h' s.toks ⟨es[i],by simp [hi],rfl⟩ ⟨a1,st.2.keep λob e=>(sb.2 a hne).trans e⟩ λb ob hb e=>(sb.2 b λz=>hb (by simp [z])).trans e
 done:=λs Q E st q=>by
  have pz:=zgN hf
  have bl:SetTable.below tb.place (ziM tb es.size)=es.size:=by
   cases hz:es.size with
   | zero=>exact zgS up
   | succ i=>
    have hi3:i<tb.place.size:=by omega
    have e:tb.place[i]? = some (tb.place.getD i 0):=by simp [hi3,Array.getD]
    exact zgU up e
  refine zpG hh st.1 st.2 rfl (λR E' r=>zeQ st.2 led bt pl ?_) λh' k=>q h' s.toks λb ob hb e=>k b ob (λz=>hb (by simp [z])) e
  rw [bl]
  have e1:es[es.size]? = none:=by simp
  rw [e1]
  exact r
 self:=λi s Q E st q=>zf3 st.1 q
theorem znm (hh:A.handled=none) {it a:Addr} {ep:Nat} {es:Array (Int×Value)} {tb:SetTable} (hne:a≠it) (bt:w.params.followText "set-order"=true) (hf:tb.fits es.size=true):
  Walks prog w A it [it,a] [it] es.size (λi v=> ∃ e,(pickOrder (w.params.setOrder a ep) es).toList[i]? = some e/\v=e.2) (λi h=>SIt h it a (.int (0:Nat) 0) i es.size ep/\zkc h a es ep tb) where
 sub:=λb hb=>by simp at hb;simp [hb]
 frame:=λi h h' st k=>⟨k it (by simp) _ st.1,st.2.keep λob e=>k a (by simp) ob e⟩
 item:=λi s Q E hi st q=>by
  have pz:(pickOrder (w.params.setOrder a ep) es).size=es.size:=by
   have:=(zcT (w.params.setOrder a ep) es).length_eq
   simpa using this
  have hi2:i<(pickOrder (w.params.setOrder a ep) es).size:=by omega
  refine zlw (nx:=0) (x:=(pickOrder (w.params.setOrder a ep) es)[i].2) st.1 st.2 rfl (λR E' r=>zfd st.2 bt ?_) λh' a1 sb=> ?_
  ·have e1:(pickOrder (w.params.setOrder a ep) es)[i]? = some (pickOrder (w.params.setOrder a ep) es)[i]:=by simp [hi2]
   rw [e1]
   exact r
  ·exact q _ h' s.toks ⟨(pickOrder (w.params.setOrder a ep) es)[i],by simp [hi2],rfl⟩ ⟨a1,st.2.keep λob e=>(sb.2 a hne).trans e⟩ λb ob hb e=>(sb.2 b λz=>hb (by simp [z])).trans e
 done:=λs Q E st q=>by
  have pz:(pickOrder (w.params.setOrder a ep) es).size=es.size:=by
   have:=(zcT (w.params.setOrder a ep) es).length_eq
   simpa using this
  refine zpG hh st.1 st.2 rfl (λR E' r=>zfd st.2 bt ?_) λh' k=>q h' s.toks λb ob hb e=>k b ob (λz=>hb (by simp [z])) e
  have e1:(pickOrder (w.params.setOrder a ep) es)[es.size]? = none:=by simp [pz]
  rw [e1]
  exact r
 self:=λi s Q E st q=>zf3 st.1 q
theorem zkX (hh:A.handled=none) {it a tp:Addr} {ep:Nat} {es:Array (Int×Value)} {tb:SetTable} {ys:List Nat} (hne:a≠it) (hne2:tp≠it) (hp:List.Perm ys (List.range es.size)):
  Walks prog w A it [it,a,tp] [it] es.size (λi v=> ∃ e,(ys.filterMap (es[·]?))[i]? = some e/\v=e.2) (λi h=>SIt h it a (.ref tp) i es.size ep/\zkc h a es ep tb/\h.get? tp=some {cls:= .type "tuple",data:= .seq (ys.map λ(i:Nat)=>rawInt i).toArray}) where
 sub:=λb hb=>by simp at hb;simp [hb]
 frame:=λi h h' st k=>⟨k it (by simp) _ st.1,st.2.1.keep λob e=>k a (by simp) ob e,k tp (by simp) _ st.2.2⟩
 item:=λi s Q E hi st q=>by
  have hl:ys.length=es.size:=by simpa using hp.length_eq
  have hi2:i<ys.length:=by omega
  have lt: ∀ y∈ys,y<es.size:=λy hy=>by simpa using hp.mem_iff.mp hy
  have lti:=lt _ (getElem_mem hi2)
  have fm: ∀ (zs:List Nat),(∀ y∈zs,y<es.size)-> ∀ (j:Nat) (y:Nat),zs[j]? = some y->(zs.filterMap (es[·]?))[j]? = es[y]? := by
   intro zs
   induction zs with
   | nil=>intro _ j y e;simp at e
   | cons z r ih=>
    intro hz j y e
    have lz:=hz z (.head _)
    rw [List.filterMap_cons_some (b:=es[z]) (by simp [lz])]
    cases j with
    | zero=>simp at e;subst e;simp [lz]
    | succ j=>simpa using ih (λy hy=>hz y (.tail _ hy)) j y (by simpa using e)
  refine zk8 (p:=ys[i]) (x:=es[ys[i]].2) st.1 st.2.1 rfl st.2.2 (by simp [hi2,rawInt]) (by simp [lti]) λh' a1 sb=> ?_
  refine q _ h' s.toks ⟨es[ys[i]],?_,rfl⟩ ⟨a1,st.2.1.keep λob e=>(sb.2 a hne).trans e,(sb.2 tp hne2).trans st.2.2⟩ λb ob hb e=>(sb.2 b λz=>hb (by simp [z])).trans e
  rw [fm ys lt i ys[i] (by simp [hi2])]
  simp [lti]
 done:=λs Q E st q=>by
  have hl:ys.length=es.size:=by simpa using hp.length_eq
  exact zmJ hh st.1 st.2.1 rfl st.2.2 (by simp [hl]) λh' k=>q h' s.toks λb ob hb e=>k b ob (λz=>hb (by simp [z])) e
 self:=λi s Q E st q=>zf3 st.1 q
end
section
variable {prog:Program} {w:World} {A:Around} {E:Value->Shared->Prop} {s:Shared}
structure zrw (prog:Program) (w:World) (a it:Addr) (es:Array (Int×Value)) (ord:List (Int×Value)) (fp:List Addr) (St:Nat->Heap->Prop):Prop where
 walks: ∀ A:Around,A.handled=none->Walks prog w A it fp [it] es.size (λi v=> ∃ e,ord[i]? = some e/\v=e.2) St
 perm:List.Perm ord es.toList
 mem:it∈fp
theorem zvx {a:Addr} {S:Int->Bool} {n:Nat} {Q:Value->Shared->Prop} (g:zhT prog w s.heap a S n)
  (q: ∀ it es ep tb ord fp St h' d,(∃ ob,s.heap.get? a=some ob/\ob.ExactSet/\ob.data= .set es ep tb)->zrw prog w a it es ord fp St->St 0 h'->s.heap.objs.size<=it->(∀ b ob,s.heap.get? b=some ob->h'.get? b=some ob)->(∀ b∈fp,b=a\/s.heap.objs.size<=b)->es.size<scanBound->
    Q (.ref it) {s with heap:=h',drawn:=d}):wpAny (model prog w) A (pyIter (.ref a)) Q E s:=by
 obtain ⟨ob,es,ep,tb,⟨h1,h2,h3⟩,h4,h5,⟨h6,h7,h8⟩,h9⟩:=g
 have tS:s.TypeIs (.ref a) "set":=⟨ob,h1,h2.1⟩
 have lta:a<s.heap.objs.size:=qaQ h1
 refine wpAny_pyIter_slot tS F.slot_set_iter (wpAny_call_entry F.slot_set_iter tS zgu ?_ (F.args_set_iter_1 _))
 unfold Builtin.«frozenset.__iter__»
 refine qaW (m:=Builtin.Frozenset.slot0 "__iter__" _) (qaX ?_)
 refine qaW (m:=Builtin.Frozenset.sizeOf a) ?_
 unfold Builtin.Frozenset.sizeOf
 refine qaW (wpAny_setEntries_of h1 h3 h7 (qaX ?_))
 refine qaW (m:=setDrawn a) ?_
 unfold setDrawn
 refine qaW (wpAny_setState_of h1 h3 h7 ?_)
 dsimp only
 unfold setsByText
 refine qaW (qaW (wpAny_askSetting (qaX (qaX ?_))))
 dsimp only
 have sobj: ∀ {h':Heap},(∀ b ob,s.heap.get? b=some ob->h'.get? b=some ob)->zkc h' a es ep tb:=λk=>⟨⟨ob,k _ _ h1,h2,h3⟩,h7⟩
 by_cases dr:(!(model prog w).w.params.followText "set-order" && (!tb.plain && decide (es.size>1)))=true
 ·show wpAny _ _ (if (!(model prog w).w.params.followText "set-order" && (!tb.plain && decide (es.size>1)))=true then _ else _) _ _ _
  rw [qa4 dr]
  refine qaW (zfg es.size (List.range es.size) s _ (by simp) λys d hp=> ?_)
  have hl:ys.length=es.size:=by simpa using hp.length_eq
  have small:es.size<=sizeLine:=fits_of_scanBound h6
  refine qaW ?_
  unfold newTuple
  refine qaC ?_ (by show (ys.map λ(i:Nat)=>rawInt i).toArray.size<=sizeLine;simp [hl];exact small)
  unfold setEpoch
  refine qaW (qaW (wpAny_setState_of (s:={s with heap:=_,drawn:=d}) (qag _ h1) h3 h7 (qaX ?_)))
  dsimp only
  refine qaW (qaC (qaX ⟨_,rfl,"set_iterator",_,⟨_,qar _ rfl,rfl⟩,zaR.lookup,?_⟩))
  have z1:(s.heap.push {cls:= .type "tuple",dict:=none,data:= .seq (ys.map λ(i:Nat)=>rawInt i).toArray}).objs.size=s.heap.objs.size+1:=qaL ..
  have kp: ∀ (o2:Obj) b ob,s.heap.get? b=some ob->((s.heap.push {cls:= .type "tuple",dict:=none,data:= .seq (ys.map λ(i:Nat)=>rawInt i).toArray}).push o2).get? b=some ob:=λo2 b ob e=>qag _ (qag _ e)
  refine q _ es ep tb (ys.filterMap (es[·]?)) [(s.heap.push {cls:= .type "tuple",dict:=none,data:= .seq (ys.map λ(i:Nat)=>rawInt i).toArray}).objs.size,a,s.heap.objs.size] _ _ d ⟨ob,h1,h2,h3⟩ ⟨λA' hA=>zkX (tb:=tb) (ep:=ep) hA ?_ ?_ hp,?_,.head _⟩ ⟨?_,sobj (kp _),?_⟩ ?_ (kp _) (λb hb=> ?_) h6
  ·rw [z1];exact qaR (lt_succ_of_lt lta)
  ·rw [z1];exact qaR (lt_succ_self _)
  ·refine (hp.filterMap _).trans ?_
   rw [filterMap_getElem?_range]
  ·exact qar _ rfl
  ·exact qag _ (qar _ rfl)
  ·rw [z1];exact le_succ _
  ·simp only [qaP,qaF,or_false] at hb
   rcases hb with z | z | z
   ·right;rw [z,z1];exact le_succ _
   ·exact .inl z
   ·right;rw [z];exact qaV _
 ·show wpAny _ _ (if (!(model prog w).w.params.followText "set-order" && (!tb.plain && decide (es.size>1)))=true then _ else _) _ _ _
  rw [qa5 dr]
  refine qaW (qaX ?_)
  unfold setEpoch
  refine qaW (qaW (wpAny_setState_of h1 h3 h7 (qaX ?_)))
  dsimp only
  refine qaW (qaC (qaX ⟨_,rfl,"set_iterator",_,⟨_,qar _ rfl,rfl⟩,zaR.lookup,?_⟩))
  have kp: ∀ (o2:Obj) b ob,s.heap.get? b=some ob->(s.heap.push o2).get? b=some ob:=λo2 b ob e=>qag _ e
  have fpl: ∀ b∈[s.heap.objs.size,a],b=a\/s.heap.objs.size<=b:=λb hb=>by
   simp only [qaP,qaF,or_false] at hb
   rcases hb with z | z
   ·right;rw [z];exact qaV _
   ·exact .inl z
  cases bt:w.params.followText "set-order" with
  | true=>
   exact q _ es ep tb _ [s.heap.objs.size,a] _ _ s.drawn ⟨ob,h1,h2,h3⟩ ⟨λA' hA=>znm (tb:=tb) (ep:=ep) hA (qaR lta) bt h7,zcT _ _,.head _⟩ ⟨qar _ rfl,sobj (kp _)⟩ (qaV _) (kp _) fpl h6
  | false=>
   have pl:(!tb.plain && decide (es.size>1))=false:=by
    rw [show (model prog w).w.params.followText "set-order"=false from bt] at dr
    simpa using dr
   have led:tb.led=true:=by
    rw [h9.led]
    unfold zdp
    rw [bt]
    rfl
   exact q _ es ep tb _ [s.heap.objs.size,a] _ _ s.drawn ⟨ob,h1,h2,h3⟩ ⟨λA' hA=>zkY (tb:=tb) (ep:=ep) hA (qaR lta) h9.up led bt pl h7,.rfl,.head _⟩ ⟨qar _ rfl,sobj (kp _)⟩ (qaV _) (kp _) fpl h6
theorem zom {a:Addr} {S:Int->Bool} {n:Nat} {Q:List Value->Shared->Prop} (hh:A.handled=none) (g:zhT prog w s.heap a S n)
  (q: ∀ vs s' es ep tb,(∃ ob,s.heap.get? a=some ob/\ob.ExactSet/\ob.data= .set es ep tb)->List.Perm vs (es.toList.map (·.2))->(∀ b ob,s.heap.get? b=some ob->s'.heap.get? b=some ob)->s'.gens=s.gens->s'.os=s.os->Q vs s'):wpAny (model prog w) A (collect (.ref a)) Q E s:=by
 have tS: ∀ {h':Heap} {s':Shared},s'.heap=h'->(∀ b ob,s.heap.get? b=some ob->h'.get? b=some ob)->s'.TypeIs (.ref a) "set":=λ{h' s'} e k=>by
  obtain ⟨ob,es,ep,tb,⟨h1,h2,h3⟩,_⟩:=g
  exact ⟨ob,by rw [e];exact k _ _ h1,h2.1⟩
 have lta:a<s.heap.objs.size:=by
  obtain ⟨ob,es,ep,tb,⟨h1,h2,h3⟩,_⟩:=g
  exact qaQ h1
 unfold collect
 refine qaW (wpAny_runValue (codeAny_builtin F.entry_proto_collect ?_))
 rw [qap F.plain_proto_collect _]
 show wpAny _ _ (newList []>>=λl=>again (.builtin "list.__iadd__" ⟨[l,.ref a],[]⟩)) _ _ _
 refine qaW (qaC (qaX ⟨plainId_quiet F.plain_list_iadd _,codeAny_builtin F.entry_list_iadd ?_⟩))
 rw [qap F.plain_list_iadd _]
 show wpAny _ _ (Builtin.List.listExtendWith (.ref s.heap.objs.size) (.ref a) (.ref s.heap.objs.size)) _ _ _
 unfold Builtin.List.listExtendWith
 have k1: ∀ b ob,s.heap.get? b=some ob->(s.heap.push {cls:= .type "list",data:= .seq ([]:List Value).toArray}).get? b=some ob:=λb ob e=>qag _ e
 refine qaW (wpAny_typeOf (tS rfl k1) ?_)
 have nsame:Builtin.List.listSameRef (.ref s.heap.objs.size) (.ref a)=false:=by
  simp only [Builtin.List.listSameRef,beq_eq_false_iff_ne]
  exact λz=>qaN _ (z▸lta)
 have nl:(Value.type "set"==Value.type "list")=false:=by decide
 have nt:(Value.type "set"==Value.type "tuple")=false:=by decide
 simp only [nsame,nl,nt,Bool.or_false,qax,if_false]
 refine qaW (zvx (g.move (λob e=>k1 _ _ e) (λ_=>rfl) rfl) λit es ep tb ord fp St h2 d hob W st0 lit k2 fpl few=> ?_)
 refine qaW (qaO ?_)
 unfold Builtin.List.listLengthHint
 have k12: ∀ b ob,s.heap.get? b=some ob->h2.get? b=some ob:=λb ob e=>k2 b ob (k1 b ob e)
 refine qaW (wpAny_specialOf (tS rfl k12) F.slot_set_len.lookup ?_)
 have sp:splitId "set.__len__"=some ("set","__len__"):=by decide +kernel
 dsimp only
 rw [sp]
 dsimp only
 refine qaW (wpAny_isInstance (tS rfl k12) sub_set_self ?_)
 rw [qa5 (by decide)]
 rw [qa4 ⋯]
 refine qaW (wpAny_typeOf (tS rfl k12) (qaX ?_))
 rw [qa4 ⋯]
 refine qaW (wpAny_rule ?_)
 have l2:h2.get? s.heap.objs.size=some {cls:= .type "list",data:= .seq ([]:List Value).toArray}:=k2 _ _ (qar _ rfl)
 refine qaW ?_
 unfold Builtin.List.listTouch
 show wpAny _ _ (updateSeq s.heap.objs.size (·.push .none)>>=λ_=>updateSeq s.heap.objs.size (·.pop)) _ _ _
 refine qaW (wpAny_updateSeq l2 rfl ?_)
 have l3:=qal (Obj.mapSeq (·.push Value.none)) l2 rfl
 refine wpAny_updateSeq l3 rfl ?_
 have l4:=qal (Obj.mapSeq (·.pop)) l3 rfl
 have oth: ∀ b ob,b≠s.heap.objs.size->h2.get? b=some ob->((h2.update s.heap.objs.size (Obj.mapSeq (·.push Value.none))).update s.heap.objs.size (Obj.mapSeq (·.pop))).get? b=some ob:=λb ob hb e=>
  (qah _ _ (Ne.symm hb)).trans ((qah _ _ (Ne.symm hb)).trans e)
 have nfp:s.heap.objs.size∉fp:=λz=>by
  rcases fpl _ z with z | z
  ·exact qaN _ (z▸lta)
  ·rw [show ({s with heap:=s.heap.push {cls:= .type "list",data:= .seq ([]:List Value).toArray}}:Shared).heap.objs.size=s.heap.objs.size+1 from qaL ..] at z
   exact qaN _ z
 have fin: ∀ (s':Shared) (vs:Array Value) (c:Nat),(∀ b ob,s.heap.get? b=some ob->s'.heap.get? b=some ob)->s'.gens=s.gens->s'.os=s.os->s'.heap.get? s.heap.objs.size=some {cls:= .type "list",dict:=none,data:= .seq vs c,slots:= #[]}->ItemsOf (λi v=> ∃ e,ord[i]? = some e/\v=e.2) vs es.size->
   wpAny (model prog w) A (load s.heap.objs.size>>=λo=>match o.data with | .seq xs _=>pure xs.toList | _=>unsupported "internal:collect") Q E s':=λs' vs c k g1 g2 e it1=>by
  refine qaW (wpAny_load e (qaX (q vs.toList s' es ep tb ?_ ?_ k g1 g2)))
  ·obtain ⟨ob,o1,o2⟩:=hob
   obtain ⟨ob',es',ep',tb',⟨p1,p2,p3⟩,_⟩:=g
   have:=k1 _ _ p1
   rw [o1] at this
   cases this
   exact ⟨ob,p1,o2⟩
  ·have hl:ord.length=es.size:=by simpa using W.perm.length_eq
   have e2:vs.toList=ord.map (·.2):=by
    apply List.ext_getElem?
    intro i
    by_cases hi:i<es.size
    ·have hv0:i<vs.size:=by rw [it1.1];exact hi
     have hv:vs[i]? = some vs[i]:=by simp [hv0]
     obtain ⟨e,e1,e2⟩:=it1.2 i _ hv
     rw [List.getElem?_map,e1,Array.getElem?_toList,hv,e2]
     rfl
    ·rw [List.getElem?_eq_none (by simp [it1.1];omega),List.getElem?_eq_none (by simp [hl];omega)]
   rw [e2]
   exact W.perm.map _
 have Wk:=(W.walks A.in1 hh).toS
 refine qaX ⟨plainId_quiet F.plain_extend_loop _,codeAny_extend_loopS Wk ?_ _ nfp _ es.size 0 _ _ _ rfl (zero_le _) ?_ l4 (ItemsOf.nil _) λs' vs c mv e it1=> ?_⟩
 ·exact fits_of_scanBound few
 ·exact (W.walks A.in1 hh).frame 0 h2 _ st0 λb hb ob e=>oth b ob (λz=>nfp (z▸hb)) e
 ·refine fin s' vs c (λb ob e'=>mv.heap b ob ?_ (oth b ob ?_ (k12 b ob e'))) mv.gens mv.os e it1
  ·intro z
   rcases qaP.mp z with z | z
   ·exact qaN _ (z▸qaQ e')
   ·simp only [qaP,qaF,or_false] at z
    have:=qaQ e'
    rw [z] at this
    exact qaN _ (qaw this (qaS (by rw [qaL];exact le_succ _) lit))
  ·exact λz=>qaN _ (z▸qaQ e')
end
def zpF (x:Int):List Int->List Int
 | []=>[x]
 | y::r=>if x<=y then x::y::r else y::zpF x r
def zdC:List Int->List Int
 | []=>[]
 | x::r=>zpF x (zdC r)
theorem zf0 (x:Int): ∀ l:List Int,List.Perm (zpF x l) (x::l)
 | []=> .rfl
 | y::r=>by
  unfold zpF
  split
  ·exact .rfl
  ·exact ((zf0 x r).cons y).trans (.swap x y r)
theorem zoO {x z:Int} {l:List Int}:z∈zpF x l↔z=x\/z∈l:=by rw [(zf0 x l).mem_iff,qaP]
theorem zms (x:Int): ∀ l:List Int,l.Pairwise (· <= ·)->(zpF x l).Pairwise (· <= ·)
 | [],_=>by unfold zpF;simp
 | y::r,h=>by
  obtain ⟨h1,h2⟩:=qay.mp h
  unfold zpF
  split
  ·rename_i hxy
   refine qay.mpr ⟨λz hz=> ?_,h⟩
   rcases qaP.mp hz with e | hz
   ·rw [e];exact hxy
   ·exact Int.le_trans hxy (h1 z hz)
  ·rename_i hxy
   refine qay.mpr ⟨λz hz=> ?_,zms x r h2⟩
   rcases zoO.mp hz with e | hz
   ·rw [e];omega
   ·exact h1 z hz
theorem zbd: ∀ l:List Int,List.Perm (zdC l) l
 | []=> .rfl
 | x::r=>(zf0 x _).trans ((zbd r).cons x)
theorem zeU: ∀ l:List Int,(zdC l).Pairwise (· <= ·)
 | []=> .nil
 | x::r=>zms x _ (zeU r)
theorem zfr {a b:List Int} (hp:a.Perm b) (h:a.Pairwise (· <= ·)):a=zdC b:=W.ksm_same (hp.trans (zbd b).symm) h (zeU b)
def zb7 (ns:List Int):List Int:=zdC (ns.foldl step_dedup [])
theorem zmG (ns:List Int): ∀ (acc:List Int) (k:Int),(ns.foldl step_dedup acc).any (· == k)=(acc.any (· == k) || ns.any (· == k)):=by
 induction ns with
 | nil=>intro acc k;simp
 | cons x r ih=>
  intro acc k
  rw [foldl_cons,ih,step_any]
  simp only [any_cons]
  have:(x==k)=decide (k=x):=by
   by_cases h:k=x
   ·subst h;simp
   ·have h': ¬x=k:=λe=>h e.symm
    simp [h,h']
  rw [this,Bool.or_assoc]
theorem zml {ns:List Int} {k:Int}:k∈ns.foldl step_dedup []↔k∈ns:=by
 have:=zmG ns [] k
 simp only [List.any_nil,Bool.false_or] at this
 have e: ∀ l:List Int,k∈l↔(l.any λx=>x==k)=true:=λl=>by
  rw [any_eq_true]
  constructor
  ·exact λh=>⟨k,h,by simp⟩
  ·rintro ⟨x,h,c⟩
   have c:x=k:=by simpa using c
   rw [<- c]
   exact h
 rw [e,e,this]
theorem zfN (ns:List Int): ∀ acc:List Int,acc.Nodup->(ns.foldl step_dedup acc).Nodup:=by
 induction ns with
 | nil=>intro acc h;exact h
 | cons x r ih=>
  intro acc h
  refine ih _ ?_
  unfold step_dedup
  split
  ·exact h
  ·rename_i hx
   rw [List.nodup_append]
   refine ⟨h,by simp,λa ha b hb=> ?_⟩
   simp only [mem_singleton] at hb
   subst hb
   intro e
   subst e
   exact hx (any_eq_true.mpr ⟨a,ha,by simp⟩)
theorem zaS {ns:List Int} {k:Int}:k∈zb7 ns↔k∈ns:=by unfold zb7;rw [(zbd _).mem_iff,zml]
theorem zdR (ns:List Int):(zb7 ns).Pairwise (· < ·):=by
 have h1:=zeU (ns.foldl step_dedup [])
 have h2:(zb7 ns).Nodup:=(zbd _).nodup_iff.mpr (zfN ns [] List.nodup_nil)
 exact (List.Pairwise.and h1 h2).imp λ⟨a,b⟩=>by omega
theorem zjH (ns:List Int):firstMet (λi=>ns.getD i 0) ns.length=ns.foldl step_dedup []:=by
 unfold firstMet
 congr 1
 apply List.ext_getElem?
 intro i
 by_cases hi:i<ns.length
 ·simp [hi,List.getD]
 ·rw [List.getElem?_eq_none (by simp;omega),List.getElem?_eq_none ⋯]
theorem zfK: ∀ {fm ms:List Int},fm.Nodup->(∀ k,k∈fm->k∈ms)->ms.length<=fm.length->List.Perm ms fm
 | [],ms,_,_,h=>by
  have:ms=[]:=List.length_eq_zero_iff.mp (by simpa using h)
  subst this
  exact .rfl
 | x::r,ms,nd,hm,h=>by
  obtain ⟨n1,n2⟩:=nodup_cons.mp nd
  have hx:=hm x (.head _)
  have p:=List.perm_cons_erase hx
  have hl:=p.length_eq
  rw [qaE] at hl h
  refine p.trans ((zfK n2 (λk hk=> ?_) ⋯).cons x)
  have hne:k≠x:=λe=>n1 (e▸hk)
  rcases qaP.mp (p.mem_iff.mp (hm k (.tail _ hk))) with e | e
  ·exact absurd e hne
  ·exact e
section
variable {prog:Program} {w:World} {A:Around} {E:Value->Shared->Prop} {s:Shared}
theorem zij {l l':List Value} {ns:List Int} (p:List.Perm l l') (h:IntsAre l' ns): ∃ ms,IntsAre l ms/\List.Perm ms ns:=by
 induction p generalizing ns with
 | nil=>exact ⟨ns,h,.rfl⟩
 | cons x _ ih=>
  cases h with
  | cons n t h=>
   obtain ⟨ms,h1,h2⟩:=ih h
   exact ⟨n::ms,.cons n t h1,h2.cons n⟩
 | swap x y l=>
  cases h with
  | cons n t h=>
   cases h with
   | cons n' t' h=>exact ⟨n'::n::_,.cons n' t' (.cons n t h),.swap _ _ _⟩
 | trans _ _ ih1 ih2=>
  obtain ⟨ms,h1,h2⟩:=ih2 h
  obtain ⟨ms',h3,h4⟩:=ih1 h1
  exact ⟨ms',h3,h4.trans h2⟩
theorem zgV: ∀ {es:List (Int×Value)},ElemsOf (intKind prog w) es-> ∃ ms,IntsAre (es.map (·.2)) ms/\ ∀ k,k∈ms↔ ∃ e∈es,(intKind prog w).is k e.2=true
 | [],_=>⟨[],.nil,λk=>by simp⟩
 | e::r,h=>by
  obtain ⟨ms,h1,h2⟩:=zgV (ElemsOf.tail h)
  obtain ⟨⟨k,hk,_⟩,_⟩:=ElemsOf.head h
  obtain ⟨t,ht⟩:=Value.isInt_shape (k:=k) (v:=e.2) hk
  refine ⟨k::ms,by rw [qaM,ht];exact .cons k t h1,λz=> ?_⟩
  rw [qaP,h2 z]
  constructor
  ·rintro (c | ⟨e',c1,c2⟩)
   ·exact ⟨e,.head _,by rw [c];exact hk⟩
   ·exact ⟨e',.tail _ c1,c2⟩
  ·rintro ⟨e',c1,c2⟩
   rcases qaP.mp c1 with c | c
   ·subst c;exact .inl ((intKind prog w).inj _ _ _ c2 hk)
   ·exact .inr ⟨e',c,c2⟩
theorem zfP {x:Value} {Q:Value->Shared->Prop} (hc: ∀ E':Value->Shared->Prop,wpAny (model prog w) A.in1 (collect x) (λvs s1=> ∃ ns,IntsAre vs ns/\vs.length<64/\ ∀ out e h',IntsAre out (zdC ns)->(∀ b ob,s1.heap.get? b=some ob->h'.get? b=some ob)->
      h'.get? s1.heap.objs.size=some (seqObj "list" out.toArray e)->Q (.ref s1.heap.objs.size) {s1 with heap:=h'}) E' s):wpAny (model prog w) A (call (.builtin "sorted") [x]) Q E s:=by
 refine Calls.call_function_entry kind_sorted plain_sorted entry_sorted (args_sorted1 _) ?_
 unfold Builtin.«sorted»
 refine qaW (m:=checkCount "sorted" 1 1 _) (qaX ?_)
 refine qaW (m:=collect x) (qaZ (hc _) (λvs s1 ⟨ns,hI,h64,q⟩=> ?_) λ_ _ z=>z)
 have small:vs.length<=sizeLine:=qaS (le_of_lt h64) (by decide)
 refine qaW (wpAny_newList ?_ small)
 have at0:(s1.heap.push {cls:= .type "list",data:= .seq vs.toArray}).get? s1.heap.objs.size=some (seqObj "list" vs.toArray 0):=qar _ rfl
 refine qaW (qaO (wpAny_call_entry slot_list_sort ⟨_,at0,rfl⟩ entry_list_sort (list_sort_tree (s:={s1 with heap:=s1.heap.push {cls:= .type "list",data:= .seq vs.toArray}}) at0 hI h64 λout ns' a1 a2 a3=>⟨_,rfl,?_⟩) (args_list_sort _)))
 obtain ⟨e,he⟩:=sortedHeap_at (out:=out) at0
 refine qaX ⟨_,rfl,q out.toList e _ ?_ (λb ob eb=> ?_) (by simpa using he)⟩
 ·rw [<- zfr a2 a3];exact a1
 ·have lt:=qaQ eb
  rw [sortedHeap_old (qaR lt) (by rw [qaL];exact lt_succ_of_lt lt)]
  exact qag _ eb
theorem zja {l:Addr} {vs:List Value} {Q:List Value->Shared->Prop} (hl:s.heap.IsTuple l vs.toArray) (small:vs.length<=sizeLine)
  (q: ∀ h',(∀ b ob,s.heap.get? b=some ob->h'.get? b=some ob)->Q vs {s with heap:=h'}):wpAny (model prog w) A (collect (.ref l)) Q E s:=by
 obtain ⟨ob,ho,hc,n,hd⟩:=id hl
 unfold collect
 refine qaW (wpAny_runValue (codeAny_builtin F.entry_proto_collect ?_))
 rw [qap F.plain_proto_collect _]
 show wpAny _ _ (newList []>>=λd=>again (.builtin "list.__iadd__" ⟨[d,.ref l],[]⟩)) _ _ _
 refine qaW (qaC (qaX ⟨plainId_quiet F.plain_list_iadd _,codeAny_builtin F.entry_list_iadd ?_⟩))
 rw [qap F.plain_list_iadd _]
 show wpAny _ _ (Builtin.List.listExtendWith (.ref s.heap.objs.size) (.ref l) (.ref s.heap.objs.size)) _ _ _
 unfold Builtin.List.listExtendWith
 have ho':(s.heap.push {cls:= .type "list",data:= .seq ([]:List Value).toArray}).get? l=some ob:=qag _ ho
 have d0:(s.heap.push {cls:= .type "list",data:= .seq ([]:List Value).toArray}).get? s.heap.objs.size=some (seqObj "list" #[] 0):=qar _ rfl
 refine qaW (wpAny_typeOf (T:="tuple") ⟨ob,ho',hc⟩ ?_)
 rw [qa4 (by simp)]
 refine qaW (listItems_at ho' hd ?_)
 refine qaW (listItems_at d0 rfl ?_)
 rw [qa5 (by simp)]
 refine qaW (listUpdate_at (xs:= #[]) (n:=0) d0 rfl ?_ (zero_le _) (by show (#[]++vs.toArray).size<=sizeLine+1;simp;omega))
 refine qaX ?_
 show wpAny _ _ (load s.heap.objs.size>>=λo=>match o.data with | .seq xs _=>pure xs.toList | _=>unsupported "internal:collect") _ _ _
 refine qaW (wpAny_load (get?_update_seq d0 _) ?_)
 have z:=q ((s.heap.push {cls:= .type "list",data:= .seq ([]:List Value).toArray}).update s.heap.objs.size (Obj.mapSeq λx=>x++vs.toArray)) λb ob e=>(qah _ _ (λz=>qaN _ (z▸qaQ e))).trans (qag _ e)
 show wpAny _ _ (pure ((#[]:Array Value)++vs.toArray).toList) _ _ _
 rw [show ((#[]:Array Value)++vs.toArray).toList=vs by simp]
 exact qaX z
end
end LT
namespace L2
open LT
section
variable {X:Cx}
def zmB (P:Program) (w:World) (p:Addr) (ns:List Int):HO:= .ext λh=>zhT P w h p (λz=>(ns.foldl step_dedup []).any (· == z)) (ns.foldl step_dedup []).length
theorem zl7 (hc:X.calm=true):zaK X (.type "set") (λxs H Q=> ∃ (a:Addr) (ns:List Int),xs=[.ref a]/\(SqL X.K H a (ns.map V.int)\/SqT X.K H a (ns.map V.int))/\ns.length<4000/\ ∀ p,H p=none->Q (.ref p) (upd H p (zmB X.prog X.w p ns))):=by
 intro pins s σ H xs us Q I r h
 obtain ⟨a,ns,rfl,hq,hl,q⟩:=h
 obtain ⟨u,rfl,rx⟩:=zen r
 cases rx
 have fin: ∀ (items:Array Value),items.size=ns.length-> ∀ (h':Heap) (tk:Nat),zhT X.prog X.w h' s.heap.objs.size (λz=>(firstMet (λi=>ns.getD i 0) items.size).any (· == z)) (firstMet (λi=>ns.getD i 0) items.size).length->(∀ b ob,s.heap.get? b=some ob->h'.get? b=some ob)->
   EP X pins σ Q (.ref s.heap.objs.size) {s with heap:=h',toks:=tk}:=λitems hz h' tk g k=>by
  rw [hz,zjH] at g
  refine ⟨.ref s.heap.objs.size,_,I.laid (t':=tk) (o:=zmB X.prog X.w s.heap.objs.size ns) k (qaV _) ⟨g,?_,λh1 h2 z e=>z.move e (λ_=>rfl) rfl⟩,rfl,q _ (I.hok.fresh (qaV _))⟩
  obtain ⟨ob,es,ep,tb,⟨h1,_⟩,_⟩:=g
  exact ⟨ob,h1⟩
 have room:ns.length+1<scanBound:=by
  have:scanBound=4096:=rfl
  omega
 rcases hq with hq | hq
 ·obtain ⟨its,r',pl,_⟩:=I.list hq
  have hz:its.toArray.size=ns.length:=by rw [qaA, <-r'.length,qaH]
  exact zvK (I.ok.hd hc) (.inl ⟨rfl,pl.isList⟩) (by simpa using zb4 r') (by rw [hz];exact room) λh' tk g k=>fin _ hz h' tk g k
 ·obtain ⟨its,r',pl,_⟩:=I.tuple hq
  have hz:its.toArray.size=ns.length:=by rw [qaA, <-r'.length,qaH]
  exact zvK (I.ok.hd hc) (.inr ⟨rfl,pl⟩) (by simpa using zb4 r') (by rw [hz];exact room) λh' tk g k=>fin _ hz h' tk g k
theorem Inv.grown {pins:List (Addr×Obj)} {σ:St} {H:Hp} {s s':Shared} (I:Inv X pins σ H s) (ho:s'.os=s.os) (hg:s'.gens=s.gens) (k: ∀ b ob,s.heap.get? b=some ob->s'.heap.get? b=some ob):Inv X pins σ H s':=
 I.call' (ch:=[]) ho (Un.kept k) (I.hok.kept k) (by rw [hg];exact I.bare) λb z=>nomatch z
theorem zou {out:List Value} {ms:List Int} (h:IntsAre out ms):za4 (ms.map V.int) out:=zfU h
theorem zfa (hc:X.calm=true):zaK X (.builtin "sorted") (λxs H Q=> ∃ (p:Addr) (ns:List Int),xs=[.ref p]/\((((ns.foldl step_dedup []).length<64/\H p=some (zmB X.prog X.w p ns))/\ ∀ l,H l=none->Q (.ref l) (upd H l (.lst ((zb7 ns).map V.int))))\/
    ((ns.length<64/\(SqL X.K H p (ns.map V.int)\/SqT X.K H p (ns.map V.int)))/\ ∀ l,H l=none->Q (.ref l) (upd H l (.lst ((zdC ns).map V.int)))))):=by
 intro pins s σ H xs us Q I r h
 obtain ⟨p,ns,rfl,h⟩:=h
 obtain ⟨u,rfl,rx⟩:=zen r
 cases rx
 have fin: ∀ (s1:Shared) (ms:List Int),ms.length<=64->(∀ b ob,s.heap.get? b=some ob->s1.heap.get? b=some ob)->s1.gens=s.gens->s1.os=s.os->(∀ l,H l=none->Q (.ref l) (upd H l (.lst ((zdC ms).map V.int))))-> ∀ out e h',IntsAre out (zdC ms)->(∀ b ob,s1.heap.get? b=some ob->h'.get? b=some ob)->
   h'.get? s1.heap.objs.size=some (seqObj "list" out.toArray e)->EP X pins σ Q (.ref s1.heap.objs.size) {s1 with heap:=h'}:=λs1 ms hm k g1 o1 q out e h' hi k2 e2=>by
  have I1:=I.grown o1 g1 k
  refine ⟨.ref s1.heap.objs.size,_,I1.laid (t':=s1.toks) (o:= .lst ((zdC ms).map V.int)) k2 (qaV _) ⟨?_,out,e,zou hi,e2⟩,rfl,q _ (I1.hok.fresh (qaV _))⟩
  rw [qaH,(zbd ms).length_eq]
  exact qaS hm (by decide)
 rcases h with ⟨⟨hl,hs⟩,q⟩ | ⟨⟨hl,hq⟩,q⟩
 ·obtain ⟨g,_⟩:=(show zcf X.prog X.w H s.heap p (zmB X.prog X.w p ns) from I.hok p _ hs)
  refine zfP λE'=>zom (show X.A.in1.handled=none from I.ok.hd hc) g λvs s1 es ep tb hob pv k g1 o1=> ?_
  obtain ⟨ob',es',ep',tb',⟨a1,a2,a3⟩,h4,h5,⟨h6,h7,h8⟩,h9⟩:=g
  obtain ⟨ob,b1,b2,b3⟩:=hob
  rw [a1] at b1
  cases b1
  rw [a3] at b3
  cases b3
  obtain ⟨ms,m1,m2⟩:=zgV h4
  obtain ⟨ms',m3,m4⟩:=zij pv m1
  have len:ms.length=(ns.foldl step_dedup []).length:=by
   rw [<- m1.length,qaH,qas]
   exact h8
  have pm:List.Perm ms (ns.foldl step_dedup []):=zfK (zfN ns [] List.nodup_nil) (λz hz=>by
    rw [m2 z, <-h5 z]
    exact any_eq_true.mpr ⟨z,hz,by simp⟩) (le_of_eq len)
  have es1:zdC ms'=zb7 ns:=by
   unfold zb7
   exact zfr ((zbd ms').trans (m4.trans pm)) (zeU ms')
  have lm:ms'.length<64:=by
   rw [m4.length_eq,len]
   exact hl
  refine ⟨ms',m3,by rw [m3.length];omega,λout e h' hi k2 e2=> ?_⟩
  exact fin s1 ms' ⋯ k g1 o1 (by rw [es1];exact q) out e h' hi k2 e2
 ·rcases hq with hq | hq
  ·obtain ⟨its,r',pl,hz⟩:=I.list hq
   have hi:=zb4 r'
   have lz:its.length=ns.length:=by rw [<- r'.length,qaH]
   refine zfP λE'=>collect_list pl.isList ?_ (by rw [lz, <-qaH (f:=V.int)];exact hz)
   refine ⟨ns,hi,⋯,λout e h' hi2 k2 e2=> ?_⟩
   refine fin {s with heap:=(s.heap.push (seqObj "list" #[] 0)).update s.heap.objs.size (Obj.mapSeq λx=>x++its.toArray)} ns ⋯ (λb ob eb=> ?_) rfl rfl q out e h' hi2 k2 e2
   exact (qah _ _ (λz=>qaN _ (z▸qaQ eb))).trans (qag _ eb)
  ·obtain ⟨its,r',pl,hz⟩:=I.tuple hq
   have hi:=zb4 r'
   have lz:its.length=ns.length:=by rw [<- r'.length,qaH]
   refine zfP λE'=>zja pl (by rw [lz, <-qaH (f:=V.int)];exact hz) λh1 k1=> ?_
   refine ⟨ns,hi,⋯,λout e h' hi2 k2 e2=> ?_⟩
   exact fin {s with heap:=h1} ns ⋯ k1 rfl rfl q out e h' hi2 k2 e2
theorem zmu (hc:X.calm=true):zaK X (.builtin "all") (λxs H Q=> ∃ (a:Addr) (bs:List Bool),xs=[.ref a]/\SqL X.K H a (bs.map V.bl)/\Q (.bl (bs.all id)) H):=by
 intro pins s σ H xs us Q I r h
 obtain ⟨a,bs,rfl,hq,q⟩:=h
 obtain ⟨u,rfl,rx⟩:=zen r
 cases rx
 obtain ⟨its,r',pl,hz⟩:=I.list hq
 have hlt:a<s.heap.objs.size:=by obtain ⟨_,e,_⟩:=pl.isList;exact qaQ e
 refine call_all_walk (wpAny_pyIter_list pl.isList ?_)
 refine ⟨s.heap.objs.size,[s.heap.objs.size,a],[s.heap.objs.size],its.toArray.size,_,_,λi=>(bs[i]?).getD true,rfl,Walks.list (A:=X.A.in1) (I.ok.hd hc) _ a (qaR hlt) its.toArray,⟨⟨_,qar _ rfl,rfl,rfl⟩,pl.isList.push _⟩,λi v s' Q' E' hP hQ=> ?_,λh' tk hk=> ?_⟩
 ·have hv:its[i]? = some v:=by simpa using hP
  obtain ⟨hi,_⟩:=qac.mp hv
  have hlen:bs.length=its.length:=by rw [<- r'.length,qaH]
  have hb:(bs.map V.bl)[i]? = some (V.bl bs[i]):=by simp [hlen,hi]
  obtain ⟨u',hu,ru⟩:=r'.get hb
  rw [hv] at hu
  cases hu
  cases ru
  have e:(bs[i]?).getD true=bs[i]:=by simp [hlen,hi]
  have hQ:Q' ((bs[i]?).getD true) s':=hQ
  rw [e] at hQ
  exact wpAny_truthy_bool hQ
 ·have e:((List.range its.toArray.size).all λi=>(bs[i]?).getD true)=bs.all id:=by
   have hlen:bs.length=its.length:=by rw [<- r'.length,qaH]
   rw [qaA, <-hlen]
   rw [Bool.eq_iff_iff,all_eq_true,all_eq_true]
   constructor
   ·intro h x hx
    obtain ⟨i,hi⟩:=List.mem_iff_getElem?.mp hx
    have hl:=(qac.mp hi).1
    have:=h i (by simpa using hl)
    rw [hi] at this
    exact this
   ·intro h i hi
    have hl:i<bs.length:=by simpa using hi
    have e1:bs[i]? = some bs[i]:=by simp [hl]
    rw [e1]
    exact h _ (getElem_mem hl)
  rw [e]
  refine ⟨.bl _,H,I.grown (s':={s with heap:=h',toks:=tk}) rfl rfl λb ob eb=>hk b ob (λz=> ?_) (qag _ eb),rfl,q⟩
  simp only [qaP,qaF,or_false] at z
  exact qaN _ (z▸qaQ eb)
theorem zmb (hc:X.calm=true):zaK X (.builtin "sum") (λxs H Q=> ∃ (a:Addr) (ns:List Int),xs=[.ref a]/\SqL X.K H a (ns.map V.int)/\Q (.int ns.sum) H):=by
 intro pins s σ H xs us Q I r h
 obtain ⟨a,ns,rfl,hq,q⟩:=h
 obtain ⟨u,rfl,rx⟩:=zen r
 cases rx
 obtain ⟨its,r',pl,hz⟩:=I.list hq
 have hi:=zb4 r'
 obtain ⟨ys,hy⟩:=hi.allInts.items
 have hl:s.heap.IsList a (intItems ys):=hy▸pl.isList
 refine sum_intListG (I.ok.hd hc) hl λh' tk t' hk=> ?_
 have e1:ns=ys.toList.map (·.1):=by
  rw [<- nums_intItems, <-hy]
  exact (show numsOf its.toArray.toList=ns from hi.numsOf).symm
 have e2:preSum (numAt ys) ys.size=ns.sum:=by rw [preSum_eq,List.take_of_length_le (by simp),e1]
 rw [e2]
 exact ⟨.int ns.sum,H,I.grown (s':={s with heap:=h',toks:=tk}) rfl rfl hk,⟨t',rfl⟩,q⟩
end
end L2
namespace L3
open L2 LT
section
variable {X:Cx} {E:XE} {e:Expr} {es:List Expr} {pos p:Pos} {fs:Sd->M (List D)} {x:Str}
theorem zo5 {id:String} {F:List D->M D} (hc:zaK X (.builtin id) (zhU X.K E F)) (hg:Gl X x) (hm:X.mg x=none) (hv:bootBuiltins x=some (.builtin id)) (ha:SA X E (e::es) fs) (hn:x≠"__name__":=by decide) (hdb:(x==("__debug__":Str))=false:=by decide)
  (he:starEach (e::es) X.env=(false,eval e X.env)::starEach es X.env:=by rfl) (hpl:(backTo pos (starEach es X.env)).any (·.1)=false:=by rfl):SE X E (.Call (.Name x p) (e::es) [] pos) (λsd=>do let ds<-fs sd;F ds):=
 PE.imp (zhu hc hg hm hv ha hn hdb he hpl) λσ H Q ⟨ι,h,sd,L,hh,q⟩=>⟨ι,h,sd,L,hh,Fin.bind q λds h1 ι1 H1 e1 s1 hr1 q1 vs rv=>⟨ι1,h1,ds,rv,hr1,q1⟩⟩
theorem zlJ {T:String} {F:List D->M D} (hc:zaK X (.type T) (zhU X.K E F)) (hg:Gl X x) (hm:X.mg x=none) (hv:bootBuiltins x=some (.type T)) (ha:SA X E (e::es) fs) (hn:x≠"__name__":=by decide) (hdb:(x==("__debug__":Str))=false:=by decide)
  (he:starEach (e::es) X.env=(false,eval e X.env)::starEach es X.env:=by rfl) (hpl:(backTo pos (starEach es X.env)).any (·.1)=false:=by rfl):SE X E (.Call (.Name x p) (e::es) [] pos) (λsd=>do let ds<-fs sd;F ds):=
 PE.imp (zdi hc hg hm hv ha hn hdb he hpl) λσ H Q ⟨ι,h,sd,L,hh,q⟩=>⟨ι,h,sd,L,hh,Fin.bind q λds h1 ι1 H1 e1 s1 hr1 q1 vs rv=>⟨ι1,h1,ds,rv,hr1,q1⟩⟩
noncomputable def znB:D->M (List D)
 | .tup ds=>pure ds
 | .lst ds=>pure ds
 | .scr ds=>pure ds
 | .cel n=>zai n
 | _=>M.bad
theorem zcq {K:W.Frag} {ι:Io} {H:Hp} {h:Hh} {d:D} {v:V} {α:Type} {f:List D->M α} {P:α->Io->Hp->Prop} (hr:zbg K ι H h) (r:Rel K ι H d v) (q:Fin K E ι H ((do let ds<-znB d;f ds) h) P):
  ∃ a vs ds,v= .ref a/\((SqL K H a vs/\ ∀ ts,d≠ .tup ts)\/(SqT K H a vs/\d= .tup ds))/\zau K ι H ds vs/\Fin K E ι H (f ds h) P:=by
 cases d with
 | tup ds=>
  obtain ⟨a,vs,e,h1,h2⟩:=zdg r
  exact ⟨a,vs,ds,e,.inr ⟨h1,rfl⟩,h2,q⟩
 | lst ds=>
  obtain ⟨a,vs,e,h1,h2⟩:=zeV r
  exact ⟨a,vs,ds,e,.inl ⟨h1,λ_ z=>by cases z⟩,h2,q⟩
 | scr ds=>
  obtain ⟨a,vs,e,h1,h2⟩:=zmO r
  exact ⟨a,vs,ds,e,.inl ⟨h1,λ_ z=>by cases z⟩,h2,q⟩
 | cel n=>
  have q':Fin K E ι H (M.bind (zai n) f h) P:=q
  unfold M.bind at q'
  cases z:zai n h with
  | bad=>rw [z] at q';exact qa0 q'
  | exc c h'=>unfold zai at z;split at z<;>cases z
  | ok ds h'=>
   rw [z] at q'
   obtain ⟨rfl,z2⟩:=zc5 z
   obtain ⟨a,vs,e,hn,hH,rl⟩:=hr.read r z2
   exact ⟨a,vs,ds,e,.inl ⟨SqL.of hH,λ_ z=>by cases z⟩,rl,q'⟩
 | _=>exact qa0 q
theorem zl1 {K:W.Frag} {H:Hp} {a:Addr} {vs:List V} {d:D} {ds:List D} (h:(SqL K H a vs/\ ∀ ts,d≠ .tup ts)\/(SqT K H a vs/\d= .tup ds)):SqL K H a vs\/SqT K H a vs:=h.imp And.left And.left
theorem zvk {K:W.Frag} {ι:Io} {H:Hp} {d:D} {xs:List V} (h:zau K ι H [d] xs): ∃ v,xs=[v]/\Rel K ι H d v:=by
 simp only [zau] at h
 obtain ⟨v,r,rfl,h1,rfl⟩:=h
 exact ⟨v,rfl,h1⟩
noncomputable def zlp {α:Type} (f:D->M α):List D->M α
 | [d]=>f d
 | _=>M.bad
theorem zbT {α:Type} {K:W.Frag} {ι:Io} {H:Hp} {h:Hh} {f:D->M α} {ds:List D} {xs:List V} {P:α->Io->Hp->Prop} (rl:zau K ι H ds xs) (q:Fin K E ι H (zlp f ds h) P): ∃ d v,xs=[v]/\Rel K ι H d v/\Fin K E ι H (f d h) P:=by
 match ds,rl,q with
 | [d],rl,q=>
  obtain ⟨v,e,r⟩:=zvk rl
  exact ⟨d,v,e,r,q⟩
 | [],_,q=>exact qa0 q
 | _::_::_,_,q=>exact qa0 q
def zgt:List D->M D:=zlp λd=>do let ds<-znB d;pure (.int ds.length)
theorem zaW:zaK X (.builtin "len") (zhU X.K E zgt):=by
 refine zaK.imp ziq λxs H Q ⟨ι,h,ds,rl,hr,q⟩=> ?_
 obtain ⟨d,v,e,r,q⟩:=zbT rl q
 obtain ⟨a,vs,ds',e',hs,rl',q⟩:=zcq hr r q
 exact ⟨a,vs,by rw [e,e'],zl1 hs,Fin.out hr q _ (by rw [rl'.length];simp [Rel])⟩
def zc4:List D->M D:=zlp λd=>do let ds<-znB d;pure (.tup ds)
theorem zbv:zaK X (.type "tuple") (zhU X.K E zc4):=by
 refine zaK.imp zhN λxs H Q ⟨ι,h,ds,rl,hr,q⟩=> ?_
 obtain ⟨d,v,e,r,q⟩:=zbT rl q
 obtain ⟨a,vs,ds',e',hs,rl',q⟩:=zcq hr r q
 refine ⟨a,vs,by rw [e,e'],?_⟩
 rcases hs with ⟨hs,_⟩ | ⟨hs,hd⟩
 ·exact .inl ⟨hs,λl hl=>zrN hr rl' q hl⟩
 ·exact .inr ⟨hs,Fin.out hr q _ (by rw [<- e', <-hd];exact r)⟩
def zoj:List D->M D:=zlp λd=>do let ds<-znB d;pure (.lst ds)
theorem zlk:zaK X (.type "list") (zhU X.K E zoj):=by
 refine zaK.imp zii λxs H Q ⟨ι,h,ds,rl,hr,q⟩=> ?_
 obtain ⟨d,v,e,r,q⟩:=zbT rl q
 obtain ⟨a,vs,ds',e',hs,rl',q⟩:=zcq hr r q
 exact ⟨a,vs,by rw [e,e'],zl1 hs,λl hl=>zpu hr rl' q hl⟩
noncomputable def two2 (g:Int->Int->Int):List D->M D
 | [.int i,.int j]=>pure (.int (g i j))
 | _=>M.bad
theorem two2_inv {K:W.Frag} {ι:Io} {H:Hp} {h:Hh} {g:Int->Int->Int} {ds:List D} {xs:List V} {P:D->Io->Hp->Prop} (hr:zbg K ι H h) (rl:zau K ι H ds xs) (q:Fin K E ι H (two2 g ds h) P): ∃ i j,xs=[.int i,.int j]/\P (.int (g i j)) ι H:=by
 unfold two2 at q
 split at q
 ·simp only [zau,Rel] at rl
  obtain ⟨v,r,rfl,rfl,v',r',rfl,rfl,rfl⟩:=rl
  exact ⟨_,_,rfl,Fin.out hr q⟩
 ·exact qa0 q
def zqn:=two2 λi j=>if j>i then j else i
def zra:=two2 λi j=>if j<i then j else i
theorem zkE (hc:X.calm=true):zaK X (.builtin "max") (zhU X.K E zqn):=by
 refine zaK.imp (zmh hc) λxs H Q ⟨ι,h,ds,rl,hr,q⟩=> ?_
 obtain ⟨i,j,e,q⟩:=two2_inv hr rl q
 exact ⟨i,j,e,q _ (by simp [Rel])⟩
theorem zkW (hc:X.calm=true):zaK X (.builtin "min") (zhU X.K E zra):=by
 refine zaK.imp (zlC hc) λxs H Q ⟨ι,h,ds,rl,hr,q⟩=> ?_
 obtain ⟨i,j,e,q⟩:=two2_inv hr rl q
 exact ⟨i,j,e,q _ (by simp [Rel])⟩
noncomputable def znC:List D->Option (List Bool)
 | []=>some []
 | .bl b::r=>(znC r).map (b:: ·)
 | _=>none
noncomputable def zc6:List D->Option (List Int)
 | []=>some []
 | .int i::r=>(zc6 r).map (i:: ·)
 | _=>none
theorem zhB {K:W.Frag} {ι:Io} {H:Hp}: ∀ {ds:List D} {vs:List V} {bs:List Bool},zau K ι H ds vs->znC ds=some bs->vs=bs.map V.bl
 | [],_,_,h,e=>by simp only [zau] at h;subst h;cases e;rfl
 | d::ds,_,bs,h,e=>by
  simp only [zau] at h
  obtain ⟨v,r,rfl,h1,h2⟩:=h
  cases d with
  | bl b=>
   unfold znC at e
   cases z:znC ds with
   | none=>rw [z] at e;cases e
   | some cs=>
    rw [z] at e
    cases e
    simp only [Rel] at h1
    rw [h1,zhB h2 z]
    rfl
  | _=>cases e
theorem zcz {K:W.Frag} {ι:Io} {H:Hp}: ∀ {ds:List D} {vs:List V} {bs:List Int},zau K ι H ds vs->zc6 ds=some bs->vs=bs.map V.int
 | [],_,_,h,e=>by simp only [zau] at h;subst h;cases e;rfl
 | d::ds,_,bs,h,e=>by
  simp only [zau] at h
  obtain ⟨v,r,rfl,h1,h2⟩:=h
  cases d with
  | int b=>
   unfold zc6 at e
   cases z:zc6 ds with
   | none=>rw [z] at e;cases e
   | some cs=>
    rw [z] at e
    cases e
    simp only [Rel] at h1
    rw [h1,zcz h2 z]
    rfl
  | _=>cases e
theorem Fin.ofOb {α β:Type} {K:W.Frag} {ι:Io} {H:Hp} {h:Hh} {o:Option α} {f:α->M β} {P:β->Io->Hp->Prop} (q:Fin K E ι H ((do let a<-L3.ofO o;f a) h) P): ∃ a,o=some a/\Fin K E ι H (f a h) P:=by
 cases o with
 | none=>exact qa0 q
 | some a=>exact ⟨a,rfl,q⟩
def zrJ:List D->M D:=zlp λd=>match d with
 | .lst ds=>do let bs<-ofO (znC ds);pure (.bl (bs.all id))
 | _=>M.bad
theorem zeR (hc:X.calm=true):zaK X (.builtin "all") (zhU X.K E zrJ):=by
 refine zaK.imp (zmu hc) λxs H Q ⟨ι,h,ds,rl,hr,q⟩=> ?_
 obtain ⟨d,v,e,r,q⟩:=zbT rl q
 cases d with
 | lst ds=>
  obtain ⟨a,vs,e',h1,h2⟩:=zeV r
  obtain ⟨bs,eb,q⟩:=Fin.ofOb q
  have:=zhB h2 eb
  subst this
  exact ⟨a,bs,by rw [e,e'],h1,Fin.out hr q _ (by simp [Rel])⟩
 | _=>exact qa0 q
def zuk:List D->M D:=zlp λd=>match d with
 | .lst ds=>do let bs<-ofO (zc6 ds);pure (.int bs.sum)
 | _=>M.bad
theorem zin (hc:X.calm=true):zaK X (.builtin "sum") (zhU X.K E zuk):=by
 refine zaK.imp (zmb hc) λxs H Q ⟨ι,h,ds,rl,hr,q⟩=> ?_
 obtain ⟨d,v,e,r,q⟩:=zbT rl q
 cases d with
 | lst ds=>
  obtain ⟨a,vs,e',h1,h2⟩:=zeV r
  obtain ⟨bs,eb,q⟩:=Fin.ofOb q
  have:=zcz h2 eb
  subst this
  exact ⟨a,bs,by rw [e,e'],h1,Fin.out hr q _ (by simp [Rel])⟩
 | _=>exact qa0 q
def zjr:List D->M D:=zlp λd=>do
 let ds<-znB d
 let ns<-ofO (zc6 ds)
 if ns.length<64 then pure (.lst ((zdC ns).map D.int)) else M.bad
theorem zia (hc:X.calm=true):zaK X (.builtin "sorted") (zhU X.K E zjr):=by
 refine zaK.imp (zfa hc) λxs H Q ⟨ι,h,ds,rl,hr,q⟩=> ?_
 obtain ⟨d,v,e,r,q⟩:=zbT rl q
 obtain ⟨a,vs,ds',e',hs,rl',q⟩:=zcq hr r q
 obtain ⟨ns,en,q⟩:=Fin.ofOb q
 have:=zcz rl' en
 subst this
 obtain ⟨hl,q⟩:=Fin.guard q
 exact ⟨a,ns,by rw [e,e'],.inr ⟨⟨hl,zl1 hs⟩,λl hl=>zpu hr (zdk.mpr rfl) q hl⟩⟩
def zd1 (d:D):M D:=do
 let ds<-znB d
 let ns<-ofO (zc6 ds)
 if (ns.foldl step_dedup []).length<64/\ns.length<4000 then pure (.lst ((zb7 ns).map D.int)) else M.bad
theorem zkD {p1 p2 pos2:Pos} {f:Sd->M D} (hc:X.calm=true) (hg1:Gl X "sorted") (hm1:X.mg "sorted"=none) (hg2:Gl X "set") (hm2:X.mg "set"=none) (he:SE X E e f)
  (h1:starEach [.Call (.Name "set" p2) [e] [] pos2] X.env=[(false,eval (.Call (.Name "set" p2) [e] [] pos2) X.env)]:=by rfl) (h2:starEach [e] X.env=[(false,eval e X.env)]:=by rfl):
  SE X E (.Call (.Name "sorted" p1) [.Call (.Name "set" p2) [e] [] pos2] [] pos) (λsd=>do let d<-f sd;zd1 d):=by
 refine PE.imp (zhu (zfa hc) hg1 hm1 boot_sorted (zb3 (zdi (zl7 hc) hg2 hm2 PyProof.Rows.boot_set (zb3 he zdx h2) (he:=h2)) zdx h1) (he:=h1)) λσ H Q ⟨ι,h,sd,L,hh,q⟩=>⟨ι,h,sd,L,hh,Fin.bind q λd h1 ι1 H1 e1 s1 hr1 q1 v rv=> ?_⟩
 obtain ⟨a,vs,ds',e',hs,rl',q2⟩:=zcq hr1 rv q1
 obtain ⟨ns,en,q3⟩:=Fin.ofOb q2
 have:=zcz rl' en
 subst this
 obtain ⟨hl,q4⟩:=Fin.guard q3
 refine ⟨a,ns,by rw [e'],zl1 hs,hl.2,λp hp=> ?_⟩
 have hr2:zbg X.K ι1 (upd H1 p (zmB X.prog X.w p ns)) h1:=hr1.laid hp
 exact ⟨p,ns,rfl,.inl ⟨⟨hl.1,za2⟩,λl hl'=>zpu hr2 (zdk.mpr rfl) (Fin.step (hr1.laidS hp) q4) hl'⟩⟩
end
def tyD:D->M String
 | .non=>pure "NoneType"
 | .bl _=>pure "bool"
 | .int _=>pure "int"
 | .str _=>pure "str"
 | .tup _=>pure "tuple"
 | .lst _=>pure "list"
 | .dct=>pure "dict"
 | .cel n=>do let _<-zai n;pure "list"
 | _=>M.bad
def zmH:List String:=["NoneType","bool","int","str","tuple","list","dict"]
def isB (T t:String):Bool:=t==T || (t=="bool" && T=="int")
def zi1 (T:String) (d:D):M D:=do let t<-tyD d;pure (.bl (isB T t))
def zkU (T:String):Prop:= ∀ (K:W.Frag), ∀ t∈zmH,W.kitOne K (.type t) (.type T)=some (isB T t)
def zvX (t T:String):Option Bool:=if ((Value.type t)==(Value.type T))=true then some true else if W.kitMeta T=true then (fastBuiltinMro t).map (·.contains (Value.type T)) else none
theorem zg7 {T:String} (h:(zmH.all λt=>zvX t T==some (isB T t))=true):zkU T:=λK t ht=>by
 have:=all_eq_true.mp h t ht
 have e:W.kitOne K (.type t) (.type T)=zvX t T:=rfl
 rw [e]
 exact beq_iff_eq.mp this
theorem zrj:zkU "int":=zg7 ⋯
theorem zoe:zkU "bool":=zg7 ⋯
theorem zeT:zkU "tuple":=zg7 ⋯
section
variable {X:Cx} {E:XE} {α:Type}
theorem zp5 {K:W.Frag} {ι:Io} {H:Hp} {h:Hh} {d:D} {v:V} {f:String->M α} {P:α->Io->Hp->Prop} (hr:zbg K ι H h) (r:Rel K ι H d v) (q:Fin K E ι H ((do let t<-tyD d;f t) h) P):
  ∃ t,t∈zmH/\zkr K H v (.type t)/\Fin K E ι H (f t h) P:=by
 cases d with
 | non=>simp only [Rel] at r;subst r;exact ⟨_,by decide,.non,q⟩
 | bl b=>simp only [Rel] at r;subst r;exact ⟨_,by decide,.bl b,q⟩
 | int b=>simp only [Rel] at r;subst r;exact ⟨_,by decide,.int b,q⟩
 | str b=>simp only [Rel] at r;subst r;exact ⟨_,by decide,.str b,q⟩
 | tup ds=>
  simp only [Rel] at r
  obtain ⟨a,vs,e,h1,h2⟩:=r
  subst e
  exact ⟨_,by decide,.tup h1.1,q⟩
 | lst ds=>
  simp only [Rel] at r
  obtain ⟨a,vs,e,h1,h2⟩:=r
  subst e
  exact ⟨_,by decide,.lst h1.1,q⟩
 | dct=>
  simp only [Rel] at r
  obtain ⟨a,e,h1,h2⟩:=r
  subst e
  exact ⟨_,by decide,.dK h1,q⟩
 | cel n=>
  have q':Fin K E ι H (M.bind (zai n) (λ_=>f "list") h) P:=by
   have e:(do let t<-tyD (.cel n);f t:M α)=(zai n>>=λ_=>f "list"):=by
    show ((zai n>>=λ_=>pure "list")>>=f)=_
    simp only [bind_assoc,pure_bind]
   rw [e] at q
   exact q
  unfold M.bind at q'
  cases z:zai n h with
  | bad=>rw [z] at q';exact qa0 q'
  | exc c h'=>unfold zai at z;split at z<;>cases z
  | ok ds h'=>
   rw [z] at q'
   obtain ⟨rfl,z2⟩:=zc5 z
   obtain ⟨a,vs,e,hn,hH,rl⟩:=hr.read r z2
   subst e
   exact ⟨_,by decide,.lst hH,q'⟩
 | _=>exact qa0 q
theorem zn0:zaK X (.builtin "isinstance") (λxs H Q=> ∃ x t T b,xs=[x,.ty T]/\zkr X.K H x t/\W.kitOne X.K t (.type T)=some b/\Q (.bl b) H):=by
 intro pins s σ H xs us Q I r h
 obtain ⟨x,t,T,b,rfl,ty,e,q⟩:=h
 cases r with
 | cons r1 r2=>
  cases r2 with
  | cons r3 r4=>
   cases r4
   cases r3
   exact znx I r1 ty e λtk=>⟨.bl b,H,I.tok tk,rfl,q⟩
theorem ztS {a:Expr} {x:Str} {T:String} {p1 p2 pos:Pos} {fa:Sd->M D} (hk:zkU T) (hg:Gl X "isinstance") (hm:X.mg "isinstance"=none) (hgT:Gl X x) (hmT:X.mg x=none) (hvT:bootBuiltins x=some (.type T)) (ha:SE X E a fa)
  (hn:x≠"__name__":=by decide) (hd:(x==("__debug__":Str))=false:=by decide)
  (h1:starEach [a,.Name x p2] X.env=(false,eval a X.env)::starEach [.Name x p2] X.env:=by rfl) (h2:starEach [.Name x p2] X.env=[(false,eval (.Name x p2) X.env)]:=by rfl)
  (hpl:(backTo pos (starEach [.Name x p2] X.env)).any (·.1)=false:=by rfl):
  SE X E (.Call (.Name "isinstance" p1) [a,.Name x p2] [] pos) (λsd=>do let d<-fa sd;zi1 T d):=by
 refine PE.imp (zhu zn0 hg hm PyProof.Rows.boot_isinstance (zb3 ha (zb3 (zqa (v:= .ty T) hgT hmT hvT rfl hn hd) zdx h2) h1) (he:=h1) (hpl:=hpl)) λσ H Q ⟨ι,h,sd,L,hh,q⟩=>⟨ι,h,sd,L,hh,Fin.bind q λd h1 ι1 H1 e1 s1 hr1 q1 v rv=> ?_⟩
 obtain ⟨t,ht,ty,q2⟩:=zp5 hr1 rv q1
 exact ⟨v,.type t,T,isB T t,rfl,ty,hk X.K t ht,Fin.out hr1 q2 _ (by simp [Rel])⟩
def zfJ:D->D->M D
 | .bl a,.bl b=>pure (.bl (a != b))
 | _,_=>M.bad
theorem zeH:OpR X (compareOp .IsNot) (zdZ X.K E zfJ):=by
 intro pins s σ H x y v u Q I rx ry ⟨ι,h,d1,d2,r1,r2,hr,q⟩
 unfold zfJ at q
 split at q
 ·simp only [Rel] at r1 r2
  subst r1 r2
  cases rx
  cases ry
  exact isnot_bool (zrY I (Fin.out hr q _ (by simp [Rel])) rfl)
 ·exact qa0 q
noncomputable def zk2 (xs:List D) (lo hi:Option Int):List D:=(xs.drop (HT.sIx xs.length 0 lo)).take (HT.sIx xs.length xs.length hi - HT.sIx xs.length 0 lo)
def dSl (d:D) (lo hi:Option Int):M D:=match d with
 | .tup ds=>pure (.tup (zk2 ds lo hi))
 | .lst ds=>pure (.lst (zk2 ds lo hi))
 | _=>M.bad
def zwc (K:W.Frag) (E:XE) (f:Sd->M (Option Int)):TO:=λσ H Q=> ∃ ι h sd,zc3 K ι H sd σ/\zbg K ι H h/\Fin K E ι H (f sd h) λo ι' H'=>Q o H'
abbrev SO (X:Cx) (E:XE) (e:Option Expr) (f:Sd->M (Option Int)):Prop:=PO X e (zwc X.K E f)
theorem PO.imp {e:Option Expr} {t t':TO} (h:PO X e t) (m: ∀ σ H Q,t' σ H Q->t σ H Q):PO X e t':=λpins s σ H Q I q=>h pins s σ H Q I (m _ _ _ q)
def ziD:Sd->M (Option Int):=λ_=>pure none
def zri:D->M (Option Int)
 | .int i=>pure (some i)
 | _=>M.bad
def ziA (f:Sd->M D):Sd->M (Option Int):=λsd=>do let d<-f sd;zri d
theorem ze5:SO X E none ziD:=PO.imp zqC λσ H Q ⟨ι,h,sd,L,hh,q⟩=>Fin.out hh q
theorem ze6 {e:Expr} {f:Sd->M D} (h:SE X E e f):SO X E (some e) (ziA f):=by
 refine PO.imp (zry h) λσ H Q ⟨ι,h,sd,L,hh,q⟩=>⟨ι,h,sd,L,hh,Fin.bind q λd h1 ι1 H1 e1 s1 hr1 q1 v rv=> ?_⟩
 cases d with
 | int i=>simp only [Rel] at rv;exact ⟨i,rv,Fin.out hr1 q1⟩
 | _=>exact qa0 q1
def cSl (f:Sd->M D) (lo hi:Sd->M (Option Int)):Sd->M D:=λsd=>do let d<-f sd;let l<-lo sd;let u<-hi sd;dSl d l u
theorem zdV {e:Expr} {lo hi:Option Expr} {p2 pos:Pos} {f:Sd->M D} {fl fh:Sd->M (Option Int)} (he:SE X E e f) (hl:SO X E lo fl) (hu:SO X E hi fh):SE X E (.Subscript e (.Slice lo hi none p2) pos) (cSl f fl fh):=by
 refine PE.imp (zoc (zrv.or (zsQ.or zpQ)) he hl hu) λσ H Q ⟨ι,h,sd,L,hh,q⟩=>⟨ι,h,sd,L,hh,Fin.bind q λd h1 ι1 H1 e1 s1 hr1 q1 v rv=> ?_⟩
 refine ⟨ι1,h1,sd,L.step s1,hr1,Fin.bind q1 λl h2 ι2 H2 e2 s2 hr2 q2=> ?_⟩
 refine ⟨ι2,h2,sd,(L.step s1).step s2,hr2,Fin.bind q2 λu h3 ι3 H3 e3 s3 hr3 q3=> ?_⟩
 have rv3:=(rv.step s2).step s3
 cases d with
 | tup ds=>
  obtain ⟨a,vs,e,k1,k2⟩:=zdg rv3
  by_cases hw:HT.sIx vs.length 0 l=0/\HT.sIx vs.length vs.length u=vs.length
  ·refine .inl ⟨a,vs,e,k1,hw,?_⟩
   have ec:zk2 ds l u=ds:=by
    unfold zk2
    rw [k2.length,hw.1,hw.2, <-k2.length]
    simp
   refine Fin.out hr3 q3 _ ?_
   rw [ec, <-e]
   exact rv3
  ·refine .inr (.inl ⟨a,vs,e,k1,hw,λp hp=>zrN hr3 ?_ q3 hp⟩)
   unfold zk2 zph
   rw [k2.length]
   exact zau.take _ (zau.drop _ k2)
 | lst ds=>
  obtain ⟨a,vs,e,k1,k2⟩:=zeV rv3
  refine .inr (.inr ⟨a,vs,e,k1,λp hp=>zpu hr3 ?_ q3 hp⟩)
  unfold zk2 zph
  rw [k2.length]
  exact zau.take _ (zau.drop _ k2)
 | _=>exact qa0 q3
def zv0:D->M D
 | .tup ds=>pure (.tup ds.reverse)
 | _=>M.bad
def znG (x y:D):M D:=match x,y with
 | .int i,.int j=>if (zbp i || zbp j)=true then pure (.int (i*j)) else M.bad
 | .tup xs,.int k=>if xs≠[]/\2<=k/\k<1000/\xs.length*k.toNat<=sizeLine then pure (.tup (replicate k.toNat xs).flatten) else M.bad
 | _,_=>M.bad
theorem zau.rep {K:W.Frag} {ι:Io} {H:Hp} {ds:List D} {vs:List V} (h:zau K ι H ds vs): ∀ n,zau K ι H (replicate n ds).flatten (replicate n vs).flatten
 | 0=>zau.nil
 | n+1=>by
  rw [replicate_succ,replicate_succ,flatten_cons,flatten_cons]
  exact zau.append h (zau.rep h n)
theorem zi7:OpR X (binaryOp .Mult) (zdZ X.K E znG):=by
 refine OpR.imp (ztd.or zqf) λx y H Q ⟨ι,h,d1,d2,r1,r2,hr,q⟩=> ?_
 unfold znG at q
 split at q
 ·simp only [Rel] at r1 r2
  obtain ⟨c,q⟩:=Fin.guard q
  refine .inl ⟨_,_,r1,r2,?_,Fin.out hr q _ (by simp [Rel])⟩
  rcases (Bool.or_eq_true _ _).mp c with z | z
  ·exact .inl (zdn z)
  ·exact .inr (zdn z)
 ·simp only [Rel] at r2
  obtain ⟨a,vs,e,k1,k2⟩:=zdg r1
  obtain ⟨⟨c1,c2,c3,c4⟩,q⟩:=Fin.guard q
  refine .inr ⟨a,_,vs,e,r2,k1,λz=>c1 ?_,c2,c3,by rw [<- k2.length];exact c4,λp hp=>zrN hr (k2.rep _) q hp⟩
  subst z
  exact List.eq_nil_of_length_eq_zero k2.length
 ·exact qa0 q
mutual
noncomputable def pdH (h:Hh):D->Option PyData
 | .non=>some .none
 | .bl b=>some (.bool b)
 | .int i=>some (.int i)
 | .str x=>some (.str x)
 | .tup xs=>(zih h xs).map .tuple
 | .lst xs=>(zih h xs).map .list
 | .cel n=>match h[n]? with
  | some (.lst ds)=>(pdL ds).map .list
  | _=>none
 | _=>none
noncomputable def zih (h:Hh):List D->Option (List PyData)
 | []=>some []
 | x::xs=>match pdH h x,zih h xs with
  | some a,some r=>some (a::r)
  | _,_=>none
end
mutual
theorem zmL {pins:List (Addr×Obj)} {σ:L2.St} {H:Hp} {s:Shared} {ι:Io} {h:Hh} (I:Inv X pins σ H s) (hr:zbg X.K ι H h): ∀ {d:D} {v:V} {u:Value} {p:PyData},Rel X.K ι H d v->zbO v u->pdH h d=some p-> ∃ as,Reads s.heap u p as
 | .non,v,u,p,r,ru,e=>by simp only [Rel] at r;subst r;cases ru;simp only [pdH] at e;cases e;exact ⟨_,.none⟩
 | .bl b,v,u,p,r,ru,e=>by simp only [Rel] at r;subst r;cases ru;simp only [pdH] at e;cases e;exact ⟨_,.bool _⟩
 | .int i,v,u,p,r,ru,e=>by simp only [Rel] at r;subst r;obtain ⟨t,rfl⟩:=ru;simp only [pdH] at e;cases e;exact ⟨_,.int _ _⟩
 | .str i,v,u,p,r,ru,e=>by simp only [Rel] at r;subst r;obtain ⟨t,rfl⟩:=ru;simp only [pdH] at e;cases e;exact ⟨_,.str _ _⟩
 | .tup ds,v,u,p,r,ru,e=>by
  obtain ⟨a,vs,rfl,h1,h2⟩:=zdg r
  cases ru
  obtain ⟨its,rv,pl,_⟩:=I.tuple h1
  obtain ⟨o,ho,hc,n,hd⟩:=pl
  simp only [pdH] at e
  cases z:zih h ds with
  | none=>rw [z] at e;cases e
  | some ps=>
   rw [z] at e;cases e
   obtain ⟨as,q⟩:=zjs I hr h2 rv z
   exact ⟨_,.tuple ho hc hd (by simpa using q)⟩
 | .lst ds,v,u,p,r,ru,e=>by
  obtain ⟨a,vs,rfl,h1,h2⟩:=zeV r
  cases ru
  obtain ⟨its,rv,pl,_⟩:=I.list h1
  obtain ⟨o,ho,hc,n,hd⟩:=pl.isList
  simp only [pdH] at e
  cases z:zih h ds with
  | none=>rw [z] at e;cases e
  | some ps=>
   rw [z] at e;cases e
   obtain ⟨as,q⟩:=zjs I hr h2 rv z
   exact ⟨_,.list ho hc hd (by simpa using q)⟩
 | .cel m,v,u,p,r,ru,e=>by
  simp only [pdH] at e
  cases z0:h[m]? with
  | none=>rw [z0] at e;cases e
  | some c=>
   rw [z0] at e
   cases c with
   | dit ks=>cases e
   | ins _ _=>cases e
   | dead=>cases e
   | dic _=>cases e
   | lst ds=>
    obtain ⟨a,vs,rfl,hn,hH,rl⟩:=hr.read r z0
    cases ru
    obtain ⟨its,rv,pl,_⟩:=I.list (SqL.of hH)
    obtain ⟨o,ho,hc,n,hd⟩:=pl.isList
    cases z:pdL ds with
    | none=>simp only [z] at e;cases e
    | some ps=>
     simp only [z] at e;cases e
     obtain ⟨as,q⟩:=ziU I rl rv z
     exact ⟨_,.list ho hc hd (by simpa using q)⟩
 | .scr ds,_,_,_,_,_,e=>by simp only [pdH] at e;cases e
 | .set xs,_,_,_,_,_,e=>by simp only [pdH] at e;cases e
 | .dct,_,_,_,_,_,e=>by simp only [pdH] at e;cases e
 | .fn _,_,_,_,_,_,e=>by simp only [pdH] at e;cases e
 | .exn _,_,_,_,_,_,e=>by simp only [pdH] at e;cases e
theorem zjs {pins:List (Addr×Obj)} {σ:L2.St} {H:Hp} {s:Shared} {ι:Io} {h:Hh} (I:Inv X pins σ H s) (hr:zbg X.K ι H h): ∀ {ds:List D} {vs:List V} {us:List Value} {ps:List PyData},zau X.K ι H ds vs->za4 vs us->zih h ds=some ps-> ∃ as,ReadsAll s.heap us ps as
 | [],vs,us,ps,r,ru,e=>by simp only [zau] at r;subst r;cases ru;simp only [zih] at e;cases e;exact ⟨_,.nil⟩
 | d::ds,vs,us,ps,r,ru,e=>by
  simp only [zau] at r
  obtain ⟨v,vr,rfl,r1,r2⟩:=r
  cases ru with
  | cons ru1 ru2=>
   simp only [zih] at e
   cases z:pdH h d with
   | none=>rw [z] at e;cases e
   | some a=>
    cases z2:zih h ds with
    | none=>rw [z,z2] at e;cases e
    | some b=>
     rw [z,z2] at e
     cases e
     obtain ⟨as,q1⟩:=zmL I hr r1 ru1 z
     obtain ⟨bs,q2⟩:=zjs I hr r2 ru2 z2
     exact ⟨_,.cons q1 q2⟩
end
end
abbrev FE:=Sd->M D
abbrev FT:=Sd->M Bool
abbrev FA:=Sd->M (List D)
abbrev FS:=Sd->M Out
def cOp (F:D->D->M D) (a b:FE):FE:=λsd=>do let x<-a sd;let y<-b sd;F x y
def cUn (F:D->M D) (a:FE):FE:=λsd=>do let x<-a sd;F x
def zaB (F:List D->M D) (a:FA):FE:=λsd=>do let ds<-a sd;F ds
def zdz (F:D->D->M D) (a b:FE):FT:=λsd=>do let z<-(do let x<-a sd;let y<-b sd;F x y);zdB z
def zgm (a:FE):FT:=λsd=>do let x<-a sd;zdB x
def zgg (t:FT):FT:=λsd=>do let c<-t sd;pure (!c)
def zvP (t u:FT):FT:=λsd=>do let c<-t sd;if c=true then u sd else pure false
def tOr (t u:FT):FT:=λsd=>do let c<-t sd;if c=true then pure true else u sd
def zmV (a b:FE):FE:=λsd=>do let c<-(do let x<-a sd;zdB x);if c=true then b sd else pure (.bl false)
def cOr (a b:FE):FE:=λsd=>do let c<-(do let x<-a sd;zdB x);if c=true then pure (.bl true) else b sd
def ztG (a:FE):FE:=λsd=>do let c<-(do let x<-a sd;zdB x);pure (.bl (!c))
def cIf (t:FT) (a b:FE):FE:=λsd=>do let c<-t sd;if c=true then a sd else b sd
def cK (d:D):FE:=λ_=>pure d
def zap:FA:=λ_=>pure []
def zac (a:FE) (r:FA):FA:=λsd=>do let x<-a sd;let r<-r sd;pure (x::r)
def zg2 (fs:FA):FE:=λsd=>do let ds<-fs sd;fits ds.length;pure (.tup ds)
def zkz (fs:FA):FE:=λsd=>do let ds<-fs sd;fits ds.length;pure (.lst ds)
def zir (fs:FA):FE:=λsd=>do let ds<-fs sd;fits ds.length;zdO ds
def zd5:FS:=λsd=>pure (.nx sd)
def zas (g g':FS):FS:=λsd=>do let o<-g sd;zdH o g'
def zbN (i:Nat) (f:FE):FS:=λsd=>do let d<-f sd;pure (.nx (sd.set i (some d)))
def zbC (f:FE):FS:=λsd=>do let d<-f sd;pure (.rt d)
def sIf (t:FT) (g g':FS):FS:=λsd=>do let c<-t sd;if c=true then g sd else g' sd
def zkK (fi:FA) (g:D->Sd->M Sd) (gb:FS):FS:=λsd=>do let ds<-fi sd;zbq (λx sd=>do let sd1<-g x sd;gb sd1) ds sd
def zsP (f:FE) (g:D->Sd->M Sd):FS:=λsd=>do let d<-f sd;let sd'<-g d sd;pure (.nx sd')
def zfi (f:FE):FS:=λsd=>do let _<-f sd;pure (.nx sd)
def iSq (f:FE):FA:=λsd=>do let d<-f sd;zfe d
def zlo (fs:FA):FA:=λsd=>do let ds<-fs sd;zlZ ds
def zqb (fo fi:FE):D->Sd->M Sd:=λd sd=>do let x<-fo sd;let y<-fi sd;zlx x y d;pure sd
section
variable {X:Cx} {E:XE} {a b e c:Expr} {es:List Expr} {pos p p1 p2:Pos} {fa fb f:FE} {fs:FA} {x:Str}
theorem zab (i:Nat) (hN:X.N[i]? = some x:=by rfl) (hv:Vis X.env.scope x:=by first | exact Or.inl rfl | exact Or.inr (Or.inl rfl) | exact Or.inr (Or.inr rfl)) (hd:(x==("__debug__":Str))=false:=by decide) (hcd:(x==("__classdict__":Str))=false:=by decide):SE X E (.Name x pos) (zaf i):=zrU i hN hv hd hcd
theorem zal {i:Int} {j:Nat}:SE X E (.Constant (.int i) j pos) (cK (.int i)):=ztB
theorem zgb {i:Bool} {j:Nat}:SE X E (.Constant (.bool i) j pos) (cK (.bl i)):=zu6
theorem znu {i:Int} (hm: ∃ t,X.mg x=some (.int i t)) (hg:Gl X x:=by rfl) (hd:(x==("__debug__":Str))=false:=by decide):SE X E (.Name x pos) (cK (.int i)):=by
 obtain ⟨t,hm⟩:=hm
 exact zoH hg hm hd
theorem zcu {op:Operator} {F:D->D->M D} (ho:OpR X (binaryOp op) (zdZ X.K E F)) (ha:SE X E a fa) (hb:SE X E b fb):SE X E (.BinOp a op b pos) (cOp F fa fb):=zvn ho ha hb
theorem zgq {op:CmpOp} {F:D->D->M D} (ho:OpR X (compareOp op) (zdZ X.K E F)) (ha:SE X E a fa) (hb:SE X E b fb) (hm:behindInMarks op b=false:=by rfl):SE X E (.Compare a [op] [b] pos) (cOp F fa fb):=zsL ho ha hb hm
theorem zaO {op:CmpOp} {F:D->D->M D} (ho:OpR X (compareOp op) (zdZ X.K E F)) (ha:SE X E a fa) (hb:SE X E b fb) (hm:behindInMarks op b=false:=by rfl):ST X E (.Compare a [op] [b] pos) (zdz F fa fb):=ztv ho ha hb hm
theorem zbx (ha:SE X E a fa) (hb:SE X E b fb) (hs:zjm b:=by intro _ _;rfl):SE X E (.Subscript a b pos) (cOp dIx fa fb):=zva zv4 ha hb hs
theorem zrV (ha:SE X E a fa):SE X E (.UnaryOp .USub a pos) (cUn zto fa):=zr1 ha
theorem zq4 (ha:SE X E a fa):SE X E (.UnaryOp .Not a pos) (ztG fa):=zs4 ha
theorem zjI {op:BoolOp} (h:SE X E a fa):SE X E (.BoolOp op [a] pos) fa:=zsB h
theorem zhg {zc2:List Expr} (ha:SE X E a fa) (hb:SE X E (.BoolOp .And (b::zc2) pos) fb):SE X E (.BoolOp .And (a::b::zc2) pos) (zmV fa fb):=zsd ha hb
theorem zb0 (h:SE X E e f) (he: ∀ whole,isTrue e X.env whole=(do let v<-whole;standAt e.pos;holding [v] (truthy v)):=by intro _;rfl):ST X E e (zgm f):=zsY h he
theorem zbS {t:FT} (ha:ST X E a t):ST X E (.UnaryOp .Not a pos) (zgg t):=ztu ha
theorem zeu {t:FT} (ha:ST X E a t):PW X (.BoolOp .Or [a] pos) (zjB X.K E t):=zsg ha
theorem ze4 {zc2:List Expr} {t u:FT} (ha:ST X E a t) (hb:PW X (.BoolOp .Or (b::zc2) pos) (zjB X.K E u)):PW X (.BoolOp .Or (a::b::zc2) pos) (zjB X.K E (tOr t u)):=zvD ha hb
theorem zdm {op:BoolOp} {vs:List Expr} {t:FT} (h:PW X (.BoolOp op vs pos) (zjB X.K E t)):ST X E (.BoolOp op vs pos) t:=zrA h
theorem zmo {env:Env} (h: ∀ v p,e≠ .Starred v p):starEach (e::es) env=(false,eval e env)::starEach es env:=by
 cases e<;>first | rfl | exact absurd rfl (h _ _)
theorem zad:SA X E [] zap:=zse
theorem zaa (ha:SE X E e fa) (hr:SA X E es fs) (hs:starEach (e::es) X.env=(false,eval e X.env)::starEach es X.env:=by exact zmo (λ_ _ z=>nomatch z)):SA X E (e::es) (zac fa fs):=zrb ha hr hs
theorem zdF {k} (h:SA X E es fs):SE X E (.Tuple es k pos) (zg2 fs):=zr2 h
theorem zfk (h:SA X E es fs):SE X E (.List es pos) (zkz fs):=zsq h
theorem zgX (h:SA X E es fs):SE X E (.List es pos) (zir fs):=zpR h
theorem zaG {id:String} {F:List D->M D} (hc:zaK X (.builtin id) (zhU X.K E F)) (hv:bootBuiltins x=some (.builtin id)) (hm:X.mg x=none) (ha:SA X E (e::es) fs) (hg:Gl X x:=by rfl) (hn:x≠"__name__":=by decide) (hdb:(x==("__debug__":Str))=false:=by decide)
  (he:starEach (e::es) X.env=(false,eval e X.env)::starEach es X.env:=by rfl) (hpl:(backTo pos (starEach es X.env)).any (·.1)=false:=by rfl):SE X E (.Call (.Name x p) (e::es) [] pos) (zaB F fs):=zo5 hc hg hm hv ha hn hdb he hpl
theorem zcb {T:String} {F:List D->M D} (hc:zaK X (.type T) (zhU X.K E F)) (hv:bootBuiltins x=some (.type T)) (hm:X.mg x=none) (ha:SA X E (e::es) fs) (hg:Gl X x:=by rfl) (hn:x≠"__name__":=by decide) (hdb:(x==("__debug__":Str))=false:=by decide)
  (he:starEach (e::es) X.env=(false,eval e X.env)::starEach es X.env:=by rfl) (hpl:(backTo pos (starEach es X.env)).any (·.1)=false:=by rfl):SE X E (.Call (.Name x p) (e::es) [] pos) (zaB F fs):=zlJ hc hg hm hv ha hn hdb he hpl
theorem zkQ {T:String} (hk:zkU T) (hvT:bootBuiltins x=some (.type T)) (hm:X.mg "isinstance"=none) (hmT:X.mg x=none) (ha:SE X E a fa) (hg:Gl X "isinstance":=by rfl) (hgT:Gl X x:=by rfl)
  (hn:x≠"__name__":=by decide) (hd:(x==("__debug__":Str))=false:=by decide)
  (h1:starEach [a,.Name x p2] X.env=(false,eval a X.env)::starEach [.Name x p2] X.env:=by rfl) (h2:starEach [.Name x p2] X.env=[(false,eval (.Name x p2) X.env)]:=by rfl)
  (hpl:(backTo pos (starEach [.Name x p2] X.env)).any (·.1)=false:=by rfl):SE X E (.Call (.Name "isinstance" p1) [a,.Name x p2] [] pos) (cUn (zi1 T) fa):=ztS hk hg hm hgT hmT hvT ha hn hd h1 h2 hpl
theorem zid {pos2:Pos} (hc:X.calm=true) (hm1:X.mg "sorted"=none) (hm2:X.mg "set"=none) (he:SE X E e f) (hg1:Gl X "sorted":=by rfl) (hg2:Gl X "set":=by rfl)
  (h1:starEach [.Call (.Name "set" p2) [e] [] pos2] X.env=[(false,eval (.Call (.Name "set" p2) [e] [] pos2) X.env)]:=by rfl) (h2:starEach [e] X.env=[(false,eval e X.env)]:=by rfl):
  SE X E (.Call (.Name "sorted" p1) [.Call (.Name "set" p2) [e] [] pos2] [] pos) (cUn zd1 f):=zkD hc hg1 hm1 hg2 hm2 he h1 h2
theorem zam {k:Nat} {g:Addr} {fd:FuncData} {ps:List Str} {n:Nat} {F:List D->M D} (G:zbr X.prog X.w X.K X.mg X.base CX0 k g fd ps (zbG X.K n F)) (hr:zd8 k X.A) (hm:X.mg x=some (.ref g)) (hk:W.keepIn X.K (.ref g)=true) (hb:zay X.K fd ps [])
  (ha:SA X E0x (e::es) fs) (hg:Gl X x:=by rfl) (hdb:(x==("__debug__":Str))=false:=by decide) (he:starEach (e::es) X.env=(false,eval e X.env)::starEach es X.env:=by rfl) (hpl:(backTo pos (starEach es X.env)).any (·.1)=false:=by rfl):
  SE X E0x (.Call (.Name x p) (e::es) [] pos) (zaB (zaj n F) fs):=zq0 G hr hg hm hk hb ha hdb he hpl
theorem zaX:SSs X E [] zd5:=zsD
theorem zah {st:Stmt} {g:FS} (h1:SS X E st g):SSs X E [st] g:=zt7 h1
theorem zag {st:Stmt} {zc2:List Stmt} {g g':FS} (h1:SS X E st g) (h2:SSs X E zc2 g'):SSs X E (st::zc2) (zas g g'):=zqR h1 h2
theorem zaz (he:SE X E e f):SS X E (.Return (some e) pos) (zbC f):=zvu he
theorem zej {ys ns:List Stmt} {t:FT} {g g':FS} (hc:ST X E c t) (ha:SSs X E ys g) (hb:SSs X E ns g'):SS X E (.If c ys ns pos) (sIf t g g'):=zwA hc ha hb
theorem zea (he:SE X E e f) (hs:swapsWith e none pos.line X.env=pure false:=by rfl):SS X E (.Expr e pos) (zfi f):=ztF he hs
theorem zaJ (i:Nat) (hN:X.N.Nodup) (he:SE X E e f) (hi:X.N[i]? = some x:=by rfl) (hx:Loc X.env.scope x:=by first | exact Or.inl rfl | exact Or.inr rfl) (hf:X.fn x=true\/X.env.scope.names.lookup x=some .local:=by first | exact Or.inl rfl | exact Or.inr rfl)
  (hs:swapsWith e (some (.Name x p)) pos.line X.env=pure false:=by rfl):SS X E (.Assign [.Name x p] e pos) (zbN i f):=zuE i hN hi hx hf he hs
theorem zqq {tg:Expr} {g:D->Sd->M Sd} (he:SE X E e f) (hg:SG X E tg g) (hs:swapsWithSole [tg] e pos.line X.env=pure false:=by rfl) (hw:swappedStores [tg] e X.env=pure none:=by rfl)
  (h1:(assignEach [tg] X.env).map (·.2)=[assign tg X.env]:=by rfl):SS X E (.Assign [tg] e pos) (zsP f g):=zuD he hg hs hw h1
theorem zav (i:Nat) (hN:X.N.Nodup) (hi:X.N[i]? = some x:=by rfl) (hx:Loc X.env.scope x:=by first | exact Or.inl rfl | exact Or.inr rfl) (hf:X.fn x=true\/X.env.scope.names.lookup x=some .local:=by first | exact Or.inl rfl | exact Or.inr rfl):SG X E (.Name x pos) (za7 i):=zp9 i hN hi hx hf
theorem zjb:SGs X E [] zhM:=zrh
theorem zdT {g:D->Sd->M Sd} {gs:List D->Sd->M Sd} (h1:SG X E e g) (h2:SGs X E es gs) (hs:(assignEach (e::es) X.env).map (·.2)=assign e X.env::(assignEach es X.env).map (·.2):=by rfl):SGs X E (e::es) (zcH g gs):=znO h1 h2 hs
theorem zly {k n:Nat} {gs:List D->Sd->M Sd} (hc:X.calm=true) (h:SGs X E es gs) (hn:(assignEach es X.env).length=n:=by rfl) (hst:(assignEach es X.env).findIdx? (·.1)=none:=by rfl):SG X E (.Tuple es k pos) (zgD n gs):=ztD hc h hn hst
theorem zs2 (ho:SE X E a fa) (hi:SE X E b fb) (ha: ∀ v,assign (.Subscript a b pos) X.env v=(do
      let ov<-holding [v] (eval a X.env)
      let iv<-holding [v,ov] (eval b X.env)
      standAt pos
      holding [v,ov,iv] (setItem ov iv v)
      release [v,ov,iv] []):=by intro _;rfl):SG X E (.Subscript a b pos) (zqb fa fb):=zts λhs=>ztw ho hi hs ha
theorem zcB {tg:Expr} (he:SE X E e f):SI X E tg e (iSq f):=zsX he
theorem ziT {tg:Expr} (hm:X.mg "range"=none) (ha:SA X E [a] fs) (hg:Gl X "range":=by rfl) (hs:starEach [a] X.env=[(false,eval a X.env)]:=by rfl):SI X E tg (.Call (.Name "range" p) [a] [] pos) (zlo fs):=zq7 hg hm ha hs
theorem zgo {tg iter:Expr} {body:List Stmt} {fi:FA} {g:D->Sd->M Sd} {gb:FS} (hc:X.calm=true) (hp:PassesOwn (model X.prog X.w) X.A X.env X.xe) (hi:SI X E tg iter fi) (hg:SG X E tg g) (hb:SSs X E body gb)
  (hs: ∀ x,foldedSetIterable iter X.env x=pure x:=by intro _;rfl):SS X E (.For tg iter body [] pos) (zkK fi g gb):=zuH hc hp hi hg hb hs
theorem zcl:SCs X E [] (λ_=>pure true):=zr0
theorem zeA {t:FT} (h:ST X E c t):SCs X E [c] t:=ztA h
theorem zbH {scope:Scope} {N:List Str} {src:List (Option Nat)} {tg iter elt:Expr} {ifs:List Expr} {fi:FA} {g:D->Sd->M Sd} {tc:FT} {te:FE} (hc:X.calm=true) (B:BOk X scope N src) (hk:zaH g src) (hi:SI X E tg iter fi)
  (hg: ∀ s H fp,SG (cxB X scope N s H fp) E tg g) (ht: ∀ s H fp,SCs (cxB X scope N s H fp) E ifs tc) (he: ∀ s H fp,SE (cxB X scope N s H fp) E elt te)
  (hs: ∀ x,foldedSetIterable iter X.env x=pure x:=by intro _;rfl):SE X E (.ListComp elt [⟨tg,iter,ifs,0⟩] scope pos) (zaA fi g tc te src):=zqv B hk hi hg ht he hs
theorem ziW {scope:Scope} {N:List Str} {src:List (Option Nat)} {tg iter elt:Expr} {ifs:List Expr} {fi:FA} {g:D->Sd->M Sd} {tc:FT} {te:FE} (i:Nat) {y:Str} {py spos:Pos} (hc:X.calm=true) (hN:X.N.Nodup) (B:BOk X scope N src) (hk:zaH g src) (hi:SI X E tg iter fi)
  (hg: ∀ s H fp,SG (cxB X scope N s H fp) E tg g) (ht: ∀ s H fp,SCs (cxB X scope N s H fp) E ifs tc) (he: ∀ s H fp,SE (cxB X scope N s H fp) E elt te)
  (hy:X.N[i]? = some y:=by rfl) (hx:Loc X.env.scope y:=by first | exact Or.inl rfl | exact Or.inr rfl) (hf:X.fn y=true\/X.env.scope.names.lookup y=some .local:=by first | exact Or.inl rfl | exact Or.inr rfl) (hsw:swapsWith (.ListComp elt [⟨tg,iter,ifs,0⟩] scope pos) (some (.Name y py)) spos.line X.env=pure true:=by rfl)
  (hs: ∀ x,foldedSetIterable iter X.env x=pure x:=by intro _;rfl):SS X E (.Assign [.Name y py] (.ListComp elt [⟨tg,iter,ifs,0⟩] scope pos) spos) (zbN i (zaA fi g tc te src)):=znc i B hk hi hg ht he hN hy hx hf hsw hs
end
theorem zbg.empty {K:W.Frag} {H:Hp}:zbg K ⟨[],[]⟩ H []:=⟨rfl,λm n a h=>by simp at h,λn a c h=>by simp at h,λn h=>by simp at h,λa h=>by cases h⟩
theorem zu5 {K:W.Frag} {F:List D->M D} {H:Hp} {a:Addr} {ns:List Int} (hS:SqL K H a (ns.map V.int)) (hm: ∃ h',F [.scr (ns.map D.int)] []= .ok (.bl true) h'):zbG K 1 F [.ref a] H (λv _=>v= .bl true) λ_ _ _=>False:=by
 obtain ⟨h',e⟩:=hm
 refine ⟨rfl,⟨[],[]⟩,[],[.scr (ns.map D.int)],zau.cons ?_ zau.nil,zbg.empty,?_⟩
 ·simp only [Rel]
  refine ⟨a,ns.map V.int,rfl,?_,zdk.mpr rfl⟩
  rcases hS with h | h
  ·exact .inl ⟨h,λz=>by rcases z with z | z<;>cases z⟩
  ·exact .inr (.inr h)
 ·rw [e]
  intro ι1 H1 s hr v rv
  simpa [Rel] using rv
section
variable {sd:Sd} {a b:FE} {fs:FA} {t u:FT} {g g':FS} {F:D->D->M D}
@[simp] theorem zeB:cOp F a b sd=(do let x<-a sd;let y<-b sd;F x y):=rfl
@[simp] theorem zqr {F:D->M D}:cUn F a sd=(do let x<-a sd;F x):=rfl
@[simp] theorem zbY {F:List D->M D}:zaB F fs sd=(do let ds<-fs sd;F ds):=rfl
@[simp] theorem zg0:zdz F a b sd=(do let z<-(do let x<-a sd;let y<-b sd;F x y);zdB z):=rfl
@[simp] theorem zkd:zgm a sd=(do let x<-a sd;zdB x):=rfl
@[simp] theorem zj6:zgg t sd=(do let c<-t sd;pure (!c)):=rfl
@[simp] theorem zsE:zvP t u sd=(do let c<-t sd;if c=true then u sd else pure false):=rfl
@[simp] theorem zrF:tOr t u sd=(do let c<-t sd;if c=true then pure true else u sd):=rfl
@[simp] theorem zpc:zmV a b sd=(do let c<-(do let x<-a sd;zdB x);if c=true then b sd else pure (.bl false)):=rfl
@[simp] theorem zuY:cOr a b sd=(do let c<-(do let x<-a sd;zdB x);if c=true then pure (.bl true) else b sd):=rfl
@[simp] theorem zlB:ztG a sd=(do let c<-(do let x<-a sd;zdB x);pure (.bl (!c))):=rfl
@[simp] theorem zuV:cIf t a b sd=(do let c<-t sd;if c=true then a sd else b sd):=rfl
@[simp] theorem zhR {d:D}:cK d sd=pure d:=rfl
@[simp] theorem zbD:zap sd=pure []:=rfl
@[simp] theorem za6:zac a fs sd=(do let x<-a sd;let r<-fs sd;pure (x::r)):=rfl
@[simp] theorem zks:zg2 fs sd=(do let ds<-fs sd;fits ds.length;pure (.tup ds)):=rfl
@[simp] theorem zj8:zkz fs sd=(do let ds<-fs sd;fits ds.length;pure (.lst ds)):=rfl
@[simp] theorem zhl:zir fs sd=(do let ds<-fs sd;fits ds.length;zdO ds):=rfl
@[simp] theorem zfX:zd5 sd=pure (.nx sd):=rfl
@[simp] theorem zba:zas g g' sd=(do let o<-g sd;zdH o g'):=rfl
@[simp] theorem zcM {i:Nat}:zbN i a sd=(do let d<-a sd;pure (.nx (sd.set i (some d)))):=rfl
@[simp] theorem zcL:zbC a sd=(do let d<-a sd;pure (.rt d)):=rfl
@[simp] theorem zi6:sIf t g g' sd=(do let c<-t sd;if c=true then g sd else g' sd):=rfl
@[simp] theorem zhV {fi:FA} {gt:D->Sd->M Sd}:zkK fi gt g sd=(do let ds<-fi sd;zbq (λx sd=>do let sd1<-gt x sd;g sd1) ds sd):=rfl
@[simp] theorem zpk {gt:D->Sd->M Sd}:zsP a gt sd=(do let d<-a sd;let sd'<-gt d sd;pure (.nx sd')):=rfl
@[simp] theorem zi5:zfi a sd=(do let _<-a sd;pure (.nx sd)):=rfl
@[simp] theorem zsj:iSq a sd=(do let d<-a sd;zfe d):=rfl
@[simp] theorem zjY:zlo fs sd=(do let ds<-fs sd;zlZ ds):=rfl
@[simp] theorem zrg {d:D}:zqb a b d sd=(do let x<-a sd;let y<-b sd;zlx x y d;pure sd):=rfl
@[simp] theorem zdN {i:Nat} {d:D}:za7 i d sd=pure (sd.set i (some d)):=rfl
@[simp] theorem zi2:zdH (.nx sd) g=g sd:=rfl
@[simp] theorem zvC {d:D}:zdH (.rt d) g=pure (.rt d):=rfl
@[simp] theorem zuQ:zbX (.nx sd)=pure .non:=rfl
@[simp] theorem zh9 {d:D}:zbX (.rt d)=pure d:=rfl
@[simp] theorem zeF {c:Bool}:zdB (.bl c)=pure c:=rfl
@[simp] theorem zvA {lo hi:Sd->M (Option Int)}:cSl a lo hi sd=(do let d<-a sd;let l<-lo sd;let u<-hi sd;dSl d l u):=rfl
@[simp] theorem zrq:ziD sd=pure none:=rfl
@[simp] theorem zrz:ziA a sd=(do let d<-a sd;zri d):=rfl
@[simp] theorem zsU {i:Int}:zri (.int i)=pure (some i):=rfl
@[simp] theorem zu7 {ds:List D} {lo hi:Option Int}:dSl (.tup ds) lo hi=pure (.tup (zk2 ds lo hi)):=rfl
@[simp] theorem zvd {ds:List D}:zv0 (.tup ds)=pure (.tup ds.reverse):=rfl
@[simp] theorem zuG {i:Int}:zto (.int i)=pure (.int (-i)):=rfl
@[simp] theorem zgk {i j:Int}:zes (.int i) (.int j)=pure (.int (i+j)):=rfl
@[simp] theorem zsH {xs ys:List D}:zes (.tup xs) (.tup ys)=(do fits (xs.length+ys.length);pure (.tup (xs++ys))):=rfl
@[simp] theorem zmI {xs ys:List D}:zes (.lst xs) (.lst ys)=(do fits (xs.length+ys.length);pure (.lst (xs++ys))):=rfl
@[simp] theorem zu2 {i j:Int}:zt4 (.int i) (.int j)=pure (.int (i - j)):=rfl
@[simp] theorem zrL {i j:Int}:dLt (.int i) (.int j)=pure (.bl (decide (i<j))):=rfl
@[simp] theorem zvE {i j:Int}:dLe (.int i) (.int j)=pure (.bl (decide (i<=j))):=rfl
@[simp] theorem zwB {i j:Int}:dGt (.int i) (.int j)=pure (.bl (decide (j<i))):=rfl
@[simp] theorem zun {i j:Int}:dGe (.int i) (.int j)=pure (.bl (decide (j<=i))):=rfl
@[simp] theorem zhJ {i j:Bool}:zfJ (.bl i) (.bl j)=pure (.bl (i != j)):=rfl
@[simp] theorem zsx {ds:List D}:zgt [.tup ds]=pure (.int ds.length):=rfl
@[simp] theorem ztI {ds:List D}:zgt [.lst ds]=pure (.int ds.length):=rfl
@[simp] theorem zpq {ds:List D}:zgt [.scr ds]=pure (.int ds.length):=rfl
@[simp] theorem ztq {ds:List D}:zc4 [.tup ds]=pure (.tup ds):=rfl
@[simp] theorem zpt {ds:List D}:zc4 [.lst ds]=pure (.tup ds):=rfl
@[simp] theorem zsM {ds:List D}:zoj [.tup ds]=pure (.lst ds):=rfl
@[simp] theorem ztN {ds:List D}:zfe (.tup ds)=pure ds:=rfl
@[simp] theorem zub {ds:List D}:zfe (.lst ds)=pure ds:=rfl
@[simp] theorem zhn {F:List D->M D} {x:D}:zaj 1 F [x]=F [x]:=rfl
@[simp] theorem zcY {F:List D->M D} {x y:D}:zaj 2 F [x,y]=F [x,y]:=rfl
@[simp] theorem zqL {F:List D->M D} {x y z:D}:zaj 3 F [x,y,z]=F [x,y,z]:=rfl
@[simp] theorem zd0 {body:D->Sd->M Out}:zbq body [] sd=pure (.nx sd):=rfl
theorem zcj {body:D->Sd->M Out} {x:D} {r:List D}:zbq body (x::r) sd=(do let o<-body x sd;match o with | .nx sd'=>zbq body r sd' | .ct sd'=>zbq body r sd' | .bk sd'=>pure (.nx sd') | .rt d=>pure (.rt d)):=rfl
@[simp] theorem zmK {gs:List D->Sd->M Sd} {x y:D}:zgD 2 gs (.tup [x,y]) sd=gs [x,y] sd:=rfl
@[simp] theorem zni:zhM [] sd=pure sd:=rfl
@[simp] theorem zjR {gt:D->Sd->M Sd} {gs:List D->Sd->M Sd} {x:D} {r:List D}:zcH gt gs (x::r) sd=(do let sd1<-gt x sd;gs r sd1):=rfl
@[simp] theorem zsR {n:Nat} {k:Int} {d:D}:zlx (.cel n) (.int k) d=(do let ds<-zai n;let j<-ofO (ixN ds.length k);zbF n (ds.set j d)):=rfl
@[simp] theorem zu1 {ds:List D} {i:Int}:dIx (.tup ds) (.int i)=ofO (atI ds i):=rfl
@[simp] theorem ztO {ds:List D} {i:Int}:dIx (.lst ds) (.int i)=ofO (atI ds i):=rfl
@[simp] theorem zvq {ds:List D} {i:Int}:dIx (.scr ds) (.int i)=ofO (atI ds i):=rfl
@[simp] theorem zvG {n:Nat} {i:Int}:dIx (.cel n) (.int i)=(do let ds<-zai n;ofO (atI ds i)):=rfl
@[simp] theorem zmr {α:Type} {x:α}:ofO (some x)=pure x:=rfl
@[simp] theorem zr8 {x:D} {r:List D}:atI (x::r) 0=some x:=by unfold atI ixN;simp
@[simp] theorem zu0 {x y:D} {r:List D}:atI (x::y::r) 1=some y:=by
 have:=zdM (xs:=x::y::r) (j:=1) (v:=y) rfl
 simpa using this
end
theorem zaI {n:Nat} (h:n<=1000):fits n=pure ():=by
 unfold fits
 rw [qa4 (qaS h (by decide))]
theorem zkp {i j:Int} (h:(zbp i || zbp j)=true):znG (.int i) (.int j)=pure (.int (i*j)):=by
 show (if (zbp i || zbp j)=true then _ else _)=_
 rw [qa4 h]
theorem zfw {i:Int} (h: -1000000000000000<i) (h':i<1000000000000000):zbp i=true:=by unfold zbp;simp;omega
theorem zpm {i j:Int} (h: -1000000000000000<i) (h':i<1000000000000000):znG (.int i) (.int j)=pure (.int (i*j)):=zkp (by rw [zfw h h'];rfl)
theorem zsZ {i j:Int} (h: -1000000000000000<j) (h':j<1000000000000000):znG (.int i) (.int j)=pure (.int (i*j)):=zkp (by rw [zfw h h'];simp)
theorem zhc {i j:Int} (h:0<j):zrK (.int i) (.int j)=pure (.int (i % j)):=by
 show (if (decide (0<j))=true then _ else _)=_
 rw [qa4 (by simpa using h)]
theorem znT {i j:Int} (h:0<j) (h':j<2^64):zrl (.int i) (.int j)=pure (.int (i / j)):=by
 show (if (decide (0<j) && decide (j<2^64))=true then _ else _)=_
 rw [qa4 (by rw [qaG];exact ⟨by simpa using h,by simpa using h'⟩)]
theorem zsb {i j:Int}:dEq (.int i) (.int j)=pure (.bl (i==j)):=by
 unfold dEq zln
 simp only [pd]
 rw [qa4 (show zhC (.int i) (.int j)=true from rfl)]
 rfl
theorem zue {i j:Int}:dNe (.int i) (.int j)=pure (.bl (!(i==j))):=by
 unfold dNe zln
 simp only [pd]
 rw [qa4 (show zhC (.int i) (.int j)=true from rfl)]
 rfl
def wp {α:Type} (m:M α) (h:Hh) (P:α->Hh->Prop):Prop:= ∃ a h',m h= .ok a h'/\P a h'
section
variable {α β:Type} {h:Hh} {P P':α->Hh->Prop}
theorem zat {a:α}:wp (pure a:M α) h P↔P a h:=⟨λ⟨b,h',e,q⟩=>by cases (show R.ok a h=R.ok b h' from e);exact q,λq=>⟨a,h,rfl,q⟩⟩
theorem zar {m:M β} {f:β->M α}:wp (m>>=f) h P↔wp m h λb h'=>wp (f b) h' P:=by
 constructor
 ·rintro ⟨a,h',e,q⟩
  have e:M.bind m f h= .ok a h':=e
  unfold M.bind at e
  cases z:m h with
  | ok b h1=>rw [z] at e;exact ⟨b,h1,z,a,h',e,q⟩
  | exc c h1=>rw [z] at e;cases e
  | bad=>rw [z] at e;cases e
 ·rintro ⟨b,h1,e,a,h',e2,q⟩
  refine ⟨a,h',?_,q⟩
  show M.bind m f h=_
  unfold M.bind
  rw [e]
  exact e2
theorem zgf {m:M α} (q:wp m h P) (k: ∀ a h',P a h'->P' a h'):wp m h P':=by
 obtain ⟨a,h',e,q⟩:=q
 exact ⟨a,h',e,k _ _ q⟩
theorem zcI {n:Nat} {ds:List D} {P:List D->Hh->Prop} (e:h[n]? = some (.lst ds)):wp (zai n) h P↔P ds h:=by
 unfold wp zai
 rw [e]
 exact ⟨λ⟨b,h',e,q⟩=>by cases e;exact q,λq=>⟨_,_,rfl,q⟩⟩
theorem ziX {n:Nat} {ds:List D} {P:Unit->Hh->Prop}:wp (zbF n ds) h P↔P () (h.set n (.lst ds)):=⟨λ⟨b,h',e,q⟩=>by cases (show R.ok () (h.set n (.lst ds))=R.ok b h' from e);exact q,λq=>⟨_,_,rfl,q⟩⟩
theorem zh3 {ds:List D} {P:D->Hh->Prop}:wp (zdO ds) h P↔P (.cel h.length) (h++[.lst ds]):=⟨λ⟨b,h',e,q⟩=>by cases (show R.ok (D.cel h.length) (h++[C.lst ds])=R.ok b h' from e);exact q,λq=>⟨_,_,rfl,q⟩⟩
end
theorem zg3 {f:D->M (Option D)} {k:D->Option D}: ∀ {ds:List D},(∀ x∈ds,f x=pure (k x))->zcg f ds=pure (ds.filterMap k)
 | [],_=>rfl
 | x::r,hf=>by
  rw [zcg,hf x qau,zg3 λy hy=>hf y (qan _ hy)]
  simp only [pure_bind]
  cases e:k x<;>simp [qat,e]
theorem zlh {fi:FA} {g:D->Sd->M Sd} {tc:FT} {te:FE} {src:List (Option Nat)} {sd:Sd} {ds:List D} {k:D->Option D} (hi:fi sd=pure ds) (hl:ds.length<=1000) (hf: ∀ x∈ds,za5 g tc te (zak src sd) x=pure (k x)):zaA fi g tc te src sd=pure (.lst (ds.filterMap k)):=by
 unfold zaA
 rw [hi]
 simp only [pure_bind]
 rw [zaI hl]
 simp only [pure_bind]
 rw [zg3 hf]
 simp only [pure_bind]
theorem zlG {fi:FA} {g:D->Sd->M Sd} {tc:FT} {te:FE} {src:List (Option Nat)} {sd:Sd} {ds:List D} {k:D->D} (hi:fi sd=pure ds) (hl:ds.length<=1000) (hf: ∀ x∈ds,za5 g tc te (zak src sd) x=pure (some (k x))):zaA fi g tc te src sd=pure (.lst (ds.map k)):=by
 rw [zlh (k:=λx=>some (k x)) hi hl hf]
 simp
theorem zhK: ∀ bs:List Bool,znC (bs.map D.bl)=some bs
 | []=>rfl
 | b::r=>by rw [qaM,znC,zhK r];rfl
theorem zcv: ∀ bs:List Int,zc6 (bs.map D.int)=some bs
 | []=>rfl
 | b::r=>by rw [qaM,zc6,zcv r];rfl
theorem zhs (bs:List Bool):zrJ [.lst (bs.map D.bl)]=pure (.bl (bs.all id)):=by
 show (do let bs<-ofO (znC (bs.map D.bl));pure (.bl (bs.all id)):M D)=_
 rw [zhK]
 rfl
def kn:D->Bool
 | .non | .bl _ | .int _ | .str _ | .tup _ | .lst _ | .dct=>true
 | _=>false
def isT:D->Bool
 | .tup _=>true
 | _=>false
def isI:D->Bool
 | .int _=>true
 | _=>false
theorem zmi {d:D} (k:kn d=true):zi1 "tuple" d=pure (.bl (isT d)):=by
 cases d<;>simp [kn] at k<;>simp [zi1,tyD,isB,isT]
theorem zqg {d:D} (k:kn d=true):zi1 "int" d=pure (.bl (isI d || (match d with | .bl _=>true | _=>false))):=by
 cases d<;>simp [kn] at k<;>simp [zi1,tyD,isB,isI]
theorem zrZ {d:D} (k:kn d=true):zi1 "bool" d=pure (.bl (match d with | .bl _=>true | _=>false)):=by
 cases d<;>simp [kn] at k<;>simp [zi1,tyD,isB,isI]
mutual
noncomputable def zmz:D->Bool
 | .non | .bl _ | .int _=>true
 | .str x=>PyData.strOk x
 | .tup ds=>decide (ds.length<64) && zjj ds
 | .lst ds=>decide (ds.length<64) && zjj ds
 | _=>false
noncomputable def zjj:List D->Bool
 | []=>true
 | d::r=>zmz d && zjj r
end
mutual
theorem zrH: ∀ {d:D},zmz d=true-> ∃ p,pd d=some p/\p.canLay0=true
 | .non,_=>⟨.none,rfl,rfl⟩
 | .bl b,_=>⟨.bool b,rfl,rfl⟩
 | .int i,_=>⟨.int i,rfl,rfl⟩
 | .str x,g=>⟨.str x,rfl,by simpa [zmz,PyData.canLay0] using g⟩
 | .tup ds,g=>by
  have g2:zjj ds=true:=by simp [zmz] at g;exact g.2
  obtain ⟨ps,e,c⟩:=zhw g2
  exact ⟨.tuple ps,by unfold pd;rw [e];rfl,c⟩
 | .lst ds,g=>by
  have g2:zjj ds=true:=by simp [zmz] at g;exact g.2
  obtain ⟨ps,e,c⟩:=zhw g2
  exact ⟨.list ps,by unfold pd;rw [e];rfl,c⟩
 | .cel _,g=>by simp [zmz] at g
 | .set _,g=>by simp [zmz] at g
 | .dct,g=>by simp [zmz] at g
 | .fn _,g=>by simp [zmz] at g
 | .scr _,g=>by simp [zmz] at g
 | .exn _,g=>by simp [zmz] at g
theorem zhw: ∀ {ds:List D},zjj ds=true-> ∃ ps,pdL ds=some ps/\PyData.canLayAll0 ps=true
 | [],_=>⟨[],rfl,rfl⟩
 | d::r,g=>by
  simp [zjj] at g
  obtain ⟨p,e,c⟩:=zrH g.1
  obtain ⟨ps,e2,c2⟩:=zhw g.2
  exact ⟨p::ps,by unfold pdL;rw [e,e2],by simp [PyData.canLayAll0,c,c2]⟩
end
theorem zbP: ∀ xs:List Int,pdL (xs.map D.int)=some (xs.map PyData.int)
 | []=>rfl
 | x::r=>by rw [qaM,pdL,zbP r];rfl
theorem zaZ: ∀ xs:List Int,PyData.canLayAll0 (xs.map PyData.int)=true
 | []=>rfl
 | x::r=>by simp [PyData.canLayAll0,PyData.canLay0,zaZ r]
theorem zbz: ∀ xs:List Int,PyData.depthAll (xs.map PyData.int)=0
 | []=>rfl
 | x::r=>by simp [PyData.depthAll,PyData.depth,zbz r]
theorem zeL: ∀ xs ys:List Int,PyData.eqvAll (xs.map PyData.int) (ys.map PyData.int)=(xs==ys)
 | [],[]=>rfl
 | [],_::_=>rfl
 | _::_,[]=>rfl
 | x::xs,y::ys=>by
  simp only [qaM,PyData.eqvAll,PyData.eqv,zeL xs ys]
  rfl
theorem zol (xs ys:List Int):dNe (.lst (xs.map D.int)) (.lst (ys.map D.int))=pure (.bl (!(xs==ys))):=by
 show zln true _ _=_
 unfold zln
 have e1:pd (.lst (xs.map D.int))=some (.list (xs.map PyData.int)):=by unfold pd;rw [zbP];rfl
 have e2:pd (.lst (ys.map D.int))=some (.list (ys.map PyData.int)):=by unfold pd;rw [zbP];rfl
 rw [e1,e2]
 have c:zhC (.list (xs.map PyData.int)) (.list (ys.map PyData.int))=true:=by
  unfold zhC
  simp [PyData.canLay0,zaZ,PyData.depth,zbz]
 simp only [c,if_true,PyData.eqv,zeL]
theorem zfx (k:Int): ∀ xs:List Int,((xs.map PyData.int).any λy=>PyData.eqv y (.int k))=xs.any (· == k)
 | []=>rfl
 | x::r=>by simp only [qaM,any_cons,zfx k r];rfl
theorem zeK (k:Int) (xs:List Int):dIn (.int k) (.tup (xs.map D.int))=pure (.bl (xs.any (· == k))):=by
 show znA false (.int k) (.tup (xs.map D.int))=_
 unfold znA
 simp only [pd]
 rw [zbP]
 have c:zmY (.int k) (xs.map PyData.int)=true:=by
  unfold zmY
  simp [PyData.canLay0,zaZ,PyData.depth,zbz]
 simp only [c,if_true,zfx]
 rfl
end L3
namespace L2
open LT
section
variable {X:Cx}
theorem zhY:zaK X (.builtin "divmod") (λxs H Q=> ∃ i j:Int,xs=[.int i,.int j]/\0<j/\j<2^100/\ ∀ p,H p=none->Q (.ref p) (upd H p (.tup [.int (i / j),.int (i % j)]))):=by
 intro pins s σ H xs us Q I r h
 obtain ⟨i,j,rfl,h0,h1,q⟩:=h
 cases r with
 | cons r1 r2=>
  cases r2 with
  | cons r3 r4=>
   cases r4
   obtain ⟨t,rfl⟩:=r1
   obtain ⟨u,rfl⟩:=r3
   refine divmod_int ⋯ ?_ (.inl (PyProof.noPylong_of_log2 ?_))
   ·refine ⟨.ref s.heap.objs.size,_,I.laid (t':=s.toks+1+1) (o:= .tup [.int (i / j),.int (i % j)]) (λb ob q=>qag _ q) (qaV _) ?_,rfl,q _ (I.hok.fresh (qaV _))⟩
    refine ⟨by show 2<=sizeLine;decide,[.int (i.fdiv j) s.toks,.int (i.fmod j) (s.toks+1)],.cons ⟨s.toks,by rw [Int.fdiv_eq_ediv_of_nonneg _ ⋯]⟩ (.cons ⟨s.toks+1,by rw [Int.fmod_eq_emod_of_nonneg _ ⋯]⟩ .nil),zll.new _ _⟩
   ·have h1:j.natAbs<2^100:=by omega
    have h0:j.natAbs≠0:=by omega
    exact lt_trans ((log2_lt h0).mpr h1) (by decide)
theorem znw (hc:X.calm=true):zaK X (.builtin "any") (λxs H Q=> ∃ (a:Addr) (bs:List Bool),xs=[.ref a]/\SqL X.K H a (bs.map V.bl)/\Q (.bl (bs.any id)) H):=by
 intro pins s σ H xs us Q I r h
 obtain ⟨a,bs,rfl,hq,q⟩:=h
 obtain ⟨u,rfl,rx⟩:=zen r
 cases rx
 obtain ⟨its,r',pl,hz⟩:=I.list hq
 have hlt:a<s.heap.objs.size:=by obtain ⟨_,e,_⟩:=pl.isList;exact qaQ e
 refine call_any_walk (wpAny_pyIter_list pl.isList ?_)
 refine ⟨s.heap.objs.size,[s.heap.objs.size,a],[s.heap.objs.size],its.toArray.size,_,_,λi=>(bs[i]?).getD true,rfl,Walks.list (A:=X.A.in1) (I.ok.hd hc) _ a (qaR hlt) its.toArray,⟨⟨_,qar _ rfl,rfl,rfl⟩,pl.isList.push _⟩,λi v s' Q' E' hP hQ=> ?_,λh' tk hk=> ?_⟩
 ·have hv:its[i]? = some v:=by simpa using hP
  obtain ⟨hi,_⟩:=qac.mp hv
  have hlen:bs.length=its.length:=by rw [<- r'.length,qaH]
  have hb:(bs.map V.bl)[i]? = some (V.bl bs[i]):=by simp [hlen,hi]
  obtain ⟨u',hu,ru⟩:=r'.get hb
  rw [hv] at hu
  cases hu
  cases ru
  have e:(bs[i]?).getD true=bs[i]:=by simp [hlen,hi]
  have hQ:Q' ((bs[i]?).getD true) s':=hQ
  rw [e] at hQ
  exact wpAny_truthy_bool hQ
 ·have e:((List.range its.toArray.size).any λi=>(bs[i]?).getD true)=bs.any id:=by
   have hlen:bs.length=its.length:=by rw [<- r'.length,qaH]
   rw [qaA, <-hlen]
   rw [Bool.eq_iff_iff,any_eq_true,any_eq_true]
   constructor
   ·rintro ⟨i,hi,h⟩
    have hl:i<bs.length:=by simpa using hi
    have e1:bs[i]? = some bs[i]:=by simp [hl]
    rw [e1] at h
    exact ⟨bs[i],getElem_mem hl,h⟩
   ·rintro ⟨x,hx,h⟩
    obtain ⟨i,hi⟩:=List.mem_iff_getElem?.mp hx
    have hl:=(qac.mp hi).1
    refine ⟨i,by simpa using hl,?_⟩
    rw [hi]
    exact h
  rw [e]
  refine ⟨.bl _,H,I.grown (s':={s with heap:=h',toks:=tk}) rfl rfl λb ob eb=>hk b ob (λz=> ?_) (qag _ eb),rfl,q⟩
  simp only [qaP,qaF,or_false] at z
  exact qaN _ (z▸qaQ eb)
end
end L2
namespace L3
open L2 LT
section
variable {X:Cx} {E:XE} {a b c o e:Expr} {pos apos cpos:Pos} {fa fb fc fo fe:FE}
def zge:List D->M D
 | [.int i,.int j]=>if 0<j/\j<2^100 then pure (.tup [.int (i / j),.int (i % j)]) else M.bad
 | _=>M.bad
theorem ziC:zaK X (.builtin "divmod") (zhU X.K E zge):=by
 refine zaK.imp zhY λxs H Q ⟨ι,h,ds,rl,hr,q⟩=> ?_
 unfold zge at q
 split at q
 ·simp only [zau,Rel] at rl
  obtain ⟨v,r,rfl,rfl,v',r',rfl,rfl,rfl⟩:=rl
  obtain ⟨⟨c1,c2⟩,q⟩:=Fin.guard q
  refine ⟨_,_,rfl,c1,c2,λp hp=>zrN hr ?_ q hp⟩
  exact zau.cons (by simp [Rel]) (zau.cons (by simp [Rel]) zau.nil)
 ·exact qa0 q
def zuA:List D->M D:=zlp λd=>match d with
 | .lst ds=>do let bs<-ofO (znC ds);pure (.bl (bs.any id))
 | _=>M.bad
theorem zlA (hc:X.calm=true):zaK X (.builtin "any") (zhU X.K E zuA):=by
 refine zaK.imp (znw hc) λxs H Q ⟨ι,h,ds,rl,hr,q⟩=> ?_
 obtain ⟨d,v,e,r,q⟩:=zbT rl q
 cases d with
 | lst ds=>
  obtain ⟨a,vs,e',h1,h2⟩:=zeV r
  obtain ⟨bs,eb,q⟩:=Fin.ofOb q
  have:=zhB h2 eb
  subst this
  exact ⟨a,bs,by rw [e,e'],h1,Fin.out hr q _ (by simp [Rel])⟩
 | _=>exact qa0 q
def zh2 (F F':D->D->M D) (a b c:FE):FE:=λsd=>do
 let x<-a sd
 let y<-b sd
 let z<-F x y
 let k<-zdB z
 if k=true then do let w<-c sd;F' y w else pure (.bl false)
theorem zoQ {K:W.Frag} {F F':D->D->M D} (σ:St) (H:Hp) (Q:VK) (q:zgK K E (zh2 F F' fa fb fc) σ H Q):zpi (zdZ K E F) (zdZ K E F') (zgK K E fa) (zgK K E fb) (zgK K E fc) σ H Q:=by
 obtain ⟨ι,h,sd,L,hh,q⟩:=q
 refine ⟨ι,h,sd,L,hh,Fin.bind q λd1 h1 ι1 H1 e1 s1 hr1 q1 v r1=> ?_⟩
 refine ⟨ι1,h1,sd,L.step s1,hr1,Fin.bind q1 λd2 h2 ι2 H2 e2 s2 hr2 q2 w r2=> ?_⟩
 refine ⟨ι2,h2,d1,d2,r1.step s2,r2,hr2,Fin.bind q2 λz h3 ι3 H3 e3 s3 hr3 q3 u r3=> ?_⟩
 cases z with
 | bl k=>
  simp only [Rel] at r3
  refine ⟨k,r3,?_⟩
  have L3':=((L.step s1).step s2).step s3
  cases k with
  | false=>exact zrI (Fin.out hr3 q3 _ (by simp [Rel]))
  | true=>
   refine zrR ⟨ι3,h3,sd,L3',hr3,Fin.bind q3 λd4 h4 ι4 H4 e4 s4 hr4 q4 w4 r4=> ?_⟩
   exact ⟨ι4,h4,d2,d4,(r2.step s3).step s4,r4,hr4,q4⟩
 | _=>exact qa0 q3
theorem zoY {op op':CmpOp} {F F':D->D->M D} (ho:OpR X (compareOp op) (zdZ X.K E F)) (ho':OpR X (compareOp op') (zdZ X.K E F')) (ha:SE X E a fa) (hb:SE X E b fb) (hc:SE X E c fc)
  (hm:lastMarks [op,op'] [b,c]=false:=by with_unfolding_all rfl):ST X E (.Compare a [op,op'] [b,c] pos) (zgm (zh2 F F' fa fb fc)):=by
 refine PT.imp (zo7 ho ho' ha hb hc hm) λσ H Q q=> ?_
 exact zoQ σ H _ (zf8 (f:=zh2 F F' fa fb fc) σ H Q q)
def zc7:D->M Unit
 | .cel n=>do let _<-zai n;pure ()
 | _=>M.bad
def zds (x y:D):M D:=match x with
 | .cel n=>do
  let ds<-zai n
  fits (ds.length+1)
  zbF n (ds++[y])
  pure .non
 | _=>M.bad
def zel (fo fe:FE):FE:=λsd=>do
 let x<-fo sd
 zc7 x
 let y<-fe sd
 zds x y
theorem ze7 {α:Type} {K:W.Frag} {ι:Io} {H:Hp} {h:Hh} {n:Nat} {f:List D->M α} {P:α->Io->Hp->Prop} (q:Fin K E ι H ((zai n>>=f) h) P): ∃ ds,h[n]? = some (.lst ds)/\Fin K E ι H (f ds h) P:=by
 have q':Fin K E ι H (M.bind (zai n) f h) P:=q
 unfold M.bind at q'
 cases z:zai n h with
 | bad=>rw [z] at q';exact qa0 q'
 | exc c h'=>unfold zai at z;split at z<;>cases z
 | ok ds h'=>
  rw [z] at q'
  obtain ⟨rfl,z2⟩:=zc5 z
  exact ⟨ds,z2,q'⟩
theorem zg9 (ho:SE X E o fo) (he:SE X E e fe)
  (hbase:attributeBase o "append" X.env (eval o X.env)=eval o X.env:=by rfl)
  (hfew:((backTo cpos (starEach [e] X.env)).all (λx=> !x.1) && (backToKw cpos (keywordEach [] X.env)).all (λx=>x.1.isSome)
    && decide (([e]:List Expr).length+([]:List Keyword).length+(if ([]:List Keyword).isEmpty then 0 else 1)<30))=true:=by rfl)
  (hline:(apos.endLine==cpos.line)=true:=by rfl) (hs:starEach [e] X.env=(false,eval e X.env)::starEach [] X.env:=by rfl) (hplain:(backTo cpos (starEach [] X.env)).any (·.1)=false:=by rfl):
  SE X E (.Call (.Attribute o "append" apos) [e] [] cpos) (zel fo fe):=by
 refine PE.imp (zo2 PySem.F.plainAttrs_list PySem.F.slot_list_append PySem.F.type_list_append ziO ho (zb3 he zdx hs) hbase hfew hline hs hplain) λσ H Q ⟨ι,h,sd,L,hh,q⟩=>⟨ι,h,sd,L,hh,Fin.bind q λd h1 ι1 H1 e1 s1 hr1 q1 v rv=> ?_⟩
 cases d with
 | cel n=>
  have q2:Fin X.K E ι1 H1 ((zai n>>=λ_=>fe sd>>=λy=>zds (.cel n) y) h1) (λd ι' H'=> ∀ v,Rel X.K ι' H' d v->Q v H'):=by
   have ee:(zc7 (.cel n)>>=λ_=>fe sd>>=λy=>zds (.cel n) y:M D)=(zai n>>=λ_=>fe sd>>=λy=>zds (.cel n) y):=by
    show ((zai n>>=λ_=>pure ())>>=λ_=>fe sd>>=λy=>zds (.cel n) y)=_
    simp only [bind_assoc,pure_bind]
   rw [<- ee]
   exact q1
  obtain ⟨ds,e2,q3⟩:=ze7 q2
  obtain ⟨a,vs,rfl,hn,hH,rl⟩:=hr1.read rv e2
  refine ⟨.inl ⟨rfl,vs,SqL.of hH⟩,ι1,h1,sd,L.step s1,hr1,Fin.bind q3 λy h3 ι3 H3 e3 s3 hr3 q4 w rw'=> ?_⟩
  have rv3:=rv.step s3
  have q5:Fin X.K E ι3 H3 ((zai n>>=λds=>fits (ds.length+1)>>=λ_=>zbF n (ds++[y])>>=λ_=>pure D.non) h3) (λd ι' H'=> ∀ v,Rel X.K ι' H' d v->Q v H'):=q4
  obtain ⟨ds3,e4,q6⟩:=ze7 q5
  obtain ⟨a3,vs3,ea,hn3,hH3,rl3⟩:=hr3.read rv3 e4
  cases ea
  obtain ⟨z,q7⟩:=Fin.fits q6
  refine ⟨a,vs3,w,rfl,rfl,hH3,by rw [<- rl3.length];omega,?_⟩
  have q8:Fin X.K E ι3 H3 (R.ok D.non (h3.set n (.lst (ds3++[y])))) (λd ι' H'=> ∀ v,Rel X.K ι' H' d v->Q v H'):=q7
  exact q8 ι3 _ (hr3.cellS hn3) (hr3.cell hn3 (rl3.append (zau.cons rw' zau.nil))) _ (by simp [Rel])
 | _=>exact qa0 q1
end
end L3
namespace Att
open PySem.W PySem.Calls
theorem zg6: ∀ {ns:List Int} {i:Int},i∈ns->Builtin.Int.intBits i<=WData.weightAll (ns.map WData.int)
 | n::r,i,h=>by
  rw [qaM,WData.weightAll]
  rcases qaP.mp h with e | e
  ·subst e
   have:WData.weight (.int i)=Builtin.Int.intBits i:=by simp only [WData.weight,Builtin.Int.intBits]
   omega
  ·have:=zg6 e
   omega
theorem zqk {ns:List Int} (h:WData.layableAll [WData.list (ns.map WData.int)]=true): ∀ i∈ns,Builtin.Int.intBits i<=2^20:=by
 intro i hi
 have h2:WData.weight (WData.list (ns.map WData.int))<=2^20:=by
  simp only [WData.layableAll,List.all_cons,List.all_nil,Bool.and_true,WData.layable,qaG,qaD] at h
  exact h.2
 have h3:WData.weight (WData.list (ns.map WData.int))=WData.weightAll (ns.map WData.int):=by simp only [WData.weight]
 have:=zg6 hi
 omega
theorem ziL {l:OpenLaw} {n:Nat} {q:Program} {loose:List Str} {XP:(Str->Option Value)->Heap->Prop} {YP:World->Heap->Prop} {d:DefRec}
  (hn:l.most=some n) (hdf:d.params.defaults=[])
  (call: ∀ (w:World) (s₀ s₁:Shared) (mg mb:Str->Option Value) (fa:Addr) (o:Obj) (pm cd doc:Value) (a:Addr) (vs:List Value) (ns:List Int),
    Ground q loose [] XP w s₀ mg mb s₁.heap->YP w s₁.heap->
    s₁.heap.get? fa=some o->o.data= .func (docDef d.name d.params d.body d.scope pm cd doc)->s₁.heap.CodeRec cd d.name->mg d.name=some (.ref fa)->
    s₁.heap.get? a=some {cls:= .type "list",data:= .seq vs.toArray}->IntsAre vs ns->ns.length<=n->(∀ i∈ns,Builtin.Int.intBits i<=2^20)->s₁.gens= #[]->
    codeAny (model l.prog w) callerA (.call (.ref fa) ⟨[.ref a],[]⟩) (λr s'=>r= .ok (.ret (.bool true))/\OldK s₁.heap s'.heap/\s'.os=s₁.os/\AllBare s'.gens) s₁):
  WalkO q loose XP YP l.row.toRowW d [] (λf vs=>PySem.call f vs):=by
 intro w s₀ s₁ mg mb G Y fa o pm cd doc dV kV ho hd hcd hD hmg hg args vals as hpre hlay hrd hwl hlo
 obtain rfl:dV= .none:=Dflts.none hD hdf
 obtain rfl:kV= .none:=Dflts.noKw hD
 obtain ⟨a,vs,ns,rfl,rfl,hobj,hints,hlen⟩:=zm2 hn hpre hwl
 refine enter_call (codeAny_mono (call w s₀ s₁ mg mb fa o pm cd doc a vs ns G Y ho (fd_plain hd) hcd hmg hobj hints hlen (zqk hlay) hg) λr s' hq=> ?_)
 obtain ⟨rfl,h2,h3,h4⟩:=hq
 exact ⟨.inl ⟨.bool true,.bool true,[],rfl,λ_=>rfl,.bool true,zmy l _,λ_=>⟨List.Pairwise.nil,λ_ hm=>(nomatch hm)⟩⟩,h2,h3,h4⟩
end Att
namespace L2
theorem zoV {l:W.OpenLaw} {n k:Nat} {q:Program} {loose:List Str} {XP:(Str->Option Value)->Heap->Prop} {YP:World->Heap->Prop} {d:DefRec} {K:Params->W.Frag} {CX:World->CXT} {sp:World->Sp} {x:Str}
  (hn:l.most=some n) (hn2:n<=sizeLine) (hdf:d.params.defaults=[]) (hr:zd8 k callerA)
  (hY: ∀ (w:World) (h:Heap),YP w h->(K w.params).In h)
  (F: ∀ (w:World) (mg:Str->Option Value) (fa:Addr) (h:Heap),(K w.params).In h->h.Ns mainGlobals mg->mg d.name=some (.ref fa)->
    ∃ fd:FuncData,(∀ (s:Shared) (u:Value),BindsTo s fd ⟨[u],[]⟩ [(x,u)])/\
      ∀ base:Heap,(K w.params).In base->base.Ns mainGlobals mg->zbr l.prog w (K w.params) mg base (CX w) k fa fd [x] (sp w))
  (hsp: ∀ (w:World) (H:Hp) (a:Addr) (ns:List Int),ns.length<=n->(∀ i∈ns,Builtin.Int.intBits i<=2^20)->SqL (K w.params) H a (ns.map V.int)->sp w [.ref a] H (λv _=>v= .bl true) λ_ _ _=>False)
  (hCX: ∀ (w:World) (H:Hp) (s:Shared) (e:Value) (s':Shared),CX w [] H s (λ_ _ _=>False) e s'->False):
  W.WalkO q loose XP YP l.row.toRowW d [] (λf vs=>PySem.call f vs):=by
 refine Att.ziL hn hdf λw s₀ s₁ mg mb fa o pm cd doc a vs ns G Y ho hd hcd hmg hobj hints hlen hbits hg=> ?_
 have KX:=hY w _ Y
 obtain ⟨fd,hb,hF⟩:=F w mg fa _ KX G.T.g hmg
 exact zog KX G.T.g G.T.b G.T.builtins G.T.nolimit hg hobj hints (qaS hlen hn2) hr hF hb (λH hO hS=>hsp w H a ns hlen hbits hS) λH e s'=>hCX w H s₁ e s'
end L2
namespace L3
open L2 LT
section
variable {X:Cx} {E:XE}
def zit (i j:Int):Bool:=decide (Builtin.Int.intBits i+Builtin.Int.intBits j<=2^26)
theorem znn {i j:Int} (h:zit i j=true):IntMulOk i j:=by
 unfold zit at h
 rw [qaD] at h
 unfold IntMulOk
 intro z
 rw [qaG] at z
 have z2:=z.2
 unfold Builtin.Int.intTooBig at z2
 have hb:bitsLine=2^27:=rfl
 rw [qaD,hb] at z2
 omega
theorem zrf:OpR X (binaryOp .Mult) (rI (λi j=>IntMulOk i j) λi j=> .int (i*j)):=opI λ_ _ _ _ _ _ _ hc q=>mul_int q hc
def zee:=dII (λi j=>zbp i || zbp j || zit i j) λi j=> .int (i*j)
theorem zcU:OpR X (binaryOp .Mult) (zdZ X.K E zee):=zlE (zrf) (λi j h=>by
  rw [Bool.or_eq_true] at h
  rcases h with h | h
  · rcases (Bool.or_eq_true _ _).mp h with z | z
    · have:=zdn z
      exact IntMulOk.of_left (intBits_le_64 this.1 this.2)
    · have:=zdn z
      exact IntMulOk.of_right (intBits_le_64 this.1 this.2)
  · exact znn h) λ_ _ _ _=>by simp [Rel]
end
end L3
namespace PySem
open PySem.Sem (wp)
open PySem.AutoSeq1 (wpAny_loadPart')
section
variable {prog:Program} {w:World} {A:Around} {E:Value->Shared->Prop} {s:Shared}
end
end PySem
namespace L2
open LT
theorem zfG: ∀ (ns:List Int) (us:List Value),ns.length=us.length->(∀ (j:Nat) u,us[j]? = some u-> ∃ t,u=Value.int (ns.getD j 0) t)->za4 (ns.map V.int) us
 | [],[],_,_=> .nil
 | [],_::_,h,_=>by cases h
 | _::_,[],h,_=>by cases h
 | n::ns,u::us,h,hg=>by
  refine .cons ?_ (zfG ns us (by simpa using h) λj w e=> ?_)
  ·obtain ⟨t,e⟩:=hg 0 u rfl
   exact ⟨t,by simpa using e⟩
  ·obtain ⟨t,e⟩:=hg (j+1) w (by simpa using e)
   exact ⟨t,by simpa using e⟩
section
variable {X:Cx}
theorem zfR:zaK X (.type "range") (λxs H Q=> ∃ j:Int,xs=[.int j]/\ ∀ p,H p=none->Q (.ref p) (upd H p (.rng 0 j))):=by
 intro pins s σ H xs us Q I r h
 obtain ⟨j,rfl,q⟩:=h
 obtain ⟨u,rfl,rx⟩:=zen r
 obtain ⟨t,rfl⟩:=rx
 refine call_range_1 ?_
 exact ⟨.ref s.heap.objs.size,_,I.laid (t':=s.toks+1+1) (o:= .rng 0 j) (λb ob q=>qag _ q) (qaV _) ⟨_,_,_,qar _ rfl⟩,rfl,q _ (I.hok.fresh (qaV _))⟩
theorem zoh {j:Int} (h0:0<=j):Builtin.Range.rangeSize 0 j 1=(j.toNat:Int):=by
 unfold Builtin.Range.rangeSize
 rw [qa4 (by decide)]
 split
 ·rw [ediv_one];omega
 ·omega
end
end L2
namespace L3
open L2 LT
section
variable {X:Cx} {E:XE} {e:Expr} {f:FE}
theorem zjV {K:W.Frag} {ι:Io} {H:Hp} {n:Nat}:zau K ι H (zdj 0 n) (((List.range n).map λ(k:Nat)=>(k:Int)).map V.int):=by
 have:zdj 0 n=((List.range n).map λ(k:Nat)=>(k:Int)).map D.int:=by unfold zdj;simp
 rw [this]
 exact zdk.mpr rfl
end
@[simp] theorem zbe {d:D} {r:Sd}:zaf 0 (some d::r)=pure d:=rfl
@[simp] theorem zbE {n:Nat} {x:Option D} {r:Sd}:zaf (n+1) (x::r)=zaf n r:=rfl
def zdc (m:Int):Int->List D->Bool
 | _,[]=>true
 | l,.int i::r=>decide (l<=i) && decide (i<m) && zdc m (i+1) r
 | _,_::_=>false
theorem zc9 {m:Int}: ∀ {xs:List Int} {l:Int},zdc m l (xs.map D.int)=true↔xs.Pairwise (· < ·)/\ ∀ x∈xs,l<=x/\x<m
 | [],l=>by simp [zdc]
 | x::r,l=>by
  rw [qaM,zdc,qaG,qaG,zc9 (xs:=r) (l:=x+1),qay]
  simp only [qaD,qaP,forall_eq_or_imp]
  constructor
  ·rintro ⟨⟨h1,h2⟩,h3,h4⟩
   refine ⟨⟨λy hy=> ?_,h3⟩,⟨h1,h2⟩,λy hy=> ?_⟩
   ·have:=(h4 y hy).1;omega
   ·have:=h4 y hy;omega
  ·rintro ⟨⟨h1,h2⟩,⟨h3,h4⟩,h5⟩
   refine ⟨⟨h3,h4⟩,h2,λy hy=> ?_⟩
   have a1:=h1 y hy
   have a2:=h5 y hy
   omega
theorem zhO {m:Int}: ∀ {ts:List D} {l:Int},zdc m l ts=true->l<=m->(ts.length:Int)<=m - l
 | [],l,_,h=>by simp;omega
 | d::r,l,h,hl=>by
  cases d<;>first
   | (simp [zdc] at h;done)
   | (rename_i i
      rw [zdc,qaG,qaG,qaD,qaD] at h
      have:=zhO h.2 ⋯
      simp
      omega)
def Bx (b:Nat) (h:Hh):Prop:= ∃ z:Int,h[b]? = some (.lst [.int z])
def Ext (b:Nat) (h h':Hh):Prop:=Bx b h'/\ ∀ (n:Nat) (c:C),n≠b->h[n]? = some c->h'[n]? = some c
theorem Ext.refl {b:Nat} {h:Hh} (q:Bx b h):Ext b h h:=⟨q,λ_ _ _ e=>e⟩
theorem Ext.trans {b:Nat} {h h1 h2:Hh} (p:Ext b h h1) (q:Ext b h1 h2):Ext b h h2:=⟨q.1,λn c hn e=>q.2 n c hn (p.2 n c hn e)⟩
theorem Bx.set {b:Nat} {h:Hh} {z:Int} (q:Bx b h):Ext b h (h.set b (.lst [.int z])):=by
 obtain ⟨y,e⟩:=q
 have hl:=(qac.mp e).1
 exact ⟨⟨z,qai hl⟩,λn c hn e=>by rw [qao (Ne.symm hn)];exact e⟩
theorem Bx.push {b:Nat} {h:Hh} {c:C} (q:Bx b h):Ext b h (h++[c]):=by
 obtain ⟨y,e⟩:=q
 have hl:=(qac.mp e).1
 refine ⟨⟨y,by rw [qad hl];exact e⟩,λn c' hn e=> ?_⟩
 rw [qad (qac.mp e).1]
 exact e
theorem zdE {j:Int} (h0:0<=j) (h:j<1000):zlZ [.int j]=pure (zdj 0 j.toNat):=by
 show (if zer j=true then _ else _)=_
 rw [qa4 (by unfold zer;simp;omega)]
theorem zl8 {n:Nat} {d:D} (h:d∈zdj 0 n): ∃ i:Int,d= .int i/\0<=i/\i<n:=by
 unfold zdj at h
 obtain ⟨k,hk,e⟩:=qaU.mp h
 have:=mem_range.mp hk
 exact ⟨0+(k:Int),e.symm,⋯,⋯⟩
theorem zjF {n:Nat}:(zdj 0 n).length=n:=by unfold zdj;simp
theorem zhm (n:Nat):zdj 0 n=((List.range n).map λ(k:Nat)=>(k:Int)).map D.int:=by unfold zdj;simp
theorem zpn {α:Type} {c:Prop} [Decidable c] {a b:M α} {h:Hh} {P:α->Hh->Prop}:wp (if c then a else b) h P↔if c then wp a h P else wp b h P:=by split<;>exact Iff.rfl
end L3
namespace L2
open L3
structure HS (H H':Hp) (h:Heap):Prop where
 free: ∀ b o,h.get? b=some o->H b=none->H' b=none
 tups: ∀ b xs,H b=some (.tup xs)->H' b=some (.tup xs)
 frzs: ∀ b o u,H b=some (.frz o u)->H' b=some (.frz o u)
 tbls: ∀ b ps,H b=some (.tbl ps)-> ∃ more,H' b=some (.tbl (ps++more))
structure FlB (P:Program) (w:World) (l:List Env) (H:Hp) (h:Heap) (H':Hp) (B:Heap):Prop where
 old: ∀ b o,h.get? b=some o->b∉frs l-> ∃ o',B.get? b=some o'/\(H b=none->o'=o)
 trk: ∀ b u,H' b=some u-> ∃ o,B.get? b=some o
 ok:HOk P w H' B
structure Fl (P:Program) (w:World) (l:List Env) (H:Hp) (s:Shared) (a C:Addr) (fl:Value) (H':Hp) (s':Shared):Prop where
 os:s'.os=s.os
 bare:AllBare s'.gens
 base: ∃ B:Heap,Fly B l a (.ref C) fl s'.heap/\FlB P w l H s.heap H' B
 slot: ∀ b o,s.heap.get? b=some o->H b=none->b∈frs l-> ∃ sl,s'.heap.get? b=some {o with slots:=sl}
 hs:HS H H' s.heap
section
variable {P:Program} {w:World} {l:List Env} {H H':Hp} {s s':Shared} {a C:Addr} {fl:Value}
section
variable {M:Model} {A:Around} {E:Value->Shared->Prop} {env:Env} {outer:List Env} {L:Addr} {Q:Unit->Shared->Prop}
end
end
structure zwy (X:Cx):Prop where
 stk:X.stack=X.env::X.outer
 frm:X.env.frame=some X.env.locals
 ex:X.ex=[]
section
variable {X:Cx} {pins:List (Addr×Obj)} {σ:St} {H H':Hp} {s s':Shared} {a C:Addr} {M:Model} {E:Value->Shared->Prop} {Q:Unit->Shared->Prop}
end
def CXE (P:Program) (w:World):CXT:=λouter H s E e s'=> ∃ a C H',e= .ref a/\Fl P w outer H s a C .none H' s'/\E e (some C) H'
end L2
namespace L3
open L2
def zsG (K:W.Frag) (c:String) (C:Addr):Prop:=W.nsIn K mainGlobals (c:Str)=some (some (.ref C))
def zwr (K:W.Frag) (E:XK):XE:=λc H'=> ∀ C v,zsG K c C->E v (some C) H'
section
variable {P:Program} {w:World} {K:W.Frag} {mg:Str->Option Value} {base:Heap} {N:List Str} {qual:Str} {scope:Scope} {f:Addr} {cd:Value} {A:Around} {outer:List Env} {s:Shared} {H:Hp} {E:XK}
end
noncomputable def noX {α:Type} (m:M α):M α:=λh=>match m h with
 | .exc _ _=> .bad
 | r=>r
def spE (K:W.Frag) (n:Nat) (F:List D->M D):Sp:=λvs H Q E=>vs.length=n/\ ∃ ι h ds,zau K ι H ds vs/\zbg K ι H h/\Fin K (zwr K E) ι H (F ds h) λd ι' H'=> ∀ v,Rel K ι' H' d v->Q v H'
section
variable {P:Program} {w:World} {K:W.Frag} {mg:Str->Option Value} {base:Heap}
end
section
variable {X:Cx} {E:XE} {e:Expr} {es:List Expr} {pos p:Pos}
end
end L3
namespace L2
open L3
structure zuL (k:Nat) (A:Around):Prop where
 dp:A.depth+3*k+5<recursionLimit
 un:A.units+16*k+200<cLine
structure FnH (P:Program) (w:World) (K:W.Frag) (mg:Str->Option Value) (base:Heap) (k:Nat) (f:Addr) (fd:FuncData) (ps:List Str) (sp:Sp):Prop where
 len: ∀ vs H Q E,sp vs H Q E->vs.length=ps.length
 run: ∀ (A:Around) (outer:List Env) (s:Shared) (H:Hp) (args:Args) (us:List Value) (vs:List V) (Q:VK),zuL k A->zpp P w K mg base A outer s H->BindsTo s fd args (ps.zip us)->za4 vs us->sp vs H Q E0->
  codeAny (model P w) A (.call (.ref f) args) (CR CX0 outer P w H s Q E0) s
section
variable {X:Cx} {pins:List (Addr×Obj)} {σ:St} {H H':Hp} {s s':Shared} {a:Addr} {o:Obj}
end
section
variable {X:Cx} {pins:List (Addr×Obj)} {σ:St} {H H':Hp} {s s':Shared} {a C CE:Addr} {ce en:Str} {pce pos:Pos} {b₀:Stmt} {suite:List Stmt} {j:Nat} {Q:Flow->Shared->Prop} {E:Value->Shared->Prop}
end
abbrev ztf:List Value:=[.type "ValueError",.type "Exception",.type "BaseException",.type "object"]
section
variable {X:Cx} {pins pins':List (Addr×Obj)} {σ:St} {H H':Hp} {s s':Shared} {xe:Value->Shared->Prop}
end
end L2
namespace L3
open L2
section
variable {X:Cx} {pins:List (Addr×Obj)} {σ:L2.St} {H:Hp} {s:Shared} {a C:Addr} {o:Obj} {vs:Array Value} {head:Value} {c:String} {gk en pe:Str} {p1 p2 p3:Pos} {j k:Nat} {fk:Addr} {fdk:FuncData} {Fk:List D->M D} {Qv:VK} {ι:Io} {h:Hh}
end
section
variable {X:Cx} {E:XE} {body:List Stmt} {ce en gk pe x:Str} {pce p1 p2 p3 p4 p5 hp pos:Pos} {CE fk:Addr} {fdk:FuncData} {Fk:List D->M D} {gb:FS} {j k i:Nat} {known:List String}
def zsO (c:String):FS:=λ_ h=> .exc c h
end
end L3
namespace L3
open PySem.W
section
variable {prog:Program} {w:World} {A:Around} {E:Value->Shared->Prop} {s:Shared} {K:Frag} {x D:Addr} {ox:Obj}
end
end L3
namespace L3
open L2
def kxb (K:W.Frag) (C:Addr):Bool:=(W.clsIn K C).isSome && W.findIn K (.ref C) "__getattribute__"==some (some (.builtin "BaseException.__getattribute__")) && W.findIn K (.ref C) "__getattr__"==some none && W.findIn K (.ref C) "__class__"==some (some (.builtin "object.__class__"))
 && W.specialIn K (.builtin "object.__class__") "__get__"==some (some (.builtin "getset_descriptor.__get__")) && W.takesIn K (.builtin "object.__class__")==some true && W.mroIn K C (.type "object")==some true && W.mroIn K C (.type "BaseException")==some true
structure zwd (K:W.Frag) (CE:Addr) (names:List String) (c:String) (C:Addr):Prop where
 exc:W.excIn K C ztf "ValueError.__new__"=true
 cov:W.exmOne K (.ref C) (.ref CE)=some true
 kx:kxb K C=true
 ve:W.kitOne K (.ref C) (.type "ValueError")=some true
 one: ∀ c'∈names, ∀ C',zsG K c' C'->W.kitOne K (.ref C) (.ref C')=some (c==c')
section
variable {X:Cx} {E:XE}
variable {a:Expr} {p1 p2 pos:Pos} {fa:FE} {CE CC:Addr} {names:List String}
end
end L3
namespace L3
section
variable {prog:Program} {w:World} {A:Around} {E:Value->Shared->Prop} {s:Shared}
end
end L3
namespace L2
open L3
section
variable {X:Cx}
theorem zkI:MtM X "list.extend" (λx vs H Q=> ∃ l b xs zs,x= .ref l/\vs=[.ref b]/\H l=some (.lst xs)/\SqT X.K H b zs/\xs.length+zs.length<=sizeLine/\Q .non (upd H l (.lst (xs++zs)))):=by
 intro pins s σ H x vs v us Q I rx rv h
 obtain ⟨l,b,xs,zs,rfl,rfl,hH,hB,hz,q⟩:=h
 cases rx
 obtain ⟨u,rfl,ru⟩:=zen rv
 cases ru
 obtain ⟨z,its,n,r,hl,e⟩:=I.lstM hH
 obtain ⟨its2,r2,⟨ob,e2,c2,n2,d2⟩,z2⟩:=I.tuple hB
 have l2:=r2.length
 have hsz:its.toArray.size+its2.toArray.size<=sizeLine:=by rw [qaA,qaA];omega
 refine wpAny_call (codeAny_call_builtin F.slot_list_extend.plain F.entry_list_extend (F.slot_list_extend.check _ _ _ _ _ _ _ _ ⟨_,e,rfl⟩ (F.args_list_extend_2 _ _) ?_))
 unfold Builtin.«list.extend»
 refine qaW (qaX ?_)
 unfold Builtin.List.listExtendWith
 refine qaW (wpAny_typeOf ⟨ob,e2,c2⟩ ?_)
 have h1:(Builtin.List.listSameRef (.ref l) (.ref b) || Value.type "tuple"==Value.type "list" || Value.type "tuple"==Value.type "tuple")=true:=by simp
 simp only [h1,if_true]
 unfold Builtin.List.listItems
 refine qaW (qaW (wpAny_seqItems e2 d2 (qaX ?_)))
 refine qaW (qaW (wpAny_seqItems e rfl (qaX ?_)))
 rw [qa5 (by rw [zo1 hsz,Bool.and_false];exact Bool.false_ne_true)]
 refine qaW (wpAny_updateSeq e rfl ?_ (by rw [qaA];omega))
 refine qaX ?_
 refine ⟨.non,_,I.lset (its':=its++its2) hH e (by simp) (r.append r2) ?_,rfl,q⟩
 rw [qav]
 omega
end
end L2
namespace L3
open L2
def zv6 (f:FE):FE:=λsd=>noX (f sd)
def zwz (f:FS):FS:=λsd=>noX (f sd)
section
variable {X:Cx} {E:XE} {a e o:Expr} {es:List Expr} {pos p cpos apos:Pos} {f fo fe fa:FE} {fs:FA} {x:Str}
def zei (x y:D):M D:=match x,y with
 | .cel n,.tup zs=>do
  let ds<-zai n
  fits (ds.length+zs.length)
  zbF n (ds++zs)
  pure .non
 | _,_=>M.bad
def zjp (fo fe:FE):FE:=λsd=>do
 let x<-fo sd
 zc7 x
 let y<-fe sd
 zei x y
theorem zow (ho:SE X E o fo) (he:SE X E e fe)
  (hbase:attributeBase o "extend" X.env (eval o X.env)=eval o X.env:=by rfl)
  (hfew:((backTo cpos (starEach [e] X.env)).all (λx=> !x.1) && (backToKw cpos (keywordEach [] X.env)).all (λx=>x.1.isSome)
    && decide (([e]:List Expr).length+([]:List Keyword).length+(if ([]:List Keyword).isEmpty then 0 else 1)<30))=true:=by rfl)
  (hline:(apos.endLine==cpos.line)=true:=by rfl) (hs:starEach [e] X.env=(false,eval e X.env)::starEach [] X.env:=by rfl) (hplain:(backTo cpos (starEach [] X.env)).any (·.1)=false:=by rfl):
  SE X E (.Call (.Attribute o "extend" apos) [e] [] cpos) (zjp fo fe):=by
 refine PE.imp (zo2 PySem.F.plainAttrs_list PySem.F.slot_list_extend PySem.F.type_list_extend zkI ho (zb3 he zdx hs) hbase hfew hline hs hplain) λσ H Q ⟨ι,h,sd,L,hh,q⟩=>⟨ι,h,sd,L,hh,Fin.bind q λd h1 ι1 H1 e1 s1 hr1 q1 v rv=> ?_⟩
 cases d with
 | cel n=>
  have q2:Fin X.K E ι1 H1 ((zai n>>=λ_=>fe sd>>=λy=>zei (.cel n) y) h1) (λd ι' H'=> ∀ v,Rel X.K ι' H' d v->Q v H'):=by
   have ee:(zc7 (.cel n)>>=λ_=>fe sd>>=λy=>zei (.cel n) y:M D)=(zai n>>=λ_=>fe sd>>=λy=>zei (.cel n) y):=by
    show ((zai n>>=λ_=>pure ())>>=λ_=>fe sd>>=λy=>zei (.cel n) y)=_
    simp only [bind_assoc,pure_bind]
   rw [<- ee]
   exact q1
  obtain ⟨ds,e2,q3⟩:=ze7 q2
  obtain ⟨a,vs,rfl,hn,hH,rl⟩:=hr1.read rv e2
  refine ⟨.inl ⟨rfl,vs,SqL.of hH⟩,ι1,h1,sd,L.step s1,hr1,Fin.bind q3 λy h3 ι3 H3 e3 s3 hr3 q4 w rw'=> ?_⟩
  have rv3:=rv.step s3
  cases y with
  | tup zs=>
   have q5:Fin X.K E ι3 H3 ((zai n>>=λds=>fits (ds.length+zs.length)>>=λ_=>zbF n (ds++zs)>>=λ_=>pure D.non) h3) (λd ι' H'=> ∀ v,Rel X.K ι' H' d v->Q v H'):=q4
   obtain ⟨ds3,e4,q6⟩:=ze7 q5
   obtain ⟨a3,vs3,ea,hn3,hH3,rl3⟩:=hr3.read rv3 e4
   cases ea
   obtain ⟨b,ws,eb,hb,rlb⟩:=zdg rw'
   obtain ⟨z,q7⟩:=Fin.fits q6
   refine ⟨a,b,vs3,ws,rfl,by rw [eb],hH3,hb,by rw [<- rl3.length, <-rlb.length];exact z,?_⟩
   have q8:Fin X.K E ι3 H3 (R.ok D.non (h3.set n (.lst (ds3++zs)))) (λd ι' H'=> ∀ v,Rel X.K ι' H' d v->Q v H'):=q7
   exact q8 ι3 _ (hr3.cellS hn3) (hr3.cell hn3 (rl3.append rlb)) _ (by simp [Rel])
  | _=>exact qa0 q4
 | _=>exact qa0 q1
end
section
variable {P:Program} {w:World} {K:W.Frag} {mg:Str->Option Value} {base:Heap}
end
section
variable {X:Cx} {E:XE} {body:List Stmt} {ce en gk pe x:Str} {pce p1 p2 p3 p4 p5 hp pos:Pos} {CE fk:Addr} {fdk:FuncData} {Fk:List D->M D} {gb:FS} {k:Nat} {known:List String}
end
def ztc (Fs:List (List D->M D)) (i:D):M (List D->M D):=match i with
 | .int j=>(match ixN Fs.length j with
   | some m=>ofO Fs[m]?
   | none=>M.bad)
 | _=>M.bad
def zut (n:Nat) (Fs:List (List D->M D)) (fi:FE) (fs:FA):FE:=λsd=>do
 let i<-fi sd
 let F<-ztc Fs i
 let ds<-fs sd
 zaj n F ds
structure Fns (X:Cx) (n:Nat) (addrs:List Addr) (Fs:List (List D->M D)):Prop where
 len:Fs.length=addrs.length
 ok: ∀ (m:Nat) (F:List D->M D) (a:Addr),Fs[m]? = some F->addrs[m]? = some a-> ∃ k fd ps,zbr X.prog X.w X.K X.mg X.base (CXE X.prog X.w) k a fd ps (spE X.K n F)/\zd8 k X.A/\W.keepIn X.K (.ref a)=true/\zay X.K fd ps []
section
variable {X:Cx} {E:XE} {e ix:Expr} {es fes:List Expr} {pos p q3 q4:Pos} {fi:FE} {fs:FA} {x:Str}
end
end L3
namespace L2
def Itd (lo:Int) (n:Nat):It:=⟨λi _=>i<n,λi H x H'=>H'=H/\x= .int (lo - i),λi _=>n<=i⟩
theorem zlH {P:Program} {w:World} {K:W.Frag} {tg:Expr} (it:Addr) (lo:Int) (n:Nat):zqo P w K tg (Itd lo n) [it] it (λi h=>IsRangeIter h it (lo - (i:Nat)) ((n:Int) - (i:Nat)) (-1)) where
 mem:=by simp
 obj:=λi h st b hb=>by
  have e:b=it:=by simpa using hb
  subst e
  exact ⟨_,st,λv z=>by
    have z':Data.fields _=Data.cell v:=z
    cases z'⟩
 keep:=λi h h' st k=>k it (by simp) _ st
 item:=by
  intro X hP hw hK i pins s σ H E I hf st hg
  subst hP hw hK
  obtain ⟨f0,f1,f2,f3,f4,f5⟩:=hf it (by simp)
  refine wpAny_pyNext_range_item st (by have:i<n:=hg;omega) λh' st' kk=> ?_
  have e1:lo - (i:Nat)+ -1=lo - ((i+1:Nat):Int):=by omega
  have e2:(n:Int) - (i:Nat) - 1=(n:Int) - ((i+1:Nat):Int):=by omega
  rw [e1,e2] at st'
  have I1:Inv X pins σ H {s with heap:=h',toks:=s.toks+1}:=I.turned (λb o hb e=>(kk.2 b hb).trans e) f0 f1 f3 f4 f5
  exact ⟨_,rfl,zoN (s:={s with heap:=h',toks:=s.toks+1}) (n:="range_iterator") st' rfl rfl (by decide) ⟨.int (lo - i),H,I1,⟨s.toks,rfl⟩,⟨rfl,rfl⟩,st',λb hb=>(hf b hb).1⟩⟩
 done:=by
  intro X hP hw hK i pins s σ H E I hf st hg
  subst hP hw hK
  obtain ⟨f0,f1,f2,f3,f4,f5⟩:=hf it (by simp)
  exact L3.zhZ I.hand st (by have:n<=i:=hg;omega) λh' eb=>⟨rfl,I.turned (t':=s.toks) (λb o hb e=>eb b o hb e) f0 f1 f3 f4 f5⟩
 self:=λ_ _ _ _ _ st h=>wpAny_pyIter_rangeiter st h
theorem ziS {a b:Int}:Builtin.Range.rangeSize a b (-1)=((a - b).toNat:Int):=by
 unfold Builtin.Range.rangeSize
 rw [qa5 (by decide)]
 split
 ·rw [show (-(-1):Int)=1 by decide,ediv_one];omega
 ·omega
theorem zkF {a b:Int} (ha: -1000<=a) (ha':a<1000) (hb: -1000<=b) (hb':b<1000):Builtin.Range.small a b (-1)=true:=by
 unfold Builtin.Range.small
 rw [ziS]
 simp only [Builtin.Range.rangeFitsLong,qaG,Bool.or_eq_true,qaD,beq_iff_eq,show ¬(-1:Int)>0 by decide,if_false]
 omega
section
variable {X:Cx} {tg:Expr}
def zuX (ta:TA):TI:=λσ H R=>ta σ H λvs H1=> ∃ i j:Int,vs=[.int i,.int j,.int (-1)]/\(-1000<=i/\i<1000/\ -1000<=j/\j<1000)/\R (Itd i (i - j).toNat) H1
theorem zlQ {a b c:Expr} {ta:TA} {p pos:Pos} (hg:Gl X "range") (hm:X.mg "range"=none) (ha:PA X [a,b,c] ta) (hs:starEach [a,b,c] X.env=[(false,eval a X.env),(false,eval b X.env),(false,eval c X.env)]:=by rfl) (hs2:starEach [b,c] X.env=[(false,eval b X.env),(false,eval c X.env)]:=by rfl):
  PI X tg (.Call (.Name "range" p) [a,b,c] [] pos) (zuX ta):=by
 intro pins s σ H R I h
 refine Call_ (zgQ I hg hm boot_range (PyProof.Rows.callWith_type1 (thn (ha pos pins s σ H _ I h) λus s1 ⟨vs,H1,I1,r1,q1⟩=> ?_) (by rw [hs,hs2]) (by rw [hs2];rfl)))
 obtain ⟨i,j,e,⟨q1,q2,q3,q4⟩,q⟩:=q1
 subst e
 cases r1 with
 | cons r rr=>
  cases rr with
  | cons r' rr=>
   cases rr with
   | cons r'' rr=>
    cases rr
    obtain ⟨t,rfl⟩:=r
    obtain ⟨t',rfl⟩:=r'
    obtain ⟨t'',rfl⟩:=r''
    refine call_range_3 (by decide) ?_ (Or.inl (PyProof.noPylong_small (by decide)))
    refine wpAny_pyIter_range (IsRange.new ..) (zkF q1 q2 q3 q4) ?_
    have I2:Inv X pins σ H1 {s1 with heap:=s1.heap.push {cls:= .type "range",data:= .fields #[.int i t,.int j t',.int (-1) t'']},toks:=s1.toks}:=I1.kept λb o e=>qag _ e
    refine ⟨(s1.heap.push {cls:= .type "range",data:= .fields #[.int i t,.int j t',.int (-1) t'']}).objs.size,[(s1.heap.push {cls:= .type "range",data:= .fields #[.int i t,.int j t',.int (-1) t'']}).objs.size],_,_,H1,rfl,
      I2.kept (t':=s1.toks) λb o e=>qag _ e,zlH _ i (i - j).toNat,?_,λb hb=> ?_,q⟩
    ·have e1:i - ((0:Nat):Int)=i:=by simp
     have e2:(((i - j).toNat:Nat):Int) - ((0:Nat):Int)=Builtin.Range.rangeSize i j (-1):=by rw [ziS];simp
     show IsRangeIter _ _ (i - ((0:Nat):Int)) ((((i - j).toNat:Nat):Int) - ((0:Nat):Int)) (-1)
     rw [e1,e2]
     exact qar _ rfl
    ·have e:b=(s1.heap.push {cls:= .type "range",data:= .fields #[.int i t,.int j t',.int (-1) t'']}).objs.size:=by simpa using hb
     subst e
     exact I2.fpOk (qaV _) (I2.hok.fresh (qaV _))
theorem ze8 (hc:X.calm=true):zaK X (.type "list") (λxs H Q=> ∃ (p:Addr) (j:Int),xs=[.ref p]/\H p=some (.rng 0 j)/\0<=j/\j<1000/\ ∀ l,H l=none->Q (.ref l) (upd H l (.lst (((List.range j.toNat).map λ(k:Nat)=>(k:Int)).map V.int)))):=by
 intro pins s σ H xs us Q I r h
 obtain ⟨p,j,rfl,hp,h0,h1,q⟩:=h
 obtain ⟨u,rfl,rx⟩:=zen r
 cases rx
 obtain ⟨t,u',v,hr⟩:=(show zcf X.prog X.w H s.heap p (.rng 0 j) from I.hok p _ hp)
 refine call_list_range (I.ok.hd hc) hr (small_one ⋯ ⋯ ⋯ ⋯) (zoh h0) ⋯ λh' tk acc c' hk hS hacc=> ?_
 have hl:acc.toList.length=j.toNat:=by rw [qas];exact hacc.1
 have I2:=I.laid (t':=tk) (h':=h') (a:=s.heap.objs.size) (o:= .lst (((List.range j.toNat).map λ(k:Nat)=>(k:Int)).map V.int)) hk (qaV _)
  (show zcf X.prog X.w _ h' _ (.lst _) from ⟨by rw [qaH,qaH,length_range];exact qaS (show j.toNat<=1000 by omega) (by decide),acc.toList,c',zfG _ _ (by rw [qaH,length_range,hl]) (λk w e=> ?_),by simpa using hS⟩)
 ·exact ⟨.ref s.heap.objs.size,_,I2,rfl,q _ (I.hok.fresh (qaV _))⟩
 ·have hk':k<j.toNat:=by rw [<- hl];exact (qac.mp e).1
  obtain ⟨t,et⟩:=hacc.2 k w (by simpa using e)
  refine ⟨t,?_⟩
  rw [et]
  simp [hk']
end
end L2
namespace L3
open L2
section
variable {X:Cx} {E:XE} {e o:Expr} {f fo fe:FE} {pos apos cpos:Pos}
noncomputable def zev (tc:FT) (gb:FS):Nat->FS
 | 0,_=>M.bad
 | n+1,sd=>do
  let b<-tc sd
  if b=true then
   let o<-gb sd
   match o with
   | .nx sd'=>zev tc gb n sd'
   | .ct sd'=>zev tc gb n sd'
   | .bk sd'=>pure (.nx sd')
   | .rt d=>pure (.rt d)
  else pure (.nx sd)
def zkl (n:Nat) (tc:FT) (gb:FS):FS:=zev tc gb n
theorem zlq {c:Expr} {body:List Stmt} {tc:FT} {gb:FS} (n:Nat) (hp:PassesOwn (model X.prog X.w) X.A X.env X.xe) (hc:ST X E c tc) (hb:SSs X E body gb):SS X E (.While c body [] pos) (zkl n tc gb):=by
 refine PS.imp (znE hp hc hb) λD0 σ H ⟨ι,h,sd,L,hh,q⟩=> ?_
 refine ⟨λm σ' H'=> ∃ ι' h' sd',zc3 X.K ι' H' sd' σ'/\zbg X.K ι' H' h'/\Fin X.K E ι' H' (zev tc gb m sd' h') (zhA X.K D0),⟨n,ι,h,sd,L,hh,q⟩,?_⟩
 rintro m σ2 H2 ⟨ι2,h2,sd2,L2,hr2,q2⟩
 cases m with
 | zero=>exact qa0 q2
 | succ m=>
  refine ⟨ι2,h2,sd2,L2,hr2,Fin.bind q2 λb h3 ι3 H3 e3 s3 hr3 q3=> ?_⟩
  cases b with
  | true=>
   refine ⟨λσ' H'=> ∃ ι' h' sd',zc3 X.K ι' H' sd' σ'/\zbg X.K ι' H' h'/\Fin X.K E ι' H' (zev tc gb m sd' h') (zhA X.K D0),λσ' H' p=>⟨m,⋯,p⟩,ι3,h3,sd2,L2.step s3,hr3,Fin.bind q3 λo h7 ι7 H7 e7 s7 hr7 q7=> ?_⟩
   cases o with
   | nx sd'=>exact λσ' L'=>⟨ι7,h7,sd',L',hr7,q7⟩
   | ct sd'=>exact λσ' L'=>⟨ι7,h7,sd',L',hr7,q7⟩
   | bk sd'=>exact λσ' L'=>Fin.out (E:=E) (P:=zhA X.K D0) hr7 q7 σ' L'
   | rt d=>exact λv rv=>Fin.out (E:=E) (P:=zhA X.K D0) hr7 q7 v rv
  | false=>exact Fin.out (E:=E) (P:=zhA X.K D0) hr3 q3 σ2 (L2.step s3)
noncomputable def zk7 (lo:Int) (n:Nat):List D:=(List.range n).map λ(k:Nat)=>D.int (lo - (k:Int))
theorem znP {K:W.Frag} {ι:Io} {H:Hp} {lo:Int} {n:Nat}:zqT K ι H (Itd lo n) (zk7 lo n) where
 go:=λι' H' i s hi=>by show i<n;simpa [zk7] using hi
 yld:=λι' H' _ i x H2 s _ hi ⟨e,y⟩=>by
  subst e y
  have hi:i<n:=by simpa [zk7] using hi
  refine ⟨.inl rfl,.int (lo - i),?_,by simp [Rel]⟩
  simp [zk7,hi]
 stop:=λι' H' s=>by
  show n<=(zk7 lo n).length
  simp [zk7]
def zn4:List D->M (List D)
 | [.int i,.int j,.int c]=>if (-1000<=i/\i<1000/\ -1000<=j/\j<1000)/\c= -1 then pure (zk7 i (i - j).toNat) else M.bad
 | _=>M.bad
def zq3 (fs:FA):FA:=λsd=>do let ds<-fs sd;zn4 ds
theorem ztE {tg a b c:Expr} {p:Pos} {fs:FA} (hm:X.mg "range"=none) (ha:SA X E [a,b,c] fs) (hg:Gl X "range":=by rfl) (hs:starEach [a,b,c] X.env=[(false,eval a X.env),(false,eval b X.env),(false,eval c X.env)]:=by rfl) (hs2:starEach [b,c] X.env=[(false,eval b X.env),(false,eval c X.env)]:=by rfl):
  SI X E tg (.Call (.Name "range" p) [a,b,c] [] pos) (zq3 fs):=by
 refine PI.imp (zlQ hg hm ha hs hs2) λσ H Q ⟨ι,h,sd,L,hh,q⟩=>⟨ι,h,sd,L,hh,Fin.bind q λds h1 ι1 H1 e1 s1 hr1 q1 vs rv=> ?_⟩
 unfold zn4 at q1
 split at q1
 ·rename_i i j c'
  simp only [zau,Rel] at rv
  obtain ⟨v,r,rfl,rfl,v',r',rfl,rfl,v'',r'',rfl,rfl,rfl⟩:=rv
  by_cases hj:(-1000<=i/\i<1000/\ -1000<=j/\j<1000)/\c'= -1
  ·rw [qa4 hj] at q1
   obtain ⟨hj,rfl⟩:=hj
   exact ⟨i,j,rfl,hj,Fin.out hr1 q1 _ znP⟩
  ·rw [qa5 hj] at q1
   exact qa0 q1
 ·exact qa0 q1
def zfT:D->M D
 | .int j=>if 0<=j/\j<1000 then zdO (zdj 0 j.toNat) else M.bad
 | _=>M.bad
theorem znH {p1 p2 pos pos2:Pos} (hc:X.calm=true) (hm1:X.mg "list"=none) (hm2:X.mg "range"=none) (he:SE X E e f) (hg1:Gl X "list":=by rfl) (hg2:Gl X "range":=by rfl)
  (h1:starEach [.Call (.Name "range" p2) [e] [] pos2] X.env=[(false,eval (.Call (.Name "range" p2) [e] [] pos2) X.env)]:=by rfl) (h2:starEach [e] X.env=[(false,eval e X.env)]:=by rfl):
  SE X E (.Call (.Name "list" p1) [.Call (.Name "range" p2) [e] [] pos2] [] pos) (cUn zfT f):=by
 refine PE.imp (zdi (ze8 hc) hg1 hm1 PyProof.Rows.boot_list (zb3 (zdi zfR hg2 hm2 boot_range (zb3 he zdx h2) (he:=h2)) zdx h1) (he:=h1)) λσ H Q ⟨ι,h,sd,L,hh,q⟩=>⟨ι,h,sd,L,hh,Fin.bind q λd h1 ι1 H1 e1 s1 hr1 q1 v rv=> ?_⟩
 cases d with
 | int j=>
  simp only [Rel] at rv
  obtain ⟨⟨c1,c2⟩,q2⟩:=Fin.guard q1
  refine ⟨j,by rw [rv],λp hp=> ?_⟩
  have hr2:zbg X.K ι1 (upd H1 p (.rng 0 j)) h1:=hr1.laid hp
  exact ⟨p,j,rfl,za2,c1,c2,λl hl=>zvZ hr2 zjV (Fin.step (hr1.laidS hp) q2) hl⟩
 | _=>exact qa0 q1
def zhF:D->M D
 | .int j=>if 0<=j/\j<1000 then pure (.lst (zdj 0 j.toNat)) else M.bad
 | _=>M.bad
theorem zlr {p1 p2 pos pos2:Pos} (hc:X.calm=true) (hm1:X.mg "list"=none) (hm2:X.mg "range"=none) (he:SE X E e f) (hg1:Gl X "list":=by rfl) (hg2:Gl X "range":=by rfl)
  (h1:starEach [.Call (.Name "range" p2) [e] [] pos2] X.env=[(false,eval (.Call (.Name "range" p2) [e] [] pos2) X.env)]:=by rfl) (h2:starEach [e] X.env=[(false,eval e X.env)]:=by rfl):
  SE X E (.Call (.Name "list" p1) [.Call (.Name "range" p2) [e] [] pos2] [] pos) (cUn zhF f):=by
 refine PE.imp (zdi (ze8 hc) hg1 hm1 PyProof.Rows.boot_list (zb3 (zdi zfR hg2 hm2 boot_range (zb3 he zdx h2) (he:=h2)) zdx h1) (he:=h1)) λσ H Q ⟨ι,h,sd,L,hh,q⟩=>⟨ι,h,sd,L,hh,Fin.bind q λd h1 ι1 H1 e1 s1 hr1 q1 v rv=> ?_⟩
 cases d with
 | int j=>
  simp only [Rel] at rv
  obtain ⟨⟨c1,c2⟩,q2⟩:=Fin.guard q1
  refine ⟨j,by rw [rv],λp hp=> ?_⟩
  have hr2:zbg X.K ι1 (upd H1 p (.rng 0 j)) h1:=hr1.laid hp
  exact ⟨p,j,rfl,za2,c1,c2,λl hl=>zpu hr2 zjV (Fin.step (hr1.laidS hp) q2) hl⟩
 | _=>exact qa0 q1
def zgd (x y:D):M D:=match x,y with
 | .cel n,.int i=>do
  let ds<-zai n
  if 0<=i/\i<1000 then
   match ds[i.toNat]? with
   | some d=>do zbF n (ds.eraseIdx i.toNat);pure d
   | none=>M.bad
  else M.bad
 | _,_=>M.bad
def zuq (fo fe:FE):FE:=λsd=>do
 let x<-fo sd
 zc7 x
 let y<-fe sd
 zgd x y
theorem zau.eraseIdx {K:W.Frag} {ι:Io} {H:Hp}: ∀ {ds:List D} {vs:List V} (i:Nat),zau K ι H ds vs->zau K ι H (ds.eraseIdx i) (vs.eraseIdx i)
 | [],vs,i,h=>by
  simp only [zau] at h
  subst h
  simpa using zau.nil
 | x::r,vs,i,h=>by
  simp only [zau] at h
  obtain ⟨v,vs',rfl,rv,rl⟩:=h
  cases i with
  | zero=>simpa using rl
  | succ i=>exact zau.cons rv (zau.eraseIdx i rl)
theorem zvF (ho:SE X E o fo) (he:SE X E e fe)
  (hbase:attributeBase o "pop" X.env (eval o X.env)=eval o X.env:=by rfl)
  (hfew:((backTo cpos (starEach [e] X.env)).all (λx=> !x.1) && (backToKw cpos (keywordEach [] X.env)).all (λx=>x.1.isSome)
    && decide (([e]:List Expr).length+([]:List Keyword).length+(if ([]:List Keyword).isEmpty then 0 else 1)<30))=true:=by rfl)
  (hline:(apos.endLine==cpos.line)=true:=by rfl) (hs:starEach [e] X.env=(false,eval e X.env)::starEach [] X.env:=by rfl) (hplain:(backTo cpos (starEach [] X.env)).any (·.1)=false:=by rfl):
  SE X E (.Call (.Attribute o "pop" apos) [e] [] cpos) (zuq fo fe):=by
 refine PE.imp (zo2 PySem.F.plainAttrs_list PySem.F.slot_list_pop PySem.F.type_list_pop znQ ho (zb3 he zdx hs) hbase hfew hline hs hplain) λσ H Q ⟨ι,h,sd,L,hh,q⟩=>⟨ι,h,sd,L,hh,Fin.bind q λd h1 ι1 H1 e1 s1 hr1 q1 v rv=> ?_⟩
 cases d with
 | cel n=>
  have q2:Fin X.K E ι1 H1 ((zai n>>=λ_=>fe sd>>=λy=>zgd (.cel n) y) h1) (λd ι' H'=> ∀ v,Rel X.K ι' H' d v->Q v H'):=by
   have ee:(zc7 (.cel n)>>=λ_=>fe sd>>=λy=>zgd (.cel n) y:M D)=(zai n>>=λ_=>fe sd>>=λy=>zgd (.cel n) y):=by
    show ((zai n>>=λ_=>pure ())>>=λ_=>fe sd>>=λy=>zgd (.cel n) y)=_
    simp only [bind_assoc,pure_bind]
   rw [<- ee]
   exact q1
  obtain ⟨ds,e2,q3⟩:=ze7 q2
  obtain ⟨a,vs,rfl,hn,hH,rl⟩:=hr1.read rv e2
  refine ⟨.inl ⟨rfl,vs,SqL.of hH⟩,ι1,h1,sd,L.step s1,hr1,Fin.bind q3 λy h3 ι3 H3 e3 s3 hr3 q4 w rw'=> ?_⟩
  have rv3:=rv.step s3
  cases y with
  | int i=>
   have q5:Fin X.K E ι3 H3 ((zai n>>=λds=>if 0<=i/\i<1000 then (match ds[i.toNat]? with | some d=>(zbF n (ds.eraseIdx i.toNat)>>=λ_=>pure d:M D) | none=>M.bad) else M.bad) h3) (λd ι' H'=> ∀ v,Rel X.K ι' H' d v->Q v H'):=q4
   obtain ⟨ds3,e4,q6⟩:=ze7 q5
   obtain ⟨a3,vs3,ea,hn3,hH3,rl3⟩:=hr3.read rv3 e4
   cases ea
   simp only [Rel] at rw'
   by_cases hi:0<=i/\i<1000
   ·rw [qa4 hi] at q6
    cases ed:ds3[i.toNat]? with
    | none=>rw [ed] at q6;exact qa0 q6
    | some d=>
     rw [ed] at q6
     obtain ⟨y,ey,ry⟩:=zau.get rl3 ed
     have hlt:=(qac.mp ey).1
     refine ⟨a,vs3,i,i.toNat,y,rfl,by rw [rw'],hH3,⋯,⋯,?_,ey,?_⟩
     ·exact PySem.StrLaws.seqIndex_nonneg hi.1 ⋯
     ·have q8:Fin X.K E ι3 H3 (R.ok d (h3.set n (.lst (ds3.eraseIdx i.toNat)))) (λd ι' H'=> ∀ v,Rel X.K ι' H' d v->Q v H'):=q6
      exact q8 ι3 _ (hr3.cellS hn3) (hr3.cell hn3 (zau.eraseIdx _ rl3)) _ (ry.step (hr3.cellS hn3))
   ·rw [qa5 hi] at q6
    exact qa0 q6
  | _=>exact qa0 q4
 | _=>exact qa0 q1
end
end L3
namespace L3
open PySem.Sem (wp)
open PySem.AutoSeq1 (wpAny_loadPart')
section
variable {prog:Program} {w:World} {A:Around} {E:Value->Shared->Prop} {s:Shared}
theorem zeZ {it l:Addr} {i:Nat} {items:Array Value} {x:Value} {Q:Value->Shared->Prop} (hit:s.heap.IsTupleIter it l i) (hl:s.heap.IsTuple l items) (hx:items[i]? = some x)
  (hQ: ∀ h',h'.IsTupleIter it l (i+1)->Heap.SameBut it s.heap h'->Q x {s with heap:=h'}):wpAny (model prog w) A (Builtin.SmallTypes.nextOf (.ref it)) Q E s:=by
 obtain ⟨o,ho,hc,hd⟩:=id hit
 obtain ⟨ol,hol,_,nl,hdl⟩:=hl
 unfold Builtin.SmallTypes.nextOf
 refine qaW (wpAny_callSpecial?_slot (name:=Str.ofString "__next__") hit.typeIs F.slot_tuple_iterator_next
   (wpAny_call_entry F.slot_tuple_iterator_next hit.typeIs F.entry_tuple_iterator_next ?_ (F.args_tuple_iterator_next_1 _)))
 show wpAny _ _ (field (.ref it) 0>>=_) _ _ s
 refine qaW (wpAny_field ho hd (x:= .ref l) rfl ?_)
 show wpAny _ _ (if (Value.ref l==Value.none)=true then _ else _) _ _ s
 rw [qa5 (show ¬((Value.ref l==Value.none)=true) from Bool.false_ne_true)]
 show wpAny _ _ (field (.ref it) 1>>=_) _ _ s
 refine qaW (wpAny_field ho hd (x:= .int i 0) rfl ?_)
 show wpAny _ _ (seqItems? (.ref l)>>=_) _ _ s
 refine qaW (wpAny_seqItems hol hdl ?_)
 simp only [qaB,hx]
 refine qaW (wpAny_setField ho hd (by simp) (qaX ⟨x,rfl,qaX (hQ _ ?_ (Heap.SameBut.update ..))⟩))
 exact ⟨_,qal _ ho (Obj.isFreed_of_fields (Obj.data_mapFields hd _)),(Obj.cls_mapFields ..).trans hc,by
   rw [Obj.data_mapFields hd];simp [rawInt]⟩
theorem zfn {it l:Addr} {i:Nat} {items:Array Value} {Q:Value->Shared->Prop} (hh:zmp A s.heap) (hit:s.heap.IsTupleIter it l i) (hl:s.heap.IsTuple l items) (hx:items[i]? = none)
  (hE: ∀ h' e,Heap.ExtBut it s.heap h'->(∃ o,h'.get? e=some o/\o.cls= .type "StopIteration")->E (.ref e) {s with heap:=h'}):wpAny (model prog w) A (Builtin.SmallTypes.nextOf (.ref it)) Q E s:=by
 obtain ⟨o,h1,h2,h3⟩:=id hit
 obtain ⟨ol,l1,_,nl,l2⟩:=hl
 unfold Builtin.SmallTypes.nextOf
 refine qaW (wpAny_callSpecial?_slot (name:=Str.ofString "__next__") hit.typeIs F.slot_tuple_iterator_next
   (wpAny_call_entry F.slot_tuple_iterator_next hit.typeIs F.entry_tuple_iterator_next ?_ (F.args_tuple_iterator_next_1 _)))
 show wpAny _ _ (field (.ref it) 0>>=_) _ _ s
 refine qaW (wpAny_field h1 h3 (x:= .ref l) rfl ?_)
 show wpAny _ _ (if (Value.ref l==Value.none)=true then _ else _) _ _ s
 rw [qa5 (show ¬(Value.ref l==Value.none)=true from nofun)]
 show wpAny _ _ (field (.ref it) 1>>=_) _ _ s
 refine qaW (wpAny_field h1 h3 (x:= .int i 0) rfl ?_)
 show wpAny _ _ (seqItems? (.ref l)>>=_) _ _ s
 refine qaW (wpAny_seqItems l1 l2 ?_)
 simp only [qaB,hx]
 refine qaW (wpAny_rule (qaW (wpAny_setField h1 h3 (by simp) ?_)))
 show wpAny _ _ (newExc (.type "StopIteration") []>>=_) _ _ _
 refine qaW ?_
 simp only [newExc,newTuple]
 refine qaW (qaC ?_ (by size_fits))
 refine qaW (m:=firstArgMember _ _) (wpAny_of_eq (a:=Value.none) (by first | rfl | (simp only [firstArgMember];rfl)) ?_)
 refine qaC ?_ (by size_fits)
 rcases hh with hh | ⟨ha,cls,head,hh,hX⟩
 ·simp only [raiseNew]
  refine qaW (wpAny_handled ?_)
  first | rw [show A.in1.handled=none from hh] | rw [hh]
  refine qaW (qaX (wpAny_throw ?_))
  exact hE _ _ (((Heap.SameBut.update ..).extBut.push _).push _) ⟨_,qar _ rfl,rfl⟩
 have nit:ha≠it:=λz=>by
  subst z
  obtain ⟨ob,vs,x1,_,_,x4,x5,x6⟩:=hX
  rw [h1] at x1
  cases x1
  rw [h3] at x4
  cases x4
  simp at x5
 have hX1:zny (s.heap.update it (Obj.mapFields (·.setIfInBounds 0 Value.none))) ha cls head:=by
  obtain ⟨ob,vs,x1,x2⟩:=hX
  exact ⟨ob,vs,(qah _ _ (Ne.symm nit)).trans x1,x2⟩
 obtain ⟨ob,vs,x1,x2⟩:=hX1
 have y1:=qag {cls:= .type "tuple",dict:=none,data:= .seq [].toArray} x1
 refine zdU (h:=ha) (cls:=cls) (head:=head) hh ⟨ob,vs,qag _ y1,x2⟩ (qar _ rfl) rfl (by simp;omega) (qaR (qaQ y1)) ?_
 refine hE _ _ (λb o hb z=> ?_) ⟨_,qal _ (qar _ rfl) rfl,rfl⟩
 have z1:(s.heap.update it (Obj.mapFields (·.setIfInBounds 0 Value.none))).get? b=some o:=(qah _ _ (Ne.symm hb)).trans z
 have z2:=qag {cls:= .type "tuple",dict:=none,data:= .seq [].toArray} z1
 rw [qah _ _ (ne_of_gt (qaQ z2))]
 exact qag _ z2
end
def zc8 (A:Around):List Addr:=match A.handled with
 | some (.ref a)=>[a]
 | _=>[]
theorem zmp.keep {A:Around} {h h':Heap} (x:zmp A h) (k: ∀ b∈zc8 A, ∀ o,h.get? b=some o->h'.get? b=some o):zmp A h':=by
 rcases x with x | ⟨a,cls,head,x1,ob,vs,x2,x3⟩
 ·exact .inl x
 ·exact .inr ⟨a,cls,head,x1,ob,vs,k a (by unfold zc8;rw [x1];simp) _ x2,x3⟩
theorem zfD {prog:Program} {w:World} {A:Around} (it l:Addr) (hne:l≠it) (items:Array Value):
  Draws prog w A.in1 it (it::l::zc8 A) items.size (λi v=>items[i]? = some v) (λi h=>h.IsTupleIter it l i/\h.IsTuple l items/\zmp A h/\it∉zc8 A) where
 live:=λ_ _ st=>let ⟨o,ho,_⟩:=st.1;⟨o,ho⟩
 frame:=λ_ _ _ st hk=>⟨st.1.at λo e=>hk it (by simp) o e,st.2.1.at λo e=>hk l (by simp) o e,st.2.2.1.keep λb hb o e=>hk b (by simp [hb]) o e,st.2.2.2⟩
 item:=λi s Q E hi st hQ=>by
  refine zeZ st.1 st.2.1 (x:=items[i]) (by simp [hi]) λh' hit' hs'=> ?_
  exact hQ _ h' s.toks (by simp [hi]) ⟨hit',st.2.1.extBut hs'.extBut hne,st.2.2.1.keep λb hb o e=>(hs'.2 b λz=>st.2.2.2 (z▸hb)).trans e,st.2.2.2⟩ hs'
 done:=λs Q E st hE=>zfn (A:=A.in1) st.2.2.1 st.1 st.2.1 (by simp) hE
theorem zd2 (l:Addr) (items:Array Value) (n:Nat) (dct:Option Addr) (sl:Array (Option Value)):
  Meets (Builtin.«enumerate.__new__» ⟨[.type "enumerate",.ref l],[]⟩) (λ_ R s=>s.heap.get? l=some {cls:= .type "tuple",dict:=dct,data:= .seq items n,slots:=sl}/\
    R (.ok (.ret (.ref (s.heap.push {cls:= .type "tuple_iterator",data:= .fields #[.ref l,.int 0 0]}).objs.size)))
      {s with heap:=(s.heap.push {cls:= .type "tuple_iterator",data:= .fields #[.ref l,.int 0 0]}).push {cls:= .type "enumerate",data:= .fields #[.none,.bool false,.ref s.heap.objs.size,rawInt 0,.none,.none]}}):=
 .of_wp λprog w A R s h=>by
  obtain ⟨hp,g,d,tk,os⟩:=s;obtain ⟨hl,h⟩:=h
  have hsub:=sub_enumerate
  have hL:Heap.IsTuple (Shared.heap ⟨hp,g,d,tk,os⟩) l items:=⟨_,hl,rfl,n,rfl⟩
  wp_walk using wpAny_loadPart' hl
  refine wpAny_stack_any λst=>qaX ?_
  split
  ·rename_i c _ _ _ _ _
   cases (c==Value.type "enumerate")
   ·wp_walk using wpAny_loadPart' hl,wpAny_pyIter_tuple hL
    exact ⟨_,rfl,h⟩
   ·wp_walk using wpAny_loadPart' hl,wpAny_pyIter_tuple hL
    exact ⟨_,rfl,h⟩
  ·wp_walk using wpAny_loadPart' hl,wpAny_pyIter_tuple hL
   exact ⟨_,rfl,h⟩
end L3
namespace L3
section
variable {prog:Program} {w:World} {A:Around} {E:Value->Shared->Prop} {s:Shared}
theorem zd3 {l:Addr} {items:Array Value} {Q:Value->Shared->Prop} (hL:s.heap.IsTuple l items)
  (h: ∀ h',IsEnum h' (s.heap.objs.size+1) s.heap.objs.size 0 .none->h'.IsTupleIter s.heap.objs.size l 0->h'.objs.size=s.heap.objs.size+2->
    (∀ b o,s.heap.get? b=some o->h'.get? b=some o)->Q (.ref (s.heap.objs.size+1)) {s with heap:=h'}):
  wpAny (model prog w) A (call (.type "enumerate") [.ref l]) Q E s:=by
 obtain ⟨⟨c,dct,dt,sl⟩,hl,hc,n,hd⟩:=hL
 replace hc:c= .type "tuple":=hc
 replace hd:dt= .seq items n:=hd
 subst hc hd
 refine callType_new F.called_enumerate (by decide) (F.typeCall_enumerate_1 _) (F.newCall_enumerate_1 _) (λobj=>F.args_object_init_2 obj _) F.entry_enumerate_new
  (zd2 l items n dct sl) ⟨hl,?_⟩
 have hz:(s.heap.push {cls:= .type "tuple_iterator",data:= .fields #[.ref l,.int 0 0]}).objs.size=s.heap.objs.size+1:=qaL ..
 show _/\_
 rw [hz]
 have he:IsEnum ((s.heap.push {cls:= .type "tuple_iterator",data:= .fields #[.ref l,.int 0 0]}).push
     {cls:= .type "enumerate",data:= .fields #[.none,.bool false,.ref s.heap.objs.size,rawInt 0,.none,.none]}) (s.heap.objs.size+1) s.heap.objs.size 0 .none:=by
  have:=qar (s.heap.push {cls:= .type "tuple_iterator",data:= .fields #[.ref l,.int 0 0]})
   (o:={cls:= .type "enumerate",data:= .fields #[.none,.bool false,.ref s.heap.objs.size,rawInt 0,.none,.none]}) rfl
  rw [hz] at this;exact this
 exact ⟨⟨_,he,rfl⟩,h _ he ⟨_,qag _ (qar _ rfl),rfl,rfl⟩ (by rw [qaL,hz]) λb o x=>qag _ (qag _ x)⟩
end
end L3
namespace L2
section
variable {X:Cx} {pins:List (Addr×Obj)} {σ:St} {H:Hp} {s:Shared} {h':Heap}
theorem Inv.turned2 {t':Nat} {e it:Addr} (I:Inv X pins σ H s) (k: ∀ b o,b≠e->b≠it->s.heap.get? b=some o->h'.get? b=some o) (f:zj7 X pins H e) (g:zj7 X pins H it):Inv X pins σ H {s with heap:=h',toks:=t'}:=by
 obtain ⟨f0,f1,f2,f3,f4,f5⟩:=f
 obtain ⟨g0,g1,g2,g3,g4,g5⟩:=g
 have ne: ∀ b u,H b=some u->b≠e:=λb u q z=>by rw [z,f0] at q;cases q
 have nit: ∀ b u,H b=some u->b≠it:=λb u q z=>by rw [z,g0] at q;cases q
 have kk: ∀ b o,b∉[e,it]->s.heap.get? b=some o->h'.get? b=some o:=λb o hb q=>k b o (λz=>hb (by simp [z])) (λz=>hb (by simp [z])) q
 refine I.step (g':=s.gens) (d':=s.drawn) (ch:=[e,it]) (λb hb=> ?_) (λb o _ _ hc q _=>kk b o hc q) (λb o _ _ hc q _=>⟨o.slots,kk b o hc q⟩) (λ_ _ _ _ n=>n)
  (λb o hc q=>⟨o,kk b o hc q⟩) (λ_ _ q=>q) (λ_ _ _ q=>q) (λb ps q=>⟨#[],by rw [q];simp⟩) (λm hm=> ?_) (λb u q=> ?_) I.bare
 ·have z:b=e\/b=it:=by simpa using hb
  rcases z with rfl | rfl
  ·exact ⟨f3,f1,f4,f5⟩
  ·exact ⟨g3,g1,g4,g5⟩
 ·obtain ⟨o,es,ep,ho,r⟩:=hm
  exact ⟨o,es,ep,k _ o (Ne.symm f1) (Ne.symm g1) ho,r⟩
 ·refine (I.hok b u q).stay (λc v hc q'=> ?_) (λ_ q=>q) λ_ _ q=>q
  rcases hc with z | z
  ·rw [z];exact k b v (ne b u q) (nit b u q) (by rw [<- z];exact q')
  ·exact k c v (ne c _ z) (nit c _ z) q'
end
def Ite (K:W.Frag) (a:Addr):It:=
 ⟨λi H=> ∃ xs x,SqT K H a xs/\xs[i]? = some x,λi H x H'=> ∃ T y,H T=none/\H'=upd H T (.tup [.int i,y])/\x= .ref T/\ ∀ xs,SqT K H a xs->xs[i]? = some y,λi H=> ∃ xs,SqT K H a xs/\xs.length=i⟩
theorem zmd {P:Program} {w:World} {K:W.Frag} {elts:List Expr} {k:Nat} {pos:Pos} (a e it:Addr) (hei:e≠it):zqo P w K (.Tuple elts k pos) (Ite K a) [e,it] e (λi h=>(∃ old,IsEnum h e it i old)/\h.IsTupleIter it a i) where
 mem:=by simp
 obj:=λi h st b hb=>by
  obtain ⟨⟨old,he⟩,o,ho,hc,hd⟩:=st
  have z:b=e\/b=it:=by simpa using hb
  rcases z with rfl | rfl
  ·exact ⟨_,he,λv z=>by cases z⟩
  ·exact ⟨o,ho,λv z=>by rw [hd] at z;cases z⟩
 keep:=λi h h' st k=>⟨let ⟨old,he⟩:=st.1;⟨old,k e (by simp) _ he⟩,st.2.at λo q=>k it (by simp) o q⟩
 item:=by
  intro X hP hw hK i pins s σ H E I hf st hg
  subst hP hw hK
  obtain ⟨xs,y,hq,hx⟩:=hg
  obtain ⟨its,rv,p,hz⟩:=I.tuple hq
  obtain ⟨u,hu,ru⟩:=rv.get hx
  obtain ⟨⟨old,he⟩,hit⟩:=st
  have hfe:=hf e (by simp)
  have hfi:=hf it (by simp)
  obtain ⟨ot,ht,hct,nt,hdt⟩:=(show s.heap.IsTuple a its.toArray from p)
  obtain ⟨oi,hi,hci,hdi⟩:=id hit
  have hai:a≠it:=λz=>by
   subst z
   rw [ht] at hi
   cases hi
   rw [hdt] at hdi
   cases hdi
  have hea:e≠a:=λz=>by
   subst z
   have he':s.heap.get? e=_:=he
   rw [ht] at he'
   cases he'
   cases hdt
  have hin:it∉L3.zc8 X.A:=λz=>by
   rcases I.hand with q | ⟨ha,cls,head,q,ob,vs,x1,_,_,x4,x5,_⟩
   ·unfold L3.zc8 at z;rw [q] at z;simp at z
   ·unfold L3.zc8 at z
    rw [q] at z
    have:it=ha:=by simpa using z
    subst this
    rw [hi] at x1
    cases x1
    rw [hdi] at x4
    cases x4
    simp at x5
  have hen:e∉L3.zc8 X.A:=λz=>by
   rcases I.hand with q | ⟨ha,cls,head,q,ob,vs,x1,_,_,x4,x5,_⟩
   ·unfold L3.zc8 at z;rw [q] at z;simp at z
   ·unfold L3.zc8 at z
    rw [q] at z
    have:e=ha:=by simpa using z
    subst this
    have he':s.heap.get? e=_:=he
    rw [x1] at he'
    cases he'
    cases x4
    simp at x5
  have hlt:i<its.toArray.size:=by
   have:=(qac.mp hu).1
   simpa using this
  refine wpAny_pyNext_enum_itemD (L3.zfD (A:=X.A) it a hai its.toArray) he ⟨hit,p,I.hand,hin⟩ hlt hei (by simp [hei,hea,hen]) λx h1 tk hP ho hs' hT hsz hk=> ?_
  have hxu:x=u:=by
   have:its[i]? = some x:=by simpa using hP
   rw [hu] at this
   exact (Option.some.inj this).symm
  subst hxu
  refine ⟨_,rfl,wpAny_letOwnedTupleGo_enum ho λh2 he2 hs2=> ?_⟩
  have het:e≠s.heap.objs.size:=qaR (qaQ he)
  have hit':it≠s.heap.objs.size:=qaR (qaQ hi)
  have fresh:=I.hok.fresh (qaV s.heap.objs.size)
  have I1:Inv X pins σ (upd H s.heap.objs.size (.tup [.int i,y])) {s with heap:=s.heap.push {cls:= .type "tuple",data:= .seq #[.int i tk,x]},toks:=tk+1}:=
   I.laid (t':=tk+1) (λb o q=>qag _ q) (qaV _) (show zcf X.prog X.w _ _ _ (.tup [.int i,y]) from ⟨by show 2<=sizeLine;decide,[.int i tk,x],.cons ⟨tk,rfl⟩ (.cons ru .nil),zll.new _ _⟩)
  have fe:zj7 X pins (upd H s.heap.objs.size (.tup [.int i,y])) e:=⟨by rw [zaE het];exact hfe.1,hfe.2⟩
  have fi:zj7 X pins (upd H s.heap.objs.size (.tup [.int i,y])) it:=⟨by rw [zaE hit'];exact hfi.1,hfi.2⟩
  have I2:Inv X pins σ (upd H s.heap.objs.size (.tup [.int i,y])) {s with heap:=h1,toks:=tk+1}:=I1.turned2 (t':=tk+1) (h':=h1) (λb o hb1 hb2 q=>by
    rcases Heap.get?_push_cases q with ⟨z1,z2⟩ | z
    · rw [z1,z2];exact hT
    · exact hk b o hb1 hb2 z) fe fi
  obtain ⟨f0,f1,f2,f3,f4,f5⟩:=fe
  have I3:Inv X pins σ (upd H s.heap.objs.size (.tup [.int i,y])) {s with heap:=h2,toks:=tk+1}:=I2.turned (t':=tk+1) (λb o hb q=>(hs2.2 b hb).trans q) f0 f1 f3 f4 f5
  refine ⟨.ref s.heap.objs.size,_,I3,rfl,⟨s.heap.objs.size,y,fresh,rfl,rfl,λys hy=>by rw [I.tuple_inj hy hq];exact hx⟩,⟨⟨x,by simpa using he2⟩,hs'.1.at λo q=>(hs2.2 it (Ne.symm hei)).trans q⟩,λb hb=> ?_⟩
  have z:b=e\/b=it:=by simpa using hb
  rcases z with rfl | rfl
  ·exact f0
  ·exact fi.1
 done:=by
  intro X hP hw hK i pins s σ H E I hf st hg
  subst hP hw hK
  obtain ⟨xs,hq,hx⟩:=hg
  obtain ⟨its,rv,p,hz⟩:=I.tuple hq
  obtain ⟨⟨old,he⟩,hit⟩:=st
  have hfi:=hf it (by simp)
  obtain ⟨ot,ht,hct,nt,hdt⟩:=(show s.heap.IsTuple a its.toArray from p)
  obtain ⟨oi,hi,hci,hdi⟩:=id hit
  have hai:a≠it:=λz=>by
   subst z
   rw [ht] at hi
   cases hi
   rw [hdt] at hdi
   cases hdi
  have hin:it∉L3.zc8 X.A:=λz=>by
   rcases I.hand with q | ⟨ha,cls,head,q,ob,vs,x1,_,_,x4,x5,_⟩
   ·unfold L3.zc8 at z;rw [q] at z;simp at z
   ·unfold L3.zc8 at z
    rw [q] at z
    have:it=ha:=by simpa using z
    subst this
    rw [hi] at x1
    cases x1
    rw [hdi] at x4
    cases x4
    simp at x5
  have hn:its.toArray.size=i:=by
   have:=rv.length
   simp
   omega
  subst hn
  obtain ⟨f0,f1,f2,f3,f4,f5⟩:=hfi
  exact wpAny_pyNext_enum_endD (L3.zfD (A:=X.A) it a hai its.toArray) he ⟨hit,p,I.hand,hin⟩ λh' hx'=>⟨rfl,I.turned (t':=s.toks) (λb o hb q=>hx' b o hb q) f0 f1 f3 f4 f5⟩
 self:=λ_ _ _ _ _ st h=>let ⟨⟨_,he⟩,_⟩:=st;wpAny_pyIter_enum he h
section
variable {X:Cx} {elts:List Expr} {k:Nat} {tpos:Pos}
def zvh (K:W.Frag) (ta:TA):TI:=λσ H R=>ta σ H λvs H1=> ∃ a,vs=[.ref a]/\(∃ xs,SqT K H1 a xs)/\R (Ite K a) H1
theorem zq5 {l:Expr} {ta:TA} {p pos:Pos} (hg:Gl X "enumerate") (hm:X.mg "enumerate"=none) (ha:PA X [l] ta) (hs:starEach [l] X.env=[(false,eval l X.env)]:=by rfl):
  PI X (.Tuple elts k tpos) (.Call (.Name "enumerate" p) [l] [] pos) (zvh X.K ta):=by
 intro pins s σ H R I h
 refine Call_ (zgQ I hg hm PyProof.Rows.boot_enumerate (PyProof.Rows.callWith_type1 (thn (ha pos pins s σ H _ I h) λus s1 ⟨vs,H1,I1,r1,q1⟩=> ?_) hs rfl))
 obtain ⟨a,e,⟨xs,hq⟩,q⟩:=q1
 subst e
 cases r1 with
 | cons r rr=>
  cases rr
  cases r
  obtain ⟨its,rv,p,hz⟩:=I1.tuple hq
  refine L3.zd3 (show s1.heap.IsTuple a its.toArray from p) λh' he hit hsz kp=> ?_
  refine wpAny_pyIter_enum he ?_
  refine ⟨s1.heap.objs.size+1,[s1.heap.objs.size+1,s1.heap.objs.size],_,_,H1,rfl,I1.kept (t':=s1.toks) kp,zmd a _ _ (Nat.succ_ne_self _),⟨⟨_,he⟩,hit⟩,λb hb=> ?_,q⟩
  have z:b=s1.heap.objs.size+1\/b=s1.heap.objs.size:=by simpa using hb
  rcases z with rfl | rfl
  ·exact I1.fpOk (le_succ _) (I1.hok.fresh (le_succ _))
  ·exact I1.fpOk (qaV _) (I1.hok.fresh (qaV _))
end
end L2
namespace L3
open L2
section
variable {X:Cx} {E:XE} {elts:List Expr} {k:Nat} {tpos pos:Pos}
def zpK (ds:List D):List D:=(List.range ds.length).map λ(i:Nat)=> .tup [.int i,ds.getD i .non]
theorem znZ {K:W.Frag} {ι:Io} {H:Hp} {a:Addr} {vs:List V} {ds:List D} (h: ∀ ι' H',Pass ι H ι' H'->SqT K H' a vs) (rl:zau K ι H ds vs):zqT K ι H (Ite K a) (zpK ds) where
 go:=λι' H' i s hi=>by
  have hi:i<ds.length:=by simpa [zpK] using hi
  obtain ⟨v,ev,_⟩:=zau.get rl (i:=i) (d:=ds[i]) (by simp [hi])
  exact ⟨vs,v,h ι' H' s,ev⟩
 yld:=λι' H' _ i x H2 s hr hi ⟨T,y,hT,e,e2,hy⟩=>by
  subst e e2
  have hi:i<ds.length:=by simpa [zpK] using hi
  obtain ⟨v,ev,rv⟩:=zau.get rl (i:=i) (d:=ds[i]) (by simp [hi])
  have ey:=hy vs (h ι' H' s)
  rw [ev] at ey
  cases ey
  refine ⟨.inr ⟨T,_,hT,rfl⟩,.tup [.int i,ds[i]],by simp [zpK,hi],?_⟩
  obtain ⟨st,hr2⟩:=zuc.step (.inr ⟨T,[.int i,y],hT,rfl⟩) hr
  have rv2:Rel K ι' (upd H' T (.tup [.int i,y])) ds[i] y:=(rv.pass s).step st
  simp only [Rel]
  exact ⟨T,_,rfl,⟨za2,hr.nin hT⟩,zau.cons (by simp [Rel]) (zau.cons rv2 zau.nil)⟩
 stop:=λι' H' s=>⟨vs,h ι' H' s,by rw [<- rl.length];simp [zpK]⟩
def zvv (f:FE):FA:=λsd=>do
 let d<-f sd
 match d with
 | .tup ds=>pure (zpK ds)
 | _=>M.bad
theorem zsf {l:Expr} {f:FE} {p:Pos} (hm:X.mg "enumerate"=none) (he:SE X E l f) (hg:Gl X "enumerate":=by rfl) (hs:starEach [l] X.env=[(false,eval l X.env)]:=by rfl):SI X E (.Tuple elts k tpos) (.Call (.Name "enumerate" p) [l] [] pos) (zvv f):=by
 refine PI.imp (zq5 hg hm (zb3 he zdx hs) hs) λσ H Q ⟨ι,h,sd,L,hh,q⟩=>⟨ι,h,sd,L,hh,Fin.bind q λd h1 ι1 H1 e1 s1 hr1 q1 v rv=> ?_⟩
 cases d with
 | tup ds=>
  obtain ⟨a,vs,e,h1',h2⟩:=zl6 rv
  exact ⟨a,by rw [e],⟨vs,h1' _ _ (Pass.refl _ _)⟩,Fin.out hr1 q1 _ (znZ h1' h2)⟩
 | _=>exact qa0 q1
end
end L3
namespace L3
def pLt (p q:Int×List Int):Bool:=if p.1=q.1 then HT.zci p.2 q.2 else decide (p.1<q.1)
theorem zfv: ∀ xs:List Int,HT.zci xs xs=false
 | []=>rfl
 | x::r=>by rw [HT.zdd,qa4 rfl,zfv r]
section
open PySem.SeqAt
open PySem.AutoSeq1 (wpAny_loadPart')
open PySem.MeetsSeq PySem.MeetsSeq2 PySem.MeetsSeq3
def zum (A:Around) (s:Shared) (a b:Value) (e l:Bool):Prop:=EqAt A s a b e/\(e=false-> ∀ (prog:Program) (w:World) (E Q:Value->Shared->Prop),Q (.bool l) s->wpAny (model prog w) A (richCompare .Lt a b) Q E s)
theorem ziY (l b:Addr) (a0 a1 b0 b1:Value) (n n2:Nat) (dd dd2:Option Addr) (sl sl2:Array (Option Value)) (e0 l0 e1 l1:Bool):
  Meets (Builtin.«tuple.__lt__» ⟨[.ref l,.ref b],[]⟩)
   (λA R s=>s.heap.get? l=some {cls:= .type "tuple",dict:=dd,data:= .seq #[a0,a1] n,slots:=sl}/\s.heap.get? b=some {cls:= .type "tuple",dict:=dd2,data:= .seq #[b0,b1] n2,slots:=sl2}/\
     zum A.in1 s a0 b0 e0 l0/\zum A.in1 s a1 b1 e1 l1/\R (.ok (.ret (.bool (if e0=true then (if e1=true then false else l1) else l0)))) s):=
 .of_wp λprog w A R s h=>by
  obtain ⟨hp,g,d,tk,os⟩:=s;obtain ⟨hl,hb,c0,c1,h⟩:=h
  have f2:=AutoSeq1.sub_tuple_tuple
  wp_walk using wpAny_loadPart' hl,wpAny_loadPart' hb,wpAny_forIn_list _ (λzc2 b s'=>b.1=none/\s'=⟨hp,g,d,tk,os⟩/\
    (zc2=[(a0,b0),(a1,b1)]\/(zc2=[(a1,b1)]/\e0=true)\/(zc2=[]/\e0=true/\e1=true))) _
  case turn=>
   rintro ⟨y,x⟩ zc2 b s' ⟨hb',rfl,hz⟩
   rcases hz with hz | ⟨hz,z0⟩ | ⟨hz,_⟩
   ·cases hz
    refine qaW (c0.1 prog w _ _ ?_)
    cases e0 with
    | true=>
     wp_walk
     exact ⟨rfl,rfl,.inr (.inl ⟨rfl,rfl⟩)⟩
    | false=>
     have hri:=c0.2 rfl prog w
     wp_walk using hri
     exact ⟨_,rfl,by simpa using h⟩
   ·cases hz
    subst z0
    refine qaW (c1.1 prog w _ _ ?_)
    cases e1 with
    | true=>
     wp_walk
     exact ⟨rfl,rfl,.inr (.inr ⟨rfl,rfl,rfl⟩)⟩
    | false=>
     have hri:=c1.2 rfl prog w
     wp_walk using hri
     exact ⟨_,rfl,by simpa using h⟩
   ·cases hz
  case fin=>
   rintro ⟨b1',b2'⟩ s' ⟨hb',rfl,hz⟩
   simp only at hb'
   subst hb'
   rcases hz with hz | ⟨hz,_⟩ | ⟨_,z0,z1⟩
   ·cases hz
   ·cases hz
   ·subst z0 z1
    wp_walk
    exact ⟨_,rfl,by simpa [Builtin.Tuple.tupleCompareSizes] using h⟩
  case h=>
   exact ⟨rfl,rfl,.inl rfl⟩
section
variable {prog:Program} {w:World} {A:Around} {E:Value->Shared->Prop} {s:Shared}
theorem zth {l b:Addr} {a0 a1 b0 b1:Value} {e0 l0 e1 l1:Bool} {Q:Value->Shared->Prop} (hl:IsTup s.heap l #[a0,a1]) (hb:IsTup s.heap b #[b0,b1]) (c0:zum A.in1 s a0 b0 e0 l0) (c1:zum A.in1 s a1 b1 e1 l1)
  (hu:A.units<cLine) (h:Q (.bool (if e0=true then (if e1=true then false else l1) else l0)) s):wpAny (model prog w) A (richCompare .Lt (.ref l) (.ref b)) Q E s:=by
 obtain ⟨⟨cls,dd,data,sl⟩,ho,hc,n,hd⟩:=id hl
 obtain ⟨⟨cls2,dd2,data2,sl2⟩,ho2,hc2,n2,hd2⟩:=id hb
 simp only at hc hd hc2 hd2
 subst hc hd hc2 hd2
 exact richCompare_meets_room (op:= .Lt) ⟨_,ho,rfl⟩ ⟨_,ho2,rfl⟩ PySem.F.slot_tuple_lt PySem.F.entry_tuple_lt (PySem.F.args_tuple_lt_2 _ _) (ziY l b a0 a1 b0 b1 n n2 dd dd2 sl sl2 e0 l0 e1 l1)
  ⟨ho,ho2,c0,c1,show Value.bool _≠Value.notImplemented/\Q (.bool _) s from ⟨(λx=>nomatch x),h⟩⟩ hu
theorem zhL: ∀ {xs:List Value} {ns:List Int},IntsAre xs ns-> ∀ (j:Nat) (h:j<xs.length), ∃ (t:Tok) (i:Int),ns[j]? = some i/\xs[j]= .int i t
 | _,_,.nil,j,h=>by cases h
 | _,_,.cons a t r,0,_=>⟨t,a,rfl,rfl⟩
 | _,_,.cons a t r,j+1,h=>by
  obtain ⟨t',i,e1,e2⟩:=zhL r j (Nat.lt_of_succ_lt_succ h)
  exact ⟨t',i,e1,e2⟩
theorem zkb: ∀ {xs:List Value} {ns ms:List Int},IntsAre xs ns->IntsAre xs ms->ns=ms
 | _,_,_,.nil,h=>by cases h;rfl
 | _,_,_,.cons a t r,h=>by
  cases h with
  | cons _ _ r'=>rw [zkb r r']
theorem zmP {q r:Addr} {xs ys:List Value} {ns ms:List Int} (hq:IsTup s.heap q xs.toArray) (hr:IsTup s.heap r ys.toArray) (hi:IntsAre xs ns) (hj:IntsAre ys ms) (hu:A.units<cLine):EqAt A s (.ref q) (.ref r) (ns==ms):=by
 by_cases hqr:q=r
 ·subst hqr
  obtain ⟨o,e,_,n,d⟩:=hq
  obtain ⟨o',e',_,n',d'⟩:=hr
  rw [e] at e'
  cases e'
  rw [d] at d'
  injection d' with d' _
  have:xs=ys:=by simpa using d'
  subst this
  rw [zkb hi hj]
  simpa using EqAt.same (A:=A) (s:=s) (.ref q)
 ·have l1:=hi.length
  have l2:=hj.length
  have hc:=RcAt.tuples (A:=A) (s:=s) (e:=λj=>ns[j]? == ms[j]?) hq hr hu λj h1 h2=>by
   have h1':j<xs.length:=by simpa using h1
   have h2':j<ys.length:=by simpa using h2
   obtain ⟨t,i,e1,e2⟩:=zhL hi j h1'
   obtain ⟨u,k,e3,e4⟩:=zhL hj j h2'
   have g1:xs.toArray[j]= .int i t:=by simpa using e2
   have g2:ys.toArray[j]= .int k u:=by simpa using e4
   rw [g1,g2,e1,e3]
   have:(some i==some k)=(i==k):=rfl
   rw [this]
   exact EqAt.int_int i t k u
  have he:((List.range (min xs.toArray.size ys.toArray.size)).all (λj=>ns[j]? == ms[j]?) && xs.toArray.size==ys.toArray.size)=(ns==ms):=by
   rw [Bool.eq_iff_iff,qaG,all_eq_true,beq_iff_eq,beq_iff_eq]
   simp only [qaA,beq_iff_eq,mem_range]
   constructor
   ·rintro ⟨h1,h2⟩
    refine List.ext_getElem? λj=> ?_
    by_cases hjl:j<ns.length
    ·exact h1 j ⋯
    ·rw [List.getElem?_eq_none ⋯,List.getElem?_eq_none ⋯]
   ·intro e
    subst e
    exact ⟨λ_ _=>rfl,⋯⟩
  rw [<- he]
  exact EqAt.of_refs hqr hc
end
def zga (h:Heap) (v:Value) (p:Int×List Int):Prop:= ∃ (a q:Addr) (t:Tok) (its:List Value),v= .ref a/\IsTup h a #[.int p.1 t,.ref q]/\IsTup h q its.toArray/\IntsAre its p.2
theorem zga.keep {h h':Heap} {v:Value} {p:Int×List Int} (k: ∀ b o,h.get? b=some o->h'.get? b=some o):zga h v p->zga h' v p:=λ⟨a,q,t,its,e,⟨o,x1,x2⟩,⟨o',y1,y2⟩,z⟩=>⟨a,q,t,its,e,⟨o,k _ _ x1,x2⟩,⟨o',k _ _ y1,y2⟩,z⟩
theorem znX {prog:Program} {w:World} {A:Around} {E:Value->Shared->Prop} {s:Shared} {u v:Value} {p q:Int×List Int} {Q:Value->Shared->Prop} (hv:zga s.heap v p) (hu:zga s.heap u q) (hr:A.units+2<cLine) (h:Q (.bool (pLt p q)) s):wpAny (model prog w) A (richCompare .Lt v u) Q E s:=by
 obtain ⟨a,x,t,its,rfl,ha,hx,hi⟩:=hv
 obtain ⟨b,y,t',its',rfl,hb,hy,hj⟩:=hu
 have r1:A.in1.units<cLine:=by rw [Around.in1_units];omega
 refine zth (e0:=(p.1==q.1)) (l0:=decide (p.1<q.1)) (e1:=(p.2==q.2)) (l1:=HT.zci p.2 q.2) ha hb ⟨EqAt.int_int _ _ _ _,λ_ prog w E Q hq=>HT.zkh _ _ _ _ _ _ prog w E Q hq⟩
  ⟨zmP hx hy hi hj r1,λ_ prog w E Q hq=>HT.zg4 hx hy (by simpa using hi) (by simpa using hj) r1 hq⟩ ⋯ ?_
 have e:(if (p.1==q.1)=true then (if (p.2==q.2)=true then false else HT.zci p.2 q.2) else decide (p.1<q.1))=pLt p q:=by
  unfold pLt
  by_cases h1:p.1=q.1
  ·rw [qa4 (by simpa using h1),qa4 h1]
   by_cases h2:p.2=q.2
   ·rw [qa4 (by simpa using h2),h2,zfv]
   ·rw [qa5 (by simpa using h2)]
  ·rw [qa5 (by simpa using h1),qa5 h1]
 rw [e]
 exact h
end
end L3
namespace L3
section
variable {prog:Program} {w:World} {A:Around} {R:Result->Shared->Prop} {I:Addr} {fp wr:List Addr} {n:Nat} {P:Nat->Value->Prop} {St:Nat->Heap->Prop} {h0:Heap}
def zqc (prog:Program) (w:World) (A:Around) (h0:Heap) (P:Nat->Value->Prop) (bt:Nat->Nat->Bool):Prop:=
 ∀ i j vi vj (s:Shared) (Q:Value->Shared->Prop) (E:Value->Shared->Prop),(∀ b o,h0.get? b=some o->s.heap.get? b=some o)->P i vi->P j vj->Q (.bool (bt i j)) s->wpAny (model prog w) A (richCompare .Lt vi vj) Q E s
theorem zma (W:Walks prog w A.in1 I fp wr n P St) (bt:Nat->Nat->Bool) (hcmp:zqc prog w A.in1 h0 P bt) (S:Addr) (hSf:S∉fp) (h0w: ∀ b o,h0.get? b=some o->b∉wr/\b≠S):
  ∀ (k j:Nat) (s:Shared) (vb:Value) (c:Nat),n - (j+1)=k->j+1<=n->St (j+1) s.heap->P (argBest bt j) vb->(∀ b o,h0.get? b=some o->s.heap.get? b=some o)->
  s.heap.get? S=some {cls:= .type "list",dict:=none,data:= .seq #[vb,vb] c,slots:= #[]}->
  (∀ v h' tk,P (argBest bt (n - 1)) v->(∀ b o,b∉wr->b≠S->s.heap.get? b=some o->h'.get? b=some o)->R (.ok (.ret v)) {s with heap:=h',toks:=tk})->
  codeAny (model prog w) A (.builtin "min.loop" ⟨[.ref I,.none,.ref S],[]⟩) R s:=by
 have hSw:S∉wr:=λh=>hSf (W.sub _ h)
 have hname:(toString "min"++toString ".loop":String)="min.loop":=by decide
 intro k
 induction k with
 | zero=>
  intro j s vb c hk hj hst hPb hx hS hR
  have hin:j+1=n:=by omega
  refine codeAny_builtin F.entry_min_loop ?_
  rw [qap F.plain_min_loop _]
  show wpAny _ A.in1 (seqItems? (.ref S)>>=_) _ _ s
  refine qaW (wpAny_seqItems hS rfl ?_)
  show wpAny _ A.in1 (tryCatch (pyNext (.ref I)) _>>=_) _ _ s
  refine qaW (wpAny_tryCatch (W.done s _ _ (hin▸hst) λh' tk hk'=> ?_))
  show wpAny _ A.in1 (updateSeq S (λ_=> #[])>>=_) _ _ _
  refine qaW (wpAny_updateSeq (hk' S _ hSw hS) rfl (qaW (wpAny_letGo (qaX ?_))))
  exact hR vb _ tk (by rw [<- hin];exact hPb) λb o hbw hbS e=>(qah _ _ (Ne.symm hbS)).trans (hk' b o hbw e)
 | succ k ih=>
  intro j s vb c hk hj hst hPb hx hS hR
  have hlt:j+1<n:=by omega
  refine codeAny_builtin F.entry_min_loop ?_
  rw [qap F.plain_min_loop _]
  show wpAny _ A.in1 (seqItems? (.ref S)>>=_) _ _ s
  refine qaW (wpAny_seqItems hS rfl ?_)
  show wpAny _ A.in1 (tryCatch (pyNext (.ref I)) _>>=_) _ _ s
  refine qaW (wpAny_tryCatch (W.item (j+1) s _ _ hlt hst λv h' tk hP hst' hk'=> ?_))
  have hS':=hk' S _ hSw hS
  have hx': ∀ b o,h0.get? b=some o->h'.get? b=some o:=λb o e=>hk' b o (h0w b o e).1 (hx b o e)
  show wpAny _ A.in1 (tryCatch (holding [v,v] (richCompare .Lt v vb>>=_)) _>>=_) _ _ _
  refine qaW (wpAny_tryCatch (qaO (qaW (hcmp (j+1) (argBest bt j) v vb _ _ _ hx' hP hPb ?_))))
  refine qaW (qaO (wpAny_truthy_bool ?_))
  refine qaW (wpAny_letGo (qaX ?_))
  cases hb:bt (j+1) (argBest bt j) with
  | true=>
   simp only [if_true]
   refine qaW (wpAny_updateSeq hS' rfl (qaW (wpAny_letGo ?_)))
   rw [hname]
   refine qaX ⟨plainId_quiet F.plain_min_loop _,ih (j+1) _ v _ ⋯ hlt (W.frame _ _ _ hst' λb hbf o e=> ?_) (by simp only [argBest,hb,if_true];exact hP) (λb o e=> ?_) (qal _ hS' rfl)
     λv' h'' tk'' hP' hk''=> ?_⟩
   ·exact (qah _ _ (λh:S=b=>hSf (by rw [h];exact hbf))).trans e
   ·exact (qah _ _ (Ne.symm (h0w b o e).2)).trans (hx' b o e)
   ·exact hR v' h'' tk'' hP' λb o hbw hbS e=>hk'' b o hbw hbS ((qah _ _ (Ne.symm hbS)).trans (hk' b o hbw e))
  | false=>
   simp only [qax,if_false]
   refine qaW (wpAny_letGo ?_)
   rw [hname]
   exact qaX ⟨plainId_quiet F.plain_min_loop _,ih (j+1) _ vb c ⋯ hlt hst' (by simp only [argBest,hb,qax,if_false];exact hPb) hx' hS' λv' h'' tk'' hP' hk''=>
     hR v' h'' tk'' hP' λb o hbw hbS e=>hk'' b o hbw hbS (hk' b o hbw e)⟩
end
section
variable {prog:Program} {w:World} {A:Around} {E:Value->Shared->Prop} {s:Shared}
theorem ztn {x:Value} {Q:Value->Shared->Prop}
  (h:wpAny (model prog w) A.in1 (pyIter x) (λit s₂=> ∃ I fp wr n P St bt h0,it= .ref I/\Walks prog w A.in1 I fp wr n P St/\St 0 s₂.heap/\(∀ b∈fp,b<s₂.heap.objs.size)/\0<n/\zqc prog w A.in1 h0 P bt/\(∀ b o,h0.get? b=some o->b∉wr/\s₂.heap.get? b=some o)/\
    ∀ v h' tk,P (argBest bt (n - 1)) v->(∀ b o,b∉wr->s₂.heap.get? b=some o->h'.get? b=some o)->Q v {s₂ with heap:=h',toks:=tk}) E s):
  wpAny (model prog w) A (call (.builtin "min") [x]) Q E s:=by
 have hname:(toString "min"++toString ".loop":String)="min.loop":=by decide
 refine call_function_tree F.kind_min F.plain_min F.entry_min (F.args_min1 _) ?_
 show wpAny _ A.in1 (Builtin.Builtins.bindParams "min" ["key","default"] 0 ⟨[],[]⟩>>=_) _ _ s
 refine qaW (wpAny_of_eq (show Builtin.Builtins.bindParams "min" ["key","default"] 0 ⟨[],[]⟩=pure [none,none] from rfl) ?_)
 refine qaW (qaX ?_)
 refine qaW (qaZ h (λit s₂ h₂=> ?_) λ_ _ e=>e)
 obtain ⟨I,fp,wr,n,P,St,bt,h0,rfl,W,hst,hfp,hn,hcmp,hx,hQ⟩:=h₂
 refine qaW (qaC ?_)
 have hSf:s₂.heap.objs.size∉fp:=λhm=>qaN _ (hfp _ hm)
 have hSw:s₂.heap.objs.size∉wr:=λh=>hSf (W.sub _ h)
 have h0w: ∀ b o,h0.get? b=some o->b∉wr/\b≠s₂.heap.objs.size:=λb o e=>⟨(hx b o e).1,qaR (qaQ (hx b o e).2)⟩
 rw [hname]
 refine qaX ⟨plainId_quiet F.plain_min_loop _,?_⟩
 refine codeAny_builtin F.entry_min_loop ?_
 rw [qap F.plain_min_loop _]
 show wpAny _ A.in1 (seqItems? (.ref s₂.heap.objs.size)>>=_) _ _ _
 refine qaW (wpAny_seqItems (qar _ rfl) rfl ?_)
 show wpAny _ A.in1 (tryCatch (pyNext (.ref I)) _>>=_) _ _ _
 refine qaW (wpAny_tryCatch (W.item 0 _ _ _ hn (W.frame _ _ _ hst λb _ o e=>qag _ e) λv h' tk hP hst' hk'=> ?_))
 have hS':=hk' s₂.heap.objs.size _ hSw (qar _ rfl)
 show wpAny _ A.in1 (updateSeq s₂.heap.objs.size (λ_=> #[v,v])>>=_) _ _ _
 refine qaW (wpAny_updateSeq hS' rfl ?_)
 rw [hname]
 refine qaX ⟨plainId_quiet F.plain_min_loop _,zma W bt hcmp s₂.heap.objs.size hSf h0w _ 0 _ v _ rfl hn (W.frame _ _ _ hst' λb hbf o e=> ?_) hP (λb o e=> ?_) (qal _ hS' rfl) λv' h'' tk'' hP' hk''=> ?_⟩
 ·exact (qah _ _ (λh:s₂.heap.objs.size=b=>hSf (by rw [h];exact hbf))).trans e
 ·exact (qah _ _ (Ne.symm (h0w b o e).2)).trans (hk' b o (h0w b o e).1 (qag _ (hx b o e).2))
 ·exact hQ v' h'' tk'' hP' λb o hbw e=>hk'' b o hbw (qaR (qaQ e)) ((qah _ _ (Ne.symm (qaR (qaQ e)))).trans (hk' b o hbw (qag _ e)))
theorem zjS {l:Addr} {items:Array Value} {bt:Nat->Nat->Bool} {Q:Value->Shared->Prop} (hh:zmp A s.heap) (hl:s.heap.IsList l items) (hn:0<items.size) (hc:zqc prog w A.in1 s.heap (λi v=>items[i]? = some v) bt)
  (k: ∀ v h' tk,items[argBest bt (items.size - 1)]? = some v->(∀ b o,s.heap.get? b=some o->h'.get? b=some o)->Q v {s with heap:=h',toks:=tk}):wpAny (model prog w) A (call (.builtin "min") [.ref l]) Q E s:=by
 have hlt:l<s.heap.objs.size:=by obtain ⟨_,e,_⟩:=hl;exact qaQ e
 have hlI:l≠s.heap.objs.size:=qaR hlt
 refine ztn (wpAny_pyIter_list hl ?_)
 have hfp: ∀ b∈[s.heap.objs.size,l],b<(s.heap.push {cls:= .type "list_iterator",data:= .fields #[.ref l,.int 0 0]}).objs.size:=λb hb=>by
  rw [qaL]
  simp only [qaP,qaF,or_false] at hb
  rcases hb with rfl | rfl
  ·exact lt_succ_self _
  ·exact lt_succ_of_lt hlt
 have st1:(s.heap.push {cls:= .type "list_iterator",data:= .fields #[.ref l,.int 0 0]}).IsListIter s.heap.objs.size l 0:=⟨_,qar _ rfl,rfl,rfl⟩
 have hx: ∀ b o,s.heap.get? b=some o->b∉[s.heap.objs.size]/\(s.heap.push {cls:= .type "list_iterator",data:= .fields #[.ref l,.int 0 0]}).get? b=some o:=λb o e=>
  ⟨λhm=>qaN _ (by simp only [qaP,qaF,or_false] at hm;exact hm▸qaQ e),qag _ e⟩
 rcases hh with hh | ⟨ha,cls,head,hh,hX⟩
 ·exact ⟨_,_,_,_,_,_,bt,s.heap,rfl,Walks.list (A:=A.in1) hh _ l hlI items,⟨st1,hl.push _⟩,hfp,hn,hc,hx,λv h' tk hv hk=>k v h' tk hv λb o e=>hk b o (hx b o e).1 (hx b o e).2⟩
 ·obtain ⟨ob,vs,x1,x2⟩:=id hX
  have hX2:=hX.keep (h':=s.heap.push {cls:= .type "list_iterator",data:= .fields #[.ref l,.int 0 0]}) λo e=>qag _ e
  refine ⟨_,_,_,_,_,_,bt,s.heap,rfl,zk1 (A:=A.in1) (ha:=ha) (cls:=cls) (head:=head) hh _ l hlI (qaR (qaQ x1)) items,⟨st1,hl.push _,hX2⟩,λb hb=> ?_,hn,hc,hx,λv h' tk hv hk=>k v h' tk hv λb o e=>hk b o (hx b o e).1 (hx b o e).2⟩
  simp only [qaP,qaF,or_false] at hb
  rcases hb with z | z | z
  ·exact hfp b (by simp [z])
  ·exact hfp b (by simp [z])
  ·rw [z]
   show ha<(s.heap.push _).objs.size
   rw [qaL]
   exact lt_succ_of_lt (qaQ x1)
end
end L3
namespace L2
open L3
section
variable {X:Cx}
def zoJ (K:W.Frag) (H:Hp) (v:V) (p:Int×List Int):Prop:= ∃ a q,v= .ref a/\SqT K H a [.int p.1,.ref q]/\SqT K H q (p.2.map V.int)
theorem zmj {pins:List (Addr×Obj)} {σ:St} {H:Hp} {s:Shared} (I:Inv X pins σ H s) {v:V} {u:Value} {p:Int×List Int} (h:zoJ X.K H v p) (r:zbO v u):zga s.heap u p:=by
 obtain ⟨a,q,rfl,h1,h2⟩:=h
 cases r
 obtain ⟨its,r1,p1,_⟩:=I.tuple h1
 obtain ⟨its2,r2,p2,_⟩:=I.tuple h2
 obtain ⟨u1,u2,rfl,e1,e2⟩:=zpP r1
 obtain ⟨t,rfl⟩:=e1
 cases e2
 exact ⟨a,q,t,its2,rfl,p1,p2,zb4 r2⟩
theorem znb (hu:X.A.units+60<cLine):zaK X (.builtin "min") (λxs H Q=> ∃ (a:Addr) (vs:List V) (ps:List (Int×List Int)),xs=[.ref a]/\SqL X.K H a vs/\ps.length=vs.length/\0<vs.length/\(∀ (i:Nat) v p,vs[i]? = some v->ps[i]? = some p->zoJ X.K H v p)/\
    ∀ v,vs[argBest (λi j=>pLt (ps.getD i (0,[])) (ps.getD j (0,[]))) (ps.length - 1)]? = some v->Q v H):=by
 intro pins s σ H xs us Q I r h
 obtain ⟨a,vs,ps,rfl,hq,hlen,hpos,hp,q⟩:=h
 obtain ⟨u,rfl,rx⟩:=zen r
 cases rx
 obtain ⟨its,r',pl,hz⟩:=I.list hq
 have hlen':=r'.length
 have back: ∀ (i:Nat) u,its.toArray[i]? = some u-> ∃ v,vs[i]? = some v/\zbO v u:=λi u e=>by
  have e':its[i]? = some u:=by simpa using e
  have hi:i<vs.length:=by have:=(qac.mp e').1;omega
  obtain ⟨u',hu',ru⟩:=r'.get (x:=vs[i]) (i:=i) (by simp [hi])
  rw [e'] at hu'
  cases hu'
  exact ⟨vs[i],by simp [hi],ru⟩
 have key: ∀ (i:Nat) u,its.toArray[i]? = some u->zga s.heap u (ps.getD i (0,[])):=λi u e=>by
  obtain ⟨v,ev,ru⟩:=back i u e
  have hi:i<ps.length:=by have:=(qac.mp ev).1;omega
  refine zmj I (hp i v _ ev ?_) ru
  simp [List.getD,hi]
 refine L3.zjS I.hand pl.isList (by simp;omega) (bt:=λi j=>pLt (ps.getD i (0,[])) (ps.getD j (0,[]))) (λi j vi vj s' Q E hk hi hj hQ=>znX ((key i vi hi).keep hk) ((key j vj hj).keep hk) (by rw [Around.in1_units];omega) hQ) λv h' tk hv hk=> ?_
 have hs:its.toArray.size - 1=ps.length - 1:=by simp;omega
 rw [hs] at hv
 obtain ⟨v0,ev,ru⟩:=back _ _ hv
 exact ⟨v0,H,I.grown (s':={s with heap:=h',toks:=tk}) rfl rfl hk,ru,q v0 ev⟩
end
end L2
namespace L3
open L2
section
variable {X:Cx} {E:XE}
def zib:D->Option (Int×List Int)
 | .tup [.int i,.tup ds]=>(zc6 ds).map λns=>(i,ns)
 | _=>none
def zeS:List D->Option (List (Int×List Int))
 | []=>some []
 | d::r=>(zib d).bind λp=>(zeS r).map λps=>p::ps
def zeG (ps:List (Int×List Int)):Nat:=argBest (λi j=>pLt (ps.getD i (0,[])) (ps.getD j (0,[]))) (ps.length - 1)
def zqX:List D->M D:=zlp λd=>do
 let ds<-znB d
 let ps<-ofO (match d with | .tup _=>none | _=>zeS ds)
 ofO (ds[zeG ps]?)
theorem zla {K:W.Frag} {ι:Io} {H:Hp} {d:D} {v:V} {p:Int×List Int} (r:Rel K ι H d v) (e:zib d=some p):zoJ K H v p:=by
 unfold zib at e
 split at e
 ·rename_i i ds
  cases z:zc6 ds with
  | none=>rw [z] at e;cases e
  | some ns=>
   rw [z] at e
   cases e
   obtain ⟨a,vs,rfl,h1,h2⟩:=zdg r
   simp only [zau] at h2
   obtain ⟨v1,r1,rfl,g1,v2,r2,rfl,g2,rfl⟩:=h2
   simp only [Rel] at g1
   subst g1
   obtain ⟨q,ws,rfl,k1,k2⟩:=zdg g2
   have:=zcz k2 z
   subst this
   exact ⟨a,q,rfl,h1,k1⟩
 ·cases e
theorem zgH {K:W.Frag} {ι:Io} {H:Hp}: ∀ {ds:List D} {vs:List V} {ps:List (Int×List Int)},zau K ι H ds vs->zeS ds=some ps->ps.length=vs.length/\ ∀ (i:Nat) v p,vs[i]? = some v->ps[i]? = some p->zoJ K H v p
 | [],vs,ps,h,e=>by
  simp only [zau] at h
  subst h
  cases e
  exact ⟨rfl,λi v p e1=>by simp at e1⟩
 | d::r,vs,ps,h,e=>by
  simp only [zau] at h
  obtain ⟨v,r',rfl,h1,h2⟩:=h
  unfold zeS at e
  cases z:zib d with
  | none=>rw [z] at e;cases e
  | some p=>
   rw [z] at e
   cases z2:zeS r with
   | none=>rw [z2] at e;cases e
   | some qs=>
    rw [z2] at e
    cases e
    obtain ⟨g1,g2⟩:=zgH h2 z2
    refine ⟨by simp [g1],λi v' p' e1 e2=> ?_⟩
    cases i with
    | zero=>
     simp at e1 e2
     subst e1 e2
     exact zla h1 z
    | succ i=>
     simp at e1 e2
     exact g2 i v' p' e1 e2
theorem zle (hu:X.A.units+60<cLine):zaK X (.builtin "min") (zhU X.K E zqX):=by
 refine zaK.imp (znb hu) λxs H Q ⟨ι,h,ds,rl,hr,q⟩=> ?_
 obtain ⟨d,v,e,r,q⟩:=zbT rl q
 obtain ⟨a,vs,ds',e',hs,rl',q⟩:=zcq hr r q
 obtain ⟨ps,ep,q⟩:=Fin.ofOb q
 obtain ⟨x,ex⟩: ∃ x,ds'[zeG ps]? = some x:=by
  cases ex:ds'[zeG ps]? with
  | none=>rw [ex] at q;exact qa0 q
  | some x=>exact ⟨x,rfl⟩
 rw [ex] at q
 rcases hs with ⟨hs,hd⟩ | ⟨hs,hd⟩
 ·have ep':zeS ds'=some ps:=by
   cases d with
   | tup ts=>exact absurd rfl (hd ts)
   | _=>exact ep
  obtain ⟨g1,g2⟩:=zgH rl' ep'
  have hlt:=(qac.mp ex).1
  have hl:=rl'.length
  refine ⟨a,vs,ps,by rw [e,e'],hs,g1,⋯,g2,λv0 ev=> ?_⟩
  obtain ⟨w,ew,rw'⟩:=zau.get rl' ex
  have ev':vs[zeG ps]? = some v0:=ev
  rw [ew] at ev'
  cases ev'
  exact Fin.out hr q _ rw'
 ·subst hd
  cases ep
def zpl:FS:=λ_=>M.bad
theorem zjC {st:Stmt}:SS X E st zpl:=λpins s σ H D I h=>by
 obtain ⟨ι,h,sd,L,hh,q⟩:=h
 exact qa0 q
end
section
variable {X:Cx} {E:XE}
def zpa (x y:D):M D:=λh=>match pdH h x,pdH h y with
 | some a,some b=>if zhC a b=true then .ok (.bl (!PyData.eqv a b)) h else .bad
 | _,_=> .bad
theorem zpd (hu:X.A.units+60<cLine):OpR X (compareOp .NotEq) (zdZ X.K E zpa):=by
 intro pins s σ H x y v u Q I rx ry ⟨ι,h,d1,d2,r1,r2,hr,q⟩
 unfold zpa at q
 cases e1:pdH h d1 with
 | none=>rw [e1] at q;exact qa0 q
 | some a=>
  cases e2:pdH h d2 with
  | none=>rw [e1,e2] at q;exact qa0 q
  | some b=>
   rw [e1,e2] at q
   dsimp only at q
   by_cases c:zhC a b=true
   ·rw [qa4 c] at q
    obtain ⟨c1,c2,c3⟩:=zhf c
    obtain ⟨as,ra⟩:=zmL I hr r1 rx e1
    obtain ⟨bs,rb⟩:=zmL I hr r2 ry e2
    exact SeqAt.compareNe_reads ra rb c1 c2 ⋯ ⟨.bl _,H,I,rfl,q ι H (zbW.refl _ _) hr (.bl _) (by simp [Rel])⟩
   ·rw [qa5 c] at q
    exact qa0 q
def zud (d:D):M Bool:=do let ds<-znB d;pure (!ds.isEmpty)
def ztT (f:FE):FT:=λsd=>do let d<-f sd;zud d
theorem ztL {e:Expr} {f:FE} (h:SE X E e f) (he: ∀ whole,isTrue e X.env whole=(do let v<-whole;standAt e.pos;holding [v] (truthy v)):=by intro _;rfl):ST X E e (ztT f):=by
 refine PT.imp (znS h he) λσ H Q ⟨ι,h,sd,L,hh,q⟩=>⟨ι,h,sd,L,hh,Fin.bind q λd h1 ι1 H1 e1 s1 hr1 q1 v rv=> ?_⟩
 obtain ⟨a,vs,ds',e',hs,rl',q2⟩:=zcq hr1 rv q1
 have hl:=rl'.length
 have ee:(!ds'.isEmpty)= !vs.isEmpty:=by
  cases ds' with
  | nil=>
   cases vs with
   | nil=>rfl
   | cons _ _=>simp at hl
  | cons _ _=>
   cases vs with
   | nil=>simp at hl
   | cons _ _=>rfl
 rw [ee] at q2
 refine ⟨!vs.isEmpty,?_,Fin.out hr1 q2⟩
 rw [e']
 rcases zl1 hs with z | z
 ·exact .inl ⟨vs,z,rfl⟩
 ·exact .inr (.inl ⟨vs,z,rfl⟩)
end
section
variable {X:Cx} {E:XE}
end
section
variable {X:Cx} {E:XE} {scope:Scope} {N:List Str} {src:List (Option Nat)} {tg iter elt:Expr} {ifs:List Expr} {pos:Pos}
end
end L3
namespace L3
open PySem.Sem (wp)
open PySem.AutoSeq1 (wpAny_loadPart')
section
variable {prog:Program} {w:World} {A:Around} {E:Value->Shared->Prop} {s:Shared}
end
end L3
namespace L2
section
variable {X:Cx} {elts:List Expr} {k:Nat} {tpos:Pos}
end
end L2
namespace L3
open L2
section
variable {X:Cx} {E:XE} {elts:List Expr} {k:Nat} {tpos pos:Pos}
end
end L3
namespace L2
section
variable {κ:Type} [DecidableEq κ]
def zmS (kvs:List (κ×V)) (k:κ) (v:V):List (κ×V):=
 if (kvs.any λkv=>decide (kv.1=k))=true then kvs.map (λkv=>if kv.1=k then (kv.1,v) else kv) else kvs++[(k,v)]
theorem zjv (kvs:List (κ×V)) (k:κ) (v:V):(zmS kvs k v).length<=kvs.length+1:=by
 unfold zmS
 split
 ·rw [qaH];omega
 ·rw [qav,qaE,qaJ];omega
theorem KV.any {kvs:List (κ×V)} {vs:List (κ×Value)} (r:KV kvs vs) (k:κ):(kvs.any λkv=>decide (kv.1=k))=vs.any λkv=>decide (kv.1=k):=by
 unfold KV at r
 induction r with
 | nil=>rfl
 | cons h t ih=>rw [any_cons,any_cons,ih,h.1]
theorem KV.repl {kvs:List (κ×V)} {vs:List (κ×Value)} (r:KV kvs vs) (k:κ) {y:V} {u:Value} (ry:zbO y u):
  KV (kvs.map λkv=>if kv.1=k then (kv.1,y) else kv) (vs.map λkv=>if kv.1=k then (kv.1,u) else kv):=by
 unfold KV at r ⊢
 induction r with
 | nil=>exact .nil
 | @cons p q ps qs h t ih=>
  rw [qaM,qaM]
  refine .cons ?_ ih
  obtain ⟨h1,h2⟩:=h
  by_cases e:p.1=k
  ·rw [qa4 e,qa4 (h1.symm.trans e)];exact ⟨h1,ry⟩
  ·rw [qa5 e,qa5 (λz=>e (h1.trans z))];exact ⟨h1,h2⟩
theorem KV.put {kvs:List (κ×V)} {vs:List (κ×Value)} (r:KV kvs vs) (k:κ) {y:V} {u:Value} (ry:zbO y u):KV (zmS kvs k y) (stored vs k u):=by
 unfold zmS stored
 rw [r.any k]
 by_cases e:(vs.any λkv=>decide (kv.1=k))=true
 ·rw [qa4 e,qa4 e];exact r.repl k ry
 ·rw [qa5 e,qa5 e];exact Paired.snoc r ⟨rfl,ry⟩
theorem KV.length {kvs:List (κ×V)} {vs:List (κ×Value)} (r:KV kvs vs):kvs.length=vs.length:=Paired.length r
end
theorem ztk {P:Program} {w:World} {k:Key} {u:Value} (r:zbO (kV k) u):(zek P w).is k u=true:=by
 cases k with
 | inl i=>obtain ⟨t,e⟩:=(show ∃ t,u=Value.int i t from r);subst e;exact zjA P w i t
 | inr x=>obtain ⟨t,e⟩:=(show ∃ t,u=Value.str x t from r);subst e;exact zjf P w x t
section
variable {X:Cx}
end
end L2
namespace L3
open L2
section
variable {X:L2.Cx} {E:XE}
def zq9 (kvs:List (Int×D)) (k:Int) (d:D):List (Int×D):=
 if (kvs.any λp=>decide (p.1=k))=true then kvs.map (λp=>if p.1=k then (p.1,d) else p) else kvs++[(k,d)]
noncomputable def zde (n:Nat):M (List (Int×D)):=λh=>match h[n]? with
 | some (.dic kvs)=> .ok kvs h
 | _=> .bad
theorem zpT {K:W.Frag} {ι:Io} {H:Hp} {kvs:List (Int×D)} {vs:List (Key×V)} {k:Int} {d:D} {v:V} (r:Paired (λ(p:Int×D) (q:Key×V)=>q.1= .inl p.1/\Rel K ι H p.2 q.2) kvs vs) (rv:Rel K ι H d v):
  Paired (λ(p:Int×D) (q:Key×V)=>q.1= .inl p.1/\Rel K ι H p.2 q.2) (zq9 kvs k d) (zmS vs (.inl k) v):=by
 have ha:(kvs.any λp=>decide (p.1=k))=(vs.any λp=>decide (p.1=(.inl k:Key))):=by
  induction r with
  | nil=>rfl
  | @cons p q ps qs h t ih=>
   rw [any_cons,any_cons,ih,h.1]
   congr 1
   rw [Bool.eq_iff_iff]
   simp only [qaD]
   exact ⟨λz=>by rw [z],λz=>by injection z⟩
 unfold zq9 zmS
 rw [ha]
 by_cases e:(vs.any λp=>decide (p.1=(.inl k:Key)))=true
 ·rw [qa4 e,qa4 e]
  clear ha e
  induction r with
  | nil=>exact .nil
  | @cons p q ps qs h t ih=>
   rw [qaM,qaM]
   refine .cons ?_ ih
   by_cases e:p.1=k
   ·rw [qa4 e,qa4 (by rw [h.1,e])];exact ⟨h.1,rv⟩
   ·rw [qa5 e,qa5 (λz=>e (by rw [h.1] at z;injection z))];exact h
 ·rw [qa5 e,qa5 e]
  exact Paired.snoc r ⟨rfl,rv⟩
end
open LT
section
variable {h:Hh}
end
end L3
namespace L3
open L2
structure Fd (K:W.Frag) (x:Str) (st:Stmt) (a:Addr) (d:FuncData):Prop where
 e:W.nsIn K mainGlobals x=some (some (.ref a))
 F:Fun K x x st a d
section
variable {X:Cx} {E:XE}
end
end L3
namespace L3
open HT
section
open PySem.SeqAt
open PySem.AutoSeq1 (wpAny_loadPart')
open PySem.MeetsSeq PySem.MeetsSeq2 PySem.MeetsSeq3
end
section
variable {prog:Program} {w:World} {A:Around} {E:Value->Shared->Prop} {s:Shared}
end
end L3
namespace L3
section
open PySem.SeqAt
open PySem.AutoSeq1 (wpAny_loadPart')
open PySem.MeetsSeq PySem.MeetsSeq2 PySem.MeetsSeq3
section
variable {prog:Program} {w:World} {A:Around} {E:Value->Shared->Prop} {s:Shared}
end
end
open L2
section
variable {X:Cx} {E:XE}
end
end L3
namespace L2
section
variable {X:Cx}
end
end L2
namespace L3
open L2
section
variable {X:Cx} {E:XE}
end
open Classical in
noncomputable def chk (n:Nat) (ds:List D):M Unit:=λh=>if h[n]? = some (.lst ds) then .ok () h else .bad
noncomputable def zcF (n:Nat) (full:List D) (f:D->M (Option D)):List D->M (List D)
 | []=>do chk n full;pure []
 | x::r=>do
  chk n full
  let o<-f x
  let ys<-zcF n full f r
  pure (match o with | some y=>y::ys | none=>ys)
section
variable {X:Cx} {E:XE} {scope:Scope} {N:List Str} {src:List (Option Nat)} {tg iter elt:Expr} {ifs:List Expr} {pos:Pos}
theorem zmf {α β:Type} {K:W.Frag} {ι:Io} {H:Hp} {h:Hh} {n:Nat} {ds:List D} {m:M α} {f:α->M β} {P:β->Io->Hp->Prop} (q:Fin K E ι H ((((do chk n ds;m):M α)>>=f) h) P):h[n]? = some (.lst ds)/\Fin K E ι H ((m>>=f) h) P:=by
 have e:(((do chk n ds;m):M α)>>=f) h=match chk n ds h with | .ok _ h'=>(m>>=f) h' | .exc c h'=> .exc c h' | .bad=> .bad:=by
  show M.bind (M.bind (chk n ds) λ_=>m) f h=_
  unfold M.bind
  cases chk n ds h<;>rfl
 rw [e] at q
 unfold chk at q
 by_cases hc:h[n]? = some (.lst ds)
 ·rw [qa4 hc] at q
  exact ⟨hc,q⟩
 ·rw [qa5 hc] at q
  exact qa0 q
theorem zwl {n:Nat} {a:Addr} {K:W.Frag} {g:D->Sd->M Sd} {tc:Sd->M Bool} {te:Sd->M D} {ds:List D} {ι:Io} {H:Hp} {h:Hh} {sd:Sd} {σ:L2.St} {Q:VK} {p:Addr} (hk:zaH g src) (L:zc3 K ι H sd σ) (hr:zbg K ι H h) (hn:ι.c[n]? = some (some a)) (hz:ds.length<=sizeLine)
  (q:Fin K E ι H ((do let ys<-zcF n ds (za5 g tc te (zak src sd)) ds;pure (D.lst ys)) h) λd ι' H'=> ∀ v,Rel K ι' H' d v->Q v H') (hp:H p=none):
  zuh (Itl K a) (zsV K E g) (zjB K E tc) (zgK K E te) (bStart src σ) H p λH'=>Q (.ref p) H':=by
 generalize hP:(λ(d:D) (ι':Io) (H':Hp)=> ∀ v,Rel K ι' H' d v->Q v H')=P at q
 generalize hf:za5 g tc te (zak src sd)=f at q
 have hpx:p∉ι.x:=λz=>hr.nin hp (.inr z)
 have h0len:(zak src sd).length=src.length:=by unfold zak;rw [qaH]
 have h0non: ∀ (i:Nat),src[i]? = some none->(zak src sd)[i]? = some none:=λi e=>by unfold zak;rw [List.getElem?_map,e];rfl
 refine ⟨λi m σ' H'=>m=ds.length - i/\i<=ds.length/\ ∃ ι' h' done vs,ι'.x=p::ι.x/\zbW ι H ι'.show H'/\zc3 K ι' H' (zak src sd) σ'/\zbg K ι' H' h'/\H' p=some (.lst vs)/\zau K ι' H' done vs/\done.length<=i/\
     Fin K E ι H ((do let ys<-zcF n ds f (ds.drop i);pure (D.lst (done++ys))) h') P,
   ⟨_,rfl,zero_le _,ι.hide p,h,[],[],rfl,?_,L.bStart.pass (zfF hp),hr.hide hp,za2,zau.nil,qaV _,?_⟩,?_⟩
 ·have:=hr.laidS (o:= .lst []) hp
  exact ⟨this.old,this.new,this.hid,this.hidk,this.keep⟩
 ·simpa using q
 rintro i m σ2 H2 ⟨rfl,hi2,ι2,h2,done,vs,hx2,s2,L2,hr2,e2,rl2,dl2,q2⟩
 have ps2:Pass ι H ι2 H2:=⟨s2.old,λb o hb n=>⟨s2.keep b o hb n,λz=>by
   rcases z with z | z
   · exact s2.nin hb n (.inl z)
   · rw [hx2] at z
     rcases qaP.mp z with z | z
     · rw [z,hp] at hb;cases hb
     · exact n (.inr z)⟩⟩
 have hp2:p∈ι2.x:=by rw [hx2];exact qau
 have base: ∀ {ι':Io} {H':Hp},zbW ι2 H2 ι' H'->zbW ι H ι'.show H':=λt=>s2.trans (t.shown hx2)
 have fact:h2[n]? = some (.lst ds)-> ∃ vs2,H2 a=some (.lst vs2)/\zau K ι2 H2 ds vs2:=λhc=>by
  have hn2:ι2.c[n]? = some (some a):=by
   rcases s2.old n (some a) hn with z | z
   ·exact z
   ·have:=hr2.dead n z
    rw [hc] at this
    cases this
  obtain ⟨o,e1,e2⟩:=hr2.at_ n a _ hn2 hc
  obtain ⟨vs2,rfl,rl⟩:=e2
  exact ⟨vs2,e1,rl⟩
 by_cases hlt:i<ds.length
 ·right
  have edr:ds.drop i=ds[i]::ds.drop (i+1):=qae hlt
  rw [edr,zcF] at q2
  obtain ⟨hc,q2⟩:=zmf q2
  obtain ⟨vs2,ev2,rlv⟩:=fact hc
  have sq:SqL K H2 a vs2:= .inl (.inl ev2)
  have hlv:=rlv.length
  refine ⟨⟨vs2,vs2[i]'⋯,sq,by simp⟩,λσ' H'=>i+1<=ds.length/\ ∃ ι' h' done vs,ι'.x=p::ι.x/\zbW ι H ι'.show H'/\zc3 K ι' H' (zak src sd) σ'/\zbg K ι' H' h'/\H' p=some (.lst vs)/\zau K ι' H' done vs/\done.length<=i+1/\
    Fin K E ι H ((do let ys<-zcF n ds f (ds.drop (i+1));pure (D.lst (done++ys))) h') P,λσ' H' z=>⟨ds.length - (i+1),⋯,rfl,z.1,z.2⟩,λx H3 y=> ?_⟩
  obtain ⟨eH,y⟩:=y
  have eH:=eH.symm
  subst eH
  obtain ⟨d,ed,rd⟩:=rlv.getV (y vs2 sq)
  have s3:zbW ι2 H2 ι2 H2:=zbW.refl _ _
  have hr3:=hr2
  rw [qaf hlt] at ed
  rw [Option.some.inj ed] at q2
  have q3:=q2
  have st3:zbW ι2 H2 ι2 H2:=s3
  have e3:H2 p=some (.lst vs):=e2
  have eq1:((do let o<-f d;let ys<-zcF n ds f (ds.drop (i+1));pure (match o with | some y=>y::ys | none=>ys))>>=λys=>pure (D.lst (done++ys)):M D)=(g d (zak src sd)>>=λsd1=>tc sd1>>=λc=>if c=true then (te sd1>>=λy=>zcF n ds f (ds.drop (i+1))>>=λys=>pure (D.lst (done++[y]++ys))) else (zcF n ds f (ds.drop (i+1))>>=λys=>pure (D.lst (done++ys)))):=by
   rw [<- hf]
   simp only [za5,bind_assoc]
   refine congrArg _ (funext λsd1=> ?_)
   refine congrArg _ (funext λc=> ?_)
   cases c with
   | true=>simp only [if_true,bind_assoc,pure_bind,List.append_assoc,List.cons_append,nil_append]
   | false=>simp only [qax,if_false,pure_bind]
  rw [eq1] at q3
  refine ⟨ι2,h2,zak src sd,d,L2.step s3,hr3,rd,?_⟩
  refine Fin.bindB q3 (λι' H' h' s hr'=>⟨ι'.show,base (s3.trans s),hr'.show⟩) λsd4 h4 ι4 H4 e4 s4 hr4 q4 σ4 L4=> ?_
  have hx4:ι4.x=p::ι.x:=by rw [s4.hid];exact hx2
  obtain ⟨k1,k2⟩:=hk d _ h2 sd4 h4 h0len h0non e4
  refine ⟨ι4,h4,sd4,L4,hr4,Fin.bindB q4 (λι' H' h' s hr'=>⟨ι'.show,base ((s3.trans s4).trans s),hr'.show⟩) λc h5 ι5 H5 e5 s5 hr5 q5=> ?_⟩
  have hx5:ι5.x=p::ι.x:=by rw [s5.hid];exact hx4
  have sub: ∀ {ι':Io} {H':Hp},zc3 K ι' H' sd4 σ4->zc3 K ι' H' (zak src sd) σ4:=λ{ι' H'} z=>⟨by rw [<- k1];exact z.1,λj d' e=>z.2 j d' (k2 j d' (λw=>by rw [h0non j w] at e;cases e) e)⟩
  have st5:zbW ι2 H2 ι5 H5:=(s3.trans s4).trans s5
  cases c with
  | false=>
   exact zrI ⟨hlt,ι5,h5,done,vs,hx5,base st5,sub (L4.step s5),hr5,by rw [st5.hidk p hp2];exact e2,rl2.step st5,Nat.le_succ_of_le dl2,q5⟩
  | true=>
   refine zrR ⟨ι5,h5,sd4,L4.step s5,hr5,Fin.bindB q5 (λι' H' h' s hr'=>⟨ι'.show,base (st5.trans s),hr'.show⟩) λyd h6 ι6 H6 e6 s6 hr6 q6 y ry=> ?_⟩
   have st6:zbW ι2 H2 ι6 H6:=st5.trans s6
   have hx6:ι6.x=p::ι.x:=by rw [s6.hid];exact hx5
   have hp6:p∈ι6.x:=by rw [hx6];exact qau
   have e6':H6 p=some (.lst vs):=by rw [st6.hidk p hp2];exact e2
   refine ⟨vs,e6',by rw [<- rl2.length];omega,hlt,ι6,h6,done++[yd],vs++[y],hx6,ziH hp hpx hx2 s2 st6,?_,hr6.hid hp6,za2,?_,?_,?_⟩
   ·exact ((sub (L4.step s5)).step s6).pass (zeP hp6)
   ·exact ((rl2.step st6).append (zau.cons ry zau.nil)).pass (zeP hp6)
   ·rw [qav,List.length_singleton];omega
   ·exact q6
 ·left
  have e:i=ds.length:=by omega
  subst e
  rw [List.drop_length,zcF] at q2
  obtain ⟨hc,q2⟩:=zmf q2
  obtain ⟨vs2,ev2,rlv⟩:=fact hc
  refine ⟨⟨vs2,.inl (.inl ev2),by rw [rlv.length];exact qaV _⟩,?_⟩
  have q3:P (.lst done) ι2.show H2:=by
   have:Fin K E ι H ((pure (D.lst (done++[])):M D) h2) P:=q2
   rw [append_nil] at this
   exact this _ _ s2 hr2.show
  rw [<- hP] at q3
  refine q3 (.ref p) ?_
  simp only [Rel]
  refine ⟨p,vs,rfl,⟨e2,λz=> ?_⟩,rl2.pass zf7⟩
  rcases z with z | z
  ·exact (hr2.hidt p (by rw [hx2];exact qau)).2 z
  ·exact hpx (by have z:p∈ι2.x.tail:=z;rw [hx2] at z;exact z)
noncomputable def zgL (f:FE) (g:D->Sd->M Sd) (tc:Sd->M Bool) (te:Sd->M D) (src:List (Option Nat)):Sd->M D:=λsd=>do
 let d<-f sd
 match d with
 | .cel n=>do
  let ds<-zai n
  fits ds.length
  let ys<-zcF n ds (za5 g tc te (zak src sd)) ds
  pure (D.lst ys)
 | _=>M.bad
theorem zn3 {K:W.Frag} {f:FE} {g:D->Sd->M Sd} {tc:Sd->M Bool} {te:Sd->M D} (hk:zaH g src) (σ:L2.St) (H:Hp) (Q:VK) (q:zgK K E (zgL f g tc te src) σ H Q):
  zo8 (zvV K (zgK K E f)) (zsV K E g) (zjB K E tc) (zgK K E te) src σ H Q:=by
 obtain ⟨ι,h,sd,L,hh,q⟩:=q
 refine ⟨ι,h,sd,L,hh,Fin.bind q λd h1 ι1 H1 e1 s1 hr1 q1 v rv=> ?_⟩
 cases d with
 | cel n=>
  simp only [Rel] at rv
  obtain ⟨a,rfl,hn⟩:=rv
  have q1:Fin K E ι1 H1 ((do let ds<-zai n;fits ds.length;let ys<-zcF n ds (za5 g tc te (zak src sd)) ds;pure (D.lst ys):M D) h1) _:=q1
  have key: ∃ ds,h1[n]? = some (.lst ds)/\Fin K E ι1 H1 ((do fits ds.length;let ys<-zcF n ds (za5 g tc te (zak src sd)) ds;pure (D.lst ys):M D) h1) (λd ι' H'=> ∀ v,Rel K ι' H' d v->Q v H'):=by
   cases hc:h1[n]? with
   | none=>
    have e:zai n h1= .bad:=by unfold zai;rw [hc]
    have:Fin K E ι1 H1 (M.bind (zai n) _ h1) _:=q1
    unfold M.bind at this
    rw [e] at this
    exact qa0 this
   | some c=>
    cases c with
    | lst ds=>
     have e:zai n h1= .ok ds h1:=by unfold zai;rw [hc]
     have:Fin K E ι1 H1 (M.bind (zai n) _ h1) _:=q1
     unfold M.bind at this
     rw [e] at this
     exact ⟨ds,rfl,this⟩
    | _=>
     have e:zai n h1= .bad:=by unfold zai;rw [hc]
     have:Fin K E ι1 H1 (M.bind (zai n) _ h1) _:=q1
     unfold M.bind at this
     rw [e] at this
     exact qa0 this
  obtain ⟨ds,hc,q2⟩:=key
  rcases hn with hn | hn
  ·obtain ⟨o,e1,e2⟩:=hr1.at_ n a _ hn hc
   obtain ⟨vs,rfl,rl⟩:=e2
   obtain ⟨z,q3⟩:=Fin.fits q2
   exact ⟨a,rfl,.inl ⟨⟨vs,.inl (.inl e1)⟩,λp hp=>zwl hk (L.step s1) hr1 hn z q3 hp⟩⟩
  ·have:=hr1.dead n hn
   rw [hc] at this
   cases this
 | _=>exact qa0 q1
theorem znk {f:FE} {g:D->Sd->M Sd} {tc:Sd->M Bool} {te:Sd->M D} (B:BOk X scope N src) (hk:zaH g src) (hi:SE X E iter f)
  (hg: ∀ s H fp,SG (cxB X scope N s H fp) E tg g) (ht: ∀ s H fp,SCs (cxB X scope N s H fp) E ifs tc) (he: ∀ s H fp,SE (cxB X scope N s H fp) E elt te)
  (hs: ∀ x,foldedSetIterable iter X.env x=pure x:=by intro _;rfl):SE X E (.ListComp elt [⟨tg,iter,ifs,0⟩] scope pos) (zgL f g tc te src):=
 PE.imp (zmx B (zpM hi) hg ht he hs) (zn3 hk)
end
end L3
namespace L3
open L2
section
variable {X:Cx} {E:XE} {pos:Pos}
end
end L3
namespace L2
section
variable {X:Cx}
def atK (kvs:List (Key×V)) (k:Key):Option V:=(kvs.find? λq=>decide (q.1=k)).map (·.2)
theorem zlP {kvs:List (Key×V)} {us:List (Key×Value)} (r:KV kvs us) {k:Key} {v:V} (e:atK kvs k=some v): ∃ w,valueAt us k=some w/\zbO v w:=by
 unfold KV at r
 induction r with
 | nil=>cases e
 | @cons p q ps qs h t ih=>
  by_cases hk:p.1=k
  ·have e2:atK (p::ps) k=some p.2:=by simp [atK,List.find?_cons,hk]
   rw [e2] at e
   cases e
   exact ⟨q.2,by simp [valueAt,List.find?_cons,h.1.symm.trans hk],h.2⟩
  ·have hk': ¬q.1=k:=λz=>hk (h.1.trans z)
   have e2:atK (p::ps) k=atK ps k:=by simp [atK,List.find?_cons,hk]
   rw [e2] at e
   obtain ⟨w,hw,rw'⟩:=ih e
   exact ⟨w,by rw [<- hw];simp [valueAt,List.find?_cons,hk'],rw'⟩
theorem zgW: ∀ {ns:List Int} {its:List Value},za4 (ns.map V.int) its-> ∃ xs:List (Int×Tok),its=xs.map (λp=>Value.int p.1 p.2)/\xs.map (·.1)=ns
 | [],its,r=>by
  cases r
  exact ⟨[],rfl,rfl⟩
 | n::ns,its,r=>by
  cases r with
  | cons r1 r2=>
   obtain ⟨t,rfl⟩:=r1
   obtain ⟨xs,rfl,e⟩:=zgW r2
   exact ⟨(n,t)::xs,rfl,by rw [qaM,e]⟩
def zgz (ns:List Int):Int:=ns.getD (argBest (λi j=>decide (ns.getD i 0>ns.getD j 0)) (ns.length - 1)) 0
theorem zlI (hc:X.calm=true):zaK X (.builtin "max") (λxs H Q=> ∃ (a:Addr) (ns:List Int),xs=[.ref a]/\SqL X.K H a (ns.map V.int)/\0<ns.length/\Q (.int (zgz ns)) H):=by
 intro pins s σ H xs us Q I r h
 obtain ⟨a,ns,rfl,hq,hpos,q⟩:=h
 obtain ⟨u,rfl,rx⟩:=zen r
 cases rx
 obtain ⟨its,r',pl,hz⟩:=I.list hq
 obtain ⟨ps,rfl,en⟩:=zgW r'
 have hl:ps.length=ns.length:=by rw [<- en,qaH]
 have hi:(ps.map λp=>Value.int p.1 p.2).toArray=intItems ps.toArray:=by simp [intItems]
 rw [hi] at pl
 have hn: ∀ i,numAt ps.toArray i=ns.getD i 0:=λi=>by
  rw [<- en]
  simp [numAt,List.getD]
 refine max_intList (I.ok.hd hc) pl.isList (by simpa [hl] using hpos) λv h' tk hv hk=> ?_
 obtain ⟨t,rfl⟩:=intItems_at hv
 refine ⟨.int (zgz ns),H,I.grown (s':={s with heap:=h',toks:=tk}) rfl rfl hk,⟨t,?_⟩,q⟩
 rw [hn]
 have hf:(λi j=>decide (numAt ps.toArray i>numAt ps.toArray j))=λi j=>decide (ns.getD i 0>ns.getD j 0):=by
  funext i j
  rw [hn,hn]
 rw [hf]
 unfold zgz
 rw [qaA,hl]
end
end L2
namespace L3
open L2
section
variable {X:L2.Cx} {E:XE}
def zqQ:List D->M D:=zlp λd=>do
 let ds<-znB d
 let ns<-ofO (match d with | .tup _=>none | _=>zc6 ds)
 if 0<ns.length then pure (.int (zgz ns)) else M.bad
theorem zk4 (hc:X.calm=true):zaK X (.builtin "max") (zhU X.K E zqQ):=by
 refine zaK.imp (zlI hc) λxs H Q ⟨ι,h,ds,rl,hr,q⟩=> ?_
 obtain ⟨d,v,e,r,q⟩:=zbT rl q
 obtain ⟨a,vs,ds',e',hs,rl',q⟩:=zcq hr r q
 obtain ⟨ns,ep,q⟩:=Fin.ofOb q
 rcases hs with ⟨hs,hd⟩ | ⟨hs,hd⟩
 ·have ep':zc6 ds'=some ns:=by
   cases d with
   | tup ts=>exact absurd rfl (hd ts)
   | _=>exact ep
  have ev:=zcz rl' ep'
  subst ev
  by_cases hn:0<ns.length
  ·rw [qa4 hn] at q
   exact ⟨a,ns,by rw [e,e'],hs,hn,Fin.out hr q _ (by simp [Rel])⟩
  ·rw [qa5 hn] at q
   exact qa0 q
 ·subst hd
  cases ep
theorem zop:OpR X (binaryOp .FloorDiv) (rI (λ_ j=>0<j/\j<2^8000) λi j=> .int (i / j)):=opI λi j _ _ _ _ _ hc q=>by
 refine floordiv_int ⋯ (by rw [Int.fdiv_eq_ediv_of_nonneg _ ⋯];exact q) (.inl (PyProof.noPylong_of_log2 ?_))
 have h1:j.natAbs<2^8000:=by omega
 have h0:j.natAbs≠0:=by omega
 exact lt_trans ((log2_lt h0).mpr h1) (by decide)
def zjP:=dII (λ_ j=>decide (0<j) && decide (j<2^8000)) λi j=> .int (i / j)
theorem zkw:OpR X (binaryOp .FloorDiv) (zdZ X.K E zjP):=zlE zop (λi j h=>by simpa using h) λ_ _ _ _=>by simp [Rel]
end
section
variable {X:L2.Cx} {E:XE}
end
end L3
namespace L2
section
variable {X:Cx}
end
end L2
namespace L3
open L2
section
variable {X:L2.Cx} {E:XE}
end
end L3
namespace L3
open PySem.Sem (wp)
section
variable {prog:Program} {w:World} {A:Around} {E:Value->Shared->Prop} {s:Shared}
end
section
variable {prog:Program} {w:World} {A:Around} {E:Value->Shared->Prop} {s:Shared}
end
end L3
namespace L2
section
variable {X:Cx} {pins:List (Addr×Obj)} {σ:St} {H:Hp} {s:Shared} {h':Heap}
end
section
variable {X:Cx} {elts:List Expr} {k:Nat} {tpos:Pos}
end
end L2
namespace L3
open L2
section
variable {X:Cx} {E:XE} {elts:List Expr} {k:Nat} {tpos pos:Pos}
end
end L3
namespace L2
section
variable {X:Cx}
end
end L2
namespace L3
open L2
section
variable {X:L2.Cx} {E:XE}
end
end L3
namespace L3
open PySem.Sem (wp)
section
variable {prog:Program} {w:World} {A:Around} {E:Value->Shared->Prop} {s:Shared}
theorem zh8 {l:Addr} {xs:Array Value} {k:Nat} {Q:Option Value->Shared->Prop} (hA:A.handled=none) (hx:s.heap.get? l=some {cls:= .type "list",data:= .seq xs k})
  (h: ∀ h' tk,(∀ b o,s.heap.get? b=some o->h'.get? b=some o)->Q none {s with heap:=h',toks:=tk}):wpAny (model prog w) A (getAttr? (.ref l) "keys") Q E s:=by
 obtain ⟨hp,g,d,tk,os⟩:=s
 have hT: ∀ tk',(⟨hp,g,d,tk',os⟩:Shared).TypeIs (.ref l) "list":=λ_=>⟨_,hx,rfl⟩
 have f1:=sub_AttributeError
 have f3:=F.slot_list_getattribute.lookup
 have f4:=F.slot_list_getattribute.bind (.ref l)
 have f5:=am_list_getattr_none
 have hmiss:typeLookup (.type "list") "keys"=pure none:=by rw [typeLookup_type,builtinLookup_eq_fast];kernel_rfl
 unfold getAttr? getAttrBy? getAttrBy
 repeat (any_goals (first | assumption | exact hT _ | ((with_reducible show wpAny _ _ (call (Value.builtin "list.__getattribute__") _ _) _ _ _);refine call_meets F.slot_list_getattribute (hT _) am_entry_list_getattribute (F.args_list_getattribute_2 _ _) (meets_getattribute_miss_list l xs k #[] "keys" _ hmiss ⋯ (by size_fits)) ⟨hx,hA,λh' tk' e hx'=> ?_⟩) | wp_step))
 obtain ⟨t',u',he⟩:=hx'.there
 show wpAny _ _ (getattributeRaised _ _ _ _ _ _ _) _ _ _
 unfold getattributeRaised
 repeat (any_goals (first | assumption | wp_step))
 exact h _ _ hx'.keeps
theorem zil:entryFor table "dict.update.loop"=some Builtin.«dict.update.loop» := entryFor_of_tree (by kernel_rfl)
theorem zey:plainId "dict.update.loop"=true:=by decide +kernel
def zsp (prog:Program) (w:World) (A:Around) (d:Addr) (h0:Heap) (St:Nat->Heap->Prop) (i:Nat) (x:Value):Prop:=
 ∃ p k v n dd sl,x= .ref p/\h0.get? p=some {cls:= .type "tuple",dict:=dd,data:= .seq #[k,v] n,slots:=sl}/\
  ∀ (s:Shared) (Q:Unit->Shared->Prop) (E:Value->Shared->Prop),St i s.heap->(∀ b o,h0.get? b=some o->s.heap.get? b=some o)->(∀ h' tk,St (i+1) h'->Heap.SameBut d s.heap h'->Q () {s with heap:=h',toks:=tk})->wpAny (model prog w) A (dictSet d k v) Q E s
theorem zn7 {d it l:Addr} {items:Array Value} {h0:Heap} {St:Nat->Heap->Prop} {R:Result->Shared->Prop} (hh:A.handled=none) (hl:h0.IsList l items) (h0d: ∀ b o,h0.get? b=some o->b≠d/\b≠it) (hdi:d≠it)
  (fr: ∀ i h h',St i h->(∀ b o,b≠it->h.get? b=some o->h'.get? b=some o)->St i h') (pr: ∀ i x,items[i]? = some x->zsp prog w A.in1 d h0 St i x):
  ∀ (k i:Nat) (s:Shared),items.size - i=k->i<=items.size->St i s.heap->s.heap.IsListIter it l i->(∀ b o,h0.get? b=some o->s.heap.get? b=some o)->
  (∀ h' tk,St items.size h'->(∀ b o,b≠d->b≠it->s.heap.get? b=some o->h'.get? b=some o)->R (.ok (.ret .none)) {s with heap:=h',toks:=tk})->
  codeAny (model prog w) A (.builtin "dict.update.loop" ⟨[.ref d,.ref it,rawInt i,.none],[]⟩) R s:=by
 intro k
 induction k with
 | zero=>
  intro i s hk hi hst hit hx hR
  have hin:i=items.size:=by omega
  have hls:s.heap.IsList l items:=by obtain ⟨o,e,r⟩:=hl;exact ⟨o,hx _ _ e,r⟩
  refine codeAny_builtin zil ?_
  rw [qap zey _]
  show wpAny _ A.in1 (pyNext (.ref it)>>=_) _ _ s
  refine qaW (wpAny_pyNext_list_end (A:=A.in1) hh hit hls (by rw [hin];simp) λh' hx'=> ?_)
  show wpAny _ _ (Builtin.Dict.addKeywords d []>>=_) _ _ _
  refine qaW (qaX (qaX ?_))
  exact hR h' _ (fr _ _ _ (hin▸hst) λb o hb e=>hx' b o hb e) λb o _ hb e=>hx' b o hb e
 | succ k ih=>
  intro i s hk hi hst hit hx hR
  have hlt:i<items.size:=by omega
  have hls:s.heap.IsList l items:=by obtain ⟨o,e,r⟩:=hl;exact ⟨o,hx _ _ e,r⟩
  obtain ⟨p,key,v,n,dd,sl,ex,ep,put⟩:=pr i items[i] (by simp [hlt])
  refine codeAny_builtin zil ?_
  rw [qap zey _]
  show wpAny _ A.in1 (pyNext (.ref it)>>=_) _ _ s
  refine qaW (wpAny_pyNext_list_item hit hls (x:= .ref p) (by rw [<- ex];simp [hlt]) λh1 hit1 hs1=> ?_)
  have hx1: ∀ b o,h0.get? b=some o->h1.get? b=some o:=λb o e=>hs1.extBut _ _ (h0d b o e).2 (hx b o e)
  have hp1:=hx1 _ _ ep
  refine qaW (qaO (qaW (wpAny_tryCatch ?_)))
  unfold Builtin.Dict.pairItems
  refine qaW (wpAny_typeOf (T:="tuple") ⟨_,hp1,rfl⟩ ?_)
  simp only [beq_self_eq_true,Bool.or_true,if_true]
  refine qaW (wpAny_seqItems hp1 rfl (qaX ?_))
  show wpAny _ _ (holding [key,v] (dictSet d key v)) _ _ _
  refine qaO (put _ _ _ (fr _ _ _ hst λb o hb e=>hs1.extBut _ _ hb e) hx1 λh2 tk hst2 hs2=> ?_)
  refine qaX ⟨plainId_quiet zey _,?_⟩
  show codeAny _ A (.builtin "dict.update.loop" ⟨[.ref d,.ref it,rawInt ((i:Int)+1),.none],[]⟩) _ _
  rw [show ((i:Int)+1)=((i+1:Nat):Int) by omega]
  refine ih (i+1) _ ⋯ hlt hst2 (hit1.extBut hs2.extBut (Ne.symm hdi)) (λb o e=>hs2.extBut _ _ (h0d b o e).1 (hx1 b o e)) λh3 tk3 hst3 hk3=> ?_
  exact hR h3 tk3 hst3 λb o hbd hbi e=>hk3 b o hbd hbi (hs2.extBut _ _ hbd (hs1.extBut _ _ hbi e))
theorem zme {l:Addr} {items:Array Value} {k:Nat} {St:Nat->Heap->Prop} {Q:Value->Shared->Prop} (hA:A.handled=none) (hx:s.heap.get? l=some {cls:= .type "list",data:= .seq items k})
  (st0:St 0 (s.heap.push {cls:= .type "dict",data:= .dict #[]}))
  (fr: ∀ i h h',St i h->(∀ b o,(b=s.heap.objs.size\/ ∃ o',s.heap.get? b=some o')->h.get? b=some o->h'.get? b=some o)->St i h')
  (pr: ∀ i x,items[i]? = some x->zsp prog w A.in1.in1 s.heap.objs.size s.heap St i x)
  (h: ∀ h' tk,St items.size h'->(∀ b o,s.heap.get? b=some o->h'.get? b=some o)->Q (.ref s.heap.objs.size) {s with heap:=h',toks:=tk}):
  wpAny (model prog w) A (call (.type "dict") [.ref l]) Q E s:=by
 refine callType_codes (Q₁:=λobj s₁=>obj= .ref s.heap.objs.size/\s₁={s with heap:=s.heap.push {cls:= .type "dict",data:= .dict #[]}}) F.kt_called_dict (F.kt_typeCall_dict_1 _) F.entry_dict_init (kt_code_dict_new _ ⟨rfl,rfl⟩) ?_
 rintro obj s₁ ⟨rfl,rfl⟩
 have hd:(s.heap.push {cls:= .type "dict",data:= .dict #[]}).get? s.heap.objs.size=some {cls:= .type "dict",data:= .dict #[]}:=qar _ rfl
 have hx1:(s.heap.push {cls:= .type "dict",data:= .dict #[]}).get? l=some {cls:= .type "list",data:= .seq items k}:=qag _ hx
 refine ⟨⟨_,hd,rfl⟩,F.args_dict_init_2 _ _,?_⟩
 unfold Builtin.«dict.__init__»
 refine qaW ?_
 unfold Builtin.Dict.selfAndRest
 refine qaW (wpAny_notOrdered_dict ⟨_,hd,rfl⟩ ?_)
 show wpAny _ _ (pure (s.heap.objs.size,[Value.ref l])) _ _ _
 refine qaX ?_
 show wpAny _ _ (Builtin.Dict.updateFrom "dict.__init__" s.heap.objs.size (.ref l) [] .none) _ _ _
 unfold Builtin.Dict.updateFrom
 refine qaW (wpAny_typeOf (T:="list") ⟨_,hx1,rfl⟩ ?_)
 rw [qa4 (by decide)]
 refine qaW (zh8 (A:=A.in1.in1) hA hx1 λh1 tk hk1=> ?_)
 simp only [Option.isNone_none,if_true]
 refine qaW (wpAny_rule ?_)
 have hl1:h1.IsList l items:=⟨_,hk1 _ _ hx1,rfl,k,rfl⟩
 refine qaW (wpAny_pyIter_list (s:={s with heap:=h1,toks:=tk}) hl1 ?_)
 refine qaX ⟨plainId_quiet zey _,?_⟩
 have hlt:s.heap.objs.size<h1.objs.size:=qaQ (hk1 _ _ hd)
 have old: ∀ b o,s.heap.get? b=some o->h1.get? b=some o:=λb o e=>hk1 _ _ (qag _ e)
 have hne: ∀ b o,s.heap.get? b=some o->b≠s.heap.objs.size/\b≠h1.objs.size:=λb o e=>⟨qaR (qaQ e),qaR (qaQ (old b o e))⟩
 refine zn7 (A:=A.in1) (d:=s.heap.objs.size) (it:=h1.objs.size) (l:=l) (items:=items) (h0:=s.heap) (St:=St) hA ⟨_,hx,rfl,k,rfl⟩ hne (qaR hlt) (λi h h' hst hk=>fr i h h' hst λb o hb e=> ?_) pr _ 0 _ rfl (zero_le _)
  (fr 0 _ _ st0 λb o _ e=>qag _ (hk1 _ _ e)) ⟨_,qar _ rfl,rfl,rfl⟩ (λb o e=>qag _ (old b o e)) λh2 tk2 hst2 hk2=> ?_
 ·refine hk b o ?_ e
  rcases hb with rfl | ⟨o',e'⟩
  ·exact qaR hlt
  ·exact (hne b o' e').2
 ·exact ⟨rfl,h h2 tk2 hst2 λb o e=>hk2 b o (hne b o e).1 (hne b o e).2 (qag _ (old b o e))⟩
end
end L3
namespace L2
section
variable {X:Cx}
theorem Inv.sysI {pins:List (Addr×Obj)} {σ:St} {H:Hp} {s:Shared} (I:Inv X pins σ H s):sysModules<s.heap.objs.size:=by
 have h:mainGlobals<s.heap.objs.size:=(I.mod.glob.keeps I.bk).lt
 exact lt_trans (by decide) h
def zfh (zs:List (Int×V)):List (Key×V):=zs.foldl (λkvs z=>zmS kvs (.inl z.1) z.2) []
theorem zjy (zs:List (Int×V)) (z:Int×V):zfh (zs++[z])=zmS (zfh zs) (.inl z.1) z.2:=by
 unfold zfh
 rw [List.foldl_append]
 rfl
theorem zgM (zs:List (Int×V)):(zfh zs).length<=zs.length:=by
 have key: ∀ (zs:List (Int×V)) (kvs:List (Key×V)),(zs.foldl (λkvs z=>zmS kvs (.inl z.1) z.2) kvs).length<=kvs.length+zs.length:=by
  intro zs
  induction zs with
  | nil=>intro kvs;exact qaV _
  | cons z zs ih=>
   intro kvs
   have h1:=ih (zmS kvs (.inl z.1) z.2)
   have h2:=zjv kvs (.inl z.1) z.2
   rw [foldl_cons,qaE]
   omega
 have:=key zs []
 rw [qaJ,Nat.zero_add] at this
 exact this
theorem zm9 (hc:X.calm=true):zaK X (.type "dict") (λxs H Q=> ∃ (a:Addr) (zs:List (Addr×Int×V)),xs=[V.ref a]/\H a=some (.lst (zs.map λz=>V.ref z.1))/\
    (∀ z∈zs,H z.1=some (.tup [.int z.2.1,z.2.2]))/\ ∀ p,H p=none->Q (.ref p) (upd H p (.dK (zfh (zs.map (·.2)))))):=by
 intro pins s σ H xs us Q I r h
 obtain ⟨a,zs,rfl,hH,hz,q⟩:=h
 obtain ⟨u,rfl,ru⟩:=zen r
 cases ru
 obtain ⟨zl,its,n,rv,hl,e⟩:=I.lstM hH
 have hlen:zs.length=its.length:=by rw [<- hl,qaH]
 have zl:zs.length<=sizeLine:=by rw [qaH] at zl;exact zl
 refine L3.zme (A:=X.A) (s:=s) (l:=a) (items:=its.toArray) (k:=n) (St:=λi h=> ∃ vs,KV (zfh ((zs.take i).map (·.2))) vs/\h.DictOf (zek X.prog X.w) s.heap.objs.size vs) (I.ok.hd hc) e ?_ ?_ ?_ ?_
 ·exact ⟨[],.nil,Heap.DictOf.new _⟩
 ·rintro i h h' ⟨vs,kv,o,es,ep,h1,r⟩ hk
  exact ⟨vs,kv,o,es,ep,hk _ o (.inl rfl) h1,r⟩
 ·intro i x hx
  have hi:i<zs.length:=by
   have:i<its.toArray.size:=(qab.mp hx).1
   rw [qaA] at this
   omega
  have hmem:zs[i]∈zs:=getElem_mem hi
  obtain ⟨u,hu1,ru1⟩:=rv.get (i:=i) (x:= .ref zs[i].1) (by simp [hi])
  have hxu:x=u:=by
   have:its[i]? = some x:=by simpa using hx
   rw [hu1] at this
   exact (Option.some.inj this).symm
  have hxr:x= .ref zs[i].1:=by rw [hxu];exact ru1
  obtain ⟨_,its2,r2,⟨cc,dd,dt,sl⟩,o1,o2,m,o3,o4⟩:=(show zcf X.prog X.w H s.heap zs[i].1 (.tup [.int zs[i].2.1,zs[i].2.2]) from I.hok _ _ (hz _ hmem))
  dsimp only at o2 o3
  subst o2 o3
  obtain ⟨u1,u2,rfl,k1,k2⟩:=r2.two
  refine ⟨zs[i].1,u1,u2,m,dd,sl,hxr,o1,λs' Q' E' hst hold k=> ?_⟩
  obtain ⟨vs,kv,dd'⟩:=hst
  have hz':vs.length<=sizeLine:=by
   rw [<- kv.length]
   have:=zgM ((zs.take i).map (·.2))
   rw [qaH,length_take] at this
   omega
  refine wpAny_dictSet_pairs (hsz:=hz') (ztk (k:= .inl zs[i].2.1) k1) dd' λh' d2 sb=>k h' _ ⟨_,?_,d2⟩ sb
  rw [List.take_succ,qaf hi,Option.toList_some,map_append,List.map_singleton,zjy]
  exact kv.put (.inl zs[i].2.1) k2
 ·rintro h' tk ⟨vs,kv,dd⟩ hk
  rw [show its.toArray.size=zs.length by simp;omega,List.take_length] at kv
  have fresh:=I.hok.fresh (qaV s.heap.objs.size)
  refine ⟨.ref s.heap.objs.size,_,I.laid (t':=tk) (h':=h') (a:=s.heap.objs.size) (o:= .dK (zfh (zs.map (·.2)))) hk (qaV _) ?_,rfl,q _ fresh⟩
  refine ⟨?_,by simpa using ne_of_gt I.sysI,vs,kv,dd⟩
  have:=zgM (zs.map (·.2))
  rw [qaH] at this
  omega
def vAt (kvs:List (Key×V)) (k:Key):Option V:=(kvs.find? λkv=>decide (kv.1=k)).map (·.2)
theorem zqH {kvs:List (Key×V)} {vs:List (Key×Value)} (r:KV kvs vs) (k:Key) {y:V} {u:Value} (ry:zbO y u):zbO ((vAt kvs k).getD y) ((valueAt vs k).getD u):=by
 unfold vAt valueAt
 unfold KV at r
 induction r with
 | nil=>exact ry
 | @cons p q ps qs h t ih=>
  rw [List.find?_cons,List.find?_cons, <-h.1]
  by_cases e:p.1=k
  ·rw [decide_eq_true e];exact h.2
  ·rw [decide_eq_false e];exact ih
theorem zrS:MtR X "dict.get" (λx vs H Q=> ∃ a kvs k y,x= .ref a/\vs=[kV k,y]/\H a=some (.dK kvs)/\Q ((vAt kvs k).getD y) H):=by
 intro pins s σ H x vs v us Q I rx rv h
 obtain ⟨a,kvs,k,y,rfl,rfl,hH,q⟩:=h
 cases rx
 obtain ⟨u1,u2,rfl,k1,k2⟩:=rv.two
 obtain ⟨z,hd,vs,rel,dd⟩:=(show zcf X.prog X.w H s.heap a (.dK kvs) from I.hok a _ hH)
 refine call_meetsIn F.slot_dict_get dd.typeIs F.entry_dict_get (F.args_dict_get_3 _ _ _) (meets_dict_get_default _ a (ztk k1) hd _) ⟨_,dd.mapOf,?_⟩
 exact ⟨_,H,I.tok _,zqH rel k k2,q⟩
end
end L2
namespace L3
open L2
section
variable {X:L2.Cx} {E:XE}
noncomputable def zko (kvs:List (Int×D)):M D:=λh=> .ok (.cel h.length) (h++[.dic kvs])
def pr1:D->Option (Int×D)
 | .tup [.int k,d]=>some (k,d)
 | _=>none
def prs:List D->Option (List (Int×D))
 | []=>some []
 | d::r=>(pr1 d).bind λp=>(prs r).map (p:: ·)
def zem (ps:List (Int×D)):List (Int×D):=ps.foldl (λkvs p=>zq9 kvs p.1 p.2) []
def zrx:List D->M D:=zlp λd=>match d with
 | .lst ds=>do
  let ps<-ofO (prs ds)
  zko (zem ps)
 | _=>M.bad
theorem zre {d:D} {p:Int×D} (e:pr1 d=some p):d= .tup [.int p.1,p.2]:=by
 unfold pr1 at e
 split at e
 ·cases e;rfl
 ·cases e
theorem zpf {K:W.Frag} {ι:Io} {H:Hp}: ∀ {ds:List D} {vs:List V} {ps:List (Int×D)},zau K ι H ds vs->prs ds=some ps->
  ∃ zs:List (Addr×Int×V),vs=zs.map (λz=>V.ref z.1)/\(∀ z∈zs,H z.1=some (.tup [.int z.2.1,z.2.2]))/\Paired (λ(p:Int×D) (z:Addr×Int×V)=>z.2.1=p.1/\Rel K ι H p.2 z.2.2) ps zs
 | [],vs,ps,h,e=>by
  simp only [zau] at h
  subst h
  cases e
  exact ⟨[],rfl,(λz hz=>nomatch hz),.nil⟩
 | d::r,vs,ps,h,e=>by
  simp only [zau] at h
  obtain ⟨v,r',rfl,h1,h2⟩:=h
  unfold prs at e
  cases z:pr1 d with
  | none=>rw [z] at e;cases e
  | some p=>
   rw [z] at e
   cases z2:prs r with
   | none=>rw [z2] at e;cases e
   | some ps'=>
    rw [z2] at e
    cases e
    obtain ⟨zs,g1,g2,g3⟩:=zpf h2 z2
    have ed:=zre z
    subst ed
    simp only [Rel] at h1
    obtain ⟨a,us,rfl,ha,ru⟩:=h1
    simp only [zau,Rel] at ru
    obtain ⟨u1,t1,rfl,ru1,u2,t2,rfl,ru2,rfl⟩:=ru
    subst ru1
    refine ⟨(a,p.1,u2)::zs,by rw [qaM,g1],λy hy=> ?_,.cons ⟨rfl,ru2⟩ g3⟩
    rcases qaP.mp hy with rfl | hy
    ·exact ha.1
    ·exact g2 y hy
theorem zo3 {K:W.Frag} {ι:Io} {H:Hp} {ps:List (Int×D)} {zs:List (Addr×Int×V)} (r:Paired (λ(p:Int×D) (z:Addr×Int×V)=>z.2.1=p.1/\Rel K ι H p.2 z.2.2) ps zs):
  Paired (λ(p:Int×D) (q:Key×V)=>q.1= .inl p.1/\Rel K ι H p.2 q.2) (zem ps) (zfh (zs.map (·.2))):=by
 have key: ∀ {ps:List (Int×D)} {zs:List (Addr×Int×V)},Paired (λ(p:Int×D) (z:Addr×Int×V)=>z.2.1=p.1/\Rel K ι H p.2 z.2.2) ps zs-> ∀ {kvs:List (Int×D)} {vs:List (Key×V)},Paired (λ(p:Int×D) (q:Key×V)=>q.1= .inl p.1/\Rel K ι H p.2 q.2) kvs vs->
   Paired (λ(p:Int×D) (q:Key×V)=>q.1= .inl p.1/\Rel K ι H p.2 q.2) (ps.foldl (λkvs p=>zq9 kvs p.1 p.2) kvs) ((zs.map (·.2)).foldl (λkvs z=>zmS kvs (.inl z.1) z.2) vs):=by
  intro ps zs r
  induction r with
  | nil=>intro kvs vs h;exact h
  | @cons p z ps zs hh t ih=>
   intro kvs vs h
   rw [foldl_cons,qaM,foldl_cons,hh.1]
   exact ih (zpT h hh.2)
 exact key r .nil
theorem zk9 (hc:X.calm=true):zaK X (.type "dict") (zhU X.K E zrx):=by
 refine zaK.imp (zm9 hc) λxs H Q ⟨ι,h,ds,rl,hr,q⟩=> ?_
 obtain ⟨d,v,e,r,q⟩:=zbT rl q
 cases d with
 | lst ds=>
  obtain ⟨ps,ek,q⟩:=Fin.ofOb q
  simp only [Rel] at r
  obtain ⟨a,vs,rfl,ha,r2⟩:=r
  obtain ⟨zs,g1,g2,g3⟩:=zpf r2 ek
  refine ⟨a,zs,by rw [e],by rw [<- g1];exact ha.1,g2,λp hp=> ?_⟩
  exact zqF (E:=E) hr (c0:= .dic (zem ps)) ⟨_,rfl,zo3 g3⟩ q hp
 | _=>exact qa0 q
def atK (kvs:List (Int×D)) (k:Int):Option D:=(kvs.find? λp=>decide (p.1=k)).map (·.2)
theorem zlP {K:W.Frag} {ι:Io} {H:Hp} {kvs:List (Int×D)} {vs:List (Key×V)} (r:Paired (λ(p:Int×D) (q:Key×V)=>q.1= .inl p.1/\Rel K ι H p.2 q.2) kvs vs) (k:Int) {d:D} {v:V} (rd:Rel K ι H d v):
  Rel K ι H ((atK kvs k).getD d) ((vAt vs (.inl k)).getD v):=by
 unfold atK vAt
 induction r with
 | nil=>exact rd
 | @cons p q ps qs h t ih=>
  rw [List.find?_cons,List.find?_cons,h.1]
  by_cases e:p.1=k
  ·rw [decide_eq_true e,decide_eq_true (by rw [e])];exact h.2
  ·rw [decide_eq_false e,decide_eq_false (λz=>e (by injection z))];exact ih
def zjJ (x:D) (ys:List D):M D:=match x,ys with
 | .cel n,[.int k,d]=>do
  let kvs<-zde n
  pure ((atK kvs k).getD d)
 | _,_=>M.bad
def zhk:D->M Unit
 | .cel n=>do let _<-zde n;pure ()
 | _=>M.bad
def zqe (fo:FE) (fs:FA):FE:=λsd=>do
 let x<-fo sd
 zhk x
 let ys<-fs sd
 zjJ x ys
theorem zkg {K:W.Frag} {ι:Io} {H:Hp} {h:Hh} (hr:zbg K ι H h) {n:Nat} {v:V} {α:Type} {f:List (Int×D)->M α} {P:α->Io->Hp->Prop} (r:Rel K ι H (.cel n) v) (q:Fin K E ι H ((zde n>>=f) h) P):
  ∃ a kvs vs,v= .ref a/\H a=some (.dK vs)/\Paired (λ(p:Int×D) (q:Key×V)=>q.1= .inl p.1/\Rel K ι H p.2 q.2) kvs vs/\Fin K E ι H (f kvs h) P:=by
 simp only [Rel] at r
 obtain ⟨a,rfl,hn⟩:=r
 have q4:Fin K E ι H (M.bind (zde n) f h) P:=q
 unfold M.bind zde at q4
 rcases hn with hn | hn
 ·have hl:=hr.len
  have hlt:=(qac.mp hn).1
  obtain ⟨c,hc⟩: ∃ c,h[n]? = some c:=⟨h[n],by simp [hl,hlt]⟩
  rw [hc] at q4
  obtain ⟨ob,e3,co⟩:=hr.at_ n a c hn hc
  cases c with
  | dic kvs=>
   obtain ⟨vs,rfl,rp⟩:=co
   exact ⟨a,kvs,vs,rfl,e3,rp,q4⟩
  | _=>exact qa0 q4
 ·rw [hr.dead n hn] at q4
  exact qa0 q4
variable {o e1 e2:Expr} {cpos apos:Pos} {fo:FE} {fs:FA}
theorem zsn (ho:SE X E o fo) (ha:SA X E [e1,e2] fs)
  (hbase:attributeBase o "get" X.env (eval o X.env)=eval o X.env:=by rfl)
  (hfew:((backTo cpos (starEach [e1,e2] X.env)).all (λx=> !x.1) && (backToKw cpos (keywordEach [] X.env)).all (λx=>x.1.isSome)
    && decide (([e1,e2]:List Expr).length+([]:List Keyword).length+(if ([]:List Keyword).isEmpty then 0 else 1)<30))=true:=by rfl)
  (hline:(apos.endLine==cpos.line)=true:=by rfl) (hs:starEach [e1,e2] X.env=(false,eval e1 X.env)::starEach [e2] X.env:=by rfl) (hplain:(backTo cpos (starEach [e2] X.env)).any (·.1)=false:=by rfl):
  SE X E (.Call (.Attribute o "get" apos) [e1,e2] [] cpos) (zqe fo fs):=by
 refine PE.imp (zo2 PySem.F.plainAttrs_dict PySem.F.slot_dict_get PySem.F.type_dict_get zrS ho ha hbase hfew hline hs hplain) λσ H Q ⟨ι,h,sd,L,hh,q⟩=>⟨ι,h,sd,L,hh,Fin.bind q λd h1 ι1 H1 e1 s1 hr1 q1 v rv=> ?_⟩
 cases d with
 | cel n=>
  have q2:Fin X.K E ι1 H1 ((zde n>>=λ_=>fs sd>>=λys=>zjJ (.cel n) ys) h1) (λd ι' H'=> ∀ v,Rel X.K ι' H' d v->Q v H'):=by
   have ee:(zhk (.cel n)>>=λ_=>fs sd>>=λys=>zjJ (.cel n) ys:M D)=(zde n>>=λ_=>fs sd>>=λys=>zjJ (.cel n) ys):=by
    show ((zde n>>=λ_=>pure ())>>=λ_=>fs sd>>=λys=>zjJ (.cel n) ys)=_
    simp only [bind_assoc,pure_bind]
   rw [<- ee]
   exact q1
  obtain ⟨a,kvs,vs,ev,hH,_,q3⟩:=zkg hr1 rv q2
  subst ev
  refine ⟨.inr (.inr (.inl ⟨rfl,.inl ⟨vs,hH⟩⟩)),ι1,h1,sd,L.step s1,hr1,Fin.bind q3 λys h3 ι3 H3 e3 s3 hr3 q4 ws rw'=> ?_⟩
  have rv3:=rv.step s3
  match ys,rw',q4 with
  | [.int k,d],rw',q4=>
   have q4':Fin X.K E ι3 H3 ((zde n>>=λkvs=>(pure ((atK kvs k).getD d):M D)) h3) (λd ι' H'=> ∀ v,Rel X.K ι' H' d v->Q v H'):=q4
   obtain ⟨a3,kvs3,vs3,ea,hH3,rp3,q5⟩:=zkg hr3 rv3 q4'
   cases ea
   simp only [zau,Rel] at rw'
   obtain ⟨w1,t1,rfl,rfl,w2,t2,rfl,rw2,rfl⟩:=rw'
   exact ⟨a,vs3,.inl k,w2,rfl,rfl,hH3,Fin.out hr3 q5 _ (zlP rp3 k rw2)⟩
  | [],_,q4=>exact qa0 q4
  | [y],_,q4=>cases y<;>exact qa0 q4
  | y::_::_::_,_,q4=>cases y<;>exact qa0 q4
  | [.non,_],_,q4=>exact qa0 q4
  | [.bl _,_],_,q4=>exact qa0 q4
  | [.str _,_],_,q4=>exact qa0 q4
  | [.tup _,_],_,q4=>exact qa0 q4
  | [.lst _,_],_,q4=>exact qa0 q4
  | [.cel _,_],_,q4=>exact qa0 q4
  | [.set _,_],_,q4=>exact qa0 q4
  | [.dct,_],_,q4=>exact qa0 q4
  | [.fn _,_],_,q4=>exact qa0 q4
  | [.scr _,_],_,q4=>exact qa0 q4
  | [.exn _,_],_,q4=>exact qa0 q4
 | _=>exact qa0 q1
end
def zbZ (n:Nat):M (String×List (Str×D)):=λh=>match h[n]? with
 | some (.ins c fs)=> .ok (c,fs) h
 | _=> .bad
def zkm (n:Nat) (c:String) (fs:List (Str×D)):M Unit:=λh=> .ok () (h.set n (.ins c fs))
def zmU (c:String):M D:=λh=> .ok (.cel h.length) (h++[.ins c []])
def zfo (f:Str) (d:D):List (Str×D)->List (Str×D)
 | []=>[(f,d)]
 | (g,x)::r=>if g=f then (g,d)::r else (g,x)::zfo f d r
structure zrP (K:W.Frag) (c:String) (C:Addr) (names:List Str):Prop where
 at_:W.nsIn K mainGlobals (c:Str)=some (some (.ref C))
 cls:Cls K C
 no: ∀ f∈names,zfE K C f
structure Fm (K:W.Frag) (C:Addr) (m q:Str) (st:Stmt) (a:Addr) (d:FuncData):Prop where
 at_:W.findIn K (.ref C) m=some (some (.ref a))
 fn:W.isFn K (.ref a)=true
 F:Fun K m q st a d
abbrev FR (K:W.Frag) (ι:Io) (H:Hp):=Paired (λ(p:Str×D) (q:Str×V)=>q.1=p.1/\Rel K ι H p.2 q.2)
section
variable {K:W.Frag} {ι:Io} {H:Hp}
theorem FR.look {fs:List (Str×D)} {vs:List (Str×V)} (r:FR K ι H fs vs) (f:Str):(∃ d v,fs.lookup f=some d/\vs.lookup f=some v/\Rel K ι H d v)\/(fs.lookup f=none/\vs.lookup f=none):=by
 induction r with
 | nil=>exact .inr ⟨rfl,rfl⟩
 | @cons p q ps qs h t ih=>
  obtain ⟨a,d⟩:=p
  obtain ⟨b,v⟩:=q
  obtain ⟨h1,h2⟩:=h
  dsimp only at h1 h2
  subst h1
  rw [lookup_cons,lookup_cons]
  cases e:(f==b) with
  | true=>exact .inl ⟨d,v,rfl,rfl,h2⟩
  | false=>exact ih
theorem FR.put {fs:List (Str×D)} {vs:List (Str×V)} (r:FR K ι H fs vs) (f:Str) {d:D} {v:V} (rd:Rel K ι H d v):FR K ι H (zfo f d fs) (zhS f v vs):=by
 induction r with
 | nil=>exact .cons ⟨rfl,rd⟩ .nil
 | @cons p q ps qs h t ih=>
  obtain ⟨a,d'⟩:=p
  obtain ⟨b,v'⟩:=q
  obtain ⟨h1,h2⟩:=h
  dsimp only at h1 h2
  subst h1
  unfold zfo zhS
  by_cases e:b=f
  ·rw [qa4 e,qa4 e];exact .cons ⟨rfl,rd⟩ t
  ·rw [qa5 e,qa5 e];exact .cons ⟨rfl,h2⟩ ih
theorem zhz {E:XE} {h:Hh} (hr:zbg K ι H h) {n:Nat} {v:V} {α:Type} {f:String×List (Str×D)->M α} {P:α->Io->Hp->Prop} (r:Rel K ι H (.cel n) v) (q:Fin K E ι H ((zbZ n>>=f) h) P):
  ∃ (a:Addr) (c:String) (fs:List (Str×D)) (C dx:Addr) (vs:List (Str×V)),v= .ref a/\ι.c[n]? = some (some a)/\H a=some (.ins C dx vs)/\W.nsIn K mainGlobals (c:Str)=some (some (.ref C))/\FR K ι H fs vs/\Fin K E ι H (f (c,fs) h) P:=by
 simp only [Rel] at r
 obtain ⟨a,rfl,hn⟩:=r
 have q4:Fin K E ι H (M.bind (zbZ n) f h) P:=q
 unfold M.bind zbZ at q4
 rcases hn with hn | hn
 ·have hl:=hr.len
  have hlt:=(qac.mp hn).1
  obtain ⟨c,hc⟩: ∃ c,h[n]? = some c:=⟨h[n],by simp [hl,hlt]⟩
  rw [hc] at q4
  obtain ⟨ob,e3,co⟩:=hr.at_ n a c hn hc
  cases c with
  | ins c fs=>
   obtain ⟨C,dx,vs,rfl,hC,rp⟩:=co
   exact ⟨a,c,fs,C,dx,vs,rfl,hn,e3,hC,rp,q4⟩
  | _=>exact qa0 q4
 ·rw [hr.dead n hn] at q4
  exact qa0 q4
end
def ziJ (c:String) (f:Str):D->M D
 | .cel n=>do
  let p<-zbZ n
  if p.1=c then ofO (p.2.lookup f) else M.bad
 | _=>M.bad
def zoX (c:String) (f:Str) (d:D):D->M Unit
 | .cel n=>do
  let p<-zbZ n
  if p.1=c/\p.2.length<1000 then zkm n c (zfo f d p.2) else M.bad
 | _=>M.bad
def zlL (c:String) (f:Str) (fo fv:FE):FS:=λsd=>do
 let d<-fv sd
 let x<-fo sd
 zoX c f d x
 pure (.nx sd)
def zt5 (c:String) (m:Str):D->M Unit
 | .cel n=>do
  let p<-zbZ n
  if p.1=c/\p.2.lookup m=none then pure () else M.bad
 | _=>M.bad
def zbo (c:String) (m:Str) (F:List D->M D) (fo:FE) (fs:FA):FE:=λsd=>do
 let x<-fo sd
 zt5 c m x
 let ys<-fs sd
 F (x::ys)
def zuj (x:D):D->M D
 | .non=>pure x
 | _=>M.bad
def zoy (c:String) (F:List D->M D):List D->M D:=λds=>do
 let x<-zmU c
 let v<-F (x::ds)
 zuj x v
section
variable {X:Cx} {E:XE} {o e v:Expr} {es:List Expr} {pos p cpos apos:Pos} {fo fe fv:FE} {fs:FA} {x m f:Str} {c:String} {C:Addr} {names:List Str}
theorem zet (T:zrP X.K c C names) (hf:names.contains f=true) (he:SE X E e fe) (hb:attributeBase e f X.env (eval e X.env)=eval e X.env:=by rfl):SE X E (.Attribute e f pos) (cUn (ziJ c f) fe):=by
 refine PE.imp (zsT he hb) λσ H Q ⟨ι,h,sd,L,hh,q⟩=>⟨ι,h,sd,L,hh,Fin.bind q λd h1 ι1 H1 e1 s1 hr1 q1 w rw'=> ?_⟩
 cases d with
 | cel n=>
  obtain ⟨a,c',gs,C',dx,vs,rfl,hn,hH,hC,rp,q2⟩:=zhz hr1 rw' q1
  obtain ⟨ec,q3⟩:=Fin.guard q2
  subst ec
  have eC:C'=C:=by
   have:=hC.symm.trans T.at_
   simpa using this
  subst eC
  dsimp only at q3
  rcases rp.look f with ⟨d,u,l1,l2,rd⟩ | ⟨l1,_⟩
  ·rw [l1] at q3
   exact ⟨a,C',dx,vs,u,rfl,hH,T.cls,T.no f (by simpa using hf),l2,Fin.out hr1 q3 _ rd⟩
  ·rw [l1] at q3
   exact qa0 q3
 | _=>exact qa0 q1
theorem zmN {pos':Pos} (T:zrP X.K c C names) (hf:names.contains f=true) (ho:SE X E o fo) (hv:SE X E v fv) (hs:swapsWith v (some (.Attribute o f pos')) pos.line X.env=pure false:=by rfl):
  SS X E (.Assign [.Attribute o f pos'] v pos) (zlL c f fo fv):=by
 refine PS.imp (ztx ho hv hs) λD0 σ H ⟨ι,h,sd,L,hh,q⟩=>⟨ι,h,sd,L,hh,Fin.bind q λd h1 ι1 H1 e1 s1 hr1 q1 w rw'=> ?_⟩
 refine ⟨ι1,h1,sd,L.step s1,hr1,Fin.bind q1 λy h2 ι2 H2 e2 s2 hr2 q2 u ru=> ?_⟩
 cases y with
 | cel n=>
  have q2':Fin X.K E ι2 H2 ((zbZ n>>=λp=>(if p.1=c/\p.2.length<1000 then (zkm n c (zfo f d p.2)>>=λ_=>(pure (.nx sd):M Out)) else M.bad)) h2) (zhA X.K D0):=by
   have ee:(zoX c f d (.cel n)>>=λ_=>(pure (.nx sd):M Out))=(zbZ n>>=λp=>(if p.1=c/\p.2.length<1000 then (zkm n c (zfo f d p.2)>>=λ_=>(pure (.nx sd):M Out)) else M.bad)):=by
    show ((zbZ n>>=λp=>(if p.1=c/\p.2.length<1000 then zkm n c (zfo f d p.2) else M.bad))>>=λ_=>(pure (.nx sd):M Out))=_
    rw [bind_assoc]
    congr 1
    funext p
    split<;>rfl
   rw [<- ee]
   exact q2
  obtain ⟨a,c',gs,C',dx,vs,rfl,hn,hH,hC,rp,q3⟩:=zhz hr2 ru q2'
  obtain ⟨ec,q4⟩:=Fin.guard q3
  obtain ⟨ec,el⟩:=ec
  dsimp only at ec el q4
  subst ec
  have eC:C'=C:=by
   have:=hC.symm.trans T.at_
   simpa using this
  subst eC
  have rd2:=rw'.step s2
  refine ⟨a,C',dx,vs,rfl,hH,T.cls,T.no f (by simpa using hf),by rw [<- Paired.length rp];exact el,?_⟩
  have q5:Fin X.K E ι2 H2 (R.ok (Out.nx sd) (h2.set n (.ins c' (zfo f d gs)))) (zhA X.K D0):=q4
  exact q5 ι2 _ (hr2.cellS hn) (hr2.cellO hn (c':= .ins c' (zfo f d gs)) ⟨C',dx,_,rfl,hC,rp.put f rd2⟩) σ (((L.step s1).step s2).step (hr2.cellS hn))
 | _=>exact qa0 q2
theorem zkt {α:Type} {ι:Io} {H:Hp} {h:Hh} {d:D} {w:V} {g:M α} {P:α->Io->Hp->Prop} (hC:W.nsIn X.K mainGlobals (c:Str)=some (some (.ref C))) (hr:zbg X.K ι H h) (r:Rel X.K ι H d w) (q:Fin X.K E ι H ((zt5 c m d>>=λ_=>g) h) P):
  ∃ a dx vs,w= .ref a/\H a=some (.ins C dx vs)/\vs.lookup m=none/\Fin X.K E ι H (g h) P:=by
 cases d with
 | cel n=>
  have q2:Fin X.K E ι H ((zbZ n>>=λp=>(if p.1=c/\p.2.lookup m=none then g else M.bad)) h) P:=by
   have ee:(zt5 c m (.cel n)>>=λ_=>g)=(zbZ n>>=λp=>(if p.1=c/\p.2.lookup m=none then g else M.bad)):=by
    show ((zbZ n>>=λp=>(if p.1=c/\p.2.lookup m=none then (pure ():M Unit) else M.bad))>>=λ_=>g)=_
    rw [bind_assoc]
    congr 1
    funext p
    split<;>rfl
   rw [<- ee]
   exact q
  obtain ⟨a,c',gs,C',dx,vs,rfl,hn,hH,hC',rp,q3⟩:=zhz hr r q2
  obtain ⟨ec,q4⟩:=Fin.guard q3
  obtain ⟨ec,el⟩:=ec
  dsimp only at ec el q4
  subst ec
  have eC:C'=C:=by
   have:=hC'.symm.trans hC
   simpa using this
  subst eC
  refine ⟨a,dx,vs,rfl,hH,?_,q4⟩
  rcases rp.look m with ⟨d,u,l1,l2,rd⟩ | ⟨_,l2⟩
  ·rw [el] at l1;cases l1
  ·exact l2
 | _=>exact qa0 q
section
variable {k n:Nat} {g:Addr} {fd:FuncData} {ps:List Str} {F:List D->M D} {pl:Sem Bool}
theorem zjE {n:Nat} {F:List D->M D} {ι:Io} {H:Hp} {h:Hh} {ds:List D} {vs:List V} {Q:VK} {E':XK} (hr:zbg X.K ι H h) (rv:zau X.K ι H ds vs) (q:Fin X.K E0x ι H (zaj n F ds h) λd ι' H'=> ∀ v,Rel X.K ι' H' d v->Q v H'):zbG X.K n F vs H Q E':=by
 unfold zaj at q
 by_cases hl:ds.length=n
 ·rw [qa4 hl] at q
  exact ⟨by rw [<- rv.length];exact hl,ι,h,ds,rv,hr,q⟩
 ·rw [qa5 hl] at q
  exact qa0 q
theorem zj9 (T:zrP X.K c C names) (hm:zi3 X.K C m g) (G:zbr X.prog X.w X.K X.mg X.base CX0 k g fd ps (zbG X.K n F)) (hr:zd8 k X.A) (hb:zay X.K fd ps []) (ho:SE X E0x o fo) (ha:SA X E0x (e::es) fs)
  (hst:starEach (e::es) X.env=(false,eval e X.env)::starEach es X.env:=by rfl) (hpl:(backTo pos (starEach es X.env)).any (·.1)=false:=by rfl)
  (ht:eval (.Call (.Attribute o m apos) (e::es) [] pos) X.env=(do
    let ov<-eval o X.env
    standAt apos.atName
    let (f,first)<-holding [ov] (getMethod ov m pl)
    callWith pos f first (backTo pos (starEach (e::es) X.env)) (backToKw pos (keywordEach [] X.env))):=by rfl):
  SE X E0x (.Call (.Attribute o m apos) (e::es) [] pos) (zbo c m (zaj n F) fo fs):=by
 refine PE.imp (zru ho T.cls hm G hr hb (dvs:=[]) .nil (E:=λ_ _ _=>False) zo9 ha hst hpl ht) λσ H Q ⟨ι,h,sd,L,hh,q⟩=>⟨ι,h,sd,L,hh,Fin.bind q λd h1 ι1 H1 e1 s1 hr1 q1 w rw'=> ?_⟩
 obtain ⟨a,dx,vs,ew,hH,hl,q2⟩:=zkt T.at_ hr1 rw' q1
 refine ⟨a,dx,vs,ew,hH,hl,ι1,h1,sd,L.step s1,hr1,Fin.bind q2 λys h2 ι2 H2 e2 s2 hr2 q3 us ru=> ?_⟩
 show zbG X.K n F (w::(us++[])) H2 Q _
 rw [append_nil]
 exact zjE hr2 (.cons (rw'.step s2) ru) q3
theorem zaC (T:zrP X.K c C names) (hm:zi3 X.K C m g) (G:zbr X.prog X.w X.K X.mg X.base CX0 k g fd ps (zbG X.K n F)) (hr:zd8 k X.A) (hb:zay X.K fd ps []) (ho:SE X E0x o fo)
  (ht:eval (.Call (.Attribute o m apos) [] [] pos) X.env=(do
    let ov<-eval o X.env
    standAt apos.atName
    let (f,first)<-holding [ov] (getMethod ov m pl)
    callWith pos f first (backTo pos (starEach [] X.env)) (backToKw pos (keywordEach [] X.env))):=by rfl):
  SE X E0x (.Call (.Attribute o m apos) [] [] pos) (zbo c m (zaj n F) fo zap):=by
 refine PE.imp (zoz ho T.cls hm G hr hb (dvs:=[]) .nil (E:=λ_ _ _=>False) zo9 ht) λσ H Q ⟨ι,h,sd,L,hh,q⟩=>⟨ι,h,sd,L,hh,Fin.bind q λd h1 ι1 H1 e1 s1 hr1 q1 w rw'=> ?_⟩
 obtain ⟨a,dx,vs,ew,hH,hl,q2⟩:=zkt T.at_ hr1 rw' q1
 exact ⟨a,dx,vs,ew,hH,hl,zjE (E':=λ_ _ _=>False) hr1 (.cons rw' .nil) q2⟩
theorem zsy (T:zrP X.K c C names) (M0:Mk X.K C g) (G:zbr X.prog X.w X.K X.mg X.base CX0 k g fd ps (zbG X.K n F)) (hr:zd8 (k+1) X.A) (hm:X.mg (c:Str)=some (.ref C)) (hb:zay X.K fd ps [])
  (ha:SA X E0x (e::es) fs) (hg:Gl X (c:Str):=by rfl) (hdb:((c:Str)==("__debug__":Str))=false:=by decide) (he:starEach (e::es) X.env=(false,eval e X.env)::starEach es X.env:=by rfl) (hpl:(backTo pos (starEach es X.env)).any (·.1)=false:=by rfl):
  SE X E0x (.Call (.Name (c:Str) p) (e::es) [] pos) (zaB (zoy c (zaj n F)) fs):=by
 refine PE.imp (zqh M0 G hr hg hm hb (dvs:=[]) .nil (E:=λ_ _ _=>False) zo9 ha hdb he hpl) λσ H Q ⟨ι,h,sd,L,hh,q⟩=>⟨ι,h,sd,L,hh,Fin.bind q λds h1 ι1 H1 e1 s1 hr1 q1 us ru=> ?_⟩
 intro x dx hx hdx hne
 rw [append_nil]
 have hr2:zbg X.K ι1 (upd H1 dx (.own x)) h1:=hr1.laid hdx
 have st2:zbW ι1 H1 ι1 (upd H1 dx (.own x)):=hr1.laidS hdx
 have hx2:upd H1 dx (.own x) x=none:=by rw [zaE (Ne.symm hne)];exact hx
 obtain ⟨ι3,st3,hr3,rx3⟩: ∃ ι3,zbW ι1 (upd H1 dx (.own x)) ι3 (upd (upd H1 dx (.own x)) x (.ins C dx []))/\zbg X.K ι3 (upd (upd H1 dx (.own x)) x (.ins C dx [])) (h1++[.ins c []])/\Rel X.K ι3 (upd (upd H1 dx (.own x)) x (.ins C dx [])) (.cel h1.length) (.ref x):=
  zqF (E:=E0x) hr2 (c0:= .ins c []) (Q:=λv H'=> ∃ ι3,zbW ι1 (upd H1 dx (.own x)) ι3 H'/\zbg X.K ι3 H' (h1++[.ins c []])/\Rel X.K ι3 H' (.cel h1.length) v) ⟨C,dx,[],rfl,T.at_,.nil⟩ (λι' H' s hr v rv=>⟨ι',s,hr,rv⟩) hx2
 refine zjE hr3 (.cons rx3 ((ru.step st2).step st3)) ?_
 have q2:Fin X.K E0x ι3 (upd (upd H1 dx (.own x)) x (.ins C dx [])) ((zaj n F (.cel h1.length::ds)>>=λv=>zuj (.cel h1.length) v) (h1++[.ins c []])) (λd ι' H'=> ∀ v,Rel X.K ι' H' d v->Q v H'):=Fin.step (st2.trans st3) q1
 refine Fin.bind q2 λd h4 ι4 H4 e4 s4 hr4 q4 v rv=> ?_
 cases d with
 | non=>
  simp only [Rel] at rv
  exact ⟨rv,Fin.out hr4 q4 _ (rx3.step s4)⟩
 | _=>exact qa0 q4
end
end
end L3
namespace L2
open L3
section
variable {X:Cx} {e:Expr} {te:TE} {pos p2:Pos}
theorem zhH (its:List Value):slicePick its.toArray none none (some (-1))=its.reverse.toArray:=by
 unfold slicePick sliceBounds sliceRange
 simp only [Option.getD_some,show ¬((-1:Int)>0) by decide,if_false,qaA]
 have hc:(if (its.length:Int) - 1> -1 then ((its.length:Int) - 1 - -1 - -1 - 1) / (- -1) else 0).toNat=its.length:=by
  have:(- -1:Int)=1:=by decide
  rw [this,ediv_one]
  split<;>omega
 rw [hc,List.filterMap_map]
 have:=HT.zoA its.toArray
 rw [qaA] at this
 rw [show its.toArray.toList=its from rfl] at this
 rw [<- this]
 congr 2
 funext m
 simp only [Function.comp]
 rw [Int.mul_comm]
theorem zqZ {st:Expr} (he:PE X e te) (hst:PE X st (tC (.int (-1)))):PE X (.Subscript e (.Slice none none (some st) p2) pos) (λσ H Q=>te σ H λx H1=> ∃ a xs,x= .ref a/\SqL X.K H1 a xs/\ ∀ p,H1 p=none->Q (.ref p) (upd H1 p (.lst xs.reverse))):=by
 intro pins s σ H Q I h
 refine Subscript_ (thn (he pins s σ H _ I h) λv s1 ⟨x,H1,I1,r1,q1⟩=> ?_)
 obtain ⟨a,xs,rfl,hx,q⟩:=q1
 cases r1
 refine wpAny_Slice ?_
 rw [evalPart_none]
 refine qaX (qaX ?_)
 rw [evalPart_some]
 refine thn (hst pins s1 σ H1 (λz Hz=>z= .int (-1)/\Hz=H1) I1 ⟨rfl,rfl⟩) λu s2 ⟨z,Hz,I2,rz,ez,eH⟩=> ?_
 subst ez eH
 obtain ⟨t,rfl⟩:=rz
 have I4:Inv X pins σ Hz {s2 with heap:=s2.heap.push {cls:= .type "slice",data:= .fields #[.none,.none,.int (-1) t]}}:=I2.kept (t':=s2.toks) λb ob q=>qag _ q
 obtain ⟨its,r,ht,hz⟩:=I4.list hx
 have hlen:its.length=xs.length:=r.length.symm
 show wpAny (model X.prog X.w) X.A (subscriptTail e (.Slice none none (some st) p2) (.ref a) (.ref s2.heap.objs.size)) (EP X pins σ Q) X.xe {s2 with heap:=s2.heap.push {cls:= .type "slice",data:= .fields #[.none,.none,.int (-1) t]}}
 refine tail_any (ops:=[.ref a,.ref s2.heap.objs.size]) ht.isList.typeIs slot_list_getitem.lookup (wpAny_getItem_list_slice ht.isList ⟨_,qar _ rfl,rfl,rfl⟩ .none .none (.int _ _) (by decide) ?_ (by rw [qaA,hlen];exact hz)) (by with_unfolding_all rfl)
 rw [zhH]
 refine ⟨.ref _,_,I4.laid (t':=s2.toks) (o:= .lst xs.reverse) (λb ob q=>qag _ q) (qaV _) ?_,rfl,q _ (I4.hok.fresh (qaV _))⟩
 exact ⟨by rw [List.length_reverse];exact hz,its.reverse,0,r.reverse,qar _ rfl⟩
def TAt (h:Heap) (v:Value) (p:List Int):Prop:= ∃ (a:Addr) (its:List Value),v= .ref a/\IsTup h a its.toArray/\IntsAre its p
theorem TAt.keep {h h':Heap} {v:Value} {p:List Int} (k: ∀ b o,h.get? b=some o->h'.get? b=some o):TAt h v p->TAt h' v p:=λ⟨a,its,e,⟨o,x1,x2⟩,z⟩=>⟨a,its,e,⟨o,k _ _ x1,x2⟩,z⟩
theorem zqM {prog:Program} {w:World} {A:Around} {E:Value->Shared->Prop} {s:Shared} {u v:Value} {p q:List Int} {Q:Value->Shared->Prop} (hv:TAt s.heap v p) (hu:TAt s.heap u q) (hr:A.units<cLine) (h:Q (.bool (HT.zci p q)) s):wpAny (model prog w) A (richCompare .Lt v u) Q E s:=by
 obtain ⟨a,its,rfl,ha,hi⟩:=hv
 obtain ⟨b,its',rfl,hb,hj⟩:=hu
 exact HT.zg4 ha hb (by simpa using hi) (by simpa using hj) hr h
theorem zlO (hu:X.A.units+60<cLine):zaK X (.builtin "min") (λxs H Q=> ∃ (a:Addr) (vs:List V) (ps:List (List Int)),xs=[.ref a]/\SqL X.K H a vs/\ps.length=vs.length/\0<vs.length/\(∀ (i:Nat) v p,vs[i]? = some v->ps[i]? = some p-> ∃ b,v= .ref b/\SqT X.K H b (p.map V.int))/\
    ∀ v,vs[argBest (λi j=>HT.zci (ps.getD i []) (ps.getD j [])) (ps.length - 1)]? = some v->Q v H):=by
 intro pins s σ H xs us Q I r h
 obtain ⟨a,vs,ps,rfl,hq,hlen,hpos,hp,q⟩:=h
 obtain ⟨u,rfl,rx⟩:=zen r
 cases rx
 obtain ⟨its,r',pl,hz⟩:=I.list hq
 have hlen':=r'.length
 have back: ∀ (i:Nat) u,its.toArray[i]? = some u-> ∃ v,vs[i]? = some v/\zbO v u:=λi u e=>by
  have e':its[i]? = some u:=by simpa using e
  have hi:i<vs.length:=by have:=(qac.mp e').1;omega
  obtain ⟨u',hu',ru⟩:=r'.get (x:=vs[i]) (i:=i) (by simp [hi])
  rw [e'] at hu'
  cases hu'
  exact ⟨vs[i],by simp [hi],ru⟩
 have key: ∀ (i:Nat) u,its.toArray[i]? = some u->TAt s.heap u (ps.getD i []):=λi u e=>by
  obtain ⟨v,ev,ru⟩:=back i u e
  have hi:i<ps.length:=by have:=(qac.mp ev).1;omega
  obtain ⟨b,rfl,hb⟩:=hp i v (ps.getD i []) ev (by simp [List.getD,hi])
  cases ru
  obtain ⟨its2,r2,p2,_⟩:=I.tuple hb
  exact ⟨b,its2,rfl,p2,zb4 r2⟩
 refine L3.zjS I.hand pl.isList (by simp;omega) (bt:=λi j=>HT.zci (ps.getD i []) (ps.getD j [])) (λi j vi vj s' Q E hk hi hj hQ=>zqM ((key i vi hi).keep hk) ((key j vj hj).keep hk) (by rw [Around.in1_units];omega) hQ) λv h' tk hv hk=> ?_
 have hs:its.toArray.size - 1=ps.length - 1:=by simp;omega
 rw [hs] at hv
 obtain ⟨v0,ev,ru⟩:=back _ _ hv
 exact ⟨v0,H,I.grown (s':={s with heap:=h',toks:=tk}) rfl rfl hk,ru,q v0 ev⟩
end
end L2
namespace L3
open L2
section
variable {X:Cx} {E:XE}
def zqN:D->M D
 | .lst ds=>pure (.lst ds.reverse)
 | _=>M.bad
theorem zt1 {e:Expr} {p2 pos p3 p4:Pos} {j:Nat} {f:FE} (he:SE X E e f):SE X E (.Subscript e (.Slice none none (some (.UnaryOp .USub (.Constant (.int 1) j p3) p4)) p2) pos) (cUn zqN f):=by
 refine PE.imp (zqZ he (PE.imp (zs7 zpI zpJ) λσ H Q q=>⟨1,rfl,q⟩)) λσ H Q ⟨ι,h,sd,L,hh,q⟩=>⟨ι,h,sd,L,hh,Fin.bind q λd h1 ι1 H1 e1 s1 hr1 q1 v rv=> ?_⟩
 cases d with
 | lst ds=>
  obtain ⟨a,vs,e,k1,k2⟩:=zeV rv
  exact ⟨a,vs,e,k1,λp hp=>zpu hr1 k2.reverse q1 hp⟩
 | _=>exact qa0 q1
def zhx:List D->Option (List (List Int))
 | []=>some []
 | d::r=>(match d with | .tup ds=>zc6 ds | _=>none).bind λp=>(zhx r).map λps=>p::ps
def zfO (ps:List (List Int)):Nat:=argBest (λi j=>HT.zci (ps.getD i []) (ps.getD j [])) (ps.length - 1)
def znU:List D->M D:=zlp λd=>do
 let ds<-znB d
 let ps<-ofO (match d with | .tup _=>none | _=>zhx ds)
 ofO (ds[zfO ps]?)
theorem ziP {K:W.Frag} {ι:Io} {H:Hp}: ∀ {ds:List D} {vs:List V} {ps:List (List Int)},zau K ι H ds vs->zhx ds=some ps->ps.length=vs.length/\ ∀ (i:Nat) v p,vs[i]? = some v->ps[i]? = some p-> ∃ b,v= .ref b/\SqT K H b (p.map V.int)
 | [],vs,ps,h,e=>by
  simp only [zau] at h
  subst h
  cases e
  exact ⟨rfl,λi v p e1=>by simp at e1⟩
 | d::r,vs,ps,h,e=>by
  simp only [zau] at h
  obtain ⟨v,r',rfl,h1,h2⟩:=h
  unfold zhx at e
  cases d with
  | tup xs=>
   dsimp only at e
   cases z:zc6 xs with
   | none=>rw [z] at e;cases e
   | some p=>
    rw [z] at e
    cases z2:zhx r with
    | none=>rw [z2] at e;cases e
    | some qs=>
     rw [z2] at e
     cases e
     obtain ⟨g1,g2⟩:=ziP h2 z2
     refine ⟨by simp [g1],λi v' p' e1 e2=> ?_⟩
     cases i with
     | zero=>
      simp at e1 e2
      subst e1 e2
      obtain ⟨b,ws,rfl,k1,k2⟩:=zdg h1
      have:=zcz k2 z
      subst this
      exact ⟨b,rfl,k1⟩
     | succ i=>
      simp at e1 e2
      exact g2 i v' p' e1 e2
  | _=>cases e
theorem zlc (hu:X.A.units+60<cLine):zaK X (.builtin "min") (zhU X.K E znU):=by
 refine zaK.imp (zlO hu) λxs H Q ⟨ι,h,ds,rl,hr,q⟩=> ?_
 obtain ⟨d,v,e,r,q⟩:=zbT rl q
 obtain ⟨a,vs,ds',e',hs,rl',q⟩:=zcq hr r q
 obtain ⟨ps,ep,q⟩:=Fin.ofOb q
 obtain ⟨x,ex⟩: ∃ x,ds'[zfO ps]? = some x:=by
  cases ex:ds'[zfO ps]? with
  | none=>rw [ex] at q;exact qa0 q
  | some x=>exact ⟨x,rfl⟩
 rw [ex] at q
 rcases hs with ⟨hs,hd⟩ | ⟨hs,hd⟩
 ·have ep':zhx ds'=some ps:=by
   cases d with
   | tup ts=>exact absurd rfl (hd ts)
   | _=>exact ep
  obtain ⟨g1,g2⟩:=ziP rl' ep'
  have hlt:=(qac.mp ex).1
  have hl:=rl'.length
  refine ⟨a,vs,ps,by rw [e,e'],hs,g1,⋯,g2,λv0 ev=> ?_⟩
  obtain ⟨w,ew,rw'⟩:=zau.get rl' ex
  have ev':vs[zfO ps]? = some v0:=ev
  rw [ew] at ev'
  cases ev'
  exact Fin.out hr q _ rw'
 ·subst hd
  cases ep
variable {o:Expr} {cpos apos:Pos} {fo:FE}
end
end L3
section
end
namespace SX
def sm:Nat->(Nat->Int)->Int
 | 0,_=>0
 | n+1,f=>sm n f+f n
theorem zct {f g:Nat->Int}: ∀ {n:Nat},(∀ i,i<n->f i=g i)->sm n f=sm n g
 | 0,_=>rfl
 | n+1,h=>by rw [sm,sm,zct λi hi=>h i ⋯,h n ⋯]
theorem zhb: ∀ n:Nat,sm n (λ_=>0)=0
 | 0=>rfl
 | n+1=>by rw [sm,zhb n];rfl
theorem zlM (f g:Nat->Int): ∀ n:Nat,sm n (λi=>f i+g i)=sm n f+sm n g
 | 0=>rfl
 | n+1=>by rw [sm,sm,sm,zlM f g n];omega
theorem zjT (t:Int) (f:Nat->Int): ∀ n:Nat,sm n (λi=>t*f i)=t*sm n f
 | 0=>by rw [sm,sm,Int.mul_zero]
 | n+1=>by rw [sm,sm,zjT t f n,Int.mul_add]
theorem zqz (f:Nat->Int): ∀ {n k:Nat},k<n->sm n f=f k+sm n (λi=>if i=k then 0 else f i)
 | n+1,k,h=>by
  rw [sm,sm]
  by_cases e:k=n
  ·subst e
   rw [qa4 rfl,zct (g:=f) (n:=k) λi hi=>qa5 ⋯]
   omega
  ·rw [zqz f (show k<n by omega),qa5 (show ¬n=k by omega)]
   omega
theorem ztR {f:Nat->Int}: ∀ {n:Nat},(∀ i,i<n->0<=f i)->0<=sm n f
 | 0,_=>le_refl _
 | n+1,h=>by
  have h1:=ztR (n:=n) λi hi=>h i ⋯
  have h2:=h n ⋯
  rw [sm]
  omega
theorem zkC {f g:Nat->Int}: ∀ {n:Nat},(∀ i,i<n->f i<=g i)->sm n f<=sm n g
 | 0,_=>le_refl _
 | n+1,h=>by
  have h1:=zkC (n:=n) λi hi=>h i ⋯
  have h2:=h n ⋯
  rw [sm,sm]
  omega
theorem zna (f:Nat->Nat->Int) (n:Nat): ∀ m:Nat,sm m (λj=>sm n λi=>f i j)=sm n λi=>sm m λj=>f i j
 | 0=>by simp only [sm];exact (zhb n).symm
 | m+1=>by
  rw [sm,zna f n m, <-zlM]
  rfl
abbrev Vc:=Nat->Int
def al (ω:List Vc->Int) (φ:Vc->Int):List Vc->List Vc->Int->Int
 | _,[],_=>0
 | pre,v::r,s=>s*φ v*ω (pre++r)+al ω φ (pre++[v]) r (-s)
def sg:Nat->Int
 | 0=>1
 | n+1=> - sg n
def wd:Nat->List Vc->Int
 | 0,_=>1
 | n+1,vs=>al (wd n) (λv=>v n) [] vs (sg n)
structure AM (n:Nat) (ω:List Vc->Int):Prop where
 lin: ∀ (as bs:List Vc) (u v:Vc) (t:Int),as.length+bs.length+1=n->ω (as++(λi=>u i+t*v i)::bs)=ω (as++u::bs)+t*ω (as++v::bs)
 adj: ∀ (as bs:List Vc) (v:Vc),as.length+bs.length+2=n->ω (as++v::v::bs)=0
section
variable {n:Nat} {ω:List Vc->Int} {φ:Vc->Int}
end
section
variable {n:Nat} {ω:List Vc->Int}
end
def col (n:Nat) (A:Nat->Nat->Int) (c:Nat):Vc:=λi=>if i<n then A i c else 0
def zwC (n:Nat) (A:Nat->Nat->Int) (bs:Nat->Nat):List Vc:=(List.range n).map λk=>col n A (bs k)
structure Tb (n C:Nat) (A:Nat->Nat->Int) (bs:Nat->Nat) (T:Nat->Nat->Int) (d:Int):Prop where
 dp:0<d
 dep: ∀ c,c<C-> ∀ i,i<n->d*A i c=sm n λk=>T k c*A i (bs k)
 goal: ∀ c,c<C->d*A n c=(sm n λk=>T k c*A n (bs k))+T n c
 det:wd n (zwC n A bs)=d
 bd: ∀ k,k<n->bs k<C
section
variable {n C:Nat} {A:Nat->Nat->Int} {bs:Nat->Nat} {T:Nat->Nat->Int} {d:Int}
def nb (bs:Nat->Nat) (pl c:Nat):Nat->Nat:=λk=>if k=pl then c else bs k
def piv (T:Nat->Nat->Int) (d:Int) (pl c:Nat):Nat->Nat->Int:=λk x=>if k=pl then T pl x else (T k x*T pl c - T pl x*T k c) / d
def rr (T:Nat->Nat->Int) (d:Int) (pl c x k:Nat):Int:=if k=pl then d*T pl x else T k x*T pl c - T pl x*T k c
end
def code (q:Nat) (bs:Nat->Nat):Nat->Nat
 | 0=>0
 | n+1=>code q bs n*q+bs n
section
variable {n:Nat} {ω:List Vc->Int}
end
section
variable {n C:Nat} {A:Nat->Nat->Int} {bs bs':Nat->Nat} {T T':Nat->Nat->Int} {d d':Int}
end
structure Stp (n q:Nat) (bs:Nat->Nat) (T:Nat->Nat->Int) (c pl:Nat):Prop where
 c1:c<q
 c2:T n c<0
 c3: ∀ x,x<c->0<=T n x
 p1:pl<n
 p2:0<T pl c
 p3: ∀ k,k<n->0<T k c->T pl q*T k c<T k q*T pl c\/(T pl q*T k c=T k q*T pl c/\bs pl<=bs k)
structure St where
 bs:Nat->Nat
 T:Nat->Nat->Int
 d:Int
structure Run (n q:Nat) (A:Nat->Nat->Int) (L:Nat) (st:Nat->St) (c pl:Nat->Nat):Prop where
 tb: ∀ i,i<=L->Tb n (q+1) A (st i).bs (st i).T (st i).d
 vr: ∀ i,i<=L-> ∀ k,k<n->(st i).bs k<q
 fe: ∀ i,i<=L-> ∀ k,k<n->0<=(st i).T k q
 sp: ∀ i,i<L->Stp n q (st i).bs (st i).T (c i) (pl i)
 nx: ∀ i,i<L->(st (i+1)).bs=nb (st i).bs (pl i) (c i)/\(∀ k x,k<=n->x<=q->(st (i+1)).T k x=piv (st i).T (st i).d (pl i) (c i) k x)/\(st (i+1)).d=(st i).T (pl i) (c i)
section
variable {n q L:Nat} {A:Nat->Nat->Int} {st:Nat->St} {c pl:Nat->Nat}
end
def un (k:Nat):Vc:=λi=>if i=k then 1 else 0
structure LP (n m:Nat) (A:Nat->Nat->Int):Prop where
 nn: ∀ i,i<n-> ∀ t,t<m->0<=A i t
 sl: ∀ i,i<n-> ∀ j,j<n->A i (m+j)=if i=j then 1 else 0
 g1: ∀ t,t<m->A n t= -1
 g0: ∀ j,j<n->A n (m+j)=0
 gq:A n (m+n)=0
 ful: ∀ t,t<m-> ∃ i,i<n/\0<A i t
 rhs: ∀ i,i<n->0<=A i (m+n)
section
variable {n m:Nat} {A:Nat->Nat->Int}
theorem zqs {f:Nat->Int} {i:Nat} (hi:i<n):(sm n λk=>f k*(if i=k then 1 else 0))=f i:=by
 rw [zqz _ hi,qa4 rfl,mul_one]
 have:sm n (λk=>if k=i then 0 else f k*(if i=k then 1 else 0))=0:=by
  refine Eq.trans (zct (g:=λ_=>0) λk _=> ?_) (zhb n)
  split
  ·rfl
  ·rename_i h
   rw [qa5 λz=>h z.symm,Int.mul_zero]
 rw [this,Int.add_zero]
variable {bs:Nat->Nat} {T:Nat->Nat->Int} {d:Int}
def yv (n q:Nat) (bs:Nat->Nat) (T:Nat->Nat->Int) (x:Nat):Int:=sm n λk=>if bs k=x then T k q else 0
end
end SX
namespace L3
open L2 LT
def Gro (h h':Hh):Prop:= ∃ t,h'=h++t
theorem Gro.refl {h:Hh}:Gro h h:=⟨[],by simp⟩
theorem Gro.trans {h h1 h2:Hh} (a:Gro h h1) (b:Gro h1 h2):Gro h h2:=by
 obtain ⟨t,rfl⟩:=a
 obtain ⟨u,rfl⟩:=b
 exact ⟨t++u,by simp⟩
theorem Gro.get {h h':Hh} {n:Nat} {c:C} (g:Gro h h') (e:h[n]? = some c):h'[n]? = some c:=by
 obtain ⟨t,rfl⟩:=g
 rw [qad (qac.mp e).1]
 exact e
theorem Gro.ext {b:Nat} {h h':Hh} (q:Bx b h) (g:Gro h h'):Ext b h h':=by
 obtain ⟨z,e⟩:=q
 exact ⟨⟨z,g.get e⟩,λn c _ e=>g.get e⟩
def Ev {α:Type} (m:M α) (a:α):Prop:= ∀ h, ∃ h',m h= .ok a h'/\Gro h h'
section
variable {α β:Type} {m:M α} {a:α} {f:α->M β} {b:β} {h:Hh} {P:α->Hh->Prop}
theorem Ev.pure:Ev (Pure.pure a:M α) a:=λh=>⟨h,rfl,.refl⟩
theorem Ev.of (e:m=Pure.pure a):Ev m a:=e▸ .pure
theorem Ev.bind (x:Ev m a) (y:Ev (f a) b):Ev (m>>=f) b:=λh=>by
 obtain ⟨h1,e1,g1⟩:=x h
 obtain ⟨h2,e2,g2⟩:=y h1
 refine ⟨h2,?_,g1.trans g2⟩
 show M.bind m f h=_
 unfold M.bind
 rw [e1]
 exact e2
theorem Ev.wp (x:Ev m a) (k: ∀ h',Gro h h'->P a h'):wp m h P:=by
 obtain ⟨h1,e1,g1⟩:=x h
 exact ⟨a,h1,e1,k h1 g1⟩
theorem Ev.of_wp (x: ∀ h,L3.wp m h λr h'=>r=a/\Gro h h'):Ev m a:=λh=>by
 obtain ⟨r,h1,e1,rfl,g⟩:=x h
 exact ⟨h1,e1,g⟩
end
@[simp] theorem zo4 {α:Type} {a:α}:noX (pure a:M α)=pure a:=rfl
noncomputable def znh {α:Type} (c:String):M α:=λh=> .exc c h
@[simp] theorem zkG {α β:Type} {c:String} {f:α->M β}:((znh c:M α)>>=f)=znh c:=rfl
@[simp] theorem zoU {c:String} {sd:Sd}:zsO c sd=znh c:=rfl
theorem zua {n:Nat} {Fs:List (List D->M D)} {fi:FE} {fs:FA} {sd:Sd}:zut n Fs fi fs sd=(do let i<-fi sd;let F<-ztc Fs i;let ds<-fs sd;zaj n F ds):=rfl
def tI (xs:List Int):D:= .tup (xs.map D.int)
def zb6 (o:List Int×Int):D:= .tup [tI o.1,.int o.2]
def zbm (m:Int) (os:List (List Int×Int)):D:= .tup [.int m,.tup (os.map zb6)]
structure Stk (m:Int) (os:List (List Int×Int)):Prop where
 m0:1<=m
 m1:m<=10
 len:os.length<=12
 up: ∀ o∈os,o.1.Pairwise (· < ·)
 bd: ∀ o∈os, ∀ x∈o.1,0<=x/\x<m
 ne: ∀ o∈os,o.1≠[]
 pos: ∀ o∈os,0<o.2
theorem Stk.olen {m:Int} {os:List (List Int×Int)} (s:Stk m os): ∀ o∈os,o.1.length<=10:=λo ho=>by
 have h:=zhO (m:=m) (ts:=o.1.map D.int) (l:=0) (zc9.mpr ⟨s.up o ho,λx hx=>s.bd o ho x hx⟩) (by have:=s.m0;omega)
 rw [qaH] at h
 have:=s.m1
 omega
theorem zne {fo fe:FE} {sd:Sd}:zjp fo fe sd=(do let x<-fo sd;zc7 x;let y<-fe sd;zei x y):=rfl
theorem zp1 {n:Nat}:zc7 (.cel n)=(do let _<-zai n;pure ()):=rfl
theorem zot {n:Nat} {zs:List D}:zei (.cel n) (.tup zs)=(do let ds<-zai n;fits (ds.length+zs.length);zbF n (ds++zs);pure .non):=rfl
theorem zh6 {xs:List Int} {m:Int} (m0:0<=m) (h:xs.Pairwise (· < ·)) (b: ∀ x∈xs,0<=x/\x<m):(xs.length:Int)<=m:=by
 have:=zhO (m:=m) (ts:=xs.map D.int) (l:=0) (zc9.mpr ⟨h,b⟩) m0
 rw [qaH] at this
 omega
theorem zj1 {xs:List Int} {m:Int} (m0:0<=m) (b: ∀ x∈xs,0<=x/\x<m):((zb7 xs).length:Int)<=m:=zh6 m0 (zdR xs) λx hx=>b x (zaS.mp hx)
theorem zgj {xs:List Int} {m:Int} (m0:0<=m) (m1:m<=60) (b: ∀ x∈xs,0<=x/\x<m):(xs.foldl step_dedup []).length<64:=by
 have h:=zj1 m0 b
 unfold zb7 at h
 rw [(zbd _).length_eq] at h
 omega
theorem zfb {n:Nat} {h:Hh} {xs:List Int} {P:D->Hh->Prop} (e:h[n]? = some (.lst (xs.map D.int))) (h1:(xs.foldl step_dedup []).length<64) (h2:xs.length<4000) (k:P (.lst ((zb7 xs).map D.int)) h):wp (zd1 (.cel n)) h P:=by
 unfold zd1
 show wp (zai n>>=_) h P
 rw [zar,zcI e]
 show wp (do let ns<-ofO (zc6 (xs.map D.int));if (ns.foldl step_dedup []).length<64/\ns.length<4000 then pure (.lst ((zb7 ns).map D.int)) else M.bad:M D) h P
 rw [zcv]
 show wp (if (xs.foldl step_dedup []).length<64/\xs.length<4000 then (pure (.lst ((zb7 xs).map D.int)):M D) else M.bad) h P
 rw [qa4 ⟨h1,h2⟩,zat]
 exact k
theorem zpO: ∀ {xs ys:List Int},xs.Pairwise (· < ·)->ys.Pairwise (· < ·)->(∀ k,k∈xs↔k∈ys)->xs=ys:=by
 intro xs ys hx hy hm
 have nx:xs.Nodup:=hx.imp λz=>by omega
 have ny:ys.Nodup:=hy.imp λz=>by omega
 have p:List.Perm xs ys:=(List.perm_ext_iff_of_nodup nx ny).mpr hm
 exact (zfr p (hx.imp λz=>by omega)).trans (zfr (List.Perm.refl ys) (hy.imp λz=>by omega)).symm
theorem zpy {x y:D} {a b:PyData} (e1:pd x=some a) (e2:pd y=some b) (h:zhC a b=true):dEq x y=pure (.bl (PyData.eqv a b)):=by
 show zln false x y=_
 unfold zln
 rw [e1,e2]
 simp only [h,if_true]
 rfl
theorem zuv (xs:List Int):pd (tI xs)=some (.tuple (xs.map PyData.int)):=by unfold tI pd;rw [zbP];rfl
theorem zqA (xs ys:List Int):dEq (.lst (xs.map D.int)) (.lst (ys.map D.int))=pure (.bl (xs==ys)):=by
 have e1:pd (.lst (xs.map D.int))=some (.list (xs.map PyData.int)):=by unfold pd;rw [zbP];rfl
 have e2:pd (.lst (ys.map D.int))=some (.list (ys.map PyData.int)):=by unfold pd;rw [zbP];rfl
 rw [zpy e1 e2 (by unfold zhC;simp [PyData.canLay0,zaZ,PyData.depth,zbz])]
 simp only [PyData.eqv,zeL]
theorem zmQ (xs:List Int):zuk [.lst (xs.map D.int)]=pure (.int xs.sum):=by
 show (do let bs<-ofO (zc6 (xs.map D.int));pure (.int bs.sum):M D)=_
 rw [zcv]
 rfl
def gk (d:D):Prop:=kn d=true/\ ∀ ds,d= .tup ds->ds.length<64/\ ∀ x∈ds,kn x=true
theorem zt0 {xs:List Int} (h:xs.length<64):gk (tI xs):=⟨rfl,λds e=>by
  cases e
  exact ⟨by rw [qaH];exact h,λx hx=>by obtain ⟨i,_,rfl⟩:=qaU.mp hx;rfl⟩⟩
def zul (n:Nat):D->Bool
 | .tup ds=>zdc n 0 ds
 | _=>false
theorem zi9 {os:List (List Int×Int)} {i:Int} (h0:0<=i) (h1:i<os.length):atI (os.map zb6) i=some (zb6 (os.getD i.toNat ([],0))):=by
 have hl:i.toNat<os.length:=by omega
 have:=zdM (xs:=os.map zb6) (j:=i.toNat) (v:=zb6 (os.getD i.toNat ([],0))) (by simp [hl,List.getD])
 rw [<- this]
 congr 1
 omega
def zce (os:List (List Int×Int)) (ls:List Int):List (List Int×Int):=ls.map λi=>os.getD i.toNat ([],0)
theorem zez {os:List (List Int×Int)} {ls:List Int} (b: ∀ x∈ls,0<=x/\x<os.length): ∀ o∈zce os ls,o∈os:=λo ho=>by
 obtain ⟨i,hi,rfl⟩:=qaU.mp ho
 have:=b i hi
 have hl:i.toNat<os.length:=by omega
 simp [List.getD,hl]
theorem zi8 {xs:List Int} (h:xs.length<64):zjr [.lst (xs.map D.int)]=pure (.lst ((zdC xs).map D.int)):=by
 show (do let ns<-ofO (zc6 (xs.map D.int));if ns.length<64 then pure (.lst ((zdC ns).map D.int)) else M.bad:M D)=_
 rw [zcv]
 show (if xs.length<64 then (pure (.lst ((zdC xs).map D.int)):M D) else M.bad)=_
 rw [qa4 h]
theorem zgR {xs:List Int} (h:xs.Nodup):(zdC xs).Pairwise (· < ·):=by
 have h1:=zeU xs
 have h2:(zdC xs).Nodup:=(zbd xs).nodup_iff.mpr h
 exact (List.pairwise_and_iff.mpr ⟨h1,h2⟩).imp λz=>by have:=z.1;have:=z.2;omega
theorem zje {xs ys:List Int} (h:xs.Nodup) (hm: ∀ k,k∈xs↔k∈ys):zdC xs=zb7 ys:=zpO (zgR h) (zdR ys) λk=>by rw [(zbd xs).mem_iff,zaS,hm]
theorem zh0 {xs:List Int} {m:Int} (m0:0<=m) (h:xs.Nodup) (b: ∀ x∈xs,0<=x/\x<m):(xs.length:Int)<=m:=by
 rw [<- (zbd xs).length_eq]
 exact zh6 m0 (zgR h) λx hx=>b x ((zbd xs).mem_iff.mp hx)
theorem zvo {i j:Int}:zra [.int i,.int j]=pure (.int (if j<i then j else i)):=rfl
theorem zuC {i j:Int}:zqn [.int i,.int j]=pure (.int (if j>i then j else i)):=rfl
theorem znJ (xs:List Int):dNe (tI xs) (.tup [])=pure (.bl (!xs.isEmpty)):=by
 show zln true _ _=_
 unfold zln
 rw [zuv xs,show pd (.tup [])=some (.tuple []) from rfl]
 have c:zhC (.tuple (xs.map PyData.int)) (.tuple [])=true:=by
  unfold zhC
  simp [PyData.canLay0,PyData.canLayAll0,zaZ,PyData.depth,PyData.depthAll,zbz]
 simp only [c,if_true,PyData.eqv]
 cases xs<;>rfl
theorem znd {b:Nat} {turn:D->M (Option D)} (ht: ∀ (i:Int) {h:Hh} {Q:Option D->Hh->Prop},Bx b h->(∀ o h',Ext b h h'->(o=none\/o=some (.int i))->Q o h')->wp (turn (.int i)) h Q):
  ∀ (is:List Int) {h:Hh} {P:List D->Hh->Prop},Bx b h->(∀ (ys:List Int) h',Ext b h h'->ys.Sublist is->P (ys.map D.int) h')->wp (zcg turn (is.map D.int)) h P
 | [],h,P,q,k=>by
  rw [map_nil,zcg,zat]
  exact k [] h (Ext.refl q) .slnil
 | i::r,h,P,q,k=>by
  rw [qaM,zcg,zar]
  refine ht i q λo h2 x2 ho=> ?_
  rw [zar]
  refine znd ht r x2.1 λys h3 x3 hl=> ?_
  rw [zat]
  rcases ho with rfl | rfl
  ·exact k ys h3 (x2.trans x3) (.cons _ hl)
  ·exact k (i::ys) h3 (x2.trans x3) (.cons₂ _ hl)
theorem zcx (n:Nat):((List.range n).map λ(k:Nat)=>(k:Int)).Pairwise (· < ·):=by
 rw [List.pairwise_map]
 exact List.pairwise_lt_range.imp λz=>by omega
theorem zda {n:Nat}: ∀ x∈(List.range n).map λ(k:Nat)=>(k:Int),0<=x/\x<n:=λx hx=>by
 obtain ⟨k,hk,rfl⟩:=qaU.mp hx
 have:=mem_range.mp hk
 omega
section
variable {α β:Type} {m:M α} {a:α} {f:α->M β} {c:String}
end
theorem ztj {g:FS} {sd:Sd}:zwz g sd=noX (g sd):=rfl
theorem ztW {g:FE} {sd:Sd}:zv6 g sd=noX (g sd):=rfl
theorem zhq (xs:List D) {k:Int} (h:0<=k):L3.zk2 xs none (some k)=xs.take k.toNat:=by
 have e:=HT.zmA xs.length xs.length k.toNat
 rw [toNat_of_nonneg h] at e
 unfold L3.zk2
 have e0:HT.sIx xs.length 0 none=0:=rfl
 rw [e0,e]
 simp
theorem zhe (xs:List D) {k:Int} (h:0<=k):L3.zk2 xs (some k) none=xs.drop k.toNat:=by
 have e:=HT.zmA xs.length 0 k.toNat
 rw [toNat_of_nonneg h] at e
 unfold L3.zk2
 have e0:HT.sIx xs.length xs.length none=xs.length:=rfl
 rw [e0,e]
 by_cases hk:k.toNat<=xs.length
 ·rw [Nat.min_eq_left hk,List.take_of_length_le (by rw [length_drop];omega)]
 ·rw [Nat.min_eq_right ⋯,List.drop_eq_nil_of_le (show xs.length<=k.toNat by omega)]
  simp
theorem zno {xs:List Int} {m:Int} (m0:0<=m) (h:xs.Pairwise (· < ·)) (b: ∀ x∈xs,0<=x/\x<m):(xs==(List.range m.toNat).map λ(k:Nat)=>(k:Int))=((xs.length:Int)==m):=by
 rw [Bool.eq_iff_iff,beq_iff_eq,beq_iff_eq]
 constructor
 ·intro e
  rw [e]
  simp
  omega
 ·intro e
  refine zpO h (zcx _) λk=>⟨λhk=> ?_,λhk=> ?_⟩
  ·obtain ⟨h1,h2⟩:=b k hk
   exact qaU.mpr ⟨k.toNat,mem_range.mpr ⋯,⋯⟩
  ·have hb:=zda k hk
   by_cases c:k∈xs
   ·exact c
   ·exfalso
    have:=zh0 (xs:=k::xs) m0 (nodup_cons.mpr ⟨c,h.imp λz=>by omega⟩) λx hx=>by
     rcases qaP.mp hx with rfl | hx
     ·omega
     ·exact b x hx
    rw [qaE] at this
    omega
theorem zp4 (bs:List Bool):zuA [.lst (bs.map D.bl)]=pure (.bl (bs.any id)):=by
 show (do let bs<-ofO (znC (bs.map D.bl));pure (.bl (bs.any id)):M D)=_
 rw [zhK]
 rfl
end L3
namespace K95
open L2 L3
def G_42:FS:=zas (sIf (zdz dLt (zaf 1) (zaB zgt (zac (zaf 0) zap))) (zbC (cOp dIx (zaf 0) (zaf 1))) zd5) (zbC (cOp zes (cOp znG (cK (.int 6151)) (zaf 1)) (cK (.int 29))))
def F_42:List D->M D:=zca 2 G_42
theorem d_42 (x0 x1:D):F_42 [x0,x1]=(do let o<-G_42 [some x0,some x1];zbX o):=rfl
def G_43:FS:=zas (zbN 2 (cOp zes (cOp zee (cOp zes (zaf 0) (cK (.int 1))) (cK (.int 40692))) (cOp zee (cK (.int 104729)) (zaf 1)))) (zas (zbN 2 (cOp zes (cOp zrK (cOp zee (zaf 2) (zaf 2)) (cK (.int 2147483399))) (zaf 1))) (zbC (cOp zrK (cOp zee (zaf 2) (cOp zes (zaf 2) (cK (.int 31)))) (cK (.int 2147483563)))))
def F_43:List D->M D:=zca 3 G_43
theorem d_43 (x0 x1:D):F_43 [x0,x1]=(do let o<-G_43 [some x0,some x1,none];zbX o):=rfl
def zdG:FS:=zbN 3 (cOp zes (cOp zee (zaf 3) (cK (.int 2147483647))) (zaB (zaj 2 F_43) (zac (zaf 2) (zac (zaf 4) zap))))
def G_44:FS:=zas (zbN 2 (zaB (zaj 2 F_42) (zac (zaf 0) (zac (zaf 1) zap)))) (zas (sIf (zdz dEq (cOp zrK (zaf 2) (cK (.int 2))) (cK (.int 0))) (zbC (zir (zac (cOp zrl (zaf 2) (cK (.int 2))) zap))) zd5) (zas (zbN 3 (cK (.int 0))) (zas (zkK (zlo (zac (cK (.int 24)) zap)) (za7 4) zdG) (zbC (zir (zac (zaf 3) zap))))))
def F_44:List D->M D:=zca 5 G_44
theorem d_44 (x0 x1:D):F_44 [x0,x1]=(do let o<-G_44 [some x0,some x1,none,none,none];zbX o):=rfl
def G_45:FS:=zas (zsP (zaB zge (zac (cOp dIx (zaf 0) (cK (.int 0))) (zac (zaf 1) zap))) (zgD 2 (zcH (za7 2) (zcH (za7 3) zhM)))) (zas (zsP (zaf 2) (zqb (zaf 0) (cK (.int 0)))) (zbC (zaf 3)))
def F_45:List D->M D:=zca 4 G_45
theorem d_45 (x0 x1:D):F_45 [x0,x1]=(do let o<-G_45 [some x0,some x1,none,none];zbX o):=rfl
def zc1:FE:=zaf 0
def zcO:FT:=zdz dLe (zaB (zaj 2 F_45) (zac (zaf 1) (zac (cK (.int 4)) zap))) (zaf 2)
def zbK:FS:=zas (zbN 8 (zaA (zlo (zac (zaf 3) zap)) (za7 0) zcO zc1 [none,some 0,some 5])) (zas (sIf (zdz dEq (zaf 8) (zkz zap)) (zbN 8 (zkz (zac (zaB (zaj 2 F_45) (zac (zaf 0) (zac (zaf 3) zap))) zap))) zd5) (zfi (zel (zaf 6) (zg2 (zac (zaB zc4 (zac (zaf 8) zap)) (zac (cOp zes (cK (.int 1)) (zaB (zaj 2 F_45) (zac (zaf 0) (zac (zaf 4) zap)))) zap))))))
def G_46:FS:=zas (zbN 3 (cOp zes (cK (.int 1)) (zaB (zaj 2 F_45) (zac (zaf 0) (zac (zaf 1) zap))))) (zas (zbN 4 (cOp dIx (zkz (zac (cK (.int 1)) (zac (cK (.int 3)) (zac (cK (.int 20)) (zac (cOp zui (cK (.int 10)) (cK (.int 20))) zap))))) (zaB (zaj 2 F_45) (zac (zaf 0) (zac (cK (.int 4)) zap))))) (zas (zbN 5 (zaB (zaj 2 F_45) (zac (zaf 0) (zac (cK (.int 3)) zap)))) (zas (zbN 6 (zir zap)) (zas (zkK (zlo (zac (zaB (zaj 2 F_45) (zac (zaf 0) (zac (cOp zes (zaf 2) (cK (.int 1))) zap))) zap)) (za7 7) zbK) (zbC (zg2 (zac (zaf 3) (zac (zaB zc4 (zac (zaf 6) zap)) zap))))))))
def F_46:List D->M D:=zca 9 G_46
theorem d_46 (x0 x1 x2:D):F_46 [x0,x1,x2]=(do let o<-G_46 [some x0,some x1,some x2,none,none,none,none,none,none];zbX o):=rfl
def zco:FE:=zaf 0
def zcn:FT:=zdz dIn (zaf 1) (cOp dIx (zaf 0) (cK (.int 0)))
def zeD:FE:=zaf 0
def zdo:FT:=zdz dEq (zaA (iSq (zaf 1)) (za7 0) zcn zco [none,some 0]) (zkz zap)
def G_47:FS:=zas (zsP (zaB (zaj 3 F_46) (zac (zaf 0) (zac (zaf 1) (zac (cOp zt4 (zaf 2) (cK (.int 1))) zap)))) (zgD 2 (zcH (za7 3) (zcH (za7 4) zhM)))) (zas (zbN 5 (zaB zc4 (zac (zaA (zlo (zac (zaf 3) zap)) (za7 0) zdo zeD [none,some 4]) zap))) (zas (zbN 6 (zaB (zaj 2 F_45) (zac (zaf 0) (zac (cOp zes (zaB zgt (zac (zaf 4) zap)) (cK (.int 1))) zap)))) (zas (sIf (zdz dNe (zaf 5) (zg2 zap)) (zbN 4 (cOp zes (cOp zes (cSl (zaf 4) ziD (ziA (zaf 6))) (zg2 (zac (zg2 (zac (zaf 5) (zac (cOp zes (cK (.int 1)) (zaB (zaj 2 F_45) (zac (zaf 0) (zac (cK (.int 9)) zap)))) zap))) zap))) (cSl (zaf 4) (ziA (zaf 6)) ziD))) zd5) (zbC (zg2 (zac (zaf 3) (zac (zaf 4) zap)))))))
def F_47:List D->M D:=zca 7 G_47
theorem d_47 (x0 x1 x2:D):F_47 [x0,x1,x2]=(do let o<-G_47 [some x0,some x1,some x2,none,none,none,none];zbX o):=rfl
def G_8:FS:=zbC (zmV (cUn (zi1 "tuple") (zaf 0)) (cOp dEq (zaB zgt (zac (zaf 0) zap)) (cK (.int 2))))
def F_8:List D->M D:=zca 1 G_8
theorem d_8 (x0:D):F_8 [x0]=(do let o<-G_8 [some x0];zbX o):=rfl
def G_7:FS:=zbC (zmV (cUn (zi1 "int") (zaf 0)) (ztG (cUn (zi1 "bool") (zaf 0))))
def F_7:List D->M D:=zca 1 G_7
theorem d_7 (x0:D):F_7 [x0]=(do let o<-G_7 [some x0];zbX o):=rfl
def zbB:FS:=zas (sIf (tOr (zgg (zgm (zaB (zaj 1 F_7) (zac (zaf 3) zap)))) (tOr (zdz dLt (zaf 3) (zaf 2)) (zdz dGe (zaf 3) (zaf 1)))) (zbC (cK (.bl false))) zd5) (zbN 2 (cOp zes (zaf 3) (cK (.int 1))))
def G_9:FS:=zas (sIf (zgg (zgm (cUn (zi1 "tuple") (zaf 0)))) (zbC (cK (.bl false))) zd5) (zas (zbN 2 (cK (.int 0))) (zas (zkK (iSq (zaf 0)) (za7 3) zbB) (zbC (cK (.bl true)))))
def F_9:List D->M D:=zca 4 G_9
theorem d_9 (x0 x1:D):F_9 [x0,x1]=(do let o<-G_9 [some x0,some x1,none,none];zbX o):=rfl
def G_16:FS:=zas (sIf (zgg (zgm (zaB (zaj 1 F_8) (zac (zaf 0) zap)))) (zbC (cK (.bl false))) zd5) (zas (zbN 2 (cOp dIx (zaf 0) (cK (.int 0)))) (zas (zbN 3 (cOp dIx (zaf 0) (cK (.int 1)))) (zbC (zmV (zaB (zaj 2 F_9) (zac (zaf 2) (zac (zaf 1) zap))) (zmV (cOp dGt (zaB zgt (zac (zaf 2) zap)) (cK (.int 0))) (zmV (zaB (zaj 1 F_7) (zac (zaf 3) zap)) (cOp dGt (zaf 3) (cK (.int 0)))))))))
def F_16:List D->M D:=zca 4 G_16
theorem d_16 (x0 x1:D):F_16 [x0,x1]=(do let o<-G_16 [some x0,some x1,none,none];zbX o):=rfl
def zdD:FE:=zaB (zaj 2 F_16) (zac (zaf 0) (zac (zaf 1) zap))
def G_15:FS:=zas (sIf (zgg (zgm (zaB (zaj 1 F_8) (zac (zaf 0) zap)))) (zbC (cK (.bl false))) zd5) (zas (zbN 1 (cOp dIx (zaf 0) (cK (.int 0)))) (zas (zbN 2 (cOp dIx (zaf 0) (cK (.int 1)))) (zas (sIf (tOr (zgg (zgm (zaB (zaj 1 F_7) (zac (zaf 1) zap)))) (tOr (zdz dLt (zaf 1) (cK (.int 1))) (zdz dGt (zaf 1) (cK (.int 10))))) (zbC (cK (.bl false))) zd5) (zas (sIf (tOr (zgg (zgm (cUn (zi1 "tuple") (zaf 2)))) (zdz dGt (zaB zgt (zac (zaf 2) zap)) (cK (.int 12)))) (zbC (cK (.bl false))) zd5) (zbC (zaB zrJ (zac (zaA (iSq (zaf 2)) (za7 0) (λ_=>pure true) zdD [none,some 1]) zap)))))))
def F_15:List D->M D:=zca 3 G_15
theorem d_15 (x0:D):F_15 [x0]=(do let o<-G_15 [some x0,none,none];zbX o):=rfl
def zaU:FS:=zas (sIf (zgg (zgm (zaB (zaj 1 F_15) (zac (zaf 1) zap)))) zpl zd5) (zas (zlL "Keeper" "stock" (zaf 0) (zaf 1)) (zas (zlL "Keeper" "things" (zaf 0) (zir zap)) (zlL "Keeper" "steps" (zaf 0) (zir zap))))
def F_Keeper___init__:List D->M D:=zca 2 zaU
theorem d_Keeper___init__ (x0 x1:D):F_Keeper___init__ [x0,x1]=(do let o<-zaU [some x0,some x1];zbX o):=rfl
def G_22:FS:=sIf (tOr (zgg (zgm (zaB (zaj 1 F_7) (zac (zaf 1) zap)))) (tOr (zdz dLt (zaf 1) (cK (.int 0))) (zdz dGe (zaf 1) (cOp dIx (zaf 0) (cK (.int 0)))))) zpl zd5
def F_22:List D->M D:=zca 2 G_22
theorem d_22 (x0 x1:D):F_22 [x0,x1]=(do let o<-G_22 [some x0,some x1];zbX o):=rfl
def zbR:FE:=zaf 0
def zbV:FT:=zdz dIn (zaf 2) (cOp dIx (zaf 1) (cK (.int 0)))
def G_27:FS:=zbC (zaB zc4 (zac (zaA (zvv (cOp dIx (zaf 0) (cK (.int 1)))) (zgD 2 (zcH (za7 0) (zcH (za7 1) zhM))) zbV zbR [none,none,some 1]) zap))
def F_27:List D->M D:=zca 2 G_27
theorem d_27 (x0 x1:D):F_27 [x0,x1]=(do let o<-G_27 [some x0,some x1];zbX o):=rfl
def zbh:FS:=zfi (zjp (zaf 1) (cOp dIx (zaf 2) (cK (.int 0))))
def G_25:FS:=zas (zbN 1 (zir zap)) (zas (zkK (iSq (zaf 0)) (za7 2) zbh) (zbC (zaB zc4 (zac (cUn zd1 (zaf 1)) zap))))
def F_25:List D->M D:=zca 3 G_25
theorem d_25 (x0:D):F_25 [x0]=(do let o<-G_25 [some x0,none,none];zbX o):=rfl
def G_17:FS:=zbC (zaB (zaj 2 F_9) (zac (zaf 1) (zac (zaB zgt (zac (cOp dIx (zaf 0) (cK (.int 1))) zap)) zap)))
def F_17:List D->M D:=zca 2 G_17
theorem d_17 (x0 x1:D):F_17 [x0,x1]=(do let o<-G_17 [some x0,some x1];zbX o):=rfl
def G_23:FS:=sIf (zgg (zgm (zaB (zaj 2 F_17) (zac (zaf 0) (zac (zaf 1) zap))))) zpl zd5
def F_23:List D->M D:=zca 2 G_23
theorem d_23 (x0 x1:D):F_23 [x0,x1]=(do let o<-G_23 [some x0,some x1];zbX o):=rfl
def zex:FE:=cOp dIx (cOp dIx (zaf 1) (cK (.int 1))) (zaf 0)
def G_24:FS:=zas (zfi (zaB (zaj 2 F_23) (zac (zaf 0) (zac (zaf 1) zap)))) (zbC (zaA (iSq (zaf 1)) (za7 0) (λ_=>pure true) zex [none,some 0]))
def F_24:List D->M D:=zca 2 G_24
theorem d_24 (x0 x1:D):F_24 [x0,x1]=(do let o<-G_24 [some x0,some x1];zbX o):=rfl
def G_19:FS:=zbC (zaB (zaj 1 F_25) (zac (zaB (zaj 2 F_24) (zac (zaf 0) (zac (zaf 1) zap))) zap))
def F_19:List D->M D:=zca 2 G_19
theorem d_19 (x0 x1:D):F_19 [x0,x1]=(do let o<-G_19 [some x0,some x1];zbX o):=rfl
def zcD:FE:=cOp dIx (zaf 0) (cK (.int 3))
def zaD:FS:=zbC (zgL (cUn (ziJ "Keeper" "steps") (zaf 0)) (za7 0) (λ_=>pure true) zcD [none])
def F_Keeper_in_order:List D->M D:=zca 1 zaD
theorem d_Keeper_in_order (x0:D):F_Keeper_in_order [x0]=(do let o<-zaD [some x0];zbX o):=rfl
def zaq:FS:=zbC (zaB zc4 (zac (zaB zjr (zac (zbo "Keeper" "in_order" (zaj 1 F_Keeper_in_order) (zaf 0) zap) zap)) zap))
def F_Keeper_taken:List D->M D:=zca 1 zaq
theorem d_Keeper_taken (x0:D):F_Keeper_taken [x0]=(do let o<-zaq [some x0];zbX o):=rfl
def zdh:FE:=zg2 (zac (cOp dIx (zaf 0) (cK (.int 1))) (zac (cOp dIx (zaf 0) (cK (.int 2))) zap))
def zdf:FE:=zqe (zaf 1) (zac (zaf 0) (zac (cK (.int 0)) zap))
def zaM:FS:=zas (zbN 1 (zaB zrx (zac (zgL (cUn (ziJ "Keeper" "steps") (zaf 0)) (za7 0) (λ_=>pure true) zdh [none]) zap))) (zbC (zaA (zlo (zac (cOp dIx (cUn (ziJ "Keeper" "stock") (zaf 0)) (cK (.int 0))) zap)) (za7 0) (λ_=>pure true) zdf [none,some 1]))
def F_Keeper_shares:List D->M D:=zca 2 zaM
theorem d_Keeper_shares (x0:D):F_Keeper_shares [x0]=(do let o<-zaM [some x0,none];zbX o):=rfl
def zcA:FE:=cOp dIx (zaf 1) (zaf 0)
def zby:FS:=zas (zbN 2 (cOp dIx (cOp dIx (cUn (ziJ "Keeper" "stock") (zaf 0)) (cK (.int 1))) (zaf 1))) (zas (zbN 3 (zbo "Keeper" "shares" (zaj 1 F_Keeper_shares) (zaf 0) zap)) (zbC (cOp zt4 (cOp dIx (zaf 2) (cK (.int 1))) (zaB zuk (zac (zaA (iSq (cOp dIx (zaf 2) (cK (.int 0)))) (za7 0) (λ_=>pure true) zcA [none,some 3]) zap)))))
def F_Keeper_room:List D->M D:=zca 4 zby
theorem d_Keeper_room (x0 x1:D):F_Keeper_room [x0,x1]=(do let o<-zby [some x0,some x1,none,none];zbX o):=rfl
def zdJ:FE:=zg2 (zac (zbo "Keeper" "room" (zaj 2 F_Keeper_room) (zaf 1) (zac (zaf 0) zap)) (zac (zaf 0) zap))
def zbj:FS:=zas (zfi (zaB (zaj 2 F_22) (zac (cUn (ziJ "Keeper" "stock") (zaf 0)) (zac (zaf 1) zap)))) (zas (zbN 2 (zaB (zaj 2 F_27) (zac (cUn (ziJ "Keeper" "stock") (zaf 0)) (zac (zaf 1) zap)))) (zas (sIf (zgg (ztT (zaf 2))) zpl zd5) (zas (sIf (zdz zh5 (zaf 1) (zaB (zaj 2 F_19) (zac (cUn (ziJ "Keeper" "stock") (zaf 0)) (zac (zbo "Keeper" "taken" (zaj 1 F_Keeper_taken) (zaf 0) zap) zap)))) (zas (zbN 3 (zaB znU (zac (zaA (iSq (zaf 2)) (za7 0) (λ_=>pure true) zdJ [none,some 0]) zap))) (zfi (zel (cUn (ziJ "Keeper" "steps") (zaf 0)) (zg2 (zac (zaB zgt (zac (cUn (ziJ "Keeper" "things") (zaf 0)) zap)) (zac (zaf 1) (zac (cOp dIx (zaf 3) (cK (.int 0))) (zac (cOp dIx (zaf 3) (cK (.int 1))) zap)))))))) zd5) (zfi (zel (cUn (ziJ "Keeper" "things") (zaf 0)) (zaf 1))))))
def F_Keeper_come:List D->M D:=zca 4 zbj
theorem d_Keeper_come (x0 x1:D):F_Keeper_come [x0,x1]=(do let o<-zbj [some x0,some x1,none,none];zbX o):=rfl
def zaT:FS:=zbC (zaB zoj (zac (cUn (ziJ "Keeper" "things") (zaf 0)) zap))
def F_Keeper_came:List D->M D:=zca 1 zaT
theorem d_Keeper_came (x0:D):F_Keeper_came [x0]=(do let o<-zaT [some x0];zbX o):=rfl
def zdS:FE:=cOp dIx (zaf 0) (cK (.int 1))
def G_20:FS:=zbC (zaB zuk (zac (zaA (iSq (zaB (zaj 2 F_24) (zac (zaf 0) (zac (zaf 1) zap)))) (za7 0) (λ_=>pure true) zdS [none]) zap))
def F_20:List D->M D:=zca 2 G_20
theorem d_20 (x0 x1:D):F_20 [x0,x1]=(do let o<-G_20 [some x0,some x1];zbX o):=rfl
def zaL:FS:=zbC (zaB (zaj 2 F_20) (zac (cUn (ziJ "Keeper" "stock") (zaf 0)) (zac (zbo "Keeper" "taken" (zaj 1 F_Keeper_taken) (zaf 0) zap) zap)))
def F_Keeper_paid:List D->M D:=zca 1 zaL
theorem d_Keeper_paid (x0:D):F_Keeper_paid [x0]=(do let o<-zaL [some x0];zbX o):=rfl
def zaQ:FT:=zdz dGt (zaf 3) (cK (.int 0))
def za9:FS:=zas (zbN 4 (cOp zrK (zaf 2) (zaf 3))) (zas (zbN 2 (zaf 3)) (zbN 3 (zaf 4)))
def G_11:FS:=zas (zbN 2 (zaf 0)) (zas (zbN 3 (zaf 1)) (zas (zkl 20000 zaQ za9) (zbC (zaf 2))))
def F_11:List D->M D:=zca 5 G_11
theorem d_11 (x0 x1:D):F_11 [x0,x1]=(do let o<-G_11 [some x0,some x1,none,none,none];zbX o):=rfl
def G_10:FS:=zas (zbN 2 (zaB (zaj 2 F_11) (zac (zaf 0) (zac (zaf 1) zap)))) (zbC (zg2 (zac (cOp zjP (zaf 0) (zaf 2)) (zac (cOp zjP (zaf 1) (zaf 2)) zap))))
def F_10:List D->M D:=zca 3 G_10
theorem d_10 (x0 x1:D):F_10 [x0,x1]=(do let o<-G_10 [some x0,some x1,none];zbX o):=rfl
def zcN:FS:=zas (zbN 1 (cOp zes (cOp zee (zaf 1) (cOp dIx (zaf 3) (cK (.int 1)))) (cOp zee (cOp dIx (zaf 3) (cK (.int 0))) (zaf 2)))) (zbN 2 (cOp zee (zaf 2) (cOp dIx (zaf 3) (cK (.int 1)))))
def G_14:FS:=zas (zbN 1 (cK (.int 0))) (zas (zbN 2 (cK (.int 1))) (zas (zkK (iSq (zaf 0)) (za7 3) zcN) (zbC (zaB (zaj 2 F_10) (zac (zaf 1) (zac (zaf 2) zap))))))
def F_14:List D->M D:=zca 4 G_14
theorem d_14 (x0:D):F_14 [x0]=(do let o<-G_14 [some x0,none,none,none];zbX o):=rfl
def G_12:FS:=zbC (cOp dLt (cOp zee (cOp dIx (zaf 0) (cK (.int 0))) (cOp dIx (zaf 1) (cK (.int 1)))) (cOp zee (cOp dIx (zaf 1) (cK (.int 0))) (cOp dIx (zaf 0) (cK (.int 1)))))
def F_12:List D->M D:=zca 2 G_12
theorem d_12 (x0 x1:D):F_12 [x0,x1]=(do let o<-G_12 [some x0,some x1];zbX o):=rfl
def zdL:FE:=cOp dIx (zaf 1) (zaf 0)
def G_41:FS:=zas (zbN 2 (zaB (zaj 1 F_14) (zac (zaA (iSq (cOp dIx (zaf 0) (cK (.int 0)))) (za7 0) (λ_=>pure true) zdL [none,some 1]) zap))) (zbC (ztG (zaB (zaj 2 F_12) (zac (zg2 (zac (cOp dIx (zaf 0) (cK (.int 1))) (zac (cK (.int 1)) zap))) (zac (zaf 2) zap)))))
def F_41:List D->M D:=zca 3 G_41
theorem d_41 (x0 x1:D):F_41 [x0,x1]=(do let o<-G_41 [some x0,some x1,none];zbX o):=rfl
def G_13:FS:=zas (sIf (tOr (zgg (zgm (zaB (zaj 1 F_8) (zac (zaf 0) zap)))) (tOr (zgg (zgm (zaB (zaj 1 F_7) (zac (cOp dIx (zaf 0) (cK (.int 0))) zap)))) (zgg (zgm (zaB (zaj 1 F_7) (zac (cOp dIx (zaf 0) (cK (.int 1))) zap)))))) (zbC (cK (.bl false))) zd5) (zbC (zmV (cOp dGt (cOp dIx (zaf 0) (cK (.int 1))) (cK (.int 0))) (cOp dEq (zaB (zaj 2 F_11) (zac (cOp dIx (zaf 0) (cK (.int 0))) (zac (cOp dIx (zaf 0) (cK (.int 1))) zap))) (cK (.int 1)))))
def F_13:List D->M D:=zca 1 G_13
theorem d_13 (x0:D):F_13 [x0]=(do let o<-G_13 [some x0];zbX o):=rfl
def G_40:FS:=zbC (zmV (zaB (zaj 1 F_13) (zac (zaf 0) zap)) (cOp dGe (cOp dIx (zaf 0) (cK (.int 0))) (cK (.int 0))))
def F_40:List D->M D:=zca 1 G_40
theorem d_40 (x0:D):F_40 [x0]=(do let o<-G_40 [some x0];zbX o):=rfl
def zcR:FE:=zaB (zaj 1 F_40) (zac (zaf 0) zap)
def G_39:FS:=zas (sIf (tOr (zgg (zgm (cUn (zi1 "tuple") (zaf 0)))) (zdz dNe (zaB zgt (zac (zaf 0) zap)) (zaf 1))) (zbC (cK (.bl false))) zd5) (zbC (zaB zrJ (zac (zaA (iSq (zaf 0)) (za7 0) (λ_=>pure true) zcR [none]) zap)))
def F_39:List D->M D:=zca 2 G_39
theorem d_39 (x0 x1:D):F_39 [x0,x1]=(do let o<-G_39 [some x0,some x1];zbX o):=rfl
def zcZ:FE:=zaB (zaj 2 F_41) (zac (zaf 0) (zac (zaf 1) zap))
def G_37:FS:=zbC (zmV (zaB (zaj 2 F_39) (zac (zaf 1) (zac (cOp dIx (zaf 0) (cK (.int 0))) zap))) (zaB zrJ (zac (zaA (iSq (cOp dIx (zaf 0) (cK (.int 1)))) (za7 0) (λ_=>pure true) zcZ [none,some 1]) zap)))
def F_37:List D->M D:=zca 2 G_37
theorem d_37 (x0 x1:D):F_37 [x0,x1]=(do let o<-G_37 [some x0,some x1];zbX o):=rfl
def zdy:FE:=zg2 (zac (zaf 0) (zac (cK (.int 1)) zap))
def zaF:FS:=zbC (zaB zc4 (zac (zaA (iSq (zbo "Keeper" "shares" (zaj 1 F_Keeper_shares) (zaf 0) zap)) (za7 0) (λ_=>pure true) zdy [none]) zap))
def F_Keeper_bears:List D->M D:=zca 1 zaF
theorem d_Keeper_bears (x0:D):F_Keeper_bears [x0]=(do let o<-zaF [some x0];zbX o):=rfl
def G_38:FS:=zas (sIf (zgg (zgm (zaB (zaj 2 F_37) (zac (zaf 0) (zac (zaf 1) zap))))) zpl zd5) (zbC (zaB (zaj 1 F_14) (zac (zaf 1) zap)))
def F_38:List D->M D:=zca 2 G_38
theorem d_38 (x0 x1:D):F_38 [x0,x1]=(do let o<-G_38 [some x0,some x1];zbX o):=rfl
def G_26:FS:=zbC (cOp dEq (zaB zgt (zac (zaB (zaj 1 F_25) (zac (zaf 1) zap)) zap)) (cOp dIx (zaf 0) (cK (.int 0))))
def F_26:List D->M D:=zca 2 G_26
theorem d_26 (x0 x1:D):F_26 [x0,x1]=(do let o<-G_26 [some x0,some x1];zbX o):=rfl
def G_18:FS:=zbC (zaB (zaj 2 F_26) (zac (zaf 0) (zac (cOp dIx (zaf 0) (cK (.int 1))) zap)))
def F_18:List D->M D:=zca 1 G_18
theorem d_18 (x0:D):F_18 [x0]=(do let o<-G_18 [some x0];zbX o):=rfl
def G_21:FS:=sIf (zgg (zgm (zaB (zaj 1 F_18) (zac (zaf 0) zap)))) zpl zd5
def F_21:List D->M D:=zca 1 G_21
theorem d_21 (x0:D):F_21 [x0]=(do let o<-G_21 [some x0];zbX o):=rfl
def zdv:FS:=zas (zbN 2 (cOp znG (zaf 2) (cK (.int 2)))) (sIf (zdz dIn (zaf 3) (zaf 1)) (zbN 2 (cOp zes (zaf 2) (cK (.int 1)))) zd5)
def G_35:FS:=zas (zbN 2 (cK (.int 0))) (zas (zkK (zlo (zac (zaf 0) zap)) (za7 3) zdv) (zbC (zaf 2)))
def F_35:List D->M D:=zca 4 G_35
theorem d_35 (x0 x1:D):F_35 [x0,x1]=(do let o<-G_35 [some x0,some x1,none,none];zbX o):=rfl
def zc0:FE:=zg2 (zac (cOp zes (cOp dIx (zaf 1) (cK (.int 1))) (cOp dIx (zaf 0) (cK (.int 0)))) (zac (cOp zes (zg2 (zac (zaf 2) zap)) (cOp dIx (zaf 0) (cK (.int 1)))) (zac (cOp dOr (zaf 3) (cOp dIx (zaf 0) (cK (.int 2)))) zap)))
def zbJ:FS:=zas (zbN 3 (cOp dIx (cOp dIx (zaf 0) (cK (.int 1))) (zaf 2))) (zas (zbN 4 (zaB (zaj 2 F_35) (zac (cOp dIx (zaf 0) (cK (.int 0))) (zac (cOp dIx (zaf 3) (cK (.int 0))) zap)))) (zas (zbN 5 (zaA (iSq (zaf 1)) (za7 0) (λ_=>pure true) zc0 [none,some 3,some 2,some 4])) (zbN 1 (cOp zes (cOp zes (cSl (zaf 1) ziD (ziA (cK (.int 1)))) (zaf 5)) (cSl (zaf 1) (ziA (cK (.int 1))) ziD)))))
def G_34:FS:=zas (zbN 1 (zkz (zac (zg2 (zac (cK (.int 0)) (zac (zg2 zap) (zac (cK (.int 0)) zap)))) zap))) (zas (zkK (zq3 (zac (cOp zt4 (zaB zgt (zac (cOp dIx (zaf 0) (cK (.int 1))) zap)) (cK (.int 1))) (zac (cUn zto (cK (.int 1))) (zac (cUn zto (cK (.int 1))) zap)))) (za7 2) zbJ) (zbC (zaf 1)))
def F_34:List D->M D:=zca 6 G_34
theorem d_34 (x0:D):F_34 [x0]=(do let o<-G_34 [some x0,none,none,none,none,none];zbX o):=rfl
def zb5:FE:=zg2 (zac (cOp dIx (zaf 0) (cK (.int 0))) (zac (cOp dIx (zaf 0) (cK (.int 1))) zap))
def zb2:FT:=zdz dEq (cOp dIx (zaf 0) (cK (.int 2))) (zaf 1)
def G_33:FS:=zas (zbN 1 (zaB (zaj 2 F_35) (zac (cOp dIx (zaf 0) (cK (.int 0))) (zac (cUn zhF (cOp dIx (zaf 0) (cK (.int 0)))) zap)))) (zbC (zaA (iSq (zaB (zaj 1 F_34) (zac (zaf 0) zap))) (za7 0) zb2 zb5 [none,some 1]))
def F_33:List D->M D:=zca 2 G_33
theorem d_33 (x0:D):F_33 [x0]=(do let o<-G_33 [some x0,none];zbX o):=rfl
def G_36:FS:=zas (zfi (zaB (zaj 1 F_21) (zac (zaf 0) zap))) (zbC (cOp dIx (zaB zqX (zac (zaB (zaj 1 F_33) (zac (zaf 0) zap)) zap)) (cK (.int 1))))
def F_36:List D->M D:=zca 1 G_36
theorem d_36 (x0:D):F_36 [x0]=(do let o<-G_36 [some x0];zbX o):=rfl
def zcm:FE:=cOp dIn (zaf 0) (zaf 1)
def zaP:FS:=zas (zbN 2 (zaB (zaj 2 F_19) (zac (cUn (ziJ "Keeper" "stock") (zaf 0)) (zac (zaf 1) zap)))) (zbC (zaB zrJ (zac (zaA (iSq (cUn zd1 (cUn (ziJ "Keeper" "things") (zaf 0)))) (za7 0) (λ_=>pure true) zcm [none,some 2]) zap)))
def F_Keeper_is_enough:List D->M D:=zca 3 zaP
theorem d_Keeper_is_enough (x0 x1:D):F_Keeper_is_enough [x0,x1]=(do let o<-zaP [some x0,some x1,none];zbX o):=rfl
def zbw:FE:=zaf 0
def zbt:FT:=zdz dNe (zaf 0) (zaf 1)
def za1:FS:=zas (zbN 3 (zaB zc4 (zac (zaA (iSq (zaf 1)) (za7 0) zbt zbw [none,some 2]) zap))) (sIf (zgm (zbo "Keeper" "is_enough" (zaj 2 F_Keeper_is_enough) (zaf 0) (zac (zaf 3) zap))) (zbN 1 (zaf 3)) zd5)
def zao:FS:=zas (zbN 1 (zbo "Keeper" "taken" (zaj 1 F_Keeper_taken) (zaf 0) zap)) (zas (zkK (iSq (cUn zqN (zbo "Keeper" "in_order" (zaj 1 F_Keeper_in_order) (zaf 0) zap))) (za7 2) za1) (zbC (zaf 1)))
def F_Keeper_least_kept:List D->M D:=zca 4 zao
theorem d_Keeper_least_kept (x0:D):F_Keeper_least_kept [x0]=(do let o<-zao [some x0,none,none,none];zbX o):=rfl
def zcS:FE:=zaf 0
def zcV:FT:=zdz dIn (zaf 1) (cOp dIx (zaf 0) (cK (.int 0)))
def zcQ:FE:=zaB zgt (zac (zaA (iSq (cOp dIx (zaf 1) (cK (.int 1)))) (za7 0) zcV zcS [none,some 0]) zap)
def zcP:FE:=zaf 0
def zcc:FT:=zdz zh5 (zaf 0) (zaB (zaj 2 F_19) (zac (zaf 1) (zac (zaf 2) zap)))
def zcX:FS:=sIf (zdz dNe (zaA (iSq (zaf 2)) (za7 0) zcc zcP [none,some 0,some 5]) (zkz zap)) (zbC (cK (.bl false))) zd5
def zgC:FE:=zaf 0
def zd6:FT:=zdz zh5 (zaf 0) (zbo "Keeper" "taken" (zaj 1 F_Keeper_taken) (zaf 1) zap)
def G_48:FS:=zas (zbN 2 (zbo "Keeper" "came" (zaj 1 F_Keeper_came) (zaf 1) zap)) (zas (sIf (tOr (zdz zfJ (zaB (zaj 2 F_37) (zac (zaf 0) (zac (zbo "Keeper" "bears" (zaj 1 F_Keeper_bears) (zaf 1) zap) zap))) (cK (.bl true))) (zdz dNe (zaB (zaj 2 F_20) (zac (zaf 0) (zac (zbo "Keeper" "taken" (zaj 1 F_Keeper_taken) (zaf 1) zap) zap))) (zbo "Keeper" "paid" (zaj 1 F_Keeper_paid) (zaf 1) zap))) (zbC (cK (.bl false))) zd5) (zas (zbN 3 (zaB (zaj 2 F_38) (zac (zaf 0) (zac (zbo "Keeper" "bears" (zaj 1 F_Keeper_bears) (zaf 1) zap) zap)))) (zas (zbN 4 (zaB zqQ (zac (cOp zes (zkz (zac (cK (.int 0)) zap)) (zaA (iSq (zaf 2)) (za7 0) (λ_=>pure true) zcQ [none,some 0])) zap))) (zas (sIf (tOr (zdz dNe (cOp dIx (zaf 3) (cK (.int 1))) (cK (.int 1))) (zgg (zgm (zh2 dLe dLe (cOp dIx (zaf 3) (cK (.int 0))) (zbo "Keeper" "paid" (zaj 1 F_Keeper_paid) (zaf 1) zap) (cOp znG (zaf 4) (cOp dIx (zaf 3) (cK (.int 0)))))))) (zbC (cK (.bl false))) zd5) (zas (sIf (zdz dGt (cOp dIx (zaf 3) (cK (.int 0))) (zaB (zaj 2 F_20) (zac (zaf 0) (zac (zaB (zaj 1 F_36) (zac (zaf 0) zap)) zap)))) (zbC (cK (.bl false))) zd5) (zas (zkK (iSq (zkz (zac (zbo "Keeper" "taken" (zaj 1 F_Keeper_taken) (zaf 1) zap) (zac (zbo "Keeper" "least_kept" (zaj 1 F_Keeper_least_kept) (zaf 1) zap) zap)))) (za7 5) zcX) (zbC (cOp dEq (zaA (iSq (zbo "Keeper" "least_kept" (zaj 1 F_Keeper_least_kept) (zaf 1) zap)) (za7 0) zd6 zgC [none,some 1]) (zkz zap)))))))))
def F_48:List D->M D:=zca 6 G_48
theorem d_48 (x0 x1:D):F_48 [x0,x1]=(do let o<-G_48 [some x0,some x1,none,none,none,none];zbX o):=rfl
def G_29:FS:=zbC (zmV (zaB (zaj 2 F_17) (zac (zaf 0) (zac (zaf 1) zap))) (zaB (zaj 2 F_26) (zac (zaf 0) (zac (zaB (zaj 2 F_24) (zac (zaf 0) (zac (zaf 1) zap))) zap))))
def F_29:List D->M D:=zca 2 G_29
theorem d_29 (x0 x1:D):F_29 [x0,x1]=(do let o<-G_29 [some x0,some x1];zbX o):=rfl
def G_32:FS:=sIf (zgg (zgm (zaB (zaj 2 F_29) (zac (zaf 0) (zac (zaf 1) zap))))) zpl zd5
def F_32:List D->M D:=zca 2 G_32
theorem d_32 (x0 x1:D):F_32 [x0,x1]=(do let o<-G_32 [some x0,some x1];zbX o):=rfl
def G_31:FS:=zbC (cOp zes (cSl (zaf 0) ziD (ziA (zaf 1))) (cSl (zaf 0) (ziA (cOp zes (zaf 1) (cK (.int 1)))) ziD))
def F_31:List D->M D:=zca 2 G_31
theorem d_31 (x0 x1:D):F_31 [x0,x1]=(do let o<-G_31 [some x0,some x1];zbX o):=rfl
def zeh:FE:=zaB (zaj 2 F_29) (zac (zaf 1) (zac (zaB (zaj 2 F_31) (zac (zaf 2) (zac (zaf 0) zap))) zap))
def G_30:FS:=zas (zfi (zaB (zaj 2 F_32) (zac (zaf 0) (zac (zaf 1) zap)))) (zbC (ztG (zaB zuA (zac (zaA (zlo (zac (zaB zgt (zac (zaf 1) zap)) zap)) (za7 0) (λ_=>pure true) zeh [none,some 0,some 1]) zap))))
def F_30:List D->M D:=zca 2 G_30
theorem d_30 (x0 x1:D):F_30 [x0,x1]=(do let o<-G_30 [some x0,some x1];zbX o):=rfl
def zf5:FT:=zdz zpa (zaf 5) (zkz zap)
def zfC:FS:=zas (zfi (zbo "Keeper" "come" (zaj 2 F_Keeper_come) (zaf 4) (zac (zuq (zaf 5) (zaB (zaj 2 F_45) (zac (zaf 2) (zac (zaB zgt (zac (zaf 5) zap)) zap)))) zap))) (zas (sIf (zgg (zgm (zaB (zaj 2 F_48) (zac (zaf 3) (zac (zaf 4) zap))))) (zbC (cK (.bl false))) zd5) (zas (zbN 6 (zkz (zac (zbo "Keeper" "taken" (zaj 1 F_Keeper_taken) (zaf 4) zap) (zac (zbo "Keeper" "bears" (zaj 1 F_Keeper_bears) (zaf 4) zap) (zac (zbo "Keeper" "paid" (zaj 1 F_Keeper_paid) (zaf 4) zap) (zac (zbo "Keeper" "least_kept" (zaj 1 F_Keeper_least_kept) (zaf 4) zap) zap)))))) (zas (zfi (zbo "Keeper" "come" (zaj 2 F_Keeper_come) (zaf 4) (zac (cOp dIx (zbo "Keeper" "came" (zaj 1 F_Keeper_came) (zaf 4) zap) (zaB (zaj 2 F_45) (zac (zaf 2) (zac (zaB zgt (zac (zbo "Keeper" "came" (zaj 1 F_Keeper_came) (zaf 4) zap) zap)) zap)))) zap))) (sIf (zdz zpa (zkz (zac (zbo "Keeper" "taken" (zaj 1 F_Keeper_taken) (zaf 4) zap) (zac (zbo "Keeper" "bears" (zaj 1 F_Keeper_bears) (zaf 4) zap) (zac (zbo "Keeper" "paid" (zaj 1 F_Keeper_paid) (zaf 4) zap) (zac (zbo "Keeper" "least_kept" (zaj 1 F_Keeper_least_kept) (zaf 4) zap) zap))))) (zaf 6)) (zbC (cK (.bl false))) zd5))))
def zfW:FS:=zas (zbN 2 (zaB (zaj 2 F_44) (zac (zaf 0) (zac (zaf 1) zap)))) (zas (zbN 3 (zaB (zaj 3 F_47) (zac (zaf 2) (zac (cK (.int 8)) (zac (cK (.int 9)) zap))))) (zas (zbN 4 (zaB (zoy "Keeper" (zaj 2 F_Keeper___init__)) (zac (zaf 3) zap))) (zas (zbN 5 (cUn zfT (cOp dIx (zaf 3) (cK (.int 0))))) (zas (zkl 1000 zf5 zfC) (zas (sIf (tOr (zdz zfJ (zaB (zaj 2 F_29) (zac (zaf 3) (zac (zbo "Keeper" "taken" (zaj 1 F_Keeper_taken) (zaf 4) zap) zap))) (cK (.bl true))) (zdz zfJ (zaB (zaj 2 F_29) (zac (zaf 3) (zac (zbo "Keeper" "least_kept" (zaj 1 F_Keeper_least_kept) (zaf 4) zap) zap))) (cK (.bl true)))) (zbC (cK (.bl false))) zd5) (zas (sIf (zdz zfJ (zaB (zaj 2 F_30) (zac (zaf 3) (zac (zbo "Keeper" "least_kept" (zaj 1 F_Keeper_least_kept) (zaf 4) zap) zap))) (cK (.bl true))) (zbC (cK (.bl false))) zd5) (sIf (zdz dLt (zaB (zaj 2 F_20) (zac (zaf 3) (zac (zbo "Keeper" "least_kept" (zaj 1 F_Keeper_least_kept) (zaf 4) zap) zap))) (zaB (zaj 2 F_20) (zac (zaf 3) (zac (zaB (zaj 1 F_36) (zac (zaf 3) zap)) zap)))) (zbC (cK (.bl false))) zd5)))))))
def G_49:FS:=zas (zkK (zlo (zac (zaB zqn (zac (cK (.int 1)) (zac (zaB zra (zac (zaB zgt (zac (zaf 0) zap)) (zac (cK (.int 3)) zap))) zap))) zap)) (za7 1) zfW) (zbC (cK (.bl true)))
def F_49:List D->M D:=zca 7 G_49
theorem d_49 (x0:D):F_49 [x0]=(do let o<-G_49 [some x0,none,none,none,none,none,none];zbX o):=rfl
end K95
set_option genInjectivity false
set_option genSizeOf false
set_option genSizeOfSpec false
namespace K95
open L2 L3
set_option hygiene false in
local macro_rules
|`(tactic|ext a)=>`(tactic|refine zaa ?_ ?_)
|`(tactic|ext b)=>`(tactic|exact (hr.mono (by decide)))
|`(tactic|ext c)=>`(tactic|refine zaC (C:=t.a_28) (names:=["stock","things","steps"]) (k:=2) (g:=t.a_Keeper_taken) (fd:=t.d_Keeper_taken) (ps:=["self"]) ?_ ?_ ?_ ?_ ?_ ?_)
|`(tactic|ext d)=>`(tactic|refine zaC (C:=t.a_28) (names:=["stock","things","steps"]) (k:=8) (g:=t.a_Keeper_least_kept) (fd:=t.d_Keeper_least_kept) (ps:=["self"]) ?_ ?_ ?_ ?_ ?_ ?_)
|`(tactic|ext e)=>`(tactic|refine zag ?_ ?_)
|`(tactic|ext f)=>`(tactic|refine zet (C:=t.a_28) (names:=["stock","things","steps"]) ?_ ?_ ?_)
|`(tactic|ext g)=>`(tactic|exact zab 0)
|`(tactic|ext h)=>`(tactic|refine zam (k:=1) (g:=t.a_45) (fd:=t.d_45) (ps:=["box","many"]) ?_ ?_ ?_ ?_ ?_ ?_)
|`(tactic|ext i)=>`(tactic|refine zbx ?_ ?_)
|`(tactic|ext j)=>`(tactic|refine zah ?_)
|`(tactic|ext k)=>`(tactic|refine zcu ?_ ?_ ?_)
|`(tactic|ext l)=>`(tactic|exact zad)
|`(tactic|ext m)=>`(tactic|refine zaC (C:=t.a_28) (names:=["stock","things","steps"]) (k:=2) (g:=t.a_Keeper_bears) (fd:=t.d_Keeper_bears) (ps:=["self"]) ?_ ?_ ?_ ?_ ?_ ?_)
|`(tactic|ext n)=>`(tactic|refine zaC (C:=t.a_28) (names:=["stock","things","steps"]) (k:=7) (g:=t.a_Keeper_paid) (fd:=t.d_Keeper_paid) (ps:=["self"]) ?_ ?_ ?_ ?_ ?_ ?_)
|`(tactic|ext o)=>`(tactic|exact zab 1)
|`(tactic|ext p)=>`(tactic|refine zaz ?_)
|`(tactic|ext q)=>`(tactic|exact (zaH.name (i:=0) rfl))
|`(tactic|ext r)=>`(tactic|exact zal)
|`(tactic|ext s)=>`(tactic|refine zaO ?_ ?_ ?_)
|`(tactic|ext t)=>`(tactic|refine zaG (id:="len") ?_ ?_ ?_ ?_)
|`(tactic|ext u)=>`(tactic|refine zej ?_ ?_ ?_)
|`(tactic|ext v)=>`(tactic|refine zam (k:=1) (g:=t.a_7) (fd:=t.d_7) (ps:=["thing"]) ?_ ?_ ?_ ?_ ?_ ?_)
|`(tactic|ext w)=>`(tactic|refine zaC (C:=t.a_28) (names:=["stock","things","steps"]) (k:=1) (g:=t.a_Keeper_came) (fd:=t.d_Keeper_came) (ps:=["self"]) ?_ ?_ ?_ ?_ ?_ ?_)
|`(tactic|ext x)=>`(tactic|refine zam (k:=6) (g:=t.a_20) (fd:=t.d_20) (ps:=["stock","lot"]) ?_ ?_ ?_ ?_ ?_ ?_)
|`(tactic|ext y)=>`(tactic|exact T.I_28)
|`(tactic|ext z)=>`(tactic|exact (BOk.of (Xn:=(zae s_48).names) (XN:=["stock","keeper","row","borne","most","lot"]) rfl rfl rfl ⋯))
|`(tactic|ext A)=>`(tactic|exact ⋯)
|`(tactic|ext B)=>`(tactic|refine zam (k:=6) (g:=t.a_29) (fd:=t.d_29) (ps:=["stock","thing"]) ?_ ?_ ?_ ?_ ?_ ?_)
|`(tactic|ext C)=>`(tactic|refine zj9 (C:=t.a_28) (names:=["stock","things","steps"]) (k:=7) (g:=t.a_Keeper_come) (fd:=t.d_Keeper_come) (ps:=["self","thing"]) ?_ ?_ ?_ ?_ ?_ ?_ ?_)
|`(tactic|ext D)=>`(tactic|refine zaC (C:=t.a_28) (names:=["stock","things","steps"]) (k:=1) (g:=t.a_Keeper_in_order) (fd:=t.d_Keeper_in_order) (ps:=["self"]) ?_ ?_ ?_ ?_ ?_ ?_)
|`(tactic|ext E)=>`(tactic|refine zaC (C:=t.a_28) (names:=["stock","things","steps"]) (k:=1) (g:=t.a_Keeper_shares) (fd:=t.d_Keeper_shares) (ps:=["self"]) ?_ ?_ ?_ ?_ ?_ ?_)
|`(tactic|ext F)=>`(tactic|refine zaJ 2 ?_ ?_)
|`(tactic|ext G)=>`(tactic|exact zab 2)
|`(tactic|ext H)=>`(tactic|exact zab 3)
|`(tactic|ext I)=>`(tactic|refine zcb (T:="tuple") ?_ ?_ ?_ ?_)
|`(tactic|ext J)=>`(tactic|refine zam (k:=5) (g:=t.a_24) (fd:=t.d_24) (ps:=["stock","lot"]) ?_ ?_ ?_ ?_ ?_ ?_)
|`(tactic|ext K)=>`(tactic|refine zam (k:=6) (g:=t.a_19) (fd:=t.d_19) (ps:=["stock","lot"]) ?_ ?_ ?_ ?_ ?_ ?_)
|`(tactic|ext L)=>`(tactic|refine zam (k:=1) (g:=t.a_8) (fd:=t.d_8) (ps:=["thing"]) ?_ ?_ ?_ ?_ ?_ ?_)
|`(tactic|ext M)=>`(tactic|refine zgo ?_ ?_ ?_ ?_ ?_)
|`(tactic|ext N)=>`(tactic|refine zmN (C:=t.a_28) (names:=["stock","things","steps"]) ?_ ?_ ?_ ?_)
|`(tactic|ext O)=>`(tactic|exact PassesOwn.never)
|`(tactic|ext P)=>`(tactic|refine zcB ?_)
|`(tactic|ext Q)=>`(tactic|exact (BOk.of (Xn:=(zae zbc).names) (XN:=["self","borne"]) rfl rfl rfl ⋯))
|`(tactic|ext R)=>`(tactic|exact rfl)
|`(tactic|ext S)=>`(tactic|refine zam (k:=2) (g:=t.a_26) (fd:=t.d_26) (ps:=["stock","offers"]) ?_ ?_ ?_ ?_ ?_ ?_)
|`(tactic|ext T)=>`(tactic|refine zam (k:=3) (g:=t.a_17) (fd:=t.d_17) (ps:=["stock","thing"]) ?_ ?_ ?_ ?_ ?_ ?_)
|`(tactic|ext U)=>`(tactic|refine zam (k:=5) (g:=t.a_37) (fd:=t.d_37) (ps:=["stock","thing"]) ?_ ?_ ?_ ?_ ?_ ?_)
|`(tactic|ext V)=>`(tactic|refine zam (k:=1) (g:=t.a_35) (fd:=t.d_35) (ps:=["many","things"]) ?_ ?_ ?_ ?_ ?_ ?_)
|`(tactic|ext W)=>`(tactic|refine zaJ 3 ?_ ?_)
|`(tactic|ext X)=>`(tactic|refine zam (k:=1) (g:=t.a_11) (fd:=t.d_11) (ps:=["top","bottom"]) ?_ ?_ ?_ ?_ ?_ ?_)
|`(tactic|ext Y)=>`(tactic|refine zam (k:=2) (g:=t.a_9) (fd:=t.d_9) (ps:=["thing","bound"]) ?_ ?_ ?_ ?_ ?_ ?_)
|`(tactic|ext Z)=>`(tactic|exact T.M_Keeper_least_kept)
|`(tactic|ext aa)=>`(tactic|exact T.b_Keeper_least_kept)
|`(tactic|ext ab)=>`(tactic|exact T.M_Keeper_taken)
|`(tactic|ext ac)=>`(tactic|exact T.b_Keeper_taken)
|`(tactic|ext ad)=>`(tactic|refine zbS ?_)
|`(tactic|ext ae)=>`(tactic|exact zab 4)
|`(tactic|ext af)=>`(tactic|refine zb0 ?_)
|`(tactic|ext ag)=>`(tactic|refine ze4 ?_ ?_)
|`(tactic|ext ah)=>`(tactic|refine zgq ?_ ?_ ?_)
|`(tactic|ext ai)=>`(tactic|refine zdF ?_)
|`(tactic|ext aj)=>`(tactic|refine zaJ 1 ?_ ?_)
|`(tactic|ext ak)=>`(tactic|exact zaX)
|`(tactic|ext al)=>`(tactic|exact T.n_len)
|`(tactic|ext am)=>`(tactic|exact (ze9 (zfc hr)))
|`(tactic|ext an)=>`(tactic|exact T.n_tuple)
|`(tactic|ext ao)=>`(tactic|refine zkQ ?_ ?_ ?_ ?_ ?_)
|`(tactic|ext ap)=>`(tactic|refine zaG (id:="all") ?_ ?_ ?_ ?_)
|`(tactic|ext aq)=>`(tactic|exact T.n_range)
|`(tactic|ext ar)=>`(tactic|exact T.F_45.kp)
|`(tactic|ext as)=>`(tactic|refine zhg ?_ ?_)
|`(tactic|ext au)=>`(tactic|refine zfk ?_)
|`(tactic|ext av)=>`(tactic|exact zaV)
|`(tactic|ext aw)=>`(tactic|exact zgb)
|`(tactic|ext ax)=>`(tactic|refine ziT ?_ ?_)
|`(tactic|ext ay)=>`(tactic|(ext j;ext p))
|`(tactic|ext az)=>`(tactic|(ext a;ext g))
|`(tactic|ext aA)=>`(tactic|(ext g;ext r))
|`(tactic|ext aB)=>`(tactic|(ext i;ext aA))
|`(tactic|ext aC)=>`(tactic|(ext a;ext o))
|`(tactic|ext aD)=>`(tactic|(ext aC;ext l))
|`(tactic|ext aE)=>`(tactic|(ext k;ext av))
|`(tactic|ext aF)=>`(tactic|(ext e;ext u))
|`(tactic|ext aG)=>`(tactic|(ext r;ext l))
|`(tactic|ext aH)=>`(tactic|(ext ay;ext aw))
|`(tactic|ext aI)=>`(tactic|(ext az;ext l))
|`(tactic|ext aJ)=>`(tactic|(ext e;ext F))
|`(tactic|ext aK)=>`(tactic|(ext q;ext P))
|`(tactic|ext aL)=>`(tactic|(ext a;ext H))
|`(tactic|ext aM)=>`(tactic|(ext ad;ext af))
|`(tactic|ext aN)=>`(tactic|(ext aH;ext ak))
|`(tactic|ext aO)=>`(tactic|(ext y;ext A))
|`(tactic|ext aP)=>`(tactic|(ext a;ext aB))
|`(tactic|ext aQ)=>`(tactic|(ext az;ext aD))
|`(tactic|ext aR)=>`(tactic|(ext aO;ext g))
|`(tactic|ext aS)=>`(tactic|(ext H;ext r))
|`(tactic|ext aT)=>`(tactic|(ext az;ext a))
|`(tactic|ext aU)=>`(tactic|(ext l;ext l))
|`(tactic|ext aV)=>`(tactic|(ext a;ext G))
|`(tactic|ext aW)=>`(tactic|(ext f;ext aR))
abbrev ya:List Str:=["stock","thing"]
abbrev yb:List Str:=["stock","lot"]
abbrev yc:List Str:=["box","most_things","most_offers"]
abbrev ye:List Str:=["self"]
abbrev yf:List Str:=["stock"]
abbrev yg:List Str:=["thing"]
abbrev yh:List Str:=["box","most_things","most_offers","many","kind","full","offers","turn","things"]
abbrev yi:List Str:=["stock","cover"]
abbrev yj:List Str:=["box","most_things","most_offers","many","offers","left","at"]
abbrev yk:List Str:=["thing","many"]
abbrev yl:List Str:=["script","k"]
abbrev ym:List Str:=["stock","lots","number","offer","bits","longer"]
abbrev yn:List Str:=["top","bottom"]
abbrev yo:List Str:=["fraction","other"]
abbrev yp:List Str:=["script","k","box","stock","keeper","left","ahead"]
abbrev yq:List Str:=["stock","bearing"]
abbrev yr:List Str:=["self","number","offer","shares"]
abbrev yt:List Str:=["stock","keeper","row","borne","most","lot"]
abbrev yu:List Str:=["self","thing","numbers","best"]
abbrev yw:List Str:=["self","stock"]
abbrev yx:List Str:=["self","kept","number","fewer"]
abbrev yy:List Str:=["stock","offers"]
abbrev yz:List Str:=["lot","place"]
abbrev yaa:List Str:=["fractions","top","bottom","fraction"]
abbrev yab:List Str:=["top","bottom","one","other","rest"]
abbrev yac:List Str:=["offer","shares"]
abbrev yad:List Str:=["stock","keeper"]
abbrev yae:List Str:=["stock","things","steps"]
abbrev yaf:List Str:=["offer","shares","borne"]
abbrev yag:List Str:=["self","number"]
abbrev yah:List Str:=["script","k","here","number","j"]
abbrev yai:List Str:=["thing","bound","least","number"]
abbrev yaj:List Str:=["thing","many","offers"]
abbrev yak:List Str:=["thing","many","things","price"]
abbrev yal:List Str:=["many","things","bits","thing"]
abbrev yam:List Str:=["fractions"]
abbrev yan:List Str:=["one","thing"]
abbrev yao:List Str:=["box","many","left","digit"]
abbrev yap:List Str:=["thing","bound"]
abbrev yaq:List Str:=["many","things"]
abbrev yar:List Str:=["self","lot"]
abbrev yas:List Str:=["offers","things","offer"]
abbrev yat:List Str:=["self","thing"]
abbrev yau:List Str:=["self","lot","had"]
abbrev yav:List Str:=["top","bottom","shared"]
abbrev yaw:List Str:=["cell","k"]
abbrev yax:List Str:=["thing","shares"]
abbrev yay:List Str:=["box","many"]
abbrev yaz:List Str:=["offers"]
abbrev yba:List Str:=["script"]
abbrev ybb:List Str:=["stock","every"]
abbrev ybc:List Str:=["cell","k","number"]
def top (i:Nat):Stmt:=PySem.Challenge.pw_cheapcovers_k95_whole_kept_covers.main.body.getD i (.Pass ⟨0,0,0,0⟩)
theorem zfc {A:Around} {k:Nat} (hr:zd8 k A):A.units+60<cLine:=by have:=hr.units;omega
theorem zkv:bootBuiltins "all"=some (.builtin "all"):=by decide +kernel
theorem zsS:bootBuiltins "any"=some (.builtin "any"):=by decide +kernel
theorem zpW:bootBuiltins "bool"=some (.type "bool"):=by decide +kernel
theorem zrc:bootBuiltins "dict"=some (.type "dict"):=by decide +kernel
theorem zlT:bootBuiltins "divmod"=some (.builtin "divmod"):=by decide +kernel
theorem zr6:bootBuiltins "int"=some (.type "int"):=by decide +kernel
theorem zcE:bootBuiltins "len"=some (.builtin "len"):=by decide +kernel
theorem zq2:bootBuiltins "list"=some (.type "list"):=by decide +kernel
theorem zpw:bootBuiltins "max"=some (.builtin "max"):=by decide +kernel
theorem zmn:bootBuiltins "min"=some (.builtin "min"):=by decide +kernel
theorem zl9:bootBuiltins "sorted"=some (.builtin "sorted"):=by decide +kernel
theorem zpE:bootBuiltins "sum"=some (.builtin "sum"):=by decide +kernel
theorem zbL:bootBuiltins "tuple"=some (.type "tuple"):=by decide +kernel
def zf4 (s:Stmt) (j:Nat):Stmt:=match s with
 | .ClassDef _ _ _ body .. => body.getD j (.Pass ⟨0,0,0,0⟩)
 | _=> .Pass ⟨0,0,0,0⟩
abbrev s_42:Stmt:=top 52
abbrev s_43:Stmt:=top 53
abbrev s_44:Stmt:=top 54
abbrev s_45:Stmt:=top 55
abbrev s_46:Stmt:=top 56
abbrev s_47:Stmt:=top 57
abbrev s_8:Stmt:=top 10
abbrev s_7:Stmt:=top 9
abbrev s_9:Stmt:=top 11
abbrev s_16:Stmt:=top 21
abbrev s_15:Stmt:=top 20
abbrev zbA:Stmt:=zf4 (top 34) 0
abbrev s_22:Stmt:=top 27
abbrev s_27:Stmt:=top 32
abbrev s_25:Stmt:=top 30
abbrev s_17:Stmt:=top 22
abbrev s_23:Stmt:=top 28
abbrev s_24:Stmt:=top 29
abbrev s_19:Stmt:=top 24
abbrev zbf:Stmt:=zf4 (top 34) 8
abbrev zb9:Stmt:=zf4 (top 34) 4
abbrev zbc:Stmt:=zf4 (top 34) 9
abbrev zbU:Stmt:=zf4 (top 34) 10
abbrev zbQ:Stmt:=zf4 (top 34) 1
abbrev zcp:Stmt:=zf4 (top 34) 3
abbrev s_20:Stmt:=top 25
abbrev zcr:Stmt:=zf4 (top 34) 6
abbrev s_11:Stmt:=top 13
abbrev s_10:Stmt:=top 12
abbrev s_14:Stmt:=top 16
abbrev s_12:Stmt:=top 14
abbrev s_41:Stmt:=top 50
abbrev s_13:Stmt:=top 15
abbrev s_40:Stmt:=top 49
abbrev s_39:Stmt:=top 48
abbrev s_37:Stmt:=top 46
abbrev zbI:Stmt:=zf4 (top 34) 5
abbrev s_38:Stmt:=top 47
abbrev s_26:Stmt:=top 31
abbrev s_18:Stmt:=top 23
abbrev s_21:Stmt:=top 26
abbrev s_35:Stmt:=top 42
abbrev s_34:Stmt:=top 41
abbrev s_33:Stmt:=top 40
abbrev s_36:Stmt:=top 44
abbrev za3:Stmt:=zf4 (top 34) 11
abbrev zaY:Stmt:=zf4 (top 34) 7
abbrev s_48:Stmt:=top 58
abbrev s_29:Stmt:=top 36
abbrev s_32:Stmt:=top 39
abbrev s_31:Stmt:=top 38
abbrev s_30:Stmt:=top 37
abbrev s_49:Stmt:=top 59
structure Ad where
 a_28:Addr
 a_42:Addr
 d_42:FuncData
 a_43:Addr
 d_43:FuncData
 a_44:Addr
 d_44:FuncData
 a_45:Addr
 d_45:FuncData
 a_46:Addr
 d_46:FuncData
 a_47:Addr
 d_47:FuncData
 a_8:Addr
 d_8:FuncData
 a_7:Addr
 d_7:FuncData
 a_9:Addr
 d_9:FuncData
 a_16:Addr
 d_16:FuncData
 a_15:Addr
 d_15:FuncData
 a_Keeper___init__:Addr
 d_Keeper___init__:FuncData
 a_22:Addr
 d_22:FuncData
 a_27:Addr
 d_27:FuncData
 a_25:Addr
 d_25:FuncData
 a_17:Addr
 d_17:FuncData
 a_23:Addr
 d_23:FuncData
 a_24:Addr
 d_24:FuncData
 a_19:Addr
 d_19:FuncData
 a_Keeper_in_order:Addr
 d_Keeper_in_order:FuncData
 a_Keeper_taken:Addr
 d_Keeper_taken:FuncData
 a_Keeper_shares:Addr
 d_Keeper_shares:FuncData
 a_Keeper_room:Addr
 d_Keeper_room:FuncData
 a_Keeper_come:Addr
 d_Keeper_come:FuncData
 a_Keeper_came:Addr
 d_Keeper_came:FuncData
 a_20:Addr
 d_20:FuncData
 a_Keeper_paid:Addr
 d_Keeper_paid:FuncData
 a_11:Addr
 d_11:FuncData
 a_10:Addr
 d_10:FuncData
 a_14:Addr
 d_14:FuncData
 a_12:Addr
 d_12:FuncData
 a_41:Addr
 d_41:FuncData
 a_13:Addr
 d_13:FuncData
 a_40:Addr
 d_40:FuncData
 a_39:Addr
 d_39:FuncData
 a_37:Addr
 d_37:FuncData
 a_Keeper_bears:Addr
 d_Keeper_bears:FuncData
 a_38:Addr
 d_38:FuncData
 a_26:Addr
 d_26:FuncData
 a_18:Addr
 d_18:FuncData
 a_21:Addr
 d_21:FuncData
 a_35:Addr
 d_35:FuncData
 a_34:Addr
 d_34:FuncData
 a_33:Addr
 d_33:FuncData
 a_36:Addr
 d_36:FuncData
 a_Keeper_is_enough:Addr
 d_Keeper_is_enough:FuncData
 a_Keeper_least_kept:Addr
 d_Keeper_least_kept:FuncData
 a_48:Addr
 d_48:FuncData
 a_29:Addr
 d_29:FuncData
 a_32:Addr
 d_32:FuncData
 a_31:Addr
 d_31:FuncData
 a_30:Addr
 d_30:FuncData
 a_49:Addr
 d_49:FuncData
structure Tx (K:W.Frag) (mg:Str->Option Value) (t:Ad):Prop where
 n_all:mg "all"=none
 n_any:mg "any"=none
 n_bool:mg "bool"=none
 n_dict:mg "dict"=none
 n_divmod:mg "divmod"=none
 n_enumerate:mg "enumerate"=none
 n_int:mg "int"=none
 n_isinstance:mg "isinstance"=none
 n_len:mg "len"=none
 n_list:mg "list"=none
 n_max:mg "max"=none
 n_min:mg "min"=none
 n_range:mg "range"=none
 n_set:mg "set"=none
 n_sorted:mg "sorted"=none
 n_sum:mg "sum"=none
 n_tuple:mg "tuple"=none
 g_28:mg "Keeper"=some (.ref t.a_28)
 I_28:zrP K "Keeper" t.a_28 yae
 Y_28:Mk K t.a_28 t.a_Keeper___init__
 c_MOST_OFFERS: ∃ k,mg "MOST_OFFERS"=some (.int 12 k)
 c_MOST_THINGS: ∃ k,mg "MOST_THINGS"=some (.int 10 k)
 m_42:mg "_law_cell"=some (.ref t.a_42)
 F_42:Fun K "_law_cell" "_law_cell" s_42 t.a_42 t.d_42
 b_42:zay K t.d_42 yl []
 m_43:mg "_law_mix"=some (.ref t.a_43)
 F_43:Fun K "_law_mix" "_law_mix" s_43 t.a_43 t.d_43
 b_43:zay K t.d_43 yaw []
 m_44:mg "_law_box"=some (.ref t.a_44)
 F_44:Fun K "_law_box" "_law_box" s_44 t.a_44 t.d_44
 b_44:zay K t.d_44 yl []
 m_45:mg "_law_take"=some (.ref t.a_45)
 F_45:Fun K "_law_take" "_law_take" s_45 t.a_45 t.d_45
 b_45:zay K t.d_45 yay []
 m_46:mg "_law_stock"=some (.ref t.a_46)
 F_46:Fun K "_law_stock" "_law_stock" s_46 t.a_46 t.d_46
 b_46:zay K t.d_46 yc []
 m_47:mg "_law_full"=some (.ref t.a_47)
 F_47:Fun K "_law_full" "_law_full" s_47 t.a_47 t.d_47
 b_47:zay K t.d_47 yc []
 m_8:mg "is_pair"=some (.ref t.a_8)
 F_8:Fun K "is_pair" "is_pair" s_8 t.a_8 t.d_8
 b_8:zay K t.d_8 yg []
 m_7:mg "is_whole"=some (.ref t.a_7)
 F_7:Fun K "is_whole" "is_whole" s_7 t.a_7 t.d_7
 b_7:zay K t.d_7 yg []
 m_9:mg "is_rising"=some (.ref t.a_9)
 F_9:Fun K "is_rising" "is_rising" s_9 t.a_9 t.d_9
 b_9:zay K t.d_9 yap []
 m_16:mg "is_offer"=some (.ref t.a_16)
 F_16:Fun K "is_offer" "is_offer" s_16 t.a_16 t.d_16
 b_16:zay K t.d_16 yk []
 m_15:mg "is_stock"=some (.ref t.a_15)
 F_15:Fun K "is_stock" "is_stock" s_15 t.a_15 t.d_15
 b_15:zay K t.d_15 yg []
 M_Keeper___init__:zi3 K t.a_28 "__init__" t.a_Keeper___init__
 F_Keeper___init__:Fun K "__init__" "Keeper.__init__" zbA t.a_Keeper___init__ t.d_Keeper___init__
 b_Keeper___init__:zay K t.d_Keeper___init__ yw []
 m_22:mg "need_thing"=some (.ref t.a_22)
 F_22:Fun K "need_thing" "need_thing" s_22 t.a_22 t.d_22
 b_22:zay K t.d_22 ya []
 m_27:mg "offers_with"=some (.ref t.a_27)
 F_27:Fun K "offers_with" "offers_with" s_27 t.a_27 t.d_27
 b_27:zay K t.d_27 ya []
 m_25:mg "things_together"=some (.ref t.a_25)
 F_25:Fun K "things_together" "things_together" s_25 t.a_25 t.d_25
 b_25:zay K t.d_25 yaz []
 m_17:mg "is_lot"=some (.ref t.a_17)
 F_17:Fun K "is_lot" "is_lot" s_17 t.a_17 t.d_17
 b_17:zay K t.d_17 ya []
 m_23:mg "need_lot"=some (.ref t.a_23)
 F_23:Fun K "need_lot" "need_lot" s_23 t.a_23 t.d_23
 b_23:zay K t.d_23 yb []
 m_24:mg "offers_of"=some (.ref t.a_24)
 F_24:Fun K "offers_of" "offers_of" s_24 t.a_24 t.d_24
 b_24:zay K t.d_24 yb []
 m_19:mg "things_of"=some (.ref t.a_19)
 F_19:Fun K "things_of" "things_of" s_19 t.a_19 t.d_19
 b_19:zay K t.d_19 yb []
 M_Keeper_in_order:zi3 K t.a_28 "in_order" t.a_Keeper_in_order
 F_Keeper_in_order:Fun K "in_order" "Keeper.in_order" zbf t.a_Keeper_in_order t.d_Keeper_in_order
 b_Keeper_in_order:zay K t.d_Keeper_in_order ye []
 M_Keeper_taken:zi3 K t.a_28 "taken" t.a_Keeper_taken
 F_Keeper_taken:Fun K "taken" "Keeper.taken" zb9 t.a_Keeper_taken t.d_Keeper_taken
 b_Keeper_taken:zay K t.d_Keeper_taken ye []
 M_Keeper_shares:zi3 K t.a_28 "shares" t.a_Keeper_shares
 F_Keeper_shares:Fun K "shares" "Keeper.shares" zbc t.a_Keeper_shares t.d_Keeper_shares
 b_Keeper_shares:zay K t.d_Keeper_shares ye []
 M_Keeper_room:zi3 K t.a_28 "room" t.a_Keeper_room
 F_Keeper_room:Fun K "room" "Keeper.room" zbU t.a_Keeper_room t.d_Keeper_room
 b_Keeper_room:zay K t.d_Keeper_room yag []
 M_Keeper_come:zi3 K t.a_28 "come" t.a_Keeper_come
 F_Keeper_come:Fun K "come" "Keeper.come" zbQ t.a_Keeper_come t.d_Keeper_come
 b_Keeper_come:zay K t.d_Keeper_come yat []
 M_Keeper_came:zi3 K t.a_28 "came" t.a_Keeper_came
 F_Keeper_came:Fun K "came" "Keeper.came" zcp t.a_Keeper_came t.d_Keeper_came
 b_Keeper_came:zay K t.d_Keeper_came ye []
 m_20:mg "price_of"=some (.ref t.a_20)
 F_20:Fun K "price_of" "price_of" s_20 t.a_20 t.d_20
 b_20:zay K t.d_20 yb []
 M_Keeper_paid:zi3 K t.a_28 "paid" t.a_Keeper_paid
 F_Keeper_paid:Fun K "paid" "Keeper.paid" zcr t.a_Keeper_paid t.d_Keeper_paid
 b_Keeper_paid:zay K t.d_Keeper_paid ye []
 m_11:mg "greatest_divisor"=some (.ref t.a_11)
 F_11:Fun K "greatest_divisor" "greatest_divisor" s_11 t.a_11 t.d_11
 b_11:zay K t.d_11 yn []
 m_10:mg "reduced"=some (.ref t.a_10)
 F_10:Fun K "reduced" "reduced" s_10 t.a_10 t.d_10
 b_10:zay K t.d_10 yn []
 m_14:mg "together"=some (.ref t.a_14)
 F_14:Fun K "together" "together" s_14 t.a_14 t.d_14
 b_14:zay K t.d_14 yam []
 m_12:mg "is_less"=some (.ref t.a_12)
 F_12:Fun K "is_less" "is_less" s_12 t.a_12 t.d_12
 b_12:zay K t.d_12 yo []
 m_41:mg "is_borne"=some (.ref t.a_41)
 F_41:Fun K "is_borne" "is_borne" s_41 t.a_41 t.d_41
 b_41:zay K t.d_41 yac []
 m_13:mg "is_fraction"=some (.ref t.a_13)
 F_13:Fun K "is_fraction" "is_fraction" s_13 t.a_13 t.d_13
 b_13:zay K t.d_13 yg []
 m_40:mg "is_share"=some (.ref t.a_40)
 F_40:Fun K "is_share" "is_share" s_40 t.a_40 t.d_40
 b_40:zay K t.d_40 yg []
 m_39:mg "are_shares"=some (.ref t.a_39)
 F_39:Fun K "are_shares" "are_shares" s_39 t.a_39 t.d_39
 b_39:zay K t.d_39 yk []
 m_37:mg "is_bearing"=some (.ref t.a_37)
 F_37:Fun K "is_bearing" "is_bearing" s_37 t.a_37 t.d_37
 b_37:zay K t.d_37 ya []
 M_Keeper_bears:zi3 K t.a_28 "bears" t.a_Keeper_bears
 F_Keeper_bears:Fun K "bears" "Keeper.bears" zbI t.a_Keeper_bears t.d_Keeper_bears
 b_Keeper_bears:zay K t.d_Keeper_bears ye []
 m_38:mg "worth_of"=some (.ref t.a_38)
 F_38:Fun K "worth_of" "worth_of" s_38 t.a_38 t.d_38
 b_38:zay K t.d_38 yq []
 m_26:mg "have_all"=some (.ref t.a_26)
 F_26:Fun K "have_all" "have_all" s_26 t.a_26 t.d_26
 b_26:zay K t.d_26 yy []
 m_18:mg "is_full"=some (.ref t.a_18)
 F_18:Fun K "is_full" "is_full" s_18 t.a_18 t.d_18
 b_18:zay K t.d_18 yf []
 m_21:mg "need_full"=some (.ref t.a_21)
 F_21:Fun K "need_full" "need_full" s_21 t.a_21 t.d_21
 b_21:zay K t.d_21 yf []
 m_35:mg "bits_of"=some (.ref t.a_35)
 F_35:Fun K "bits_of" "bits_of" s_35 t.a_35 t.d_35
 b_35:zay K t.d_35 yaq []
 m_34:mg "known_lots"=some (.ref t.a_34)
 F_34:Fun K "known_lots" "known_lots" s_34 t.a_34 t.d_34
 b_34:zay K t.d_34 yf []
 m_33:mg "priced_covers"=some (.ref t.a_33)
 F_33:Fun K "priced_covers" "priced_covers" s_33 t.a_33 t.d_33
 b_33:zay K t.d_33 yf []
 m_36:mg "cheapest_cover"=some (.ref t.a_36)
 F_36:Fun K "cheapest_cover" "cheapest_cover" s_36 t.a_36 t.d_36
 b_36:zay K t.d_36 yf []
 M_Keeper_is_enough:zi3 K t.a_28 "is_enough" t.a_Keeper_is_enough
 F_Keeper_is_enough:Fun K "is_enough" "Keeper.is_enough" za3 t.a_Keeper_is_enough t.d_Keeper_is_enough
 b_Keeper_is_enough:zay K t.d_Keeper_is_enough yar []
 M_Keeper_least_kept:zi3 K t.a_28 "least_kept" t.a_Keeper_least_kept
 F_Keeper_least_kept:Fun K "least_kept" "Keeper.least_kept" zaY t.a_Keeper_least_kept t.d_Keeper_least_kept
 b_Keeper_least_kept:zay K t.d_Keeper_least_kept ye []
 m_48:mg "_law_right"=some (.ref t.a_48)
 F_48:Fun K "_law_right" "_law_right" s_48 t.a_48 t.d_48
 b_48:zay K t.d_48 yad []
 m_29:mg "is_cover"=some (.ref t.a_29)
 F_29:Fun K "is_cover" "is_cover" s_29 t.a_29 t.d_29
 b_29:zay K t.d_29 ya []
 m_32:mg "need_cover"=some (.ref t.a_32)
 F_32:Fun K "need_cover" "need_cover" s_32 t.a_32 t.d_32
 b_32:zay K t.d_32 yi []
 m_31:mg "without_place"=some (.ref t.a_31)
 F_31:Fun K "without_place" "without_place" s_31 t.a_31 t.d_31
 b_31:zay K t.d_31 yz []
 m_30:mg "is_thin"=some (.ref t.a_30)
 F_30:Fun K "is_thin" "is_thin" s_30 t.a_30 t.d_30
 b_30:zay K t.d_30 yi []
 m_49:mg "law"=some (.ref t.a_49)
 F_49:Fun K "law" "law" s_49 t.a_49 t.d_49
 b_49:zay K t.d_49 yba []
section
variable {P:Program} {w:World} {K:W.Frag} {mg:Str->Option Value} {base:Heap} {t:Ad}
theorem sc_42:zan yl yl (zae s_42):=⟨rfl,rfl,rfl,⋯,rfl,⋯,⋯⟩
theorem ok_42 (T:Tx K mg t):zbr P w K mg base CX0 1 t.a_42 t.d_42 yl (zbG K 2 F_42):=by
 refine zaN (k:=0) (G:=G_42) (N:=yl) (ps:=yl) (st:=s_42) T.F_42 sc_42 λcdv A outer s H E hr=> ?_
 ext aF;ext s
 exact zgY
 ext o;ext t
 exact zaW
 exact zcE
 ext al;ext aI;ext ay;ext i;ext g;ext o;ext ak;ext ay;ext aE;ext k
 exact zi7
 ext r;ext o;ext r
theorem nd_43:(ybc:List Str).Nodup:=⋯
theorem sc_43:zan ybc yaw (zae s_43):=⟨rfl,rfl,rfl,⋯,rfl,⋯,⋯⟩
theorem ok_43 (T:Tx K mg t):zbr P w K mg base CX0 1 t.a_43 t.d_43 yaw (zbG K 2 F_43):=by
 refine zaN (k:=0) (G:=G_43) (N:=ybc) (ps:=yaw) (st:=s_43) T.F_43 sc_43 λcdv A outer s H E hr=> ?_
 ext aJ
 exact nd_43
 ext aE;ext k
 exact zcU
 ext aE;ext aA;ext r;ext k
 exact zcU
 ext r;ext o;ext aJ
 exact nd_43
 ext aE;ext k
 exact zhv
 ext k
 exact zcU
 ext G;ext G;ext r;ext o;ext ay;ext k
 exact zhv
 ext k
 exact zcU
 ext G;ext aE;ext G;ext r;ext r
theorem nd_44:(yah:List Str).Nodup:=⋯
theorem sc_44:zan yah yl (zae s_44):=⟨rfl,rfl,rfl,⋯,rfl,⋯,⋯⟩
theorem ok_44 (T:Tx K mg t):zbr P w K mg base CX0 2 t.a_44 t.d_44 yl (zbG K 2 F_44):=by
 have G_42:=ok_42 (P:=P) (w:=w) (base:=base) T
 have G_43:=ok_43 (P:=P) (w:=w) (base:=base) T
 refine zaN (k:=1) (G:=G_44) (N:=yah) (ps:=yl) (st:=s_44) T.F_44 sc_44 λcdv A outer s H E hr=> ?_
 ext aJ
 exact nd_44
 refine zam (k:=1) (g:=t.a_42) (fd:=t.d_42) (ps:=yl) ?_ ?_ ?_ ?_ ?_ ?_
 exact G_42
 ext b
 exact T.m_42
 exact T.F_42.kp
 exact T.b_42
 ext aQ;ext aF;ext s;ext am;ext k
 exact zhv
 ext G;ext r;ext r;ext ay
 refine zgX ?_
 ext a;ext k
 exact zoB
 ext G;ext aG;ext ak;ext e;ext W
 exact nd_44
 ext r;ext e;ext M;ext R;ext O;ext ax;ext aq;ext a;ext aG
 exact zav 4 nd_44
 ext j;ext W
 exact nd_44
 ext aE;ext k
 exact zcU
 ext aS
 refine zam (k:=1) (g:=t.a_43) (fd:=t.d_43) (ps:=yaw) ?_ ?_ ?_ ?_ ?_ ?_
 exact G_43
 ext b
 exact T.m_43
 exact T.F_43.kp
 exact T.b_43
 ext aV;ext a;ext ae;ext l;ext ay
 refine zgX ?_
 ext aL;ext l
theorem nd_45:(yao:List Str).Nodup:=⋯
theorem sc_45:zan yao yay (zae s_45):=⟨rfl,rfl,rfl,⋯,rfl,⋯,⋯⟩
theorem ok_45 (T:Tx K mg t):zbr P w K mg base CX0 1 t.a_45 t.d_45 yay (zbG K 2 F_45):=by
 refine zaN (k:=0) (G:=G_45) (N:=yao) (ps:=yay) (st:=s_45) T.F_45 sc_45 λcdv A outer s H E hr=> ?_
 ext e
 refine zqq ?_ ?_
 refine zaG (id:="divmod") ?_ ?_ ?_ ?_
 exact ziC
 exact zlT
 exact T.n_divmod
 ext aP;ext aD
 refine zly ?_ ?_
 ext R
 refine zdT ?_ ?_
 exact zav 2 nd_45
 refine zdT ?_ ?_
 exact zav 3 nd_45
 exact zjb
 ext e
 refine zqq ?_ ?_
 ext G
 refine zs2 ?_ ?_
 ext aA;ext ay;ext H
theorem nd_46:(yh:List Str).Nodup:=⋯
theorem zs3:(["thing","box","full"]:List Str).Nodup:=⋯
theorem sc_46:zan yh yc (zae s_46):=⟨rfl,rfl,rfl,⋯,rfl,⋯,⋯⟩
theorem ok_46 (T:Tx K mg t):zbr P w K mg base CX0 2 t.a_46 t.d_46 yc (zbG K 3 F_46):=by
 have G_45:=ok_45 (P:=P) (w:=w) (base:=base) T
 refine zaN (k:=1) (G:=G_46) (N:=yh) (ps:=yc) (st:=s_46) T.F_46 sc_46 λcdv A outer s H E hr=> ?_
 ext e;ext W
 exact nd_46
 ext aE;ext r;ext h
 exact G_45
 ext b
 exact T.m_45
 ext ar
 exact T.b_45
 ext aQ;ext e
 refine zaJ 4 ?_ ?_
 exact nd_46
 ext i;ext au;ext a;ext r;ext a;ext r;ext a;ext r;ext a;ext k
 exact zqp
 ext r;ext aG;ext h
 exact G_45
 ext b
 exact T.m_45
 ext ar
 exact T.b_45
 ext aT;ext aG;ext e
 refine zaJ 5 ?_ ?_
 exact nd_46
 ext h
 exact G_45
 ext b
 exact T.m_45
 ext ar
 exact T.b_45
 ext aT;ext aG;ext e
 refine zaJ 6 ?_ ?_
 exact nd_46
 refine zgX ?_
 ext l;ext e;ext M;ext R;ext O;ext ax;ext aq;ext a;ext h
 exact G_45
 ext b
 exact T.m_45
 ext ar
 exact T.b_45
 ext aT;ext aE;ext G;ext aG;ext l
 exact zav 7 nd_46
 ext e
 refine ziW 8 (N:=["thing","box","full"]) ?_ ?_ ?_ ?_ ?_ ?_ ?_ ?_
 ext R
 exact nd_46
 exact (BOk.of (Xn:=(zae s_46).names) (XN:=yh) rfl rfl rfl ⋯)
 ext q;ext ax;ext aq;ext aL;ext l
 intro _ _ _
 exact zav 0 zs3
 intro _ _ _
 refine zeA ?_
 ext s
 exact zm8
 ext h
 exact G_45
 ext b
 exact T.m_45
 ext ar
 exact T.b_45
 ext aC;ext a;ext aG;ext G
 intro _ _ _
 ext g;ext aF;ext s;ext am
 exact zab 8
 ext au;ext l;ext j
 refine zaJ 8 ?_ ?_
 exact nd_46
 ext au;ext a;ext h
 exact G_45
 ext b
 exact T.m_45
 ext ar
 exact T.b_45
 ext az;ext aL;ext aU;ext ak;ext j
 refine zea ?_
 refine zg9 ?_ ?_
 exact zab 6
 ext ai;ext a;ext I
 exact zbv
 exact zbL
 ext an;ext a
 exact zab 8
 ext l;ext a;ext aE;ext r;ext h
 exact G_45
 ext b
 exact T.m_45
 ext ar
 exact T.b_45
 ext aT;ext ae;ext aU;ext ay;ext ai;ext aL;ext a;ext I
 exact zbv
 exact zbL
 ext an;ext a
 exact zab 6
 ext aU
theorem nd_47:(yj:List Str).Nodup:=⋯
theorem zu3:(["thing","offers"]:List Str).Nodup:=⋯
theorem zuU:(yan:List Str).Nodup:=⋯
theorem sc_47:zan yj yc (zae s_47):=⟨rfl,rfl,rfl,⋯,rfl,⋯,⋯⟩
theorem ok_47 (T:Tx K mg t):zbr P w K mg base CX0 3 t.a_47 t.d_47 yc (zbG K 3 F_47):=by
 have G_46:=ok_46 (P:=P) (w:=w) (base:=base) T
 have G_45:=ok_45 (P:=P) (w:=w) (base:=base) T
 refine zaN (k:=2) (G:=G_47) (N:=yj) (ps:=yc) (st:=s_47) T.F_47 sc_47 λcdv A outer s H E hr=> ?_
 ext e
 refine zqq ?_ ?_
 refine zam (k:=2) (g:=t.a_46) (fd:=t.d_46) (ps:=yc) ?_ ?_ ?_ ?_ ?_ ?_
 exact G_46
 ext b
 exact T.m_46
 exact T.F_46.kp
 exact T.b_46
 ext az;ext aC;ext a;ext k
 exact zjc
 ext G;ext aG
 refine zly ?_ ?_
 ext R
 refine zdT ?_ ?_
 exact zav 3 nd_47
 refine zdT ?_ ?_
 exact zav 4 nd_47
 exact zjb
 ext e
 refine zaJ 5 ?_ ?_
 exact nd_47
 ext I
 exact zbv
 exact zbL
 ext an;ext a
 refine zbH (N:=["thing","offers"]) ?_ ?_ ?_ ?_ ?_ ?_ ?_
 ext R
 exact (BOk.of (Xn:=(zae s_47).names) (XN:=yj) rfl rfl rfl ⋯)
 ext q;ext ax;ext aq;ext aL;ext l
 intro _ _ _
 exact zav 0 zu3
 intro _ _ _
 refine zeA ?_
 ext s;ext am
 refine zbH (N:=yan) ?_ ?_ ?_ ?_ ?_ ?_ ?_
 ext R
 exact (BOk.of (N:=yan) (src:=[none,some 0]) rfl rfl rfl (by rfl))
 ext aK;ext o
 intro _ _ _
 exact zav 0 zuU
 intro _ _ _
 refine zeA ?_
 ext s
 exact (ziR (zfc hr))
 ext o;ext aB
 intro _ _ _
 ext g;ext au;ext l
 intro _ _ _
 ext g;ext l;ext e
 refine zaJ 6 ?_ ?_
 exact nd_47
 ext h
 exact G_45
 ext b
 exact T.m_45
 ext ar
 exact T.b_45
 ext aT;ext aE;ext t
 exact zaW
 exact zcE
 ext al;ext a;ext ae;ext l;ext aG;ext aF;ext s
 exact (zgZ (zfc hr))
 exact zab 5
 ext ai;ext l;ext j
 refine zaJ 4 ?_ ?_
 exact nd_47
 ext aE;ext aE
 refine zdV ?_ ?_ ?_
 ext ae
 exact ze5
 refine ze6 ?_
 exact zab 6
 ext ai;ext a;ext ai;ext a
 exact zab 5
 ext a;ext aE;ext r;ext h
 exact G_45
 ext b
 exact T.m_45
 ext ar
 exact T.b_45
 ext aT;ext aG;ext aU
 refine zdV ?_ ?_ ?_
 ext ae
 refine ze6 ?_
 exact zab 6
 exact ze5
 ext ak;ext ay;ext ai;ext aL;ext a;ext ae;ext l
theorem sc_8:zan yg yg (zae s_8):=⟨rfl,rfl,rfl,⋯,rfl,⋯,⋯⟩
theorem ok_8 (T:Tx K mg t):zbr P w K mg base CX0 1 t.a_8 t.d_8 yg (zbG K 1 F_8):=by
 refine zaN (k:=0) (G:=G_8) (N:=yg) (ps:=yg) (st:=s_8) T.F_8 sc_8 λcdv A outer s H E hr=> ?_
 ext ay;ext as;ext ao
 exact zeT
 exact zbL
 exact T.n_isinstance
 ext an;ext g
 refine zjI ?_
 ext ah;ext am;ext t
 exact zaW
 exact zcE
 ext al;ext aI;ext r
theorem sc_7:zan yg yg (zae s_7):=⟨rfl,rfl,rfl,⋯,rfl,⋯,⋯⟩
theorem ok_7 (T:Tx K mg t):zbr P w K mg base CX0 1 t.a_7 t.d_7 yg (zbG K 1 F_7):=by
 refine zaN (k:=0) (G:=G_7) (N:=yg) (ps:=yg) (st:=s_7) T.F_7 sc_7 λcdv A outer s H E hr=> ?_
 ext ay;ext as;ext ao
 exact zrj
 exact zr6
 exact T.n_isinstance
 exact T.n_int
 ext g
 refine zjI ?_
 refine zq4 ?_
 ext ao
 exact zoe
 exact zpW
 exact T.n_isinstance
 exact T.n_bool
 ext g
theorem nd_9:(yai:List Str).Nodup:=⋯
theorem sc_9:zan yai yap (zae s_9):=⟨rfl,rfl,rfl,⋯,rfl,⋯,⋯⟩
theorem ok_9 (T:Tx K mg t):zbr P w K mg base CX0 2 t.a_9 t.d_9 yap (zbG K 2 F_9):=by
 have G_7:=ok_7 (P:=P) (w:=w) (base:=base) T
 refine zaN (k:=1) (G:=G_9) (N:=yai) (ps:=yap) (st:=s_9) T.F_9 sc_9 λcdv A outer s H E hr=> ?_
 ext aF;ext aM;ext ao
 exact zeT
 exact zbL
 exact T.n_isinstance
 ext an;ext g;ext aN;ext aJ
 exact nd_9
 ext r;ext e;ext M;ext R;ext O;ext P;ext g
 exact zav 3 nd_9
 ext aF
 refine zdm ?_
 ext ag;ext aM;ext v
 exact G_7
 ext b
 exact T.m_7
 exact T.F_7.kp
 exact T.b_7
 ext aL;ext l;ext ag;ext s
 exact zgY
 ext H;ext G
 refine zeu ?_
 ext s
 exact zlS
 ext H;ext o;ext aN;ext j;ext F
 exact nd_9
 ext aE;ext aS;ext aH
theorem nd_16:(yak:List Str).Nodup:=⋯
theorem sc_16:zan yak yk (zae s_16):=⟨rfl,rfl,rfl,⋯,rfl,⋯,⋯⟩
theorem ok_16 (T:Tx K mg t):zbr P w K mg base CX0 3 t.a_16 t.d_16 yk (zbG K 2 F_16):=by
 have G_8:=ok_8 (P:=P) (w:=w) (base:=base) T
 have G_7:=ok_7 (P:=P) (w:=w) (base:=base) T
 have G_9:=ok_9 (P:=P) (w:=w) (base:=base) T
 refine zaN (k:=2) (G:=G_16) (N:=yak) (ps:=yk) (st:=s_16) T.F_16 sc_16 λcdv A outer s H E hr=> ?_
 ext aF;ext aM;ext L
 exact G_8
 ext b
 exact T.m_8
 exact T.F_8.kp
 exact T.b_8
 ext aI;ext aN;ext aJ
 exact nd_16
 ext aB;ext e;ext W
 exact nd_16
 ext aB;ext ay;ext as;ext Y
 exact G_9
 ext b
 exact T.m_9
 exact T.F_9.kp
 exact T.b_9
 ext aV;ext aD;ext as;ext ah
 exact zf2
 ext t
 exact zaW
 exact zcE
 ext al;ext aV;ext l;ext r;ext as;ext v
 exact G_7
 ext b
 exact T.m_7
 exact T.F_7.kp
 exact T.b_7
 ext aL;ext l
 refine zjI ?_
 ext ah
 exact zf2
 ext aS
theorem nd_15:(yaj:List Str).Nodup:=⋯
theorem zsW:(["offer","many"]:List Str).Nodup:=⋯
theorem sc_15:zan yaj yg (zae s_15):=⟨rfl,rfl,rfl,⋯,rfl,⋯,⋯⟩
theorem ok_15 (T:Tx K mg t):zbr P w K mg base CX0 4 t.a_15 t.d_15 yg (zbG K 1 F_15):=by
 have G_8:=ok_8 (P:=P) (w:=w) (base:=base) T
 have G_7:=ok_7 (P:=P) (w:=w) (base:=base) T
 have G_16:=ok_16 (P:=P) (w:=w) (base:=base) T
 refine zaN (k:=3) (G:=G_15) (N:=yaj) (ps:=yg) (st:=s_15) T.F_15 sc_15 λcdv A outer s H E hr=> ?_
 ext aF;ext aM;ext L
 exact G_8
 ext b
 exact T.m_8
 exact T.F_8.kp
 exact T.b_8
 ext aI;ext aN;ext e;ext aj
 exact nd_15
 ext aB;ext aJ
 exact nd_15
 ext aB;ext aF
 refine zdm ?_
 ext ag;ext aM;ext v
 exact G_7
 ext b
 exact T.m_7
 exact T.F_7.kp
 exact T.b_7
 ext aD;ext ag;ext s
 exact zgY
 ext o;ext r
 refine zeu ?_
 ext s
 exact zf2
 ext o
 exact znu T.c_MOST_THINGS
 ext aN;ext aF
 refine zdm ?_
 ext ag;ext aM;ext ao
 exact zeT
 exact zbL
 exact T.n_isinstance
 ext an;ext G
 refine zeu ?_
 ext s
 exact zf2
 ext t
 exact zaW
 exact zcE
 ext al;ext aV;ext l
 exact znu T.c_MOST_OFFERS
 ext aN;ext ay;ext ap
 exact (zeR rfl)
 exact zkv
 exact T.n_all
 ext a
 refine zbH (N:=["offer","many"]) ?_ ?_ ?_ ?_ ?_ ?_ ?_
 ext R
 exact (BOk.of (Xn:=(zae s_15).names) (XN:=yaj) rfl rfl rfl ⋯)
 ext aK;ext G
 intro _ _ _
 exact zav 0 zsW
 intro _ _ _
 exact zcl
 intro _ _ _
 refine zam (k:=3) (g:=t.a_16) (fd:=t.d_16) (ps:=yk) ?_ ?_ ?_ ?_ ?_ ?_
 exact G_16
 ext b
 exact T.m_16
 exact T.F_16.kp
 exact T.b_16
 ext aQ;ext l
theorem zeN:zan yw yw (zae zbA):=⟨rfl,rfl,rfl,⋯,rfl,⋯,⋯⟩
theorem zeC (T:Tx K mg t):zbr P w K mg base CX0 5 t.a_Keeper___init__ t.d_Keeper___init__ yw (zbG K 2 F_Keeper___init__):=by
 have G_15:=ok_15 (P:=P) (w:=w) (base:=base) T
 refine zaN (k:=4) (G:=zaU) (N:=yw) (ps:=yw) (st:=zbA) T.F_Keeper___init__ zeN λcdv A outer s H E hr=> ?_
 ext aF;ext aM
 refine zam (k:=4) (g:=t.a_15) (fd:=t.d_15) (ps:=yg) ?_ ?_ ?_ ?_ ?_ ?_
 exact G_15
 ext b
 exact T.m_15
 exact T.F_15.kp
 exact T.b_15
 ext aD;ext j
 exact zjC
 ext ak;ext e;ext N;ext aR;ext o;ext e;ext N;ext aR
 refine zgX ?_
 ext l;ext j;ext N;ext aR
 refine zgX ?_
 ext l
theorem sc_22:zan ya ya (zae s_22):=⟨rfl,rfl,rfl,⋯,rfl,⋯,⋯⟩
theorem ok_22 (T:Tx K mg t):zbr P w K mg base CX0 2 t.a_22 t.d_22 ya (zbG K 2 F_22):=by
 have G_7:=ok_7 (P:=P) (w:=w) (base:=base) T
 refine zaN (k:=1) (G:=G_22) (N:=ya) (ps:=ya) (st:=s_22) T.F_22 sc_22 λcdv A outer s H E hr=> ?_
 ext j;ext u
 refine zdm ?_
 ext ag;ext aM;ext v
 exact G_7
 ext b
 exact T.m_7
 exact T.F_7.kp
 exact T.b_7
 ext aD;ext ag;ext s
 exact zgY
 ext o;ext r
 refine zeu ?_
 ext s
 exact zlS
 ext o;ext aB;ext j
 exact zjC
 ext ak
theorem zpz:(["number","offer","thing"]:List Str).Nodup:=⋯
theorem sc_27:zan ya ya (zae s_27):=⟨rfl,rfl,rfl,⋯,rfl,⋯,⋯⟩
theorem ok_27 (T:Tx K mg t):zbr P w K mg base CX0 1 t.a_27 t.d_27 ya (zbG K 2 F_27):=by
 refine zaN (k:=0) (G:=G_27) (N:=ya) (ps:=ya) (st:=s_27) T.F_27 sc_27 λcdv A outer s H E hr=> ?_
 ext ay;ext I
 exact zbv
 exact zbL
 ext an;ext a
 refine zbH (N:=["number","offer","thing"]) ?_ ?_ ?_ ?_ ?_ ?_ ?_
 ext R
 exact (BOk.of (Xn:=(zae s_27).names) (XN:=ya) rfl rfl rfl ⋯)
 exact (zaH.tup (zdr.cons (i:=0) rfl (zdr.cons (i:=1) rfl zdr.nil)))
 refine zsf ?_ ?_
 exact T.n_enumerate
 ext aB
 intro _ _ _
 refine zly ?_ ?_
 ext R
 refine zdT ?_ ?_
 exact zav 0 zpz
 refine zdT ?_ ?_
 exact zav 1 zpz
 exact zjb
 intro _ _ _
 refine zeA ?_
 ext s
 exact (ziR (zfc hr))
 ext G;ext i;ext o;ext r
 intro _ _ _
 ext g;ext l
theorem nd_25:(yas:List Str).Nodup:=⋯
theorem sc_25:zan yas yaz (zae s_25):=⟨rfl,rfl,rfl,⋯,rfl,⋯,⋯⟩
theorem ok_25 (T:Tx K mg t):zbr P w K mg base CX0 1 t.a_25 t.d_25 yaz (zbG K 1 F_25):=by
 refine zaN (k:=0) (G:=G_25) (N:=yas) (ps:=yaz) (st:=s_25) T.F_25 sc_25 λcdv A outer s H E hr=> ?_
 ext e;ext aj
 exact nd_25
 refine zgX ?_
 ext l;ext e;ext M;ext R;ext O;ext P;ext g
 exact zav 2 nd_25
 ext j
 refine zea ?_
 refine zow ?_ ?_
 ext o;ext i;ext G;ext r;ext ay;ext I
 exact zbv
 exact zbL
 ext an;ext a
 refine zid ?_ ?_ ?_ ?_
 ext R
 exact T.n_sorted
 exact T.n_set
 ext o;ext l
theorem sc_17:zan ya ya (zae s_17):=⟨rfl,rfl,rfl,⋯,rfl,⋯,⋯⟩
theorem ok_17 (T:Tx K mg t):zbr P w K mg base CX0 3 t.a_17 t.d_17 ya (zbG K 2 F_17):=by
 have G_9:=ok_9 (P:=P) (w:=w) (base:=base) T
 refine zaN (k:=2) (G:=G_17) (N:=ya) (ps:=ya) (st:=s_17) T.F_17 sc_17 λcdv A outer s H E hr=> ?_
 ext ay;ext Y
 exact G_9
 ext b
 exact T.m_9
 exact T.F_9.kp
 exact T.b_9
 ext aC;ext a;ext t
 exact zaW
 exact zcE
 ext al;ext aP;ext aU
theorem sc_23:zan yb yb (zae s_23):=⟨rfl,rfl,rfl,⋯,rfl,⋯,⋯⟩
theorem ok_23 (T:Tx K mg t):zbr P w K mg base CX0 4 t.a_23 t.d_23 yb (zbG K 2 F_23):=by
 have G_17:=ok_17 (P:=P) (w:=w) (base:=base) T
 refine zaN (k:=3) (G:=G_23) (N:=yb) (ps:=yb) (st:=s_23) T.F_23 sc_23 λcdv A outer s H E hr=> ?_
 ext j;ext u;ext aM;ext T
 exact G_17
 ext b
 exact T.m_17
 exact T.F_17.kp
 exact T.b_17
 ext aQ;ext j
 exact zjC
 ext ak
theorem ztZ:(["number","stock"]:List Str).Nodup:=⋯
theorem sc_24:zan yb yb (zae s_24):=⟨rfl,rfl,rfl,⋯,rfl,⋯,⋯⟩
theorem ok_24 (T:Tx K mg t):zbr P w K mg base CX0 5 t.a_24 t.d_24 yb (zbG K 2 F_24):=by
 have G_23:=ok_23 (P:=P) (w:=w) (base:=base) T
 refine zaN (k:=4) (G:=G_24) (N:=yb) (ps:=yb) (st:=s_24) T.F_24 sc_24 λcdv A outer s H E hr=> ?_
 ext e
 refine zea ?_
 refine zam (k:=4) (g:=t.a_23) (fd:=t.d_23) (ps:=yb) ?_ ?_ ?_ ?_ ?_ ?_
 exact G_23
 ext b
 exact T.m_23
 exact T.F_23.kp
 exact T.b_23
 ext aQ;ext ay
 refine zbH (N:=["number","stock"]) ?_ ?_ ?_ ?_ ?_ ?_ ?_
 ext R
 exact (BOk.of (Xn:=(zae s_24).names) (XN:=yb) rfl rfl rfl ⋯)
 ext aK;ext o
 intro _ _ _
 exact zav 0 ztZ
 intro _ _ _
 exact zcl
 intro _ _ _
 ext i;ext i;ext o;ext r;ext g
theorem sc_19:zan yb yb (zae s_19):=⟨rfl,rfl,rfl,⋯,rfl,⋯,⋯⟩
theorem ok_19 (T:Tx K mg t):zbr P w K mg base CX0 6 t.a_19 t.d_19 yb (zbG K 2 F_19):=by
 have G_25:=ok_25 (P:=P) (w:=w) (base:=base) T
 have G_24:=ok_24 (P:=P) (w:=w) (base:=base) T
 refine zaN (k:=5) (G:=G_19) (N:=yb) (ps:=yb) (st:=s_19) T.F_19 sc_19 λcdv A outer s H E hr=> ?_
 ext ay
 refine zam (k:=1) (g:=t.a_25) (fd:=t.d_25) (ps:=yaz) ?_ ?_ ?_ ?_ ?_ ?_
 exact G_25
 ext b
 exact T.m_25
 exact T.F_25.kp
 exact T.b_25
 ext a;ext J
 exact G_24
 ext b
 exact T.m_24
 exact T.F_24.kp
 exact T.b_24
 ext aQ;ext l
theorem zsk:(["step"]:List Str).Nodup:=⋯
theorem zeI:zan ye ye (zae zbf):=⟨rfl,rfl,rfl,⋯,rfl,⋯,⋯⟩
theorem zcG (T:Tx K mg t):zbr P w K mg base CX0 1 t.a_Keeper_in_order t.d_Keeper_in_order ye (zbG K 1 F_Keeper_in_order):=by
 refine zaN (k:=0) (G:=zaD) (N:=ye) (ps:=ye) (st:=zbf) T.F_Keeper_in_order zeI λcdv A outer s H E hr=> ?_
 ext ay
 refine znk (N:=["step"]) ?_ ?_ ?_ ?_ ?_ ?_
 exact (BOk.of (Xn:=(zae zbf).names) (XN:=ye) rfl rfl rfl ⋯)
 ext q;ext aW
 intro _ _ _
 exact zav 0 zsk
 intro _ _ _
 exact zcl
 intro _ _ _
 ext aB
theorem zfV:zan ye ye (zae zb9):=⟨rfl,rfl,rfl,⋯,rfl,⋯,⋯⟩
theorem zbs (T:Tx K mg t):zbr P w K mg base CX0 2 t.a_Keeper_taken t.d_Keeper_taken ye (zbG K 1 F_Keeper_taken):=by
 have zaD:=zcG (P:=P) (w:=w) (base:=base) T
 refine zaN (k:=1) (G:=zaq) (N:=ye) (ps:=ye) (st:=zb9) T.F_Keeper_taken zfV λcdv A outer s H E hr=> ?_
 ext ay;ext I
 exact zbv
 exact zbL
 ext an;ext a
 refine zaG (id:="sorted") ?_ ?_ ?_ ?_
 exact (zia rfl)
 exact zl9
 exact T.n_sorted
 ext a;ext D;ext y
 exact T.M_Keeper_in_order
 exact zaD
 ext b
 exact T.b_Keeper_in_order
 ext g;ext aU
theorem zfm:(["self","borne"]:List Str).Nodup:=⋯
theorem zrW:(["step"]:List Str).Nodup:=⋯
theorem zsu:(["thing","borne"]:List Str).Nodup:=⋯
theorem zfl:zan ["self","borne"] ye (zae zbc):=⟨rfl,rfl,rfl,⋯,rfl,⋯,⋯⟩
theorem zdw (T:Tx K mg t):zbr P w K mg base CX0 1 t.a_Keeper_shares t.d_Keeper_shares ye (zbG K 1 F_Keeper_shares):=by
 refine zaN (k:=0) (G:=zaM) (N:=["self","borne"]) (ps:=ye) (st:=zbc) T.F_Keeper_shares zfl λcdv A outer s H E hr=> ?_
 ext e;ext aj
 exact zfm
 refine zcb (T:="dict") ?_ ?_ ?_ ?_
 exact (zk9 rfl)
 exact zrc
 exact T.n_dict
 ext a
 refine znk (N:=["step"]) ?_ ?_ ?_ ?_ ?_ ?_
 ext Q;ext q;ext aW
 intro _ _ _
 exact zav 0 zrW
 intro _ _ _
 exact zcl
 intro _ _ _
 ext ai;ext aP;ext aP;ext aU;ext ay
 refine zbH (N:=["thing","borne"]) ?_ ?_ ?_ ?_ ?_ ?_ ?_
 ext R;ext Q;ext q;ext ax;ext aq;ext a;ext i;ext f;ext aO;ext aA;ext l
 intro _ _ _
 exact zav 0 zsu
 intro _ _ _
 exact zcl
 intro _ _ _
 refine zsn ?_ ?_
 ext o;ext aT;ext aG
theorem zd9:(yr:List Str).Nodup:=⋯
theorem ztV:(yax:List Str).Nodup:=⋯
theorem zgr:zan yr yag (zae zbU):=⟨rfl,rfl,rfl,⋯,rfl,⋯,⋯⟩
theorem zgy (T:Tx K mg t):zbr P w K mg base CX0 2 t.a_Keeper_room t.d_Keeper_room yag (zbG K 2 F_Keeper_room):=by
 have zaM:=zdw (P:=P) (w:=w) (base:=base) T
 refine zaN (k:=1) (G:=zby) (N:=yr) (ps:=yag) (st:=zbU) T.F_Keeper_room zgr λcdv A outer s H E hr=> ?_
 ext aJ
 exact zd9
 ext i;ext i;ext f;ext aO;ext aA;ext o;ext e;ext W
 exact zd9
 ext E;ext y
 exact T.M_Keeper_shares
 exact zaM
 ext b
 exact T.b_Keeper_shares
 ext g;ext ay;ext k
 exact zjc
 ext i;ext G;ext r
 refine zaG (id:="sum") ?_ ?_ ?_ ?_
 exact (zin rfl)
 exact zpE
 exact T.n_sum
 ext a
 refine zbH (N:=yax) ?_ ?_ ?_ ?_ ?_ ?_ ?_
 ext R
 exact (BOk.of (Xn:=(zae zbU).names) (XN:=yr) rfl rfl rfl ⋯)
 ext aK;ext i;ext G;ext r
 intro _ _ _
 exact zav 0 ztV
 intro _ _ _
 exact zcl
 intro _ _ _
 ext i;ext o;ext g;ext l
theorem zed:(yu:List Str).Nodup:=⋯
theorem zuF:(["number","self"]:List Str).Nodup:=⋯
theorem zgE:zan yu yat (zae zbQ):=⟨rfl,rfl,rfl,⋯,rfl,⋯,⋯⟩
theorem zgA (T:Tx K mg t):zbr P w K mg base CX0 7 t.a_Keeper_come t.d_Keeper_come yat (zbG K 2 F_Keeper_come):=by
 have G_22:=ok_22 (P:=P) (w:=w) (base:=base) T
 have G_27:=ok_27 (P:=P) (w:=w) (base:=base) T
 have G_19:=ok_19 (P:=P) (w:=w) (base:=base) T
 have zaq:=zbs (P:=P) (w:=w) (base:=base) T
 have zby:=zgy (P:=P) (w:=w) (base:=base) T
 refine zaN (k:=6) (G:=zbj) (N:=yu) (ps:=yat) (st:=zbQ) T.F_Keeper_come zgE λcdv A outer s H E hr=> ?_
 ext e
 refine zea ?_
 refine zam (k:=2) (g:=t.a_22) (fd:=t.d_22) (ps:=ya) ?_ ?_ ?_ ?_ ?_ ?_
 exact G_22
 ext b
 exact T.m_22
 exact T.F_22.kp
 exact T.b_22
 ext a;ext aW;ext aD;ext aJ
 exact zed
 refine zam (k:=1) (g:=t.a_27) (fd:=t.d_27) (ps:=ya) ?_ ?_ ?_ ?_ ?_ ?_
 exact G_27
 ext b
 exact T.m_27
 exact T.F_27.kp
 exact T.b_27
 ext a;ext aW;ext aD;ext aF;ext ad
 refine ztL ?_
 ext G;ext j
 exact zjC
 ext ak;ext aF;ext s
 exact (zfB (zfc hr))
 ext o;ext K
 exact G_19
 ext b
 exact T.m_19
 exact T.F_19.kp
 exact T.b_19
 ext a;ext aW;ext a;ext c;ext y;ext ab
 exact zaq
 ext b;ext ac;ext g;ext l;ext e;ext W
 exact zed
 refine zaG (id:="min") ?_ ?_ ?_ ?_
 exact (zlc (zfc hr))
 exact zmn
 exact T.n_min
 ext a
 refine zbH (N:=["number","self"]) ?_ ?_ ?_ ?_ ?_ ?_ ?_
 ext R
 exact (BOk.of (Xn:=(zae zbQ).names) (XN:=yu) rfl rfl rfl ⋯)
 ext aK;ext G
 intro _ _ _
 exact zav 0 zuF
 intro _ _ _
 exact zcl
 intro _ _ _
 ext ai;ext a
 refine zj9 (C:=t.a_28) (names:=yae) (k:=2) (g:=t.a_Keeper_room) (fd:=t.d_Keeper_room) (ps:=yag) ?_ ?_ ?_ ?_ ?_ ?_ ?_
 ext y
 exact T.M_Keeper_room
 exact zby
 ext b
 exact T.b_Keeper_room
 ext o;ext aI;ext aI;ext l;ext j
 refine zea ?_
 refine zg9 ?_ ?_
 ext aW;ext ai;ext a;ext t
 exact zaW
 exact zcE
 ext al;ext a;ext aW;ext l;ext aC;ext a;ext i;ext aS;ext a;ext i;ext H;ext aG;ext ak;ext j
 refine zea ?_
 refine zg9 ?_ ?_
 ext aW;ext o
theorem zgG:zan ye ye (zae zcp):=⟨rfl,rfl,rfl,⋯,rfl,⋯,⋯⟩
theorem zec (T:Tx K mg t):zbr P w K mg base CX0 1 t.a_Keeper_came t.d_Keeper_came ye (zbG K 1 F_Keeper_came):=by
 refine zaN (k:=0) (G:=zaT) (N:=ye) (ps:=ye) (st:=zcp) T.F_Keeper_came zgG λcdv A outer s H E hr=> ?_
 ext ay
 refine zcb (T:="list") ?_ ?_ ?_ ?_
 exact zlk
 exact zq2
 exact T.n_list
 ext a;ext aW;ext l
theorem zsw:(["offer"]:List Str).Nodup:=⋯
theorem sc_20:zan yb yb (zae s_20):=⟨rfl,rfl,rfl,⋯,rfl,⋯,⋯⟩
theorem ok_20 (T:Tx K mg t):zbr P w K mg base CX0 6 t.a_20 t.d_20 yb (zbG K 2 F_20):=by
 have G_24:=ok_24 (P:=P) (w:=w) (base:=base) T
 refine zaN (k:=5) (G:=G_20) (N:=yb) (ps:=yb) (st:=s_20) T.F_20 sc_20 λcdv A outer s H E hr=> ?_
 ext ay
 refine zaG (id:="sum") ?_ ?_ ?_ ?_
 exact (zin rfl)
 exact zpE
 exact T.n_sum
 ext a
 refine zbH (N:=["offer"]) ?_ ?_ ?_ ?_ ?_ ?_ ?_
 ext R
 exact (BOk.of (Xn:=(zae s_20).names) (XN:=yb) rfl rfl rfl ⋯)
 ext aK;ext J
 exact G_24
 ext b
 exact T.m_24
 exact T.F_24.kp
 exact T.b_24
 ext aQ
 intro _ _ _
 exact zav 0 zsw
 intro _ _ _
 exact zcl
 intro _ _ _
 ext aB;ext l
theorem zgB:zan ye ye (zae zcr):=⟨rfl,rfl,rfl,⋯,rfl,⋯,⋯⟩
theorem zeb (T:Tx K mg t):zbr P w K mg base CX0 7 t.a_Keeper_paid t.d_Keeper_paid ye (zbG K 1 F_Keeper_paid):=by
 have G_20:=ok_20 (P:=P) (w:=w) (base:=base) T
 have zaq:=zbs (P:=P) (w:=w) (base:=base) T
 refine zaN (k:=6) (G:=zaL) (N:=ye) (ps:=ye) (st:=zcr) T.F_Keeper_paid zgB λcdv A outer s H E hr=> ?_
 ext ay;ext x
 exact G_20
 ext b
 exact T.m_20
 exact T.F_20.kp
 exact T.b_20
 ext a;ext aW;ext a;ext c;ext y;ext ab
 exact zaq
 ext b;ext ac;ext g;ext l
theorem nd_11:(yab:List Str).Nodup:=⋯
theorem sc_11:zan yab yn (zae s_11):=⟨rfl,rfl,rfl,⋯,rfl,⋯,⋯⟩
theorem ok_11 (T:Tx K mg t):zbr P w K mg base CX0 1 t.a_11 t.d_11 yn (zbG K 2 F_11):=by
 refine zaN (k:=0) (G:=G_11) (N:=yab) (ps:=yn) (st:=s_11) T.F_11 sc_11 λcdv A outer s H E hr=> ?_
 ext aJ
 exact nd_11
 ext g;ext e;ext W
 exact nd_11
 ext o;ext e
 refine zlq 20000 ?_ ?_ ?_
 ext O;ext s
 exact zf2
 ext aS;ext e
 refine zaJ 4 ?_ ?_
 exact nd_11
 ext k
 exact zhv
 ext G;ext H;ext aJ
 exact nd_11
 ext H;ext j;ext W
 exact nd_11
 ext ae;ext ay;ext G
theorem nd_10:(yav:List Str).Nodup:=⋯
theorem sc_10:zan yav yn (zae s_10):=⟨rfl,rfl,rfl,⋯,rfl,⋯,⋯⟩
theorem ok_10 (T:Tx K mg t):zbr P w K mg base CX0 2 t.a_10 t.d_10 yn (zbG K 2 F_10):=by
 have G_11:=ok_11 (P:=P) (w:=w) (base:=base) T
 refine zaN (k:=1) (G:=G_10) (N:=yav) (ps:=yn) (st:=s_10) T.F_10 sc_10 λcdv A outer s H E hr=> ?_
 ext aJ
 exact nd_10
 ext X
 exact G_11
 ext b
 exact T.m_11
 exact T.F_11.kp
 exact T.b_11
 ext aQ;ext ay;ext ai;ext a;ext k
 exact zkw
 ext g;ext G;ext a;ext k
 exact zkw
 ext o;ext G;ext l
theorem nd_14:(yaa:List Str).Nodup:=⋯
theorem sc_14:zan yaa yam (zae s_14):=⟨rfl,rfl,rfl,⋯,rfl,⋯,⋯⟩
theorem ok_14 (T:Tx K mg t):zbr P w K mg base CX0 3 t.a_14 t.d_14 yam (zbG K 1 F_14):=by
 have G_10:=ok_10 (P:=P) (w:=w) (base:=base) T
 refine zaN (k:=2) (G:=G_14) (N:=yaa) (ps:=yam) (st:=s_14) T.F_14 sc_14 λcdv A outer s H E hr=> ?_
 ext e;ext aj
 exact nd_14
 ext r;ext aJ
 exact nd_14
 ext r;ext e;ext M;ext R;ext O;ext P;ext g
 exact zav 3 nd_14
 ext e;ext aj
 exact nd_14
 ext aE;ext k
 exact zcU
 ext o;ext i;ext aS;ext k
 exact zcU
 ext i;ext aS;ext G;ext j;ext F
 exact nd_14
 ext k
 exact zcU
 ext G;ext i;ext aS;ext ay
 refine zam (k:=2) (g:=t.a_10) (fd:=t.d_10) (ps:=yn) ?_ ?_ ?_ ?_ ?_ ?_
 exact G_10
 ext b
 exact T.m_10
 exact T.F_10.kp
 exact T.b_10
 ext aC;ext aV;ext l
theorem sc_12:zan yo yo (zae s_12):=⟨rfl,rfl,rfl,⋯,rfl,⋯,⋯⟩
theorem ok_12 (T:Tx K mg t):zbr P w K mg base CX0 1 t.a_12 t.d_12 yo (zbG K 2 F_12):=by
 refine zaN (k:=0) (G:=G_12) (N:=yo) (ps:=yo) (st:=s_12) T.F_12 sc_12 λcdv A outer s H E hr=> ?_
 ext ay;ext ah
 exact zgY
 ext k
 exact zcU
 ext aB;ext i;ext o;ext r;ext k
 exact zcU
 ext i;ext o;ext r;ext aB
theorem nd_41:(yaf:List Str).Nodup:=⋯
theorem zsz:(yax:List Str).Nodup:=⋯
theorem sc_41:zan yaf yac (zae s_41):=⟨rfl,rfl,rfl,⋯,rfl,⋯,⋯⟩
theorem ok_41 (T:Tx K mg t):zbr P w K mg base CX0 4 t.a_41 t.d_41 yac (zbG K 2 F_41):=by
 have G_14:=ok_14 (P:=P) (w:=w) (base:=base) T
 have G_12:=ok_12 (P:=P) (w:=w) (base:=base) T
 refine zaN (k:=3) (G:=G_41) (N:=yaf) (ps:=yac) (st:=s_41) T.F_41 sc_41 λcdv A outer s H E hr=> ?_
 ext aJ
 exact nd_41
 refine zam (k:=3) (g:=t.a_14) (fd:=t.d_14) (ps:=yam) ?_ ?_ ?_ ?_ ?_ ?_
 exact G_14
 ext b
 exact T.m_14
 exact T.F_14.kp
 exact T.b_14
 ext a
 refine zbH (N:=yax) ?_ ?_ ?_ ?_ ?_ ?_ ?_
 ext R
 exact (BOk.of (Xn:=(zae s_41).names) (XN:=yaf) rfl rfl rfl ⋯)
 ext aK;ext aB
 intro _ _ _
 exact zav 0 zsz
 intro _ _ _
 exact zcl
 intro _ _ _
 ext i;ext o;ext g;ext l;ext ay
 refine zq4 ?_
 refine zam (k:=1) (g:=t.a_12) (fd:=t.d_12) (ps:=yo) ?_ ?_ ?_ ?_ ?_ ?_
 exact G_12
 ext b
 exact T.m_12
 exact T.F_12.kp
 exact T.b_12
 ext a;ext ai;ext aP;ext a;ext aG;ext aV;ext l
theorem sc_13:zan yg yg (zae s_13):=⟨rfl,rfl,rfl,⋯,rfl,⋯,⋯⟩
theorem ok_13 (T:Tx K mg t):zbr P w K mg base CX0 2 t.a_13 t.d_13 yg (zbG K 1 F_13):=by
 have G_7:=ok_7 (P:=P) (w:=w) (base:=base) T
 have G_8:=ok_8 (P:=P) (w:=w) (base:=base) T
 have G_11:=ok_11 (P:=P) (w:=w) (base:=base) T
 refine zaN (k:=1) (G:=G_13) (N:=yg) (ps:=yg) (st:=s_13) T.F_13 sc_13 λcdv A outer s H E hr=> ?_
 ext aF
 refine zdm ?_
 ext ag;ext aM;ext L
 exact G_8
 ext b
 exact T.m_8
 exact T.F_8.kp
 exact T.b_8
 ext aI;ext ag;ext aM;ext v
 exact G_7
 ext b
 exact T.m_7
 exact T.F_7.kp
 exact T.b_7
 ext aP;ext l
 refine zeu ?_
 ext aM;ext v
 exact G_7
 ext b
 exact T.m_7
 exact T.F_7.kp
 exact T.b_7
 ext aP;ext l;ext aN;ext ay;ext as;ext ah
 exact zf2
 ext aB;ext r
 refine zjI ?_
 ext ah;ext am;ext X
 exact G_11
 ext b
 exact T.m_11
 exact T.F_11.kp
 exact T.b_11
 ext aP;ext aP;ext l;ext r
theorem sc_40:zan yg yg (zae s_40):=⟨rfl,rfl,rfl,⋯,rfl,⋯,⋯⟩
theorem ok_40 (T:Tx K mg t):zbr P w K mg base CX0 3 t.a_40 t.d_40 yg (zbG K 1 F_40):=by
 have G_13:=ok_13 (P:=P) (w:=w) (base:=base) T
 refine zaN (k:=2) (G:=G_40) (N:=yg) (ps:=yg) (st:=s_40) T.F_40 sc_40 λcdv A outer s H E hr=> ?_
 ext ay;ext as
 refine zam (k:=2) (g:=t.a_13) (fd:=t.d_13) (ps:=yg) ?_ ?_ ?_ ?_ ?_ ?_
 exact G_13
 ext b
 exact T.m_13
 exact T.F_13.kp
 exact T.b_13
 ext aI
 refine zjI ?_
 ext ah
 exact zlS
 ext aB;ext r
theorem ztP:(["share"]:List Str).Nodup:=⋯
theorem sc_39:zan yk yk (zae s_39):=⟨rfl,rfl,rfl,⋯,rfl,⋯,⋯⟩
theorem ok_39 (T:Tx K mg t):zbr P w K mg base CX0 4 t.a_39 t.d_39 yk (zbG K 2 F_39):=by
 have G_40:=ok_40 (P:=P) (w:=w) (base:=base) T
 refine zaN (k:=3) (G:=G_39) (N:=yk) (ps:=yk) (st:=s_39) T.F_39 sc_39 λcdv A outer s H E hr=> ?_
 ext aF
 refine zdm ?_
 ext ag;ext aM;ext ao
 exact zeT
 exact zbL
 exact T.n_isinstance
 ext an;ext g
 refine zeu ?_
 ext s
 exact (zgZ (zfc hr))
 ext t
 exact zaW
 exact zcE
 ext al;ext aI;ext o;ext aN;ext ay;ext ap
 exact (zeR rfl)
 exact zkv
 exact T.n_all
 ext a
 refine zbH (N:=["share"]) ?_ ?_ ?_ ?_ ?_ ?_ ?_
 ext R
 exact (BOk.of (Xn:=(zae s_39).names) (XN:=yk) rfl rfl rfl ⋯)
 ext aK;ext g
 intro _ _ _
 exact zav 0 ztP
 intro _ _ _
 exact zcl
 intro _ _ _
 refine zam (k:=3) (g:=t.a_40) (fd:=t.d_40) (ps:=yg) ?_ ?_ ?_ ?_ ?_ ?_
 exact G_40
 ext b
 exact T.m_40
 exact T.F_40.kp
 exact T.b_40
 ext aI;ext l
theorem zs6:(["offer","thing"]:List Str).Nodup:=⋯
theorem sc_37:zan ya ya (zae s_37):=⟨rfl,rfl,rfl,⋯,rfl,⋯,⋯⟩
theorem ok_37 (T:Tx K mg t):zbr P w K mg base CX0 5 t.a_37 t.d_37 ya (zbG K 2 F_37):=by
 have G_41:=ok_41 (P:=P) (w:=w) (base:=base) T
 have G_39:=ok_39 (P:=P) (w:=w) (base:=base) T
 refine zaN (k:=4) (G:=G_37) (N:=ya) (ps:=ya) (st:=s_37) T.F_37 sc_37 λcdv A outer s H E hr=> ?_
 ext ay;ext as
 refine zam (k:=4) (g:=t.a_39) (fd:=t.d_39) (ps:=yk) ?_ ?_ ?_ ?_ ?_ ?_
 exact G_39
 ext b
 exact T.m_39
 exact T.F_39.kp
 exact T.b_39
 ext aC;ext aP;ext l
 refine zjI ?_
 ext ap
 exact (zeR rfl)
 exact zkv
 exact T.n_all
 ext a
 refine zbH (N:=["offer","thing"]) ?_ ?_ ?_ ?_ ?_ ?_ ?_
 ext R
 exact (BOk.of (Xn:=(zae s_37).names) (XN:=ya) rfl rfl rfl ⋯)
 ext aK;ext aB
 intro _ _ _
 exact zav 0 zs6
 intro _ _ _
 exact zcl
 intro _ _ _
 refine zam (k:=4) (g:=t.a_41) (fd:=t.d_41) (ps:=yac) ?_ ?_ ?_ ?_ ?_ ?_
 exact G_41
 ext b
 exact T.m_41
 exact T.F_41.kp
 exact T.b_41
 ext aQ;ext l
theorem zuO:(["share"]:List Str).Nodup:=⋯
theorem zfz:zan ye ye (zae zbI):=⟨rfl,rfl,rfl,⋯,rfl,⋯,⋯⟩
theorem zdP (T:Tx K mg t):zbr P w K mg base CX0 2 t.a_Keeper_bears t.d_Keeper_bears ye (zbG K 1 F_Keeper_bears):=by
 have zaM:=zdw (P:=P) (w:=w) (base:=base) T
 refine zaN (k:=1) (G:=zaF) (N:=ye) (ps:=ye) (st:=zbI) T.F_Keeper_bears zfz λcdv A outer s H E hr=> ?_
 ext ay;ext I
 exact zbv
 exact zbL
 ext an;ext a
 refine zbH (N:=["share"]) ?_ ?_ ?_ ?_ ?_ ?_ ?_
 ext R
 exact (BOk.of (Xn:=(zae zbI).names) (XN:=ye) rfl rfl rfl ⋯)
 ext aK;ext E;ext y
 exact T.M_Keeper_shares
 exact zaM
 ext b
 exact T.b_Keeper_shares
 ext g
 intro _ _ _
 exact zav 0 zuO
 intro _ _ _
 exact zcl
 intro _ _ _
 ext ai;ext aT;ext aG;ext l
theorem sc_38:zan yq yq (zae s_38):=⟨rfl,rfl,rfl,⋯,rfl,⋯,⋯⟩
theorem ok_38 (T:Tx K mg t):zbr P w K mg base CX0 6 t.a_38 t.d_38 yq (zbG K 2 F_38):=by
 have G_37:=ok_37 (P:=P) (w:=w) (base:=base) T
 have G_14:=ok_14 (P:=P) (w:=w) (base:=base) T
 refine zaN (k:=5) (G:=G_38) (N:=yq) (ps:=yq) (st:=s_38) T.F_38 sc_38 λcdv A outer s H E hr=> ?_
 ext aF;ext aM;ext U
 exact G_37
 ext b
 exact T.m_37
 exact T.F_37.kp
 exact T.b_37
 ext aQ;ext j
 exact zjC
 ext ak;ext ay
 refine zam (k:=3) (g:=t.a_14) (fd:=t.d_14) (ps:=yam) ?_ ?_ ?_ ?_ ?_ ?_
 exact G_14
 ext b
 exact T.m_14
 exact T.F_14.kp
 exact T.b_14
 ext aD
theorem sc_26:zan yy yy (zae s_26):=⟨rfl,rfl,rfl,⋯,rfl,⋯,⋯⟩
theorem ok_26 (T:Tx K mg t):zbr P w K mg base CX0 2 t.a_26 t.d_26 yy (zbG K 2 F_26):=by
 have G_25:=ok_25 (P:=P) (w:=w) (base:=base) T
 refine zaN (k:=1) (G:=G_26) (N:=yy) (ps:=yy) (st:=s_26) T.F_26 sc_26 λcdv A outer s H E hr=> ?_
 ext ay;ext ah;ext am;ext t
 exact zaW
 exact zcE
 ext al;ext a
 refine zam (k:=1) (g:=t.a_25) (fd:=t.d_25) (ps:=yaz) ?_ ?_ ?_ ?_ ?_ ?_
 exact G_25
 ext b
 exact T.m_25
 exact T.F_25.kp
 exact T.b_25
 ext aD;ext l;ext aB
theorem sc_18:zan yf yf (zae s_18):=⟨rfl,rfl,rfl,⋯,rfl,⋯,⋯⟩
theorem ok_18 (T:Tx K mg t):zbr P w K mg base CX0 3 t.a_18 t.d_18 yf (zbG K 1 F_18):=by
 have G_26:=ok_26 (P:=P) (w:=w) (base:=base) T
 refine zaN (k:=2) (G:=G_18) (N:=yf) (ps:=yf) (st:=s_18) T.F_18 sc_18 λcdv A outer s H E hr=> ?_
 ext ay;ext S
 exact G_26
 ext b
 exact T.m_26
 exact T.F_26.kp
 exact T.b_26
 ext az;ext aP;ext l
theorem sc_21:zan yf yf (zae s_21):=⟨rfl,rfl,rfl,⋯,rfl,⋯,⋯⟩
theorem ok_21 (T:Tx K mg t):zbr P w K mg base CX0 4 t.a_21 t.d_21 yf (zbG K 1 F_21):=by
 have G_18:=ok_18 (P:=P) (w:=w) (base:=base) T
 refine zaN (k:=3) (G:=G_21) (N:=yf) (ps:=yf) (st:=s_21) T.F_21 sc_21 λcdv A outer s H E hr=> ?_
 ext j;ext u;ext aM
 refine zam (k:=3) (g:=t.a_18) (fd:=t.d_18) (ps:=yf) ?_ ?_ ?_ ?_ ?_ ?_
 exact G_18
 ext b
 exact T.m_18
 exact T.F_18.kp
 exact T.b_18
 ext aI;ext j
 exact zjC
 ext ak
theorem nd_35:(yal:List Str).Nodup:=⋯
theorem sc_35:zan yal yaq (zae s_35):=⟨rfl,rfl,rfl,⋯,rfl,⋯,⋯⟩
theorem ok_35 (T:Tx K mg t):zbr P w K mg base CX0 1 t.a_35 t.d_35 yaq (zbG K 2 F_35):=by
 refine zaN (k:=0) (G:=G_35) (N:=yal) (ps:=yaq) (st:=s_35) T.F_35 sc_35 λcdv A outer s H E hr=> ?_
 ext aJ
 exact nd_35
 ext r;ext e;ext M;ext R;ext O;ext ax;ext aq;ext aI
 exact zav 3 nd_35
 ext aJ
 exact nd_35
 ext k
 exact zi7
 ext G;ext r;ext j;ext u;ext s
 exact (ziR (zfc hr))
 ext H;ext o;ext j;ext F
 exact nd_35
 ext aE;ext G;ext r;ext ak;ext ay;ext G
theorem nd_34:(ym:List Str).Nodup:=⋯
theorem ztt:(["known","offer","number","bits"]:List Str).Nodup:=⋯
theorem sc_34:zan ym yf (zae s_34):=⟨rfl,rfl,rfl,⋯,rfl,⋯,⋯⟩
theorem ok_34 (T:Tx K mg t):zbr P w K mg base CX0 2 t.a_34 t.d_34 yf (zbG K 1 F_34):=by
 have G_35:=ok_35 (P:=P) (w:=w) (base:=base) T
 refine zaN (k:=1) (G:=G_34) (N:=ym) (ps:=yf) (st:=s_34) T.F_34 sc_34 λcdv A outer s H E hr=> ?_
 ext e;ext aj
 exact nd_34
 ext au;ext a;ext ai;ext a;ext r;ext a;ext ai;ext l;ext a;ext aG;ext l;ext e;ext M;ext R;ext O
 refine ztE ?_ ?_
 ext aq;ext a;ext k
 exact zjc
 ext t
 exact zaW
 exact zcE
 ext al;ext aP;ext l;ext r;ext a
 refine zrV ?_
 ext r;ext a
 refine zrV ?_
 ext aG
 exact zav 2 nd_34
 ext e;ext W
 exact nd_34
 ext i;ext aB;ext G;ext e
 refine zaJ 4 ?_ ?_
 exact nd_34
 ext V
 exact G_35
 ext b
 exact T.m_35
 exact T.F_35.kp
 exact T.b_35
 ext aP;ext a;ext i;ext H;ext aG;ext e
 refine ziW 5 (N:=["known","offer","number","bits"]) ?_ ?_ ?_ ?_ ?_ ?_ ?_ ?_
 ext R
 exact nd_34
 exact (BOk.of (Xn:=(zae s_34).names) (XN:=ym) rfl rfl rfl ⋯)
 ext aK;ext o
 intro _ _ _
 exact zav 0 ztt
 intro _ _ _
 exact zcl
 intro _ _ _
 ext ai;ext a;ext aE;ext i;ext o;ext r;ext aB;ext a;ext aE;ext ai;ext aV;ext l;ext aB;ext a;ext k
 exact zsr
 ext H;ext aB;ext l;ext j;ext aj
 exact nd_34
 ext aE;ext aE
 refine zdV ?_ ?_ ?_
 ext o
 exact ze5
 refine ze6 ?_
 ext r
 exact zab 5
 refine zdV ?_ ?_ ?_
 ext o
 refine ze6 ?_
 ext r
 exact ze5
 ext ay;ext o
theorem nd_33:(ybb:List Str).Nodup:=⋯
theorem zr4:(["known","every"]:List Str).Nodup:=⋯
theorem sc_33:zan ybb yf (zae s_33):=⟨rfl,rfl,rfl,⋯,rfl,⋯,⋯⟩
theorem ok_33 (T:Tx K mg t):zbr P w K mg base CX0 3 t.a_33 t.d_33 yf (zbG K 1 F_33):=by
 have G_35:=ok_35 (P:=P) (w:=w) (base:=base) T
 have G_34:=ok_34 (P:=P) (w:=w) (base:=base) T
 refine zaN (k:=2) (G:=G_33) (N:=ybb) (ps:=yf) (st:=s_33) T.F_33 sc_33 λcdv A outer s H E hr=> ?_
 ext e;ext aj
 exact nd_33
 ext V
 exact G_35
 ext b
 exact T.m_35
 exact T.F_35.kp
 exact T.b_35
 ext aP;ext a
 refine zlr ?_ ?_ ?_ ?_
 ext R
 exact T.n_list
 ext aq;ext aB;ext l;ext ay
 refine zbH (N:=["known","every"]) ?_ ?_ ?_ ?_ ?_ ?_ ?_
 ext R
 exact (BOk.of (Xn:=(zae s_33).names) (XN:=ybb) rfl rfl rfl ⋯)
 ext aK
 refine zam (k:=2) (g:=t.a_34) (fd:=t.d_34) (ps:=yf) ?_ ?_ ?_ ?_ ?_ ?_
 exact G_34
 ext b
 exact T.m_34
 exact T.F_34.kp
 exact T.b_34
 ext aI
 intro _ _ _
 exact zav 0 zr4
 intro _ _ _
 refine zeA ?_
 ext s;ext am;ext aB;ext o
 intro _ _ _
 ext ai;ext aP;ext aP;ext l
theorem sc_36:zan yf yf (zae s_36):=⟨rfl,rfl,rfl,⋯,rfl,⋯,⋯⟩
theorem ok_36 (T:Tx K mg t):zbr P w K mg base CX0 5 t.a_36 t.d_36 yf (zbG K 1 F_36):=by
 have G_21:=ok_21 (P:=P) (w:=w) (base:=base) T
 have G_33:=ok_33 (P:=P) (w:=w) (base:=base) T
 refine zaN (k:=4) (G:=G_36) (N:=yf) (ps:=yf) (st:=s_36) T.F_36 sc_36 λcdv A outer s H E hr=> ?_
 ext e
 refine zea ?_
 refine zam (k:=4) (g:=t.a_21) (fd:=t.d_21) (ps:=yf) ?_ ?_ ?_ ?_ ?_ ?_
 exact G_21
 ext b
 exact T.m_21
 exact T.F_21.kp
 exact T.b_21
 ext aI;ext ay;ext i
 refine zaG (id:="min") ?_ ?_ ?_ ?_
 exact (zle (zfc hr))
 exact zmn
 exact T.n_min
 ext a
 refine zam (k:=3) (g:=t.a_33) (fd:=t.d_33) (ps:=yf) ?_ ?_ ?_ ?_ ?_ ?_
 exact G_33
 ext b
 exact T.m_33
 exact T.F_33.kp
 exact T.b_33
 ext aI;ext l;ext r
theorem zeo:(yau:List Str).Nodup:=⋯
theorem zta:(["thing","had"]:List Str).Nodup:=⋯
theorem zeq:zan yau yar (zae za3):=⟨rfl,rfl,rfl,⋯,rfl,⋯,⋯⟩
theorem zef (T:Tx K mg t):zbr P w K mg base CX0 7 t.a_Keeper_is_enough t.d_Keeper_is_enough yar (zbG K 2 F_Keeper_is_enough):=by
 have G_19:=ok_19 (P:=P) (w:=w) (base:=base) T
 refine zaN (k:=6) (G:=zaP) (N:=yau) (ps:=yar) (st:=za3) T.F_Keeper_is_enough zeq λcdv A outer s H E hr=> ?_
 ext aJ
 exact zeo
 ext K
 exact G_19
 ext b
 exact T.m_19
 exact T.F_19.kp
 exact T.b_19
 ext a;ext aW;ext aD;ext ay;ext ap
 exact (zeR rfl)
 exact zkv
 exact T.n_all
 ext a
 refine zbH (N:=["thing","had"]) ?_ ?_ ?_ ?_ ?_ ?_ ?_
 ext R
 exact (BOk.of (Xn:=(zae za3).names) (XN:=yau) rfl rfl rfl ⋯)
 ext aK
 refine zid ?_ ?_ ?_ ?_
 ext R
 exact T.n_sorted
 exact T.n_set
 ext aW
 intro _ _ _
 exact zav 0 zta
 intro _ _ _
 exact zcl
 intro _ _ _
 ext ah
 exact (ziR (zfc hr))
 ext g;ext o;ext l
theorem za8:(yx:List Str).Nodup:=⋯
theorem zvf:(["other","number"]:List Str).Nodup:=⋯
theorem zd4:zan yx ye (zae zaY):=⟨rfl,rfl,rfl,⋯,rfl,⋯,⋯⟩
theorem zck (T:Tx K mg t):zbr P w K mg base CX0 8 t.a_Keeper_least_kept t.d_Keeper_least_kept ye (zbG K 1 F_Keeper_least_kept):=by
 have zaq:=zbs (P:=P) (w:=w) (base:=base) T
 have zaD:=zcG (P:=P) (w:=w) (base:=base) T
 have zaP:=zef (P:=P) (w:=w) (base:=base) T
 refine zaN (k:=7) (G:=zao) (N:=yx) (ps:=ye) (st:=zaY) T.F_Keeper_least_kept zd4 λcdv A outer s H E hr=> ?_
 ext e;ext aj
 exact za8
 ext c;ext y;ext ab
 exact zaq
 ext b;ext ac;ext g;ext e;ext M;ext R;ext O;ext P
 refine zt1 ?_
 ext D;ext y
 exact T.M_Keeper_in_order
 exact zaD
 ext b
 exact T.b_Keeper_in_order
 ext g
 exact zav 2 za8
 ext e;ext W
 exact za8
 ext I
 exact zbv
 exact zbL
 ext an;ext a
 refine zbH (N:=["other","number"]) ?_ ?_ ?_ ?_ ?_ ?_ ?_
 ext R
 exact (BOk.of (Xn:=(zae zaY).names) (XN:=yx) rfl rfl rfl ⋯)
 ext aK;ext o
 intro _ _ _
 exact zav 0 zvf
 intro _ _ _
 refine zeA ?_
 ext s
 exact (zgZ (zfc hr))
 ext g;ext o
 intro _ _ _
 ext g;ext l;ext j;ext u;ext af
 refine zj9 (C:=t.a_28) (names:=yae) (k:=7) (g:=t.a_Keeper_is_enough) (fd:=t.d_Keeper_is_enough) (ps:=yar) ?_ ?_ ?_ ?_ ?_ ?_ ?_
 ext y
 exact T.M_Keeper_is_enough
 exact zaP
 ext b
 exact T.b_Keeper_is_enough
 ext g;ext aL;ext l;ext j;ext aj
 exact za8
 ext H;ext ak;ext ay;ext o
theorem nd_48:(yt:List Str).Nodup:=⋯
theorem zu9:(["thing","stock"]:List Str).Nodup:=⋯
theorem zvI:(yan:List Str).Nodup:=⋯
theorem zuB:(["thing","stock","lot"]:List Str).Nodup:=⋯
theorem zuJ:(["one","keeper"]:List Str).Nodup:=⋯
theorem sc_48:zan yt yad (zae s_48):=⟨rfl,rfl,rfl,⋯,rfl,⋯,⋯⟩
theorem ok_48 (T:Tx K mg t):zbr P w K mg base CX0 9 t.a_48 t.d_48 yad (zbG K 2 F_48):=by
 have zaT:=zec (P:=P) (w:=w) (base:=base) T
 have G_20:=ok_20 (P:=P) (w:=w) (base:=base) T
 have zaq:=zbs (P:=P) (w:=w) (base:=base) T
 have zaL:=zeb (P:=P) (w:=w) (base:=base) T
 have G_37:=ok_37 (P:=P) (w:=w) (base:=base) T
 have zaF:=zdP (P:=P) (w:=w) (base:=base) T
 have G_38:=ok_38 (P:=P) (w:=w) (base:=base) T
 have G_36:=ok_36 (P:=P) (w:=w) (base:=base) T
 have zao:=zck (P:=P) (w:=w) (base:=base) T
 have G_19:=ok_19 (P:=P) (w:=w) (base:=base) T
 refine zaN (k:=8) (G:=G_48) (N:=yt) (ps:=yad) (st:=s_48) T.F_48 sc_48 λcdv A outer s H E hr=> ?_
 ext aJ
 exact nd_48
 ext w;ext y
 exact T.M_Keeper_came
 exact zaT
 ext b
 exact T.b_Keeper_came
 ext o;ext aF
 refine zdm ?_
 ext ag;ext s
 exact zeH
 ext U
 exact G_37
 ext b
 exact T.m_37
 exact T.F_37.kp
 exact T.b_37
 ext aT;ext m;ext y
 exact T.M_Keeper_bears
 exact zaF
 ext b
 exact T.b_Keeper_bears
 ext o;ext l;ext aw
 refine zeu ?_
 ext s
 exact (zgZ (zfc hr))
 ext x
 exact G_20
 ext b
 exact T.m_20
 exact T.F_20.kp
 exact T.b_20
 ext aT;ext c;ext y;ext ab
 exact zaq
 ext b;ext ac;ext o;ext l;ext n;ext y
 exact T.M_Keeper_paid
 exact zaL
 ext b
 exact T.b_Keeper_paid
 ext o;ext aN;ext e;ext W
 exact nd_48
 refine zam (k:=6) (g:=t.a_38) (fd:=t.d_38) (ps:=yq) ?_ ?_ ?_ ?_ ?_ ?_
 exact G_38
 ext b
 exact T.m_38
 exact T.F_38.kp
 exact T.b_38
 ext aT;ext m;ext y
 exact T.M_Keeper_bears
 exact zaF
 ext b
 exact T.b_Keeper_bears
 ext o;ext l;ext e
 refine zaJ 4 ?_ ?_
 exact nd_48
 refine zaG (id:="max") ?_ ?_ ?_ ?_
 exact (zk4 rfl)
 exact zpw
 exact T.n_max
 ext a;ext aE;ext au;ext a;ext aG
 refine zbH (N:=["thing","stock"]) ?_ ?_ ?_ ?_ ?_ ?_ ?_
 ext R;ext z;ext aK;ext G
 intro _ _ _
 exact zav 0 zu9
 intro _ _ _
 exact zcl
 intro _ _ _
 ext t
 exact zaW
 exact zcE
 ext al;ext a
 refine zbH (N:=yan) ?_ ?_ ?_ ?_ ?_ ?_ ?_
 ext R
 exact (BOk.of (N:=yan) (src:=[none,some 0]) rfl rfl rfl (by rfl))
 ext aK;ext i;ext o;ext r
 intro _ _ _
 exact zav 0 zvI
 intro _ _ _
 refine zeA ?_
 ext s
 exact (ziR (zfc hr))
 ext o;ext aB
 intro _ _ _
 ext g;ext aU;ext aF
 refine zdm ?_
 ext ag;ext s
 exact (zgZ (zfc hr))
 ext i;ext aS;ext r
 refine zeu ?_
 ext ad
 refine zoY ?_ ?_ ?_ ?_ ?_
 exact zm8
 exact zm8
 ext i;ext aS;ext n;ext y
 exact T.M_Keeper_paid
 exact zaL
 ext b
 exact T.b_Keeper_paid
 ext o;ext k
 exact zi7
 ext ae;ext i;ext aS;ext aN;ext aF;ext s
 exact zf2
 ext i;ext aS;ext x
 exact G_20
 ext b
 exact T.m_20
 exact T.F_20.kp
 exact T.b_20
 ext aT
 refine zam (k:=5) (g:=t.a_36) (fd:=t.d_36) (ps:=yf) ?_ ?_ ?_ ?_ ?_ ?_
 exact G_36
 ext b
 exact T.m_36
 exact T.F_36.kp
 exact T.b_36
 ext aI;ext l;ext aN;ext e;ext M;ext R;ext O;ext P;ext au;ext a;ext c;ext y;ext ab
 exact zaq
 ext b;ext ac;ext o;ext a;ext d;ext y;ext Z
 exact zao
 ext b;ext aa;ext o;ext l
 exact zav 5 nd_48
 ext j;ext u;ext s
 exact (zgZ (zfc hr))
 refine zbH (N:=["thing","stock","lot"]) ?_ ?_ ?_ ?_ ?_ ?_ ?_
 ext R;ext z;ext aK;ext G
 intro _ _ _
 exact zav 0 zuB
 intro _ _ _
 refine zeA ?_
 ext s
 exact (zfB (zfc hr))
 ext g;ext K
 exact G_19
 ext b
 exact T.m_19
 exact T.F_19.kp
 exact T.b_19
 ext aC;ext aV;ext l
 intro _ _ _
 ext g;ext au;ext l;ext aN;ext ay;ext ah;ext am
 refine zbH (N:=["one","keeper"]) ?_ ?_ ?_ ?_ ?_ ?_ ?_
 ext R;ext z;ext aK;ext d;ext y;ext Z
 exact zao
 ext b;ext aa;ext o
 intro _ _ _
 exact zav 0 zuJ
 intro _ _ _
 refine zeA ?_
 ext s
 exact (zfB (zfc hr))
 ext g;ext c;ext y;ext ab
 exact zaq
 ext b;ext ac;ext o
 intro _ _ _
 ext g;ext au;ext l
theorem sc_29:zan ya ya (zae s_29):=⟨rfl,rfl,rfl,⋯,rfl,⋯,⋯⟩
theorem ok_29 (T:Tx K mg t):zbr P w K mg base CX0 6 t.a_29 t.d_29 ya (zbG K 2 F_29):=by
 have G_26:=ok_26 (P:=P) (w:=w) (base:=base) T
 have G_24:=ok_24 (P:=P) (w:=w) (base:=base) T
 have G_17:=ok_17 (P:=P) (w:=w) (base:=base) T
 refine zaN (k:=5) (G:=G_29) (N:=ya) (ps:=ya) (st:=s_29) T.F_29 sc_29 λcdv A outer s H E hr=> ?_
 ext ay;ext as;ext T
 exact G_17
 ext b
 exact T.m_17
 exact T.F_17.kp
 exact T.b_17
 ext aQ
 refine zjI ?_
 ext S
 exact G_26
 ext b
 exact T.m_26
 exact T.F_26.kp
 exact T.b_26
 ext aT;ext J
 exact G_24
 ext b
 exact T.m_24
 exact T.F_24.kp
 exact T.b_24
 ext aQ;ext l
theorem sc_32:zan yi yi (zae s_32):=⟨rfl,rfl,rfl,⋯,rfl,⋯,⋯⟩
theorem ok_32 (T:Tx K mg t):zbr P w K mg base CX0 7 t.a_32 t.d_32 yi (zbG K 2 F_32):=by
 have G_29:=ok_29 (P:=P) (w:=w) (base:=base) T
 refine zaN (k:=6) (G:=G_32) (N:=yi) (ps:=yi) (st:=s_32) T.F_32 sc_32 λcdv A outer s H E hr=> ?_
 ext j;ext u;ext aM;ext B
 exact G_29
 ext b
 exact T.m_29
 exact T.F_29.kp
 exact T.b_29
 ext aQ;ext j
 exact zjC
 ext ak
theorem sc_31:zan yz yz (zae s_31):=⟨rfl,rfl,rfl,⋯,rfl,⋯,⋯⟩
theorem ok_31 (T:Tx K mg t):zbr P w K mg base CX0 1 t.a_31 t.d_31 yz (zbG K 2 F_31):=by
 refine zaN (k:=0) (G:=G_31) (N:=yz) (ps:=yz) (st:=s_31) T.F_31 sc_31 λcdv A outer s H E hr=> ?_
 ext ay;ext aE
 refine zdV ?_ ?_ ?_
 ext g
 exact ze5
 refine ze6 ?_
 ext o
 refine zdV ?_ ?_ ?_
 ext g
 refine ze6 ?_
 ext aE;ext o;ext r
 exact ze5
theorem ztb:(["place","stock","cover"]:List Str).Nodup:=⋯
theorem sc_30:zan yi yi (zae s_30):=⟨rfl,rfl,rfl,⋯,rfl,⋯,⋯⟩
theorem ok_30 (T:Tx K mg t):zbr P w K mg base CX0 8 t.a_30 t.d_30 yi (zbG K 2 F_30):=by
 have G_32:=ok_32 (P:=P) (w:=w) (base:=base) T
 have G_29:=ok_29 (P:=P) (w:=w) (base:=base) T
 have G_31:=ok_31 (P:=P) (w:=w) (base:=base) T
 refine zaN (k:=7) (G:=G_30) (N:=yi) (ps:=yi) (st:=s_30) T.F_30 sc_30 λcdv A outer s H E hr=> ?_
 ext e
 refine zea ?_
 refine zam (k:=7) (g:=t.a_32) (fd:=t.d_32) (ps:=yi) ?_ ?_ ?_ ?_ ?_ ?_
 exact G_32
 ext b
 exact T.m_32
 exact T.F_32.kp
 exact T.b_32
 ext aQ;ext ay
 refine zq4 ?_
 refine zaG (id:="any") ?_ ?_ ?_ ?_
 exact (zlA rfl)
 exact zsS
 exact T.n_any
 ext a
 refine zbH (N:=["place","stock","cover"]) ?_ ?_ ?_ ?_ ?_ ?_ ?_
 ext R
 exact (BOk.of (Xn:=(zae s_30).names) (XN:=yi) rfl rfl rfl ⋯)
 ext q;ext ax;ext aq;ext a;ext t
 exact zaW
 exact zcE
 ext al;ext aD;ext l
 intro _ _ _
 exact zav 0 ztb
 intro _ _ _
 exact zcl
 intro _ _ _
 ext B
 exact G_29
 ext b
 exact T.m_29
 exact T.F_29.kp
 exact T.b_29
 ext aC;ext a
 refine zam (k:=1) (g:=t.a_31) (fd:=t.d_31) (ps:=yz) ?_ ?_ ?_ ?_ ?_ ?_
 exact G_31
 ext b
 exact T.m_31
 exact T.F_31.kp
 exact T.b_31
 ext aV;ext aI;ext aU
theorem nd_49:(yp:List Str).Nodup:=⋯
theorem sc_49:zan yp yba (zae s_49):=⟨rfl,rfl,rfl,⋯,rfl,⋯,⋯⟩
theorem ok_49 (T:Tx K mg t):zbr P w K mg base CX0 10 t.a_49 t.d_49 yba (zbG K 1 F_49):=by
 have G_44:=ok_44 (P:=P) (w:=w) (base:=base) T
 have G_47:=ok_47 (P:=P) (w:=w) (base:=base) T
 have zaU:=zeC (P:=P) (w:=w) (base:=base) T
 have zbj:=zgA (P:=P) (w:=w) (base:=base) T
 have G_45:=ok_45 (P:=P) (w:=w) (base:=base) T
 have G_48:=ok_48 (P:=P) (w:=w) (base:=base) T
 have zaq:=zbs (P:=P) (w:=w) (base:=base) T
 have zaF:=zdP (P:=P) (w:=w) (base:=base) T
 have zaL:=zeb (P:=P) (w:=w) (base:=base) T
 have zao:=zck (P:=P) (w:=w) (base:=base) T
 have zaT:=zec (P:=P) (w:=w) (base:=base) T
 have G_29:=ok_29 (P:=P) (w:=w) (base:=base) T
 have G_30:=ok_30 (P:=P) (w:=w) (base:=base) T
 have G_20:=ok_20 (P:=P) (w:=w) (base:=base) T
 have G_36:=ok_36 (P:=P) (w:=w) (base:=base) T
 refine zaN (k:=9) (G:=G_49) (N:=yp) (ps:=yba) (st:=s_49) T.F_49 sc_49 λcdv A outer s H E hr=> ?_
 ext e;ext M;ext R;ext O;ext ax;ext aq;ext a
 refine zaG (id:="max") ?_ ?_ ?_ ?_
 exact (zkE rfl)
 exact zpw
 exact T.n_max
 ext a;ext r;ext a
 refine zaG (id:="min") ?_ ?_ ?_ ?_
 exact (zkW rfl)
 exact zmn
 exact T.n_min
 ext a;ext t
 exact zaW
 exact zcE
 ext al;ext aI;ext a;ext aG;ext aU
 exact zav 1 nd_49
 ext aJ
 exact nd_49
 refine zam (k:=2) (g:=t.a_44) (fd:=t.d_44) (ps:=yl) ?_ ?_ ?_ ?_ ?_ ?_
 exact G_44
 ext b
 exact T.m_44
 exact T.F_44.kp
 exact T.b_44
 ext aQ;ext e;ext W
 exact nd_49
 refine zam (k:=3) (g:=t.a_47) (fd:=t.d_47) (ps:=yc) ?_ ?_ ?_ ?_ ?_ ?_
 exact G_47
 ext b
 exact T.m_47
 exact T.F_47.kp
 exact T.b_47
 ext aV;ext a;ext r;ext a;ext aG;ext e
 refine zaJ 4 ?_ ?_
 exact nd_49
 refine zsy (C:=t.a_28) (names:=yae) (k:=5) (g:=t.a_Keeper___init__) (fd:=t.d_Keeper___init__) (ps:=yw) ?_ ?_ ?_ ?_ ?_ ?_ ?_
 ext y
 exact T.Y_28
 exact zaU
 ext b
 exact T.g_28
 exact T.b_Keeper___init__
 ext aL;ext l;ext e
 refine zaJ 5 ?_ ?_
 exact nd_49
 refine znH ?_ ?_ ?_ ?_
 ext R
 exact T.n_list
 ext aq;ext i;ext aS;ext e
 refine zlq 1000 ?_ ?_ ?_
 ext O;ext s
 exact (zpd (zfc hr))
 exact zab 5
 ext au;ext l;ext e
 refine zea ?_
 ext C;ext y
 exact T.M_Keeper_come
 exact zbj
 ext b
 exact T.b_Keeper_come
 ext ae;ext a
 refine zvF ?_ ?_
 exact zab 5
 ext h
 exact G_45
 ext b
 exact T.m_45
 ext ar
 exact T.b_45
 ext aV;ext a;ext t
 exact zaW
 exact zcE
 ext al;ext a
 exact zab 5
 ext aU;ext l;ext aF;ext aM
 refine zam (k:=9) (g:=t.a_48) (fd:=t.d_48) (ps:=yad) ?_ ?_ ?_ ?_ ?_ ?_
 exact G_48
 ext b
 exact T.m_48
 exact T.F_48.kp
 exact T.b_48
 ext aL;ext a;ext ae;ext l;ext aN;ext e
 refine zaJ 6 ?_ ?_
 exact nd_49
 ext au;ext a;ext c;ext y;ext ab
 exact zaq
 ext b;ext ac;ext ae;ext a;ext m;ext y
 exact T.M_Keeper_bears
 exact zaF
 ext b
 exact T.b_Keeper_bears
 ext ae;ext a;ext n;ext y
 exact T.M_Keeper_paid
 exact zaL
 ext b
 exact T.b_Keeper_paid
 ext ae;ext a;ext d;ext y;ext Z
 exact zao
 ext b;ext aa;ext ae;ext l;ext e
 refine zea ?_
 ext C;ext y
 exact T.M_Keeper_come
 exact zbj
 ext b
 exact T.b_Keeper_come
 ext ae;ext a;ext i;ext w;ext y
 exact T.M_Keeper_came
 exact zaT
 ext b
 exact T.b_Keeper_came
 ext ae;ext h
 exact G_45
 ext b
 exact T.m_45
 ext ar
 exact T.b_45
 ext aV;ext a;ext t
 exact zaW
 exact zcE
 ext al;ext a;ext w;ext y
 exact T.M_Keeper_came
 exact zaT
 ext b
 exact T.b_Keeper_came
 ext ae;ext aU;ext l;ext j;ext u;ext s
 exact (zpd (zfc hr))
 ext au;ext a;ext c;ext y;ext ab
 exact zaq
 ext b;ext ac;ext ae;ext a;ext m;ext y
 exact T.M_Keeper_bears
 exact zaF
 ext b
 exact T.b_Keeper_bears
 ext ae;ext a;ext n;ext y
 exact T.M_Keeper_paid
 exact zaL
 ext b
 exact T.b_Keeper_paid
 ext ae;ext a;ext d;ext y;ext Z
 exact zao
 ext b;ext aa;ext ae;ext l
 exact zab 6
 ext aN;ext aF
 refine zdm ?_
 ext ag;ext s
 exact zeH
 ext B
 exact G_29
 ext b
 exact T.m_29
 exact T.F_29.kp
 exact T.b_29
 ext aL;ext a;ext c;ext y;ext ab
 exact zaq
 ext b;ext ac;ext ae;ext l;ext aw
 refine zeu ?_
 ext s
 exact zeH
 ext B
 exact G_29
 ext b
 exact T.m_29
 exact T.F_29.kp
 exact T.b_29
 ext aL;ext a;ext d;ext y;ext Z
 exact zao
 ext b;ext aa;ext ae;ext l;ext aw;ext aN;ext aF;ext s
 exact zeH
 refine zam (k:=8) (g:=t.a_30) (fd:=t.d_30) (ps:=yi) ?_ ?_ ?_ ?_ ?_ ?_
 exact G_30
 ext b
 exact T.m_30
 exact T.F_30.kp
 exact T.b_30
 ext aL;ext a;ext d;ext y;ext Z
 exact zao
 ext b;ext aa;ext ae;ext l;ext aw;ext aN;ext j;ext u;ext s
 exact zgY
 ext x
 exact G_20
 ext b
 exact T.m_20
 exact T.F_20.kp
 exact T.b_20
 ext aL;ext a;ext d;ext y;ext Z
 exact zao
 ext b;ext aa;ext ae;ext l;ext x
 exact G_20
 ext b
 exact T.m_20
 exact T.F_20.kp
 exact T.b_20
 ext aL;ext a
 refine zam (k:=5) (g:=t.a_36) (fd:=t.d_36) (ps:=yf) ?_ ?_ ?_ ?_ ?_ ?_
 exact G_36
 ext b
 exact T.m_36
 exact T.F_36.kp
 exact T.b_36
 ext aL;ext aU;ext aN;ext aH
end
end K95
set_option exponentiation.threshold 8000
namespace L3
open L2 LT
section
theorem zkO {i j:Int} (h0:0<j) (h1:j<2^100):zge [.int i,.int j]=pure (.tup [.int (i / j),.int (i % j)]):=by
 unfold zge
 simp only
 rw [qa4 ⟨h0,h1⟩]
theorem zhQ {i j:Int} (h:(zbp i || zbp j || zit i j)=true):zee (.int i) (.int j)=pure (.int (i*j)):=by
 show (if (zbp i || zbp j || zit i j)=true then _ else _)=_
 rw [qa4 h]
theorem zlN {i j:Int} (h: -1000000000000000<i) (h':i<1000000000000000):zee (.int i) (.int j)=pure (.int (i*j)):=zhQ (by rw [zfw h h'];rfl)
theorem zjx {i j:Int} (h: -1000000000000000<j) (h':j<1000000000000000):zee (.int i) (.int j)=pure (.int (i*j)):=zhQ (by rw [zfw h h'];simp)
theorem zrr {x:Int} {n:Nat} (h:x.natAbs<2^n):Builtin.Int.intBits x<=n:=by
 unfold Builtin.Int.intBits
 split
 ·exact zero_le _
 ·rename_i c
  have h0:x.natAbs≠0:=λz=>c (by simp;omega)
  exact (log2_lt h0).mpr h
theorem zi4 {x:Int} {n:Nat} (h:Builtin.Int.intBits x<=n):x.natAbs<2^n:=by
 unfold Builtin.Int.intBits at h
 split at h
 ·rename_i c
  have:x=0:=by simpa using c
  subst this
  exact Nat.pow_pos (by decide)
 ·rename_i c
  have h0:x.natAbs≠0:=λz=>c (by simp;omega)
  exact (log2_lt h0).mp h
theorem zoo {c k:Int} {n:Nat} (h:Builtin.Int.intBits c<=n) (k0:0<=k) (k1:k<24):Builtin.Int.intBits ((c+1)*40692+104729*k)<=n+22:=by
 refine zrr ?_
 have h1:=zi4 h
 rw [Nat.pow_add]
 generalize 2^n=B at h1
 have:(2:Nat)^22=4194304:=rfl
 rw [this]
 omega
theorem ztg:zui (.int 10) (.int 20)=pure (.int 100000000000000000000):=by
 unfold zui dII
 simp only
 rw [qa4 (by decide)]
 rfl
theorem zsm {n:Nat}:zc4 [.cel n]=(do let ds<-zai n;pure (.tup ds)):=rfl
end
section
def pdO (o:List Int×Int):PyData:= .tuple [.tuple (o.1.map PyData.int),.int o.2]
theorem zl3: ∀ os:List (List Int×Int),pdL (os.map zb6)=some (os.map pdO)
 | []=>rfl
 | o::r=>by
  rw [qaM,pdL,zl3 r]
  simp only [zb6,tI,pd,pdL,zbP,Option.map,pdO,qaM]
theorem zj4: ∀ os:List (List Int×Int),PyData.canLayAll0 (os.map pdO)=true
 | []=>rfl
 | o::r=>by simp [PyData.canLayAll0,PyData.canLay0,zaZ,zj4 r,pdO]
theorem zok (os:List (List Int×Int)):dEq (.lst (os.map zb6)) (.lst [])=pure (.bl os.isEmpty):=by
 have e1:pd (.lst (os.map zb6))=some (.list (os.map pdO)):=by unfold pd;rw [zl3];rfl
 have e2:pd (.lst [])=some (.list []):=rfl
 rw [zpy e1 e2 (by unfold zhC;simp [PyData.canLay0,PyData.canLayAll0,zj4,PyData.depth,PyData.depthAll])]
 cases os<;>rfl
theorem zbu {α β:Type} {p:α->Bool} {g:α->β}: ∀ xs:List α,xs.filterMap (λx=>if p x=true then some (g x) else none)=(xs.filter p).map g
 | []=>rfl
 | x::r=>by
  rw [qat,List.filter_cons,zbu r]
  cases p x<;>simp
theorem zbb {α:Type} {g':α->D} {fi:FA} {g:D->Sd->M Sd} {tc:FT} {te:FE} {src:List (Option Nat)} {sd:Sd} {xs:List α} {k:α->Option D} (hi:fi sd=pure (xs.map g')) (hl:xs.length<=1000) (hf: ∀ x∈xs,za5 g tc te (zak src sd) (g' x)=pure (k x)):zaA fi g tc te src sd=pure (.lst (xs.filterMap k)):=by
 unfold zaA
 rw [hi]
 simp only [pure_bind]
 rw [zaI (by rw [qaH];exact hl)]
 simp only [pure_bind]
 have: ∀ {ys:List α},(∀ x∈ys,za5 g tc te (zak src sd) (g' x)=pure (k x))->zcg (za5 g tc te (zak src sd)) (ys.map g')=pure (ys.filterMap k):=by
  intro ys
  induction ys with
  | nil=>intro _;rfl
  | cons x r ih=>
   intro hf
   rw [qaM,zcg,hf x qau,ih λy hy=>hf y (qan _ hy)]
   simp only [pure_bind]
   cases e:k x<;>simp [qat,e]
 rw [this hf]
 simp only [pure_bind]
theorem zis: ∀ {xs ys zs:List Int},HT.zci xs ys=true->HT.zci ys zs=true->HT.zci xs zs=true
 | [],[],_,h,_=>by cases h
 | [],_::_,[],_,h=>by cases h
 | [],_::_,_::_,_,_=>rfl
 | _::_,[],_,h,_=>by cases h
 | _::_,_::_,[],_,h=>by cases h
 | x::xs,y::ys,z::zs,h1,h2=>by
  rw [HT.zdd] at h1 h2 ⊢
  split at h1
  ·split at h2
   ·rw [qa4 ⋯]
    exact zis h1 h2
   ·simp at h2
    rw [qa5 ⋯]
    simp
    omega
  ·simp at h1
   split at h2
   ·rw [qa5 ⋯]
    simp
    omega
   ·simp at h2
    rw [qa5 ⋯]
    simp
    omega
theorem zm5 {p q r:Int×List Int} (h1:pLt p q=true) (h2:pLt q r=true):pLt p r=true:=by
 unfold pLt at*
 split at h1
 ·split at h2
  ·rw [qa4 ⋯]
   exact zis h1 h2
  ·simp at h2
   rw [qa5 ⋯]
   simp
   omega
 ·simp at h1
  split at h2
  ·rw [qa5 ⋯]
   simp
   omega
  ·simp at h2
   rw [qa5 ⋯]
   simp
   omega
theorem zmZ (f:Nat->Int×List Int): ∀ k,argBest (λi j=>pLt (f i) (f j)) k<=k/\ ∀ i,i<=k->pLt (f i) (f (argBest (λi j=>pLt (f i) (f j)) k))=false
 | 0=>⟨qaV _,λi hi=>by
   have:i=0:=by omega
   subst this
   show pLt (f 0) (f 0)=false
   unfold pLt
   rw [qa4 rfl,zfv]⟩
 | k+1=>by
  obtain ⟨h1,h2⟩:=zmZ f k
  unfold argBest
  by_cases c:pLt (f (k+1)) (f (argBest (λi j=>pLt (f i) (f j)) k))=true
  ·rw [qa4 c]
   refine ⟨qaV _,λi hi=> ?_⟩
   by_cases e:i=k+1
   ·subst e
    unfold pLt
    rw [qa4 rfl,zfv]
   ·have h3:=h2 i ⋯
    cases h4:pLt (f i) (f (k+1)) with
    | false=>rfl
    | true=>rw [zm5 h4 c] at h3;cases h3
  ·rw [qa5 c]
   refine ⟨⋯,λi hi=> ?_⟩
   by_cases e:i=k+1
   ·subst e
    simpa using c
   ·exact h2 i ⋯
theorem zix {ps:List (Int×List Int)} (h:ps≠[]):zeG ps<ps.length/\ ∀ q∈ps,pLt q (ps.getD (zeG ps) (0,[]))=false:=by
 have hl:=List.length_pos_iff.mpr h
 obtain ⟨h1,h2⟩:=zmZ (λi=>ps.getD i (0,[])) (ps.length - 1)
 refine ⟨Nat.lt_of_le_of_lt h1 ⋯,λq hq=> ?_⟩
 obtain ⟨i,hi,rfl⟩:=getElem_of_mem hq
 have h3:=h2 i ⋯
 have e:ps.getD i (0,[])=ps[i]:=by simp [List.getD,hi]
 rw [<- e]
 exact h3
theorem ziw {α:Type} {g':α->D} {f:D->M (Option D)} {k:α->Option D}: ∀ {xs:List α},(∀ x∈xs,Ev (f (g' x)) (k x))->Ev (zcg f (xs.map g')) (xs.filterMap k)
 | [],_=> .of rfl
 | x::r,hf=>by
  rw [qaM,zcg]
  refine Ev.bind (hf x qau) (Ev.bind (ziw λy hy=>hf y (qan _ hy)) (.of ?_))
  cases e:k x<;>simp [qat,e]
theorem zlX {α:Type} {g':α->D} {fi:FA} {g:D->Sd->M Sd} {tc:FT} {te:FE} {src:List (Option Nat)} {sd:Sd} {xs:List α} {k:α->Option D} (hi:fi sd=pure (xs.map g')) (hl:xs.length<=1000) (hf: ∀ x∈xs,Ev (za5 g tc te (zak src sd) (g' x)) (k x)):Ev (zaA fi g tc te src sd) (.lst (xs.filterMap k)):=by
 unfold zaA
 rw [hi]
 simp only [pure_bind]
 rw [zaI (by rw [qaH];exact hl)]
 simp only [pure_bind]
 exact Ev.bind (ziw hf) (.of rfl)
theorem zn1 (j:Int) (r:Nat):zdj j (r+1)= .int j::zdj (j+1) r:=by
 unfold zdj
 rw [List.range_succ_eq_map,qaM,qaT]
 congr 1
 ·simp
 ·refine map_congr_left λk _=> ?_
  simp
  omega
def pD (p:Int×List Int):D:= .tup [.int p.1,tI p.2]
theorem ziK: ∀ ps:List (Int×List Int),zeS (ps.map pD)=some ps
 | []=>rfl
 | p::r=>by
  rw [qaM,zeS,ziK r]
  simp only [pD,tI,zib,zcv,Option.map,Option.bind]
theorem zmM {ps:List (Int×List Int)} (h:ps≠[]):zqX [.lst (ps.map pD)]=pure (pD (ps.getD (zeG ps) (0,[]))):=by
 have hb:=(zix h).1
 have e:(ps.map pD)[zeG ps]? = some (pD (ps.getD (zeG ps) (0,[]))):=by simp [List.getD,hb]
 show (do let ps'<-ofO (zeS (ps.map pD));ofO ((ps.map pD)[zeG ps']?):M D)=_
 rw [ziK]
 show (ofO ((ps.map pD)[zeG ps]?):M D)=_
 rw [e]
 rfl
theorem ztz (a b:Nat):Builtin.bitOr (a:Int) (b:Int)=((a ||| b:Nat):Int):=by
 unfold Builtin.bitOr Builtin.bitAnd Builtin.bitNot
 have h1:decide (0<= -(a:Int) - 1)=false:=by simp;omega
 have h2:decide (0<= -(b:Int) - 1)=false:=by simp;omega
 rw [h1,h2]
 simp only
 have e1:(-(-(a:Int) - 1) - 1).toNat=a:=by omega
 have e2:(-(-(b:Int) - 1) - 1).toNat=b:=by omega
 rw [e1,e2]
 omega
def bv (p:Nat->Bool):Nat->Nat
 | 0=>0
 | n+1=>bv p n*2+(if p n=true then 1 else 0)
theorem zso (p q:Nat->Bool): ∀ n,bv p n ||| bv q n=bv (λi=>p i || q i) n
 | 0=>by
  unfold bv
  rfl
 | n+1=>by
  have ih:=zso p q n
  unfold bv
  rw [<- ih]
  refine Nat.eq_of_testBit_eq λi=> ?_
  cases i with
  | zero=>
   rw [Nat.testBit_or]
   simp only [Nat.testBit_zero]
   cases p n<;>cases q n<;>simp<;>omega
  | succ i=>
   rw [Nat.testBit_or]
   simp only [Nat.testBit_add_one]
   have e: ∀ (a:Nat) (c:Bool),(a*2+(if c=true then 1 else 0)) / 2=a:=λa c=>by cases c<;>simp<;>omega
   rw [e,e,e,Nat.testBit_or]
theorem zlK (p:Nat->Bool): ∀ n,bv p n=bv (λ_=>true) n↔ ∀ i,i<n->p i=true
 | 0=>⟨λ_ i h=>by omega,λ_=>rfl⟩
 | n+1=>by
  have ih:=zlK p n
  unfold bv
  constructor
  ·intro h i hi
   cases hp:p n with
   | false=>rw [hp] at h;simp at h;omega
   | true=>
    rw [hp] at h
    simp at h
    by_cases e:i=n
    ·rw [e];exact hp
    ·exact ih.mp ⋯ i ⋯
  ·intro h
   rw [h n ⋯,ih.mpr λi hi=>h i ⋯]
theorem zka {p q:Nat->Bool}: ∀ {n},(∀ i,i<n->p i=q i)->bv p n=bv q n
 | 0,_=>rfl
 | n+1,h=>by
  unfold bv
  rw [h n ⋯,zka λi hi=>h i ⋯]
theorem znq (k:Int) (xs:List Int):dIn (.int k) (.lst (xs.map D.int))=pure (.bl (xs.any (· == k))):=by
 show znA false (.int k) (.lst (xs.map D.int))=_
 unfold znA
 simp only [pd]
 rw [zbP]
 have c:zmY (.int k) (xs.map PyData.int)=true:=by
  unfold zmY
  simp [PyData.canLay0,zaZ,PyData.depth,zbz]
 simp only [c,if_true,zfx]
 rfl
theorem zoR (lo:Int) (k:Nat):zk7 lo (k+1)= .int lo::zk7 (lo - 1) k:=by
 unfold zk7
 rw [List.range_succ_eq_map,qaM,qaT]
 congr 1
 ·simp
 ·refine map_congr_left λj _=> ?_
  simp
  omega
def kl (n:Nat):Nat->List (List Int)
 | 0=>[[]]
 | r+1=>(kl n r).take 1++(kl n r).map (λls=>((n - (r+1):Nat):Int)::ls)++(kl n r).drop 1
theorem ziN (n:Nat): ∀ (r:Nat) (x:List Int),r<=n->(x∈kl n r↔x.Pairwise (· < ·)/\ ∀ y∈x,((n - r:Nat):Int)<=y/\y<(n:Int))
 | 0,x,_=>by
  unfold kl
  rw [mem_singleton]
  constructor
  ·rintro rfl
   exact ⟨.nil,λy hy=>by cases hy⟩
  ·rintro ⟨_,h⟩
   cases x with
   | nil=>rfl
   | cons y r=>have:=h y qau;omega
 | r+1,x,hr=>by
  have ih:=λy=>ziN n r y ⋯
  have e:x∈kl n (r+1)↔x∈kl n r\/ ∃ y∈kl n r,((n - (r+1):Nat):Int)::y=x:=by
   have h0:x∈kl n r↔x∈(kl n r).take 1++(kl n r).drop 1:=by rw [List.take_append_drop]
   have h1:x∈kl n (r+1)↔x∈(kl n r).take 1++(kl n r).map (λls=>((n - (r+1):Nat):Int)::ls)++(kl n r).drop 1:=Iff.rfl
   rw [h0,h1]
   simp only [qaK,qaU]
   constructor
   ·rintro ((h | h) | h)
    ·exact .inl (.inl h)
    ·exact .inr h
    ·exact .inl (.inr h)
   ·rintro ((h | h) | h)
    ·exact .inl (.inl h)
    ·exact .inr h
    ·exact .inl (.inr h)
  rw [e,ih x]
  constructor
  ·rintro (⟨h1,h2⟩ | ⟨y,hy,rfl⟩)
   ·exact ⟨h1,λy hy=>by have:=h2 y hy;omega⟩
   ·obtain ⟨g1,g2⟩:=(ih y).mp hy
    refine ⟨qay.mpr ⟨λa ha=> ?_,g1⟩,λz hz=> ?_⟩
    ·have:=g2 a ha
     omega
    ·rcases qaP.mp hz with rfl | hz
     ·omega
     ·have:=g2 z hz
      omega
  ·rintro ⟨h1,h2⟩
   cases x with
   | nil=>exact .inl ⟨.nil,λy hy=>by cases hy⟩
   | cons y ys=>
    rw [qay] at h1
    have hy:=h2 y qau
    by_cases c:y=((n - (r+1):Nat):Int)
    ·refine .inr ⟨ys,(ih ys).mpr ⟨h1.2,λz hz=> ?_⟩,by rw [c]⟩
     have h3:=h1.1 z hz
     have h4:=h2 z (qan _ hz)
     omega
    ·refine .inl ⟨qay.mpr h1,λz hz=> ?_⟩
     have h4:=h2 z hz
     rcases qaP.mp hz with rfl | hz
     ·omega
     ·have h3:=h1.1 z hz
      omega
theorem zj0 (n:Nat): ∀ r,(kl n r).length=2^r
 | 0=>rfl
 | r+1=>by
  unfold kl
  rw [qav,qav,qaH,length_take,length_drop,zj0 n r,Nat.pow_succ]
  have:=Nat.two_pow_pos r
  omega
def pr (os:List (List Int×Int)) (ls:List Int):Int:=(ls.map λi=>(os.getD i.toNat ([],0)).2).sum
def zpv (os:List (List Int×Int)) (ls:List Int) (t:Nat):Bool:=ls.any λi=>(os.getD i.toNat ([],0)).1.any (· == (t:Int))
def cvB (m:Int) (os:List (List Int×Int)) (ls:List Int):Bool:=bv (zpv os ls) m.toNat==bv (λ_=>true) m.toNat
theorem zdQ {m:Int} {os:List (List Int×Int)} {ls:List Int}:cvB m os ls=true↔ ∀ t:Int,0<=t->t<m-> ∃ i∈ls,t∈(os.getD i.toNat ([],0)).1:=by
 unfold cvB
 rw [beq_iff_eq,zlK]
 have key: ∀ t:Nat,zpv os ls t=true↔ ∃ i∈ls,(t:Int)∈(os.getD i.toNat ([],0)).1:=λt=>by
  unfold zpv
  simp [any_eq_true]
 constructor
 ·intro h t t0 t1
  have:=(key t.toNat).mp (h t.toNat ⋯)
  rw [toNat_of_nonneg t0] at this
  exact this
 ·intro h i hi
  exact (key i).mpr (h i ⋯ ⋯)
def trD (m:Int) (os:List (List Int×Int)) (ls:List Int):D:= .tup [.int (pr os ls),tI ls,.int (bv (zpv os ls) m.toNat)]
theorem zmR {p:Nat->Bool} (h: ∀ i,p i=false): ∀ n,bv p n=0
 | 0=>rfl
 | n+1=>by
  unfold bv
  rw [zmR h n,h n]
  rfl
theorem znK (a b:Nat):((a:Int)==(b:Int))=(a==b):=by
 rw [Bool.eq_iff_iff,beq_iff_eq,beq_iff_eq]
 omega
section
variable {g g1 g':FS} {t:FT} {a:FE} {fs fi:FA} {gt:D->Sd->M Sd} {sd:Sd} {i:Nat} {h:Hh} {P:Out->Hh->Prop} {ds:List D} {d:D}
theorem zfu (q:wp (a sd) h λd h'=>wp (g' (sd.set i (some d))) h' P):wp (zas (zbN i a) g' sd) h P:=by
 rw [zba,zcM,bind_assoc,zar]
 exact q
theorem zp6 (e:fi sd=pure ds) (q:wp (zbq (λx sd=>do let sd1<-gt x sd;g sd1) ds sd) h λo h'=>wp (zdH o g') h' P):wp (zas (zkK fi gt g) g' sd) h P:=by
 rw [zba,zhV,e,pure_bind,zar]
 exact q
end
end
section
theorem zpg {n:Nat} {ds:List D} {h:Hh} {P:Unit->Hh->Prop} (e:h[n]? = some (.lst ds)) (q:P () h):wp (chk n ds) h P:=by
 refine ⟨(),h,?_,q⟩
 unfold chk
 rw [qa4 e]
theorem zku {α:Type} {g':α->D} {n:Nat} {full:List D} {F:D->M (Option D)} {k:α->Option D} {h:Hh} (e:h[n]? = some (.lst full)): ∀ (ys:List α) {P:List D->Hh->Prop},(∀ x∈ys,F (g' x)=pure (k x))->P (ys.filterMap k) h->wp (zcF n full F (ys.map g')) h P
 | [],P,_,q=>by
  rw [map_nil,zcF,zar]
  refine zpg e ?_
  rw [zat]
  exact q
 | y::r,P,hf,q=>by
  rw [qaM,zcF,zar]
  refine zpg e ?_
  rw [hf y qau,pure_bind,zar]
  refine zku e r (λx hx=>hf x (qan _ hx)) ?_
  rw [zat]
  rw [qat] at q
  cases hk:k y with
  | none=>rw [hk] at q;exact q
  | some z=>rw [hk] at q;exact q
theorem zn2 {α:Type} {g':α->D} {f:D->M (Option D)} {k:α->Option D} {h:Hh}: ∀ {xs:List α} {P:List D->Hh->Prop},(∀ x∈xs,wp (f (g' x)) h λo h'=>o=k x/\h'=h)->P (xs.filterMap k) h->wp (zcg f (xs.map g')) h P
 | [],P,_,q=>by rw [map_nil,zcg,zat];exact q
 | x::r,P,hf,q=>by
  rw [qaM,zcg,zar]
  refine zgf (hf x qau) ?_
  rintro o h' ⟨rfl,rfl⟩
  rw [zar]
  refine zn2 (λy hy=>hf y (qan _ hy)) ?_
  rw [zat]
  rw [qat] at q
  cases hk:k x<;>rw [hk] at q<;>exact q
theorem zbi {α:Type} {g:α->D} (xs:List α):xs.filterMap (λx=>some (g x))=xs.map g:=by simp
theorem zkq {α:Type} {g':α->D} {f:FE} {g:D->Sd->M Sd} {tc:FT} {te:FE} {src:List (Option Nat)} {sd:Sd} {n:Nat} {h:Hh} {xs:List α} {k:α->Option D} {P:D->Hh->Prop} (hf: ∀ {P:D->Hh->Prop},P (.cel n) h->wp (f sd) h P) (e:h[n]? = some (.lst (xs.map g'))) (hl:xs.length<=1000)
  (ht: ∀ x∈xs,za5 g tc te (zak src sd) (g' x)=pure (k x)) (q:P (.lst (xs.filterMap k)) h):wp (zgL f g tc te src sd) h P:=by
 unfold zgL
 rw [zar]
 refine hf ?_
 simp only [zar,zcI e]
 rw [zaI (by rw [qaH];exact hl),zat]
 refine zku e xs ht ?_
 rw [zat]
 exact q
theorem zp7 {α:Type} {g':α->D} {f:D->M (Option D)} {k:α->Option D}: ∀ {xs:List α} {h:Hh} {P:List D->Hh->Prop},(∀ x∈xs, ∀ h',Gro h h'->wp (f (g' x)) h' λo h''=>o=k x/\Gro h' h'')->(∀ h',Gro h h'->P (xs.filterMap k) h')->wp (zcg f (xs.map g')) h P
 | [],h,P,_,q=>by rw [map_nil,zcg,zat];exact q h .refl
 | x::r,h,P,hf,q=>by
  rw [qaM,zcg,zar]
  refine zgf (hf x qau h .refl) ?_
  rintro o h1 ⟨rfl,g1⟩
  rw [zar]
  refine zp7 (λy hy h' g'=>hf y (qan _ hy) h' (g1.trans g')) λh2 g2=> ?_
  rw [zat]
  have q:=q h2 (g1.trans g2)
  rw [qat] at q
  cases hk:k x<;>rw [hk] at q<;>exact q
def zjt (st:D) (tn sn:Nat):List (Str×D):=[("stock",st),("things",.cel tn),("steps",.cel sn)]
section
variable {n:Nat} {c:String} {f m:Str} {fs:List (Str×D)} {d:D} {h:Hh}
theorem zcJ {P:D->Hh->Prop} (e:h[n]? = some (.ins c fs)) (l:fs.lookup f=some d) (k:P d h):wp (ziJ c f (.cel n)) h P:=by
 refine ⟨d,h,?_,k⟩
 show M.bind (zbZ n) _ h=_
 unfold M.bind zbZ
 rw [e]
 simp only [if_true,l]
 rfl
theorem zax {P:Unit->Hh->Prop} (e:h[n]? = some (.ins c fs)) (l:fs.lookup m=none) (k:P () h):wp (zt5 c m (.cel n)) h P:=by
 refine ⟨(),h,?_,k⟩
 show M.bind (zbZ n) _ h=_
 unfold M.bind zbZ
 rw [e]
 simp only [l,and_self,if_true]
 rfl
theorem zjG {P:Unit->Hh->Prop} (e:h[n]? = some (.ins c fs)) (l:fs.length<1000) (k:P () (h.set n (.ins c (zfo f d fs)))):wp (zoX c f d (.cel n)) h P:=by
 refine ⟨(),h.set n (.ins c (zfo f d fs)),?_,k⟩
 show M.bind (zbZ n) _ h=_
 unfold M.bind zbZ
 rw [e]
 simp only [l,and_self,if_true]
 rfl
theorem zsi {kvs:List (Int×D)} {k:Int} {P:D->Hh->Prop} (e:h[n]? = some (.dic kvs)) (q:P ((atK kvs k).getD d) h):wp (zjJ (.cel n) [.int k,d]) h P:=by
 refine ⟨_,h,?_,q⟩
 show M.bind (zde n) _ h=_
 unfold M.bind zde
 rw [e]
 rfl
theorem zlu {kvs:List (Int×D)} {P:Unit->Hh->Prop} (e:h[n]? = some (.dic kvs)) (q:P () h):wp (zhk (.cel n)) h P:=by
 refine ⟨_,h,?_,q⟩
 show M.bind (zde n) _ h=_
 unfold M.bind zde
 rw [e]
 rfl
theorem znr {kvs:List (Int×D)} {P:D->Hh->Prop} (q:P (.cel h.length) (h++[.dic kvs])):wp (zko kvs) h P:=⟨_,_,rfl,q⟩
theorem zng {P:D->Hh->Prop} (q:P (.cel h.length) (h++[.ins c []])):wp (zmU c) h P:=⟨_,_,rfl,q⟩
theorem zmw {ds:List D} {P:D->Hh->Prop} (e:h[n]? = some (.lst ds)) (q:P (.int ds.length) h):wp (zgt [.cel n]) h P:=by
 show wp (zai n>>=λds=>(pure (.int ds.length):M D)) h P
 rw [zar,zcI e,zat]
 exact q
theorem znY {ds:List D} {P:D->Hh->Prop} (e:h[n]? = some (.lst ds)) (q:P (.lst ds) h):wp (zoj [.cel n]) h P:=by
 show wp (zai n>>=λds=>(pure (.lst ds):M D)) h P
 rw [zar,zcI e,zat]
 exact q
end
theorem zb1 {st:D} {tn sn:Nat}:(zjt st tn sn).lookup ("stock":Str)=some st:=rfl
theorem zdt {st:D} {tn sn:Nat}:(zjt st tn sn).lookup ("things":Str)=some (.cel tn):=rfl
theorem zeX {st:D} {tn sn:Nat}:(zjt st tn sn).lookup ("steps":Str)=some (.cel sn):=rfl
section
variable {st:D} {tn sn:Nat}
theorem zfY:(zjt st tn sn).lookup ("in_order":Str)=none:=rfl
theorem zcs:(zjt st tn sn).lookup ("taken":Str)=none:=rfl
theorem ziZ:(zjt st tn sn).lookup ("shares":Str)=none:=rfl
theorem zql:(zjt st tn sn).lookup ("room":Str)=none:=rfl
theorem zmF:(zjt st tn sn).lookup ("come":Str)=none:=rfl
theorem zjo:(zjt st tn sn).lookup ("came":Str)=none:=rfl
theorem zfy:(zjt st tn sn).lookup ("bears":Str)=none:=rfl
theorem zhd:(zjt st tn sn).lookup ("paid":Str)=none:=rfl
theorem ziV:(zjt st tn sn).lookup ("is_enough":Str)=none:=rfl
theorem zbl:(zjt st tn sn).lookup ("least_kept":Str)=none:=rfl
end
theorem zqU {c:String} {m:Str} {F:List D->M D} {fo:FE} {fs:FA} {sd:Sd}:zbo c m F fo fs sd=(fo sd>>=λx=>zt5 c m x>>=λ_=>fs sd>>=λys=>F (x::ys)):=rfl
theorem zqd {c:String} {f:Str} {fo fv:FE} {sd:Sd}:zlL c f fo fv sd=(fv sd>>=λd=>fo sd>>=λx=>zoX c f d x>>=λ_=>pure (.nx sd)):=rfl
theorem zp2 {fo:FE} {fs:FA} {sd:Sd}:zqe fo fs sd=(fo sd>>=λx=>zhk x>>=λ_=>fs sd>>=λys=>zjJ x ys):=rfl
theorem ztH {c:String} {F:List D->M D} {ds:List D}:zoy c F ds=(zmU c>>=λx=>F (x::ds)>>=λv=>zuj x v):=rfl
theorem zqi (kvs:List (Int×D)) (k:Int) (d:D) (j:Int):atK (zq9 kvs k d) j=if k=j then some d else atK kvs j:=by
 unfold zq9 atK
 split
 ·rename_i e
  induction kvs with
  | nil=>simp at e
  | cons p r ih=>
   rw [qaM,List.find?_cons,List.find?_cons]
   by_cases h1:p.1=k
   ·rw [qa4 h1]
    by_cases h2:k=j
    ·rw [qa4 h2]
     dsimp only
     rw [decide_eq_true (h1.trans h2)]
     rfl
    ·rw [qa5 h2]
     dsimp only
     rw [decide_eq_false (λz=>h2 (h1.symm.trans z))]
     dsimp only
     by_cases h3:(r.any λp=>decide (p.1=k))=true
     ·rw [ih h3,qa5 h2]
     ·congr 1
      have:r.map (λp=>if p.1=k then (p.1,d) else p)=r:=by
       refine (map_congr_left λq hq=> ?_).trans (List.map_id _)
       rw [qa5 λz=>h3 (any_eq_true.mpr ⟨q,hq,decide_eq_true z⟩)]
       rfl
      rw [this]
   ·rw [qa5 h1]
    have h3:(r.any λp=>decide (p.1=k))=true:=by
     rw [any_cons,decide_eq_false h1] at e
     simpa using e
    by_cases h4:p.1=j
    ·rw [decide_eq_true h4,qa5 (λz=>h1 (h4.trans z.symm))]
    ·rw [decide_eq_false h4]
     exact ih h3
 ·rename_i e
  rw [List.find?_append]
  by_cases h2:k=j
  ·subst h2
   rw [qa4 rfl]
   have:kvs.find? (λp=>decide (p.1=k))=none:=by
    rw [List.find?_eq_none]
    intro p hp hd
    exact e (any_eq_true.mpr ⟨p,hp,hd⟩)
   rw [this]
   simp
  ·rw [qa5 h2]
   have:[(k,d)].find? (λp=>decide (p.1=j))=none:=by simp [h2]
   rw [this]
   simp
theorem zkP (ps:List (Int×D)) (p:Int×D):zem (ps++[p])=zq9 (zem ps) p.1 p.2:=by
 unfold zem
 rw [List.foldl_append]
 rfl
end
section
theorem zuu {x y z:D} {r:List D}:atI (x::y::z::r) 2=some z:=by
 have:=zdM (xs:=x::y::z::r) (j:=2) (v:=z) rfl
 simpa using this
theorem zvB {x y z w:D} {r:List D}:atI (x::y::z::w::r) 3=some w:=by
 have:=zdM (xs:=x::y::z::w::r) (j:=3) (v:=w) rfl
 simpa using this
abbrev Sp4:=Int×Int×Int×Int
def zqO (x:Sp4):D:= .tup [.int x.1,.int x.2.1,.int x.2.2.1,.int x.2.2.2]
def zb8 (ss:List Sp4):List Int:=ss.map (·.2.2.2)
def sh (ss:List Sp4) (t:Int):Int:=((ss.reverse.find? λx=>decide (x.2.1=t)).map (·.2.2.1)).getD 0
theorem zur (ss:List Sp4) (t:Int):(atK (zem (ss.map λx=>(x.2.1,D.int x.2.2.1))) t).getD (.int 0)= .int (sh ss t):=by
 have key: ∀ l:List Sp4,(atK (zem (l.reverse.map λx=>(x.2.1,D.int x.2.2.1))) t).getD (.int 0)= .int (((l.find? λx=>decide (x.2.1=t)).map (·.2.2.1)).getD 0):=by
  intro l
  induction l with
  | nil=>rfl
  | cons x l ih=>
   rw [reverse_cons,map_append,List.map_singleton,zkP,zqi,List.find?_cons]
   by_cases e:x.2.1=t
   ·rw [qa4 e,decide_eq_true e]
    rfl
   ·rw [qa5 e,decide_eq_false e]
    exact ih
 have:=key ss.reverse
 rw [List.reverse_reverse] at this
 exact this
theorem zjh (ss:List Sp4) (x:Sp4) (t:Int):sh (ss++[x]) t=if x.2.1=t then x.2.2.1 else sh ss t:=by
 unfold sh
 rw [List.reverse_append,List.reverse_singleton,List.singleton_append,List.find?_cons]
 by_cases e:x.2.1=t
 ·rw [qa4 e,decide_eq_true e];rfl
 ·rw [qa5 e,decide_eq_false e]
theorem zqy {ss:List Sp4} {t:Int} (h: ∀ x∈ss,x.2.1≠t):sh ss t=0:=by
 unfold sh
 have:ss.reverse.find? (λx=>decide (x.2.1=t))=none:=by
  rw [List.find?_eq_none]
  intro x hx hd
  exact h x (List.mem_reverse.mp hx) (of_decide_eq_true hd)
 rw [this]
 rfl
theorem zmE: ∀ ss:List Sp4,prs (ss.map λx=> .tup [.int x.2.1,.int x.2.2.1])=some (ss.map λx=>(x.2.1,D.int x.2.2.1))
 | []=>rfl
 | x::r=>by
  rw [qaM]
  unfold prs
  rw [zmE r]
  rfl
end
section
theorem zkj (bt:Nat->Nat->Bool): ∀ k,argBest bt k<=k
 | 0=>qaV _
 | k+1=>by
  have ih:=zkj bt k
  unfold argBest
  split
  ·exact qaV _
  ·omega
theorem zhr {ps:List (List Int)} (h:ps≠[]):zfO ps<ps.length:=by
 have h1:=zkj (λi j=>HT.zci (ps.getD i []) (ps.getD j [])) (ps.length - 1)
 have h2:=List.length_pos_iff.mpr h
 unfold zfO
 omega
theorem zjO: ∀ ps:List (List Int),zhx (ps.map tI)=some ps
 | []=>rfl
 | p::r=>by
  rw [qaM]
  unfold zhx
  rw [zjO r]
  show (zc6 (p.map D.int)).bind _=_
  rw [zcv]
  rfl
theorem zov {ps:List (List Int)} (h:ps≠[]):znU [.lst (ps.map tI)]=pure (tI (ps.getD (zfO ps) [])):=by
 show (do let qs<-ofO (zhx (ps.map tI));ofO ((ps.map tI)[zfO qs]?):M D)=_
 rw [zjO]
 show ofO ((ps.map tI)[zfO ps]?)=_
 rw [List.getElem?_map,qaf (zhr h),List.getD,qaf (zhr h)]
 rfl
theorem zwh (xs:List Int):zud (tI xs)=pure (!xs.isEmpty):=by
 show (pure (!(xs.map D.int).isEmpty):M Bool)=_
 cases xs<;>rfl
theorem zst {f:FE} {sd:Sd}:ztT f sd=(f sd>>=λd=>zud d):=rfl
theorem zpb {n:Nat} {ds:List D} {d:D} {h:Hh} {P:D->Hh->Prop} (e:h[n]? = some (.lst ds)) (hl:ds.length+1<=1000) (q:P .non (h.set n (.lst (ds++[d])))):wp (zds (.cel n) d) h P:=by
 show wp (zai n>>=λds=>fits (ds.length+1)>>=λ_=>zbF n (ds++[d])>>=λ_=>(pure .non:M D)) h P
 rw [zar,zcI e,zaI hl,pure_bind,zar,ziX,zat]
 exact q
theorem zoL {n:Nat} {ds:List D} {h:Hh} {P:Unit->Hh->Prop} (e:h[n]? = some (.lst ds)) (q:P () h):wp (zc7 (.cel n)) h P:=by
 show wp (zai n>>=λ_=>(pure ():M Unit)) h P
 rw [zar,zcI e,zat]
 exact q
theorem zlz {fo fe:FE} {sd:Sd}:zel fo fe sd=(fo sd>>=λx=>zc7 x>>=λ_=>fe sd>>=λy=>zds x y):=rfl
theorem zdI (k:Int) (xs:List Int):zh5 (.int k) (.tup (xs.map D.int))=pure (.bl (!xs.any (· == k))):=by
 show znA true (.int k) (.tup (xs.map D.int))=_
 unfold znA
 simp only [pd]
 rw [zbP]
 have c:zmY (.int k) (xs.map PyData.int)=true:=by
  unfold zmY
  simp [PyData.canLay0,zaZ,PyData.depth,zbz]
 simp only [c,if_true,zfx]
theorem zcd {k:Int} {xs:List Int}:xs.any (· == k)=true↔k∈xs:=by
 rw [any_eq_true]
 constructor
 ·rintro ⟨x,hx,e⟩
  rw [beq_iff_eq] at e
  exact e▸hx
 ·intro h
  exact ⟨k,h,by simp⟩
end
section
theorem zwa (xs:List Int):zud (.tup (xs.map D.int))=pure (!xs.isEmpty):=zwh xs
end
section
theorem zve (a b:Int):dNe (.int a) (.int b)=pure (.bl (a != b)):=by
 rw [zue]
 rfl
end
section
theorem zic {α:Type} {g':α->D} {f:D->M (Option D)} {k:α->Option D}: ∀ {xs:List α},(∀ x∈xs,f (g' x)=pure (k x))->zcg f (xs.map g')=pure (xs.filterMap k)
 | [],_=>rfl
 | x::r,hf=>by
  rw [qaM,zcg,hf x qau,zic λy hy=>hf y (qan _ hy)]
  simp only [pure_bind]
  cases e:k x<;>simp [qat,e]
theorem zjZ {n:Nat} (h:n<=16000000):fits n=pure ():=by
 unfold fits
 rw [qa4 (qaS h (by decide))]
theorem zlf {α:Type} {g':α->D} {fi:FA} {g:D->Sd->M Sd} {tc:FT} {te:FE} {src:List (Option Nat)} {sd:Sd} {xs:List α} {k:α->Option D} (hi:fi sd=pure (xs.map g')) (hl:xs.length<=16000000) (hf: ∀ x∈xs,za5 g tc te (zak src sd) (g' x)=pure (k x)):zaA fi g tc te src sd=pure (.lst (xs.filterMap k)):=by
 unfold zaA
 rw [hi,pure_bind,zjZ (by rw [qaH];exact hl),pure_bind,zic hf]
 rfl
end
section
theorem zjk {n:Nat} {tc:FT} {gb:FS} {sd:Sd}:zev tc gb (n+1) sd=(do let b<-tc sd;if b=true then (do let o<-gb sd;match o with | .nx sd'=>zev tc gb n sd' | .ct sd'=>zev tc gb n sd' | .bk sd'=>pure (.nx sd') | .rt d=>pure (.rt d)) else pure (.nx sd)):=rfl
end
section
theorem zpH (f:Nat->Int): ∀ (k i:Nat),i<=k->f i<=f (argBest (λi j=>decide (f i>f j)) k)
 | 0,i,h=>by
  have:i=0:=by omega
  subst this
  exact le_refl _
 | k+1,i,h=>by
  have ih:=zpH f k
  simp only [argBest]
  split
  ·rename_i hc
   rw [qaD] at hc
   by_cases hi:i<=k
   ·have:=ih i hi
    omega
   ·have:i=k+1:=by omega
    subst this
    exact le_refl _
  ·rename_i hc
   rw [qaD] at hc
   by_cases hi:i<=k
   ·exact ih i hi
   ·have:i=k+1:=by omega
    subst this
    omega
theorem zlv {ns:List Int} {x:Int} (h:x∈ns):x<=zgz ns:=by
 obtain ⟨j,hj,rfl⟩:=getElem_of_mem h
 have:=zpH (λi=>ns.getD i 0) (ns.length - 1) j ⋯
 unfold zgz
 rw [show ns[j]=ns.getD j 0 by simp [List.getD,hj]]
 exact this
theorem zsc {ns:List Int} (h:0<ns.length):zqQ [.lst (ns.map D.int)]=pure (.int (zgz ns)):=by
 show (do let ns'<-ofO (zc6 (ns.map D.int));if 0<ns'.length then pure (.int (zgz ns')) else M.bad:M D)=_
 rw [zcv]
 show (if 0<ns.length then (pure (.int (zgz ns)):M D) else M.bad)=_
 rw [qa4 h]
end
section
theorem zor {ns:List Int} (h:0<ns.length):zgz ns∈ns:=by
 unfold zgz
 have h1:=zkj (λi j=>decide (ns.getD i 0>ns.getD j 0)) (ns.length - 1)
 have h2:argBest (λi j=>decide (ns.getD i 0>ns.getD j 0)) (ns.length - 1)<ns.length:=by omega
 rw [List.getD,qaf h2,Option.getD_some]
 exact getElem_mem h2
theorem zsA {fo fe:FE} {sd:Sd}:zuq fo fe sd=(do let x<-fo sd;zc7 x;let y<-fe sd;zgd x y):=rfl
theorem ztr {c:Nat} {h:Hh} {ds:List D} {i:Int} {d:D} {P:D->Hh->Prop} (e:h[c]? = some (.lst ds)) (i0:0<=i) (i1:i<1000) (ed:ds[i.toNat]? = some d) (k:P d (h.set c (.lst (ds.eraseIdx i.toNat)))):wp (zgd (.cel c) (.int i)) h P:=by
 show wp (zai c>>=_) h P
 rw [zar,zcI e]
 rw [qa4 ⟨i0,i1⟩,ed]
 simp only [zar,ziX,zat]
 exact k
theorem zky {xs:List Int} {i:Nat} {x:Int} (e:xs[i]? = some x):List.Perm (x::xs.eraseIdx i) xs:=by
 obtain ⟨h,rfl⟩:=qac.mp e
 have e2:xs=xs.take i++xs[i]::xs.drop (i+1):=by simp
 rw [List.eraseIdx_eq_take_drop_succ]
 conv=>rhs;rw [e2]
 exact List.perm_middle.symm
theorem zof {h:Hh} {c:Nat} {xs:List Int} {P:D->Hh->Prop} (e:h[c]? = some (.lst (xs.map D.int))) (q:P (.bl (!xs.isEmpty)) h):wp (zpa (.cel c) (.lst [])) h P:=by
 refine ⟨.bl (!xs.isEmpty),h,?_,q⟩
 unfold zpa
 have a1:pdH h (.cel c)=some (.list (xs.map PyData.int)):=by
  unfold pdH
  rw [e]
  show (pdL (xs.map D.int)).map PyData.list=_
  rw [zbP]
  rfl
 have a2:pdH h (.lst [])=some (.list []):=by simp only [pdH,zih,Option.map]
 rw [a1,a2]
 have c:zhC (.list (xs.map PyData.int)) (.list [])=true:=by
  unfold zhC
  simp [PyData.canLay0,PyData.canLayAll0,zaZ,PyData.depth,PyData.depthAll]
 simp only [c,if_true]
 cases xs with
 | nil=>rfl
 | cons _ _=>rfl
theorem zqG {gs:List D->Sd->M Sd} {x y z:D} {sd:Sd}:zgD 3 gs (.tup [x,y,z]) sd=gs [x,y,z] sd:=rfl
theorem zu4 {ds:List D} {lo hi:Option Int}:dSl (.lst ds) lo hi=pure (.lst (zk2 ds lo hi)):=rfl
theorem zkx: ∀ lss:List (List Int),PyData.canLayAll0 (lss.map λls=>PyData.tuple (ls.map PyData.int))=true
 | []=>rfl
 | o::r=>by simp [PyData.canLayAll0,PyData.canLay0,zaZ,zkx r]
theorem zox (lss:List (List Int)):PyData.depthAll (lss.map λls=>PyData.tuple (ls.map PyData.int))<=1:=by
 induction lss with
 | nil=>simp [PyData.depthAll]
 | cons x r ih=>
  rw [qaM,PyData.depthAll,PyData.depth,zbz]
  omega
theorem zj2: ∀ lss:List (List Int),PyData.eqvAll (lss.map λls=>PyData.tuple (ls.map PyData.int)) (lss.map λls=>PyData.tuple (ls.map PyData.int))=true
 | []=>rfl
 | x::r=>by
  rw [qaM,PyData.eqvAll,zj2 r,PyData.eqv,zeL]
  simp
theorem zgl {h:Hh}: ∀ xs:List Int,zih h (xs.map D.int)=some (xs.map PyData.int)
 | []=>by rw [map_nil,zih];rfl
 | x::r=>by
  rw [qaM,zih,zgl r,pdH]
  rfl
theorem zif {h:Hh}: ∀ lss:List (List Int),zih h (lss.map tI)=some (lss.map λls=>PyData.tuple (ls.map PyData.int))
 | []=>by rw [map_nil,zih];rfl
 | x::r=>by
  rw [qaM,zih,zif r,tI,pdH,zgl]
  rfl
theorem znN {F F2:D->D->M D} {a b c:FE} {sd:Sd}:zh2 F F2 a b c sd=(do let x<-a sd;let y<-b sd;let z<-F x y;let k<-zdB z;if k=true then do let w<-c sd;F2 y w else pure (.bl false)):=rfl
theorem zp8 {h:Hh} {P:D->Hh->Prop} (b c:List Int) (lss:List (List Int)) (p:Int) (k:P (.bl false) h):wp (zpa (.lst [tI b,.tup (lss.map tI),.int p,tI c]) (.lst [tI b,.tup (lss.map tI),.int p,tI c])) h P:=by
 refine ⟨.bl false,h,?_,k⟩
 have e1:pdH h (.lst [tI b,.tup (lss.map tI),.int p,tI c])=some (.list [.tuple (b.map PyData.int),.tuple (lss.map λls=>PyData.tuple (ls.map PyData.int)),.int p,.tuple (c.map PyData.int)]):=by
  unfold tI
  simp only [pdH,zih,zgl,Option.map_some]
  rw [show (lss.map λxs=>D.tup (xs.map D.int))=lss.map tI from rfl,zif]
  rfl
 have hd:=zox lss
 unfold zpa
 rw [e1]
 have c1:zhC (.list [.tuple (b.map PyData.int),.tuple (lss.map λls=>PyData.tuple (ls.map PyData.int)),.int p,.tuple (c.map PyData.int)]) (.list [.tuple (b.map PyData.int),.tuple (lss.map λls=>PyData.tuple (ls.map PyData.int)),.int p,.tuple (c.map PyData.int)])=true:=by
  unfold zhC
  simp [PyData.canLay0,PyData.canLayAll0,zaZ,zkx,PyData.depth,PyData.depthAll,zbz]
  omega
 simp only [c1,if_true]
 simp only [PyData.eqv,PyData.eqvAll,zeL,zj2,beq_self_eq_true,Bool.and_self,Bool.not_true]
theorem zsa {xs:List Int} {fi:FA} {tc:FT} {te:FE} {src:List (Option Nat)} {sd:Sd} {h:Hh} {P:D->Hh->Prop} (hi: ∀ Q:List D->Hh->Prop,(∀ h1,Gro h h1->Q (xs.map D.int) h1)->wp (fi sd) h Q) (hl:xs.length<=1000) (ht: ∀ x∈xs, ∀ h',Gro h h'->wp (tc ((zak src sd).set 0 (some (.int x)))) h' λc h''=>c=false/\Gro h' h'') (q: ∀ h',Gro h h'->P (.lst []) h'):wp (zaA fi (za7 0) tc te src sd) h P:=by
 unfold zaA
 rw [zar]
 refine hi _ λh1 g1=> ?_
 rw [qaH,zaI hl,pure_bind,zar]
 refine zp7 (g':=D.int) (k:=λ_=>none) (λx hx h' g=> ?_) λh' g=> ?_
 ·simp only [za5,zdN,pure_bind]
  rw [zar]
  refine zgf (ht x hx h' (g1.trans g)) ?_
  rintro c h'' ⟨rfl,g2⟩
  exact ⟨_,_,rfl,rfl,g2⟩
 ·rw [zat]
  have:xs.filterMap (λ_=>(none:Option D))=[]:=by simp
  rw [this]
  exact q h' (g1.trans g)
end
section
theorem zos {n:Nat} {tc:FT} {gb g':FS} {sd:Sd} {h:Hh} {P:Out->Hh->Prop} (q:wp (zev tc gb n sd) h λo h'=>wp (zdH o g') h' P):wp (zas (zkl n tc gb) g' sd) h P:=by
 rw [zba,zar]
 exact q
theorem zv7 {ds:List D}:zi1 "tuple" (.tup ds)=pure (.bl true):=rfl
theorem zwe {h0:Hh} {a b c:C}:(h0++[a,b]).set h0.length c=h0++[c,b]:=by simp
theorem zwu {h0:Hh} {a b c d:C}:(h0++[a,b]++[d]).set h0.length c=h0++[c,b,d]:=by simp
theorem zoP {h0:Hh} {a b:C}:(h0++[a]).set h0.length b=h0++[b]:=by simp
end
end L3
namespace K95
open L2 L3 LT
set_option hygiene false in
local macro_rules | `(tactic| ac_nf0)=> `(tactic| simp only [zba,zcM,zpk,zcL,zi6,zhV,zi5,zfX,zbY,za6,zbD,zeB,zqr,zhR,zbe,zbE,pure_bind,bind_assoc,zi2,zvC,zh9,zuQ,List.set,zg0,zkd,zj6,zsE,zrF,zpc,zuY,zlB,zuV,zks,zj8,zhl,zeF,zhn,zcY,zqL,zgk,zu1,ztO,zr8,zu0,zmr,zsx,ztI,ztN,zub,zsj,zjY,zdN,zmK,zjR,zni,zpt,ztq,zar,zat,zh3,qaE,qaJ,qaH,Nat.zero_add,Nat.reduceAdd,Nat.reduceLeDiff,zaI,zb6,tI,zne,zp1,zot,zua,zoU,zkG,zo4,zvA,zrq,zrz,zsU,zu7,zvd,zuG,zsH,zmI,zsM,zuC,zu2,zwB,if_true,Bool.not_true,Bool.not_false,qax,if_false,qav,List.cons_append,nil_append,ztj,ztW,zqU,zp2,zqd,ztH,zuu,zvB,zst,zlz,znN,zsA,zqG,zu4])
variable {m:Int} {os:List (List Int×Int)} {i:Nat}
theorem zcw {h:Hh} {b:Nat} {m:Int} {P:D->Hh->Prop} (q:Bx b h) (h0:0<m) (h1:m<2^100) (k: ∀ t h',0<=t->t<m->Ext b h h'->P (.int t) h'):wp (F_45 [.cel b,.int m]) h P:=by
 obtain ⟨z,e⟩:=id q
 rw [d_45]
 have e2:ixN ([D.int z]:List D).length 0=some 0:=rfl
 simp only [G_45,zba,zpk,zbY,za6,zbD,zeB,zbe,zbE,pure_bind,bind_assoc,zhR,zvG,zar,zcI e,zr8,zmr,zat,zkO h0 h1,zmK,zjR,zdN,zni,zi2,List.set,zrg,zsR,e2,ziX,zcL,zh9]
 exact k _ _ (Int.emod_nonneg _ ⋯) (Int.emod_lt_of_pos _ h0) q.set
theorem zq1 {ns:List Int} {k:Int} (h0:0<=k) (h1:k<6) (hb: ∀ i∈ns,Builtin.Int.intBits i<=2^20): ∃ c:Int,F_42 [.scr (ns.map D.int),.int k]=pure (.int c)/\Builtin.Int.intBits c<=2^20:=by
 rw [d_42]
 simp only [G_42,zba,zi6,zg0,zbE,zbe,pure_bind,bind_assoc,zbY,za6,zbD,zpq,zrL,zeF]
 by_cases hk:k<((ns.map D.int).length:Int)
 ·have hk':k.toNat<ns.length:=by simp at hk;omega
  have ea:atI (ns.map D.int) k=some (.int ns[k.toNat]):=by
   have:=zdM (xs:=ns.map D.int) (j:=k.toNat) (v:= .int ns[k.toNat]) (by simp [hk'])
   rw [<- this]
   congr 1
   omega
  simp only [hk,decide_true,if_true,zcL,zeB,zbe,zbE,pure_bind,zvq,ea,zmr,zvC,zh9]
  exact ⟨_,rfl,hb _ (getElem_mem hk')⟩
 ·simp only [hk,decide_false,qax,if_false,zfX,pure_bind,zi2,zcL,zeB,zhR,zbE,zbe,zpm (show (-1000000000000000:Int)<6151 by decide) (show (6151:Int)<1000000000000000 by decide),zgk,zh9]
  exact ⟨_,rfl,qaS (intBits_le_64 ⋯ ⋯) (by decide)⟩
theorem ztJ {c k:Int} (hc:Builtin.Int.intBits c<=2^20) (k0:0<=k) (k1:k<24): ∃ r:Int,F_43 [.int c,.int k]=pure (.int r):=by
 rw [d_43]
 have hm:zit ((c+1)*40692+104729*k) ((c+1)*40692+104729*k)=true:=by
  have:=zoo hc k0 k1
  unfold zit
  rw [qaD]
  have e1:(2:Nat)^20=1048576:=rfl
  have e2:(2:Nat)^26=67108864:=rfl
  rw [e1] at this
  rw [e2]
  omega
 have n0:=Int.emod_nonneg (((c+1)*40692+104729*k)*((c+1)*40692+104729*k)) (show (2147483399:Int)≠0 by decide)
 have n1:=Int.emod_lt_of_pos (((c+1)*40692+104729*k)*((c+1)*40692+104729*k)) (show (0:Int)<2147483399 by decide)
 simp only [G_43,zba,zcM,zeB,zbe,zbE,zhR,zgk,pure_bind,bind_assoc,zjx (show (-1000000000000000:Int)<40692 by decide) (show (40692:Int)<1000000000000000 by decide),zlN (show (-1000000000000000:Int)<104729 by decide) (show (104729:Int)<1000000000000000 by decide),
   zi2,List.set,zhQ (show (zbp ((c+1)*40692+104729*k) || zbp ((c+1)*40692+104729*k) || zit ((c+1)*40692+104729*k) ((c+1)*40692+104729*k))=true by rw [hm];simp),zhc (show (0:Int)<2147483399 by decide),zcL]
 generalize hN:((c+1)*40692+104729*k)*((c+1)*40692+104729*k) % 2147483399=N at n0 n1
 simp only [zlN (i:=N+k) (show -1000000000000000<N+k by omega) (show N+k<1000000000000000 by omega),pure_bind,zhc (show (0:Int)<2147483563 by decide),zh9]
 exact ⟨_,rfl⟩
theorem zki {s0 s1:Option D} {c:Int} (hc:Builtin.Int.intBits c<=2^20): ∀ (ds:List D) (n:Int) (x4:Option D),(∀ d∈ds, ∃ j:Int,d= .int j/\0<=j/\j<24)->
  ∃ (n':Int) (x4':Option D),zbq (λx sd=>do let sd1<-za7 4 x sd;zdG sd1) ds [s0,s1,some (.int c),some (.int n),x4]=pure (.nx [s0,s1,some (.int c),some (.int n'),x4'])
 | [],n,x4,_=>⟨n,x4,rfl⟩
 | d::r,n,x4,hd=>by
  obtain ⟨j,rfl,j0,j1⟩:=hd _ qau
  obtain ⟨mx,em⟩:=ztJ hc j0 j1
  obtain ⟨n',x4',ih⟩:=zki hc r (n*2147483647+mx) (some (.int j)) (λy hy=>hd y (qan _ hy))
  refine ⟨n',x4',?_⟩
  rw [zcj, <-ih]
  simp only [zdG,zdN,List.set,pure_bind,bind_assoc,zcM,zeB,zbE,zbe,zhR,zjx (i:=n) (show (-1000000000000000:Int)<2147483647 by decide) (show (2147483647:Int)<1000000000000000 by decide),zbY,za6,zbD,zcY,em,zgk]
theorem ztX {h:Hh} {ns:List Int} {k:Int} {P:D->Hh->Prop} (hb: ∀ i∈ns,Builtin.Int.intBits i<=2^20) (k0:0<=k) (k6:k<6) (q: ∀ z:Int,P (.cel h.length) (h++[.lst [.int z]])):wp (F_44 [.scr (ns.map D.int),.int k]) h P:=by
 obtain ⟨c,ec,hc⟩:=zq1 k0 k6 hb
 rw [d_44]
 simp only [G_44,zba,zcM,zbY,za6,zbD,zbe,zbE,pure_bind,bind_assoc,zcY,ec,zi2,List.set,zi6,zg0,zeB,zhR,zhc (show (0:Int)<2 by decide),zsb,zeF]
 by_cases hc2:(c % 2==0)=true
 ·simp only [hc2,if_true,zcL,zhl,za6,zbD,zeB,zbE,zbe,zhR,pure_bind,bind_assoc,znT (show (0:Int)<2 by decide) (show (2:Int)<2^64 by decide),qaE,qaJ,zaI (show 0+1<=1000 by decide),zar,zh3,zat,zvC,zh9]
  exact q _
 ·obtain ⟨n',x4',el⟩:=zki (s0:=some (.scr (ns.map D.int))) (s1:=some (.int k)) hc (zdj 0 24) 0 none (λd hd=>by
    obtain ⟨i,e,i0,i1⟩:=zl8 hd
    exact ⟨i,e,i0,⋯⟩)
  have er:zlZ [.int 24]=pure (zdj 0 24):=zdE (by decide) (by decide)
  simp only [hc2,if_false,zfX,pure_bind,zi2,zba,zcM,zhR,List.set,zbE,zbe,zhV,zjY,za6,zbD,er,bind_assoc,el,zcL,zhl,qaE,qaJ,zaI (show 0+1<=1000 by decide),zar,zh3,zat,zh9,qax]
  exact q _
theorem zgc (xs:List Int):dEq (.lst (xs.map D.int)) (.lst [])=pure (.bl xs.isEmpty):=by
 have:=zqA xs []
 rw [map_nil] at this
 rw [this]
 cases xs<;>rfl
def Go (m:Int) (o:List Int×Int):Prop:=o.1.Pairwise (· < ·)/\(∀ x∈o.1,0<=x/\x<m)/\o.1≠[]/\0<o.2
theorem zlb {b:Nat} {full:Int} (i:Int) {h:Hh} {Q:Option D->Hh->Prop} (q:Bx b h) (k: ∀ o h',Ext b h h'->(o=none\/o=some (.int i))->Q o h'):
  wp (za5 (za7 0) zcO zc1 [none,some (.cel b),some (.int full)] (.int i)) h Q:=by
 simp only [za5,zdN,List.set,pure_bind,zcO,zg0,zbY,za6,zbD,zbE,zbe,zhR,bind_assoc,zcY,zar]
 refine zcw q (by decide) (by decide) λt h2 t0 t1 x2=> ?_
 simp only [zvE,zat,zeF]
 rw [zpn]
 split
 ·simp only [zc1,zbe,pure_bind,zat]
  exact k _ _ x2 (.inr rfl)
 ·rw [zat]
  exact k _ _ x2 (.inl rfl)
theorem zgJ {b n:Nat} {m kind full:Int} {s1 s2:Option D} {N:Nat} (hN:N<=12) (hnb:n≠b) (m0:1<=m) (m1:m<=10) (k0:0<kind) (k1:kind<2^100): ∀ (ds:List D) {h:Hh} {x7 x8:Option D} {os:List (List Int×Int)} {P:Out->Hh->Prop},Bx b h->h[n]? = some (.lst (os.map zb6))->(∀ o∈os,Go m o)->os.length+ds.length<=N->
  (∀ (x7' x8':Option D) (os':List (List Int×Int)) (h':Hh),Bx b h'->h'[n]? = some (.lst (os'.map zb6))->(∀ o∈os',Go m o)->os'.length<=N->P (.nx [some (.cel b),s1,s2,some (.int m),some (.int kind),some (.int full),some (.cel n),x7',x8']) h')->
  wp (zbq (λx sd=>do let sd1<-za7 7 x sd;zbK sd1) ds [some (.cel b),s1,s2,some (.int m),some (.int kind),some (.int full),some (.cel n),x7,x8]) h P
 | [],h,x7,x8,os,P,q,e,ho,hl,k=>by
  rw [zd0,zat]
  exact k _ _ os h q e ho (by simpa using hl)
 | d::r,h,x7,x8,os,P,q,e,ho,hl,k=>by
  have ih: ∀ {h:Hh} {x7 x8:Option D} {os:List (List Int×Int)},Bx b h->h[n]? = some (.lst (os.map zb6))->(∀ o∈os,Go m o)->os.length+r.length<=N->
   wp (zbq (λx sd=>do let sd1<-za7 7 x sd;zbK sd1) r [some (.cel b),s1,s2,some (.int m),some (.int kind),some (.int full),some (.cel n),x7,x8]) h P:=λq e ho hl=>zgJ hN hnb m0 m1 k0 k1 r q e ho hl k
  rw [zcj]
  generalize zbq (λx sd=>do let sd1<-za7 7 x sd;zbK sd1) r=zc2 at ih ⊢
  have eb:zak [none,some 0,some 5] [some (.cel b),s1,s2,some (.int m),some (.int kind),some (.int full),some (.cel n),some d,x8]=[none,some (D.cel b),some (.int full)]:=rfl
  simp only [zdN,List.set,pure_bind,zbK,zba,zcM,zar]
  unfold zaA
  simp only [zjY,za6,zbD,zbE,zbe,pure_bind,zdE (show 0<=m by omega) (show m<1000 by omega),zar,zjF,zaI (show m.toNat<=1000 by omega),zat,eb]
  rw [zhm]
  refine znd (λi {h Q} q k=>zlb i q k) _ q λys h2 x2 hys=> ?_
  have hyu:=(zcx m.toNat).sublist hys
  have hyb: ∀ x∈ys,0<=x/\x<m:=λx hx=>by have:=zda x (hys.subset hx);omega
  have fin: ∀ (zs:List Int) (h3:Hh),(zs.Pairwise (· < ·)/\(∀ x∈zs,0<=x/\x<m)/\zs≠[])->Ext b h h3->wp ((zel (zaf 6) (zg2 (zac (zaB zc4 (zac (zaf 8) zap)) (zac (cOp zes (cK (.int 1)) (zaB (zaj 2 F_45) (zac (zaf 0) (zac (zaf 4) zap)))) zap)))) [some (.cel b),s1,s2,some (.int m),some (.int kind),some (.int full),some (.cel n),some d,some (.lst (zs.map D.int))]) h3
    λ_ h4=>wp (zc2 [some (.cel b),s1,s2,some (.int m),some (.int kind),some (.int full),some (.cel n),some d,some (.lst (zs.map D.int))]) h4 P:=λzs h3 hz x3=>by
   have e3:=x3.2 n _ hnb e
   simp only [zel,zc7,zbE,zbe,pure_bind,bind_assoc,zar,zcI e3,zks,za6,zbD,zbY,zpt,zeB,zhR,zcY,zat]
   refine zcw x3.1 k0 k1 λt h4 t0 t1 x4=> ?_
   have e4:=x4.2 n _ hnb e3
   simp only [zgk,pure_bind,zat,zar,qaE,qaJ,zaI (show 0+1+1<=1000 by decide),zds,zcI e4,qaH,zaI (show os.length+1<=1000 by simp at hl;omega),ziX]
   have hlt:n<h4.length:=(qac.mp e4).1
   refine ih (os:=os++[(zs,1+t)]) ?_ (by rw [qai hlt];simp [zb6,tI]) ?_ ?_
   ·obtain ⟨y,ey⟩:=x4.1
    exact ⟨y,by rw [qao hnb];exact ey⟩
   ·intro o hmem
    rcases qaK.mp hmem with w | w
    ·exact ho o w
    ·simp at w
     subst w
     exact ⟨hz.1,hz.2.1,hz.2.2,by show (0:Int)<1+t;omega⟩
   ·simp at hl ⊢
    omega
  simp only [zat,zi2,List.set,zba,zi6,zg0,zbE,zbe,pure_bind,zj8,zbD,qaJ,zaI (show 0<=1000 by decide),zgc,zeF,bind_assoc,zar]
  rw [zpn]
  split
  ·simp only [zcM,zj8,za6,zbD,zbY,zbE,zbe,pure_bind,bind_assoc,zcY,zar]
   refine zcw x2.1 ⋯ ⋯ λt h3 t0 t1 x3=> ?_
   simp only [zat,pure_bind,zar,qaE,qaJ,zaI (show 0+1<=1000 by decide),List.set,zi2,zi5]
   exact zgf (fin [t] h3 ⟨by simp,by simp;omega,by simp⟩ (x2.trans x3)) λ_ _ z=>z
  ·rename_i hne
   simp only [zfX,zat,zi2,zi5,zar]
   exact zgf (fin ys h2 ⟨hyu,hyb,λz=>hne (by rw [z];rfl)⟩ x2) λ_ _ z=>z
theorem zoE {h:Hh} {b:Nat} {mt mo:Int} {P:D->Hh->Prop} (q:Bx b h) (t0:1<=mt) (t1:mt<=10) (o0:0<=mo) (o1:mo<=12) (k: ∀ (m:Int) (os:List (List Int×Int)) h',Bx b h'->1<=m->m<=mt->(os.length:Int)<=mo->(∀ o∈os,Go m o)->P (zbm m os) h'):wp (F_46 [.cel b,.int mt,.int mo]) h P:=by
 rw [d_46]
 simp only [G_46,zba,zcM,zeB,zhR,zbY,za6,zbD,zbe,zbE,pure_bind,bind_assoc,zcY,zar]
 refine zcw q ⋯ ⋯ λt h2 t0' t1' x2=> ?_
 simp only [zgk,pure_bind,zat,zi2,List.set,zba,zcM,zeB,zj8,za6,zbD,zhR,ztg,bind_assoc,zar,qaE,qaJ,zaI (show 0+1+1+1+1<=1000 by decide),zbY,zbe,zbE,zcY]
 refine zcw x2.1 (by decide) (by decide) λf h3 f0 f1 x3=> ?_
 obtain ⟨kind,ef,g0,g1⟩: ∃ kind:Int,atI [D.int 1,.int 3,.int 20,.int 100000000000000000000] f=some (.int kind)/\0<kind/\kind<2^100:=by
  have:f=0\/f=1\/f=2\/f=3:=by omega
  rcases this with rfl | rfl | rfl | rfl
  ·exact ⟨1,rfl,by decide,by decide⟩
  ·exact ⟨3,rfl,by decide,by decide⟩
  ·exact ⟨20,rfl,by decide,by decide⟩
  ·exact ⟨100000000000000000000,rfl,by decide,by decide⟩
 simp only [ztO,ef,zmr,zat,zi2,List.set,zba,zcM,zbY,za6,zbD,zbe,zhR,pure_bind,bind_assoc,zcY,zar]
 refine zcw x3.1 (by decide) (by decide) λfull h4 u0 u1 x4=> ?_
 simp only [zat,zi2,List.set,zba,zcM,zhl,zbD,pure_bind,qaJ,zaI (show 0<=1000 by decide),zar,zh3,zhV,zjY,za6,zbY,zeB,zbE,zbe,zhR,zgk,bind_assoc,zcY]
 have x5:=x4.1.push (c:= .lst [])
 have hnb:h4.length≠b:=λz=>by
  obtain ⟨y,ey⟩:=x4.1
  have:=(qac.mp ey).1
  omega
 refine zcw x5.1 ⋯ ⋯ λturns h6 v0 v1 x6=> ?_
 have e6:h6[h4.length]? = some (.lst []):=x6.2 _ _ hnb (by simp)
 simp only [zat,pure_bind,zdE v0 (show turns<1000 by omega),zar]
 refine zgJ (N:=mo.toNat) ⋯ hnb ⋯ ⋯ g0 g1 _ x6.1 (os:=[]) e6 (λo ho=>by cases ho) (by rw [zjF];simp;omega) λx7 x8 os h7 q7 e7 ho hl=> ?_
 simp only [zi2,zcL,zks,za6,zbD,zbE,zbe,pure_bind,bind_assoc,zbY,zsm,zar,zcI e7,zat,qaE,qaJ,zaI (show 0+1+1<=1000 by decide),zh9]
 exact k (1+t) os h7 q7 ⋯ ⋯ ⋯ ho
theorem zj3 {n:Nat} {s0:Option D}: ∀ (os:List (List Int×Int)) {h:Hh} {xs:List Int} {x2:Option D} {P:Out->Hh->Prop},h[n]? = some (.lst (xs.map D.int))->xs.length+(os.flatMap (·.1)).length<=1000->
  (∀ x2' h',(∀ k,k≠n->h'[k]? = h[k]?)->h'.length=h.length->h'[n]? = some (.lst ((xs++os.flatMap (·.1)).map D.int))->P (.nx [s0,some (.cel n),x2']) h')->
  wp (zbq (λx sd=>do let sd1<-za7 2 x sd;zbh sd1) (os.map zb6) [s0,some (.cel n),x2]) h P
 | [],h,xs,x2,P,e,_,k=>by
  rw [map_nil,zd0,zat]
  exact k x2 h (λ_ _=>rfl) rfl (by simpa using e)
 | o::os,h,xs,x2,P,e,hl,k=>by
  have hln:=(qac.mp e).1
  rw [List.flatMap_cons,qav] at hl
  have ih:=λ(x2':Option D)=>zj3 (s0:=s0) (n:=n) os (h:=h.set n (.lst ((xs++o.1).map D.int))) (xs:=xs++o.1) (x2:=x2') (P:=P) (qai hln) (by rw [qav];omega) λx2'' h' h1 h2 h3=>k x2'' h' (λj hj=>(h1 j hj).trans (qao (Ne.symm hj))) (h2.trans (qaI ..)) (by rw [h3,List.flatMap_cons,List.append_assoc])
  rw [qaM,zcj]
  generalize zbq (λx sd=>do let sd1<-za7 2 x sd;zbh sd1) (os.map zb6)=zc2 at ih ⊢
  have f:=zaI (show (xs.map D.int).length+(o.1.map D.int).length<=1000 by rw [qaH,qaH];omega)
  simp only [qaH] at f
  simp only [zbh]
  ac_nf0
  simp only [zar,zcI e,zat,qaH,f,ziX, <-map_append]
  exact ih _
theorem zpD {d:D} {os:List (List Int×Int)} {m:Int} (hd:zfe d=pure (os.map zb6)) (m0:0<=m) (m1:m<=60) (hl:(os.flatMap (·.1)).length<=1000) (b: ∀ o∈os, ∀ x∈o.1,0<=x/\x<m):Ev (F_25 [d]) (tI (zb7 (os.flatMap (·.1)))):=by
 refine .of_wp λh=> ?_
 rw [d_25]
 simp only [G_25]
 ac_nf0
 simp only [hd,zat]
 refine zj3 os (xs:=[]) (by simp) (by simpa using hl) λx2 h' h1 h2 h3=> ?_
 ac_nf0
 have bb: ∀ x∈os.flatMap (·.1),0<=x/\x<m:=λx hx=>by
  obtain ⟨o,ho,hx⟩:=mem_flatMap.mp hx
  exact b o ho x hx
 refine zfb (by simpa using h3) (zgj m0 m1 bb) ⋯ ?_
 ac_nf0
 refine ⟨trivial,⟨[.lst ((os.flatMap (·.1)).map D.int)],List.ext_getElem? λj=> ?_⟩⟩
 by_cases hj:j=h.length
 ·subst hj
  rw [h3]
  simp
 ·rw [h1 j hj]
  by_cases hlt:j<h.length
  ·rw [qad hlt,qad hlt]
  ·rw [List.getElem?_eq_none (by simp;omega),List.getElem?_eq_none (by simp;omega)]
theorem zj5 {os:List (List Int×Int)} {n:Nat} (h: ∀ o∈os,o.1.length<=n):(os.flatMap (·.1)).length<=os.length*n:=by
 induction os with
 | nil=>simp
 | cons o r ih=>
  rw [List.flatMap_cons,qav,qaE,Nat.succ_mul]
  have a1:=h o qau
  have a2:=ih λx hx=>h x (qan _ hx)
  omega
def zfj (t:Int) (o:List Int×Int):Bool:=o.1.any (· == t)
def zdb (m:Int) (os:List (List Int×Int)):List Int:=((List.range m.toNat).map λ(k:Nat)=>(k:Int)).filter λt=>(os.filter (zfj t)).isEmpty
theorem zpx {m:Int} {os:List (List Int×Int)} (m0:1<=m) (m1:m<=10) (hl:os.length<=12) (h: ∀ o∈os,Go m o):Stk m os:=
 ⟨m0,m1,hl,λo ho=>(h o ho).1,λo ho=>(h o ho).2.1,λo ho=>(h o ho).2.2.1,λo ho=>(h o ho).2.2.2⟩
theorem zqI {fi:FA} {src:List (Option Nat)} {sd:Sd} {t:Int} (hi:fi sd=pure (os.map zb6)) (hl:os.length<=1000) (eb:zak src sd=[none,some (.int t)]):zaA fi (za7 0) zcn zco src sd=pure (.lst ((os.filter (zfj t)).map zb6)):=by
 rw [<- zbu]
 refine zbb hi hl λo ho=> ?_
 rw [eb]
 simp only [za5,zcn,zco]
 ac_nf0
 rw [zeK]
 ac_nf0
 unfold zfj
 split<;>rfl
theorem zmq {fi:FA} {tc:FT} {src:List (Option Nat)} {sd:Sd} {x:Option D} (hi:fi sd=pure (zdj 0 m.toNat)) (m1:m<=1000) (eb:zak src sd=[none,x]) (hc: ∀ t:Int,tc [some (.int t),x]=pure ((os.filter (zfj t)).isEmpty)):zaA fi (za7 0) tc (zaf 0) src sd=pure (.lst ((zdb m os).map D.int)):=by
 unfold zdb
 rw [<- zbu]
 refine zbb (by rw [hi,zhm]) (by simp;omega) λt ht=> ?_
 rw [eb]
 simp only [za5]
 ac_nf0
 rw [hc]
 ac_nf0
 split<;>rfl
theorem zrM:dIx (zbm m os) (.int 1)=pure (.tup (os.map zb6)):=rfl
theorem zrO:dIx (zbm m os) (.int 0)=pure (.int m):=rfl
theorem zoI (s:Stk m os) {a:Nat} {p:Int}:(zdb m (os.take a++[(zdb m os,p)]++os.drop a)).isEmpty=true:=by
 rw [isEmpty_iff]
 unfold zdb
 rw [List.filter_eq_nil_iff]
 intro t ht
 rw [isEmpty_iff]
 intro z
 by_cases c:(os.filter (zfj t)).isEmpty=true
 ·have h1:t∈zdb m os:=mem_filter.mpr ⟨ht,c⟩
  have h2:(zdb m os,p)∈(os.take a++[(zdb m os,p)]++os.drop a).filter (zfj t):=mem_filter.mpr ⟨by simp,by simpa [zfj] using h1⟩
  unfold zdb at h2
  rw [z] at h2
  cases h2
 ·rw [isEmpty_iff] at c
  obtain ⟨o,ho⟩:=List.exists_mem_of_ne_nil _ c
  obtain ⟨h1,h2⟩:=mem_filter.mp ho
  have h3:o∈os.take a++os.drop a:=by rw [List.take_append_drop];exact h1
  have h4:o∈(os.take a++[(zdb m os,p)]++os.drop a).filter (zfj t):=mem_filter.mpr ⟨by
    rcases qaK.mp h3 with w | w
    · simp [w]
    · simp [w],h2⟩
  unfold zdb at h4
  rw [z] at h4
  cases h4
theorem zqj {h:Hh} {b:Nat} {mt mo:Int} {P:D->Hh->Prop} (q:Bx b h) (t0:1<=mt) (t1:mt<=10) (o0:1<=mo) (o1:mo<=12) (k: ∀ (m:Int) (os:List (List Int×Int)) h',Bx b h'->Stk m os->(zdb m os).isEmpty=true->(os.length:Int)<=mo->m<=mt->P (zbm m os) h'):wp (F_47 [.cel b,.int mt,.int mo]) h P:=by
 rw [d_47]
 simp only [G_47]
 ac_nf0
 refine zoE q t0 t1 ⋯ ⋯ λm os h2 q2 m0 m1 ol ho=> ?_
 have s:=zpx m0 ⋯ ⋯ ho
 have ec:zaA (zlo (zac (zaf 3) zap)) (za7 0) zdo zeD [none,some 4] [some (.cel b),some (.int mt),some (.int mo),some (.int m),some (.tup (os.map zb6)),none,none]=pure (.lst ((zdb m os).map D.int)):=by
  refine zmq (x:=some (.tup (os.map zb6))) ?_ ⋯ rfl λt=> ?_
  ·ac_nf0
   exact zdE ⋯ ⋯
  ·have eo:zaA (iSq (zaf 1)) (za7 0) zcn zco [none,some 0] [some (.int t),some (.tup (os.map zb6))]=pure (.lst ((os.filter (zfj t)).map zb6)):=zqI rfl ⋯ rfl
   simp only [zdo]
   ac_nf0
   rw [eo]
   ac_nf0
   rw [zok]
   ac_nf0
 simp only [zbm]
 ac_nf0
 rw [ec]
 ac_nf0
 refine zcw q2 ⋯ ⋯ λa h3 a0 a1 x3=> ?_
 have en:=znJ (zdb m os)
 unfold tI at en
 ac_nf0
 rw [en]
 ac_nf0
 cases hf:(zdb m os).isEmpty with
 | true=>
  ac_nf0
  exact k m os h3 x3.1 s hf ⋯ m1
 | false=>
  ac_nf0
  refine zcw x3.1 (by decide) (by decide) λt h4 u0 u1 x4=> ?_
  have f1:=zaI (show (List.take a.toNat (os.map zb6)).length+1<=1000 by simp;omega)
  have f2:=zaI (show (List.take a.toNat (os.map zb6)).length+1+(List.drop a.toNat (os.map zb6)).length<=1000 by simp;omega)
  ac_nf0
  simp only [zhq _ a0,zhe _ a0,f1,f2]
  ac_nf0
  have hs:Stk m (os.take a.toNat++[(zdb m os,1+t)]++os.drop a.toNat):=by
   refine zpx m0 ⋯ (by simp;omega) λo hmem=> ?_
   have hm:o∈os\/o=(zdb m os,1+t):=by
    simp only [qaK,mem_singleton] at hmem
    rcases hmem with (w | w) | w
    ·exact .inl (List.mem_of_mem_take w)
    ·exact .inr w
    ·exact .inl (List.mem_of_mem_drop w)
   rcases hm with w | rfl
   ·exact ho o w
   ·refine ⟨(zcx _).filter _,λx hx=> ?_,λz=> ?_,by show (0:Int)<1+t;omega⟩
    ·have:=zda x (mem_filter.mp hx).1
     omega
    ·have z:zdb m os=[]:=z
     rw [z] at hf
     cases hf
  have hk:=k _ _ h4 x4.1 hs (zoI s) (by simp;omega) m1
  simp only [zbm,map_append,qaM,map_nil,map_take,map_drop,zb6,tI] at hk
  simpa using hk
theorem zdq {d:D} (k:kn d=true):F_7 [d]=pure (.bl (isI d)):=by
 rw [d_7]
 simp only [G_7,zcL,zpc,zqr,zbe,pure_bind,bind_assoc,zqg k,zrZ k,zeF,zlB]
 cases d<;>simp [isI]
theorem zh7 {m:Int} {x0:Option D}: ∀ {ds:List D} {l:Int} {x3:Option D},(∀ d∈ds,kn d=true)->
  (zdc m l ds=true-> ∃ sd',zbq (λx sd=>do let sd1<-za7 3 x sd;zbB sd1) ds [x0,some (.int m),some (.int l),x3]=pure (.nx sd'))/\
  (zdc m l ds=false->zbq (λx sd=>do let sd1<-za7 3 x sd;zbB sd1) ds [x0,some (.int m),some (.int l),x3]=pure (.rt (.bl false)))
 | [],l,x3,_=>⟨λ_=>⟨_,rfl⟩,λh=>by simp [zdc] at h⟩
 | d::r,l,x3,hk=>by
  have kd:=hk d qau
  have step: ∀ {i:Int},d= .int i->(do let sd1<-za7 3 d [x0,some (.int m),some (.int l),x3];zbB sd1)=if (decide (l<=i) && decide (i<m))=true then pure (.nx [x0,some (.int m),some (.int (i+1)),some (.int i)]) else pure (.rt (.bl false)):=by
   intro i e
   subst e
   simp only [zbB,zdN,List.set,pure_bind,bind_assoc,zba,zi6,zrF,zj6,zkd,zbY,za6,zbD,zbE,zbe,zhn,zdq (show kn (.int i)=true from rfl),zeF,isI,zg0,zrL,zun,zcL,zhR,zfX]
   by_cases h1:l<=i
   ·by_cases h2:i<m
    ·have h1': ¬i<l:=by omega
     have h2': ¬m<=i:=by omega
     simp [h1,h2,h1',h2']
    ·have h1': ¬i<l:=by omega
     have h2':m<=i:=by omega
     simp [h1,h2,h1',h2']
   ·have h1':i<l:=by omega
    simp [h1,h1']
  by_cases hi:isI d=true
  ·obtain ⟨i,e⟩: ∃ i,d= .int i:=by cases d<;>simp [isI] at hi;exact ⟨_,rfl⟩
   have s1:=step e
   subst e
   have ih:=zh7 (m:=m) (x0:=x0) (ds:=r) (l:=i+1) (x3:=some (.int i)) λy hy=>hk y (qan _ hy)
   rw [zcj,s1]
   by_cases c:(decide (l<=i) && decide (i<m))=true
   ·have er:zdc m l (.int i::r)=zdc m (i+1) r:=by rw [zdc,c];simp
    rw [er]
    simp only [c,if_true,pure_bind]
    exact ih
   ·have er:zdc m l (.int i::r)=false:=by rw [zdc,Bool.eq_false_iff.mpr c];simp
    rw [er]
    simp only [Bool.eq_false_iff.mpr c,if_false,pure_bind,qax]
    simp
  ·have hi':isI d=false:=Bool.eq_false_iff.mpr hi
   have er:zdc m l (d::r)=false:=by cases d<;>simp [isI] at hi'<;>rfl
   rw [er,zcj]
   refine ⟨λh=>(by cases h),λ_=> ?_⟩
   simp only [zbB,zdN,List.set,pure_bind,bind_assoc,zba,zi6,zrF,zj6,zkd,zbY,za6,zbD,zbE,zbe,zhn,zdq kd,zeF,hi',zcL,zhR,zfX]
   simp
theorem zi0 {d:D} {m:Int} (k:kn d=true) (hk: ∀ ds,d= .tup ds-> ∀ x∈ds,kn x=true):F_9 [d,.int m]=pure (.bl (match d with | .tup ds=>zdc m 0 ds | _=>false)):=by
 rw [d_9]
 simp only [G_9,zba,zi6,zj6,zkd,zqr,zbe,pure_bind,bind_assoc,zmi k,zeF]
 cases d with
 | tup ds=>
  simp only [isT,Bool.not_true,qax,if_false,zfX,pure_bind,zi2,zba,zcM,zhR,List.set,zhV,zsj,zbe,ztN,bind_assoc]
  have:=zh7 (m:=m) (x0:=some (.tup ds)) (ds:=ds) (l:=0) (x3:=none) (hk ds rfl)
  cases c:zdc m 0 ds with
  | true=>
   obtain ⟨sd',e⟩:=this.1 c
   rw [e]
   simp
  | false=>
   rw [this.2 c]
   simp
 | _=>simp [isT]
theorem zpe (s:Stk m os) {d:D} (g:gk d):F_17 [zbm m os,d]=pure (.bl (zul os.length d)):=by
 rw [d_17]
 simp only [G_17,zbm]
 ac_nf0
 rw [zi0 g.1 λds e=>(g.2 ds e).2]
 ac_nf0
 cases d<;>rfl
theorem zrk (s:Stk m os) {d:D} (g:gk d) (hp:zul os.length d=true):F_23 [zbm m os,d]=pure .non:=by
 rw [d_23]
 simp only [G_23]
 ac_nf0
 rw [zpe s g,hp]
 ac_nf0
theorem zfH (s:Stk m os) {ls:List Int} (hu:ls.Pairwise (· < ·)) (b: ∀ x∈ls,0<=x/\x<os.length):F_24 [zbm m os,tI ls]=pure (.lst ((zce os ls).map zb6)):=by
 have hl:=zh6 (m:=os.length) ⋯ hu b
 have hls:ls.length<=12:=by have:=s.len;omega
 have hp:zul os.length (tI ls)=true:=zc9.mpr ⟨hu,b⟩
 rw [d_24]
 simp only [G_24]
 ac_nf0
 have e:=zrk s (d:=tI ls) (zt0 ⋯) hp
 unfold tI at e
 rw [e]
 ac_nf0
 rw [zlG (ds:=ls.map D.int) (k:=λd=>match d with | .int i=>zb6 (os.getD i.toNat ([],0)) | d=>d) rfl (by rw [qaH];omega) ?_]
 ·ac_nf0
  unfold zce
  rw [qaT,qaT]
  rfl
 ·intro x hx
  obtain ⟨i,hi,rfl⟩:=qaU.mp hx
  have eb:zak [none,some 0] [some (zbm m os),some (D.tup (ls.map D.int))]=[none,some (zbm m os)]:=rfl
  rw [eb]
  simp only [za5,zex,zbm]
  ac_nf0
  rw [zi9 (b i hi).1 (b i hi).2]
  ac_nf0
def Lt (os:List (List Int×Int)) (ls:List Int):Prop:=ls.Pairwise (· < ·)/\ ∀ x∈ls,0<=x/\x<os.length
theorem Lt.sub {ls ks:List Int} (h:Lt os ls) (s:ks.Sublist ls):Lt os ks:=⟨h.1.sublist s,λx hx=>h.2 x (s.subset hx)⟩
theorem Lt.lot {ls:List Int} (h:Lt os ls):zul os.length (tI ls)=true:=zc9.mpr h
theorem Lt.nodup {ls:List Int} (h:Lt os ls):ls.Nodup:=h.1.imp λz=>by omega
theorem Lt.len {ls:List Int} (h:Lt os ls) (s:Stk m os):ls.length<=12:=by
 have:=zh6 (m:=os.length) ⋯ h.1 h.2
 have:=s.len
 omega
theorem zkB (hf:(zdb m os).isEmpty=true) {t:Int} (t0:0<=t) (t1:t<m): ∃ o∈os,t∈o.1:=by
 rw [isEmpty_iff] at hf
 unfold zdb at hf
 rw [List.filter_eq_nil_iff] at hf
 have h1:=hf t (qaU.mpr ⟨t.toNat,mem_range.mpr ⋯,⋯⟩)
 rw [isEmpty_iff] at h1
 obtain ⟨o,ho⟩:=List.exists_mem_of_ne_nil _ h1
 obtain ⟨h2,h3⟩:=mem_filter.mp ho
 exact ⟨o,h2,by simpa [zfj] using h3⟩
theorem zeM (s:Stk m os) {ls:List Int} (L:Lt os ls):F_20 [zbm m os,tI ls]=pure (.int (pr os ls)):=by
 have ll:=L.len s
 have e2:=zfH s L.1 L.2
 have h3:(zce os ls).length=ls.length:=by unfold zce;simp
 have ec:zaA (iSq (zaB (zaj 2 F_24) (zac (zaf 0) (zac (zaf 1) zap)))) (za7 0) (λ_=>pure true) zdS [none] [some (zbm m os),some (tI ls)]=pure (.lst (((zce os ls).map (·.2)).map D.int)):=by
  rw [show ((zce os ls).map (·.2)).map D.int=(zce os ls).filterMap λo=>some (.int o.2) by simp]
  refine zbb (g':=zb6) ?_ ⋯ λo _=> ?_
  ·simp only [tI] at e2
   ac_nf0
   rw [e2]
   ac_nf0
  ·have eb:zak [none] [some (zbm m os),some (tI ls)]=[none]:=rfl
   rw [eb]
   simp only [za5,zdS]
   ac_nf0
 rw [d_20]
 simp only [G_20,zcL,zbY,za6,zbD]
 rw [ec]
 simp only [pure_bind]
 rw [zmQ]
 unfold pr zce
 rw [qaT]
 rfl
def Kq (m:Int) (os:List (List Int×Int)) (ts:List Int) (ss:List Sp4) (k tn sn:Nat) (h:Hh):Prop:=
 h[k]? = some (.ins "Keeper" (zjt (zbm m os) tn sn))/\h[tn]? = some (.lst (ts.map D.int))/\h[sn]? = some (.lst (ss.map zqO))/\tn≠sn
variable {ts:List Int} {ss:List Sp4} {k tn sn:Nat} {h:Hh}
theorem Kq.gro {h':Hh} (K:Kq m os ts ss k tn sn h) (g:Gro h h'):Kq m os ts ss k tn sn h':=⟨g.get K.1,g.get K.2.1,g.get K.2.2.1,K.2.2.2⟩
theorem zgh {P:D->Hh->Prop} (K:Kq m os ts ss k tn sn h) (hl:ss.length<=1000) (q:P (.lst ((zb8 ss).map D.int)) h):wp (F_Keeper_in_order [.cel k]) h P:=by
 rw [d_Keeper_in_order]
 simp only [zaD]
 ac_nf0
 refine zkq (n:=sn) (g':=zqO) (xs:=ss) (k:=λx=>some (.int x.2.2.2)) (λ{P} q=> ?_) K.2.2.1 hl (λx _=> ?_) ?_
 ·ac_nf0
  exact zcJ K.1 zeX q
 ·rw [show zak [none] [some (.cel k)]=[none] from rfl]
  simp only [za5,zcD,zqO]
  ac_nf0
 ·rw [zbi]
  ac_nf0
  unfold zb8 at q
  rw [qaT] at q
  exact q
theorem zdY {P:D->Hh->Prop} (K:Kq m os ts ss k tn sn h) (hl:ss.length<64) (hn:(zb8 ss).Nodup) (q:P (tI (zb7 (zb8 ss))) h):wp (F_Keeper_taken [.cel k]) h P:=by
 have hl':(zb8 ss).length<64:=by unfold zb8;rw [qaH];exact hl
 rw [d_Keeper_taken]
 simp only [zaq]
 ac_nf0
 refine zax K.1 zfY ?_
 ac_nf0
 refine zgh K ⋯ ?_
 ac_nf0
 rw [zi8 hl',zje hn λk=>Iff.rfl]
 ac_nf0
 exact q
def shs (m:Int) (ss:List Sp4):List Int:=(List.range m.toNat).map λ(t:Nat)=>sh ss (t:Int)
theorem zim {P:D->Hh->Prop} (s:Stk m os) (K:Kq m os ts ss k tn sn h) (hl:ss.length<=1000) (q: ∀ h',Gro h h'->P (.lst ((shs m ss).map D.int)) h'):wp (F_Keeper_shares [.cel k]) h P:=by
 have m0:=s.m0
 have m1:=s.m1
 rw [d_Keeper_shares]
 simp only [zaM]
 ac_nf0
 refine zkq (n:=sn) (g':=zqO) (xs:=ss) (k:=λx=>some (.tup [.int x.2.1,.int x.2.2.1])) (λ{P} q=> ?_) K.2.2.1 hl (λx _=> ?_) ?_
 ·ac_nf0
  exact zcJ K.1 zeX q
 ·rw [show zak [none] [some (.cel k),none]=[none] from rfl]
  simp only [za5,zdh,zqO]
  ac_nf0
 rw [zbi]
 ac_nf0
 have e1:zrx [.lst (ss.map λx=> .tup [.int x.2.1,.int x.2.2.1])]=zko (zem (ss.map λx=>(x.2.1,D.int x.2.2.1))):=by
  show (ofO (prs (ss.map λx=> .tup [.int x.2.1,.int x.2.2.1]))>>=λps=>zko (zem ps))=_
  rw [zmE]
  rfl
 rw [e1]
 refine znr ?_
 have K2:=K.gro (h':=h++[.dic (zem (ss.map λx=>(x.2.1,D.int x.2.2.1)))]) ⟨_,rfl⟩
 have g2:Gro h (h++[.dic (zem (ss.map λx=>(x.2.1,D.int x.2.2.1)))]):=⟨_,rfl⟩
 have ed:(h++[C.dic (zem (ss.map λx=>(x.2.1,D.int x.2.2.1)))])[h.length]? = some (.dic (zem (ss.map λx=>(x.2.1,D.int x.2.2.1)))):=by simp
 generalize h++[C.dic (zem (ss.map λx=>(x.2.1,D.int x.2.2.1)))]=h2 at K2 g2 ed ⊢
 generalize h.length=n at ed ⊢
 ac_nf0
 unfold zaA
 ac_nf0
 refine zcJ K2.1 zb1 ?_
 rw [zrO]
 ac_nf0
 rw [zdE ⋯ ⋯]
 ac_nf0
 rw [zjF,zaI ⋯]
 ac_nf0
 have er:zdj 0 m.toNat=(List.range m.toNat).map λ(i:Nat)=>D.int (i:Int):=by
  unfold zdj
  exact map_congr_left λk _=>by simp
 rw [er]
 refine zn2 (g':=λ(i:Nat)=> .int (i:Int)) (k:=λi=>some (.int (sh ss (i:Int)))) (λi _=> ?_) ?_
 ·rw [show zak [none,some 1] [some (.cel k),some (.cel n)]=[none,some (.cel n)] from rfl]
  simp only [za5,zdf]
  ac_nf0
  refine zlu ed ?_
  ac_nf0
  refine zsi ed ?_
  rw [zur]
  ac_nf0
  exact ⟨trivial,trivial⟩
 ·rw [zbi]
  ac_nf0
  unfold shs at q
  rw [qaT] at q
  exact q h2 g2
def rm (os:List (List Int×Int)) (ss:List Sp4) (n:Int):Int:=(os.getD n.toNat ([],0)).2 - ((os.getD n.toNat ([],0)).1.map (sh ss)).sum
theorem zs5 {m t:Int} {ss:List Sp4} (t0:0<=t) (t1:t<m):atI ((shs m ss).map D.int) t=some (.int (sh ss t)):=by
 have:=zdM (xs:=(shs m ss).map D.int) (j:=t.toNat) (v:= .int (sh ss t)) (by
   unfold shs
   rw [qaT,List.getElem?_map,List.getElem?_range ⋯]
   simp only [Option.map_some,Function.comp]
   rw [toNat_of_nonneg t0])
 rwa [toNat_of_nonneg t0] at this
theorem zjd (s:Stk m os) {n:Int} (n0:0<=n) (n1:n<os.length):os.getD n.toNat ([],0)∈os:=by
 rw [List.getD,qaf ⋯]
 exact getElem_mem _
theorem zqm {P:D->Hh->Prop} (s:Stk m os) (K:Kq m os ts ss k tn sn h) (hl:ss.length<=1000) {n:Int} (n0:0<=n) (n1:n<os.length) (q: ∀ h',Gro h h'->P (.int (rm os ss n)) h'):wp (F_Keeper_room [.cel k,.int n]) h P:=by
 have ho:=zjd s n0 n1
 rw [d_Keeper_room]
 simp only [zby]
 ac_nf0
 refine zcJ K.1 zb1 ?_
 rw [zrM]
 ac_nf0
 rw [zi9 n0 n1]
 ac_nf0
 refine zax K.1 ziZ ?_
 ac_nf0
 refine zim s K hl λh2 g2=> ?_
 ac_nf0
 have ec:zaA (iSq (cOp dIx (zaf 2) (cK (.int 0)))) (za7 0) (λ_=>pure true) zcA [none,some 3] [some (.cel k),some (.int n),some (zb6 (os.getD n.toNat ([],0))),some (.lst ((shs m ss).map D.int))]=pure (.lst (((os.getD n.toNat ([],0)).1.map (sh ss)).map D.int)):=by
  rw [show ((os.getD n.toNat ([],0)).1.map (sh ss)).map D.int=(os.getD n.toNat ([],0)).1.filterMap λt=>some (D.int (sh ss t)) by rw [zbi,qaT];rfl]
  refine zbb (g':=D.int) (xs:=(os.getD n.toNat ([],0)).1) (by ac_nf0) (by have:=s.olen _ ho;omega) λt ht=> ?_
  rw [show zak [none,some 3] [some (.cel k),some (.int n),some (zb6 (os.getD n.toNat ([],0))),some (.lst ((shs m ss).map D.int))]=[none,some (.lst ((shs m ss).map D.int))] from rfl]
  simp only [za5,zcA]
  have hb:=s.bd _ ho t ht
  ac_nf0
  rw [zs5 hb.1 hb.2]
  ac_nf0
 unfold zb6 tI at ec
 rw [ec]
 ac_nf0
 rw [zmQ]
 ac_nf0
 exact q h2 g2
def wI (os:List (List Int×Int)) (t:Int):List Int:=((List.range os.length).filter λj=>zfj t (os.getD j ([],0))).map λ(j:Nat)=>(j:Int)
theorem zlF {fi:FA} {src:List (Option Nat)} {sd:Sd} {t:Int} (hi:fi sd=pure (zpK (os.map zb6))) (hl:os.length<=1000) (eb:zak src sd=[none,none,some (.int t)]):zaA fi (zgD 2 (zcH (za7 0) (zcH (za7 1) zhM))) zbV zbR src sd=pure (.lst ((wI os t).map D.int)):=by
 unfold wI
 rw [qaT, <-zbu]
 refine zbb (g':=λ(i:Nat)=> .tup [.int i,(os.map zb6).getD i .non]) (by rw [hi];unfold zpK;rw [qaH]) (by simpa using hl) λi hi'=> ?_
 have hi2:i<os.length:=mem_range.mp hi'
 have eo:(os.map zb6).getD i .non=zb6 (os.getD i ([],0)):=by simp [List.getD,hi2]
 rw [eb]
 simp only [za5,zbV,zbR,eo]
 ac_nf0
 rw [zeK]
 ac_nf0
 unfold zfj
 split<;>rfl
theorem zqw (s:Stk m os) {t:Int}:F_27 [zbm m os,.int t]=pure (tI (wI os t)):=by
 have ol:=s.len
 have ec:zaA (zvv (cOp dIx (zaf 0) (cK (.int 1)))) (zgD 2 (zcH (za7 0) (zcH (za7 1) zhM))) zbV zbR [none,none,some 1] [some (zbm m os),some (.int t)]=pure (.lst ((wI os t).map D.int)):=zlF rfl ⋯ rfl
 rw [d_27]
 simp only [G_27]
 ac_nf0
 rw [ec]
 ac_nf0
variable {ts:List Int} {ss:List Sp4} {k tn sn:Nat} {h:Hh}
def zd7 (os:List (List Int×Int)) (ls:List Int) (t:Int):Bool:=ls.any λn=>(os.getD n.toNat ([],0)).1.any (· == t)
theorem zbn {ls:List Int} {t:Int}:zd7 os ls t=true↔ ∃ n∈ls,t∈(os.getD n.toNat ([],0)).1:=by
 unfold zd7
 rw [any_eq_true]
 exact ⟨λ⟨n,h1,h2⟩=>⟨n,h1,zcd.mp h2⟩,λ⟨n,h1,h2⟩=>⟨n,h1,zcd.mpr h2⟩⟩
theorem zji {ls:List Int} {t:Int}:(zb7 ((zce os ls).flatMap (·.1))).any (· == t)=zd7 os ls t:=by
 rw [Bool.eq_iff_iff,zcd,zaS,zbn,mem_flatMap]
 unfold zce
 constructor
 ·rintro ⟨o,ho,ht⟩
  obtain ⟨n,hn,rfl⟩:=qaU.mp ho
  exact ⟨n,hn,ht⟩
 ·rintro ⟨n,hn,ht⟩
  exact ⟨_,qaU.mpr ⟨n,hn,rfl⟩,ht⟩
theorem zew {ls ks:List Int} {t:Int} (e: ∀ n,n∈ls↔n∈ks):zd7 os ls t=zd7 os ks t:=by
 rw [Bool.eq_iff_iff,zbn,zbn]
 exact ⟨λ⟨n,h1,h2⟩=>⟨n,(e n).mp h1,h2⟩,λ⟨n,h1,h2⟩=>⟨n,(e n).mpr h1,h2⟩⟩
theorem zfA (s:Stk m os) {ls:List Int} (L:Lt os ls):Ev (F_19 [zbm m os,tI ls]) (tI (zb7 ((zce os ls).flatMap (·.1)))):=by
 have ll:=L.len s
 have hm:=zez (os:=os) (ls:=ls) L.2
 have e:=zfH s L.1 L.2
 have hlen:(zce os ls).length<=12:=by unfold zce;rw [qaH];exact ll
 have m0:=s.m0
 have m1:=s.m1
 have hf:=zj5 (os:=zce os ls) (n:=10) λo ho=>s.olen o (hm o ho)
 refine .of_wp λh=> ?_
 rw [d_19]
 simp only [G_19]
 unfold tI at e
 unfold tI
 ac_nf0
 rw [e]
 ac_nf0
 refine (zpD (m:=m) (zub (ds:=(zce os ls).map zb6)) ⋯ ⋯ ⋯ λo ho=>s.bd o (hm o ho)).wp λh' g=> ?_
 unfold tI
 ac_nf0
 exact ⟨trivial,g⟩
theorem zhI (s:Stk m os) {t:Int} (t0:0<=t) (t1:t<m):F_22 [zbm m os,.int t]=pure .non:=by
 rw [d_22]
 simp only [G_22]
 ac_nf0
 rw [zdq (d:= .int t) rfl]
 ac_nf0
 rw [zrO]
 simp only [isI]
 ac_nf0
 simp only [zrL,zun]
 ac_nf0
 rw [decide_eq_false ⋯,decide_eq_false ⋯]
 ac_nf0
theorem zhW {t n:Int}:n∈wI os t↔0<=n/\n<os.length/\t∈(os.getD n.toNat ([],0)).1:=by
 unfold wI
 rw [qaU]
 constructor
 ·rintro ⟨i,hi,rfl⟩
  obtain ⟨h1,h2⟩:=mem_filter.mp hi
  have h1:=mem_range.mp h1
  refine ⟨⋯,⋯,?_⟩
  rw [qaB]
  exact zcd.mp h2
 ·rintro ⟨h0,h1,h2⟩
  refine ⟨n.toNat,mem_filter.mpr ⟨mem_range.mpr ⋯,zcd.mpr h2⟩,⋯⟩
def rms (os:List (List Int×Int)) (ss:List Sp4) (t:Int):List (List Int):=(wI os t).map λn=>[rm os ss n,n]
def bst (os:List (List Int×Int)) (ss:List Sp4) (t:Int):List Int:=(rms os ss t).getD (zfO (rms os ss t)) []
theorem zmC {t:Int} (hf:wI os t≠[]): ∃ n∈wI os t,bst os ss t=[rm os ss n,n]:=by
 have hne:rms os ss t≠[]:=λz=>hf (List.map_eq_nil_iff.mp z)
 have hl:=zhr hne
 unfold bst
 rw [List.getD,qaf hl]
 obtain ⟨n,h1,h2⟩:=qaU.mp (getElem_mem hl)
 exact ⟨n,h1,h2.symm⟩
def zeO (os:List (List Int×Int)) (ts:List Int) (ss:List Sp4) (t:Int):List Sp4:=if zd7 os (zb8 ss) t=true then ss else ss++[((ts.length:Int),t,(bst os ss t).getD 0 0,(bst os ss t).getD 1 0)]
structure Iv (m:Int) (os:List (List Int×Int)) (ts:List Int) (ss:List Sp4):Prop where
 had: ∀ t∈ts,zd7 os (zb8 ss) t=true
 bd: ∀ t∈ts,0<=t/\t<m
 stp: ∀ x∈ss,(0<=x.1/\x.1<ts.length)/\(0<=x.2.2.2/\x.2.2.2<os.length)/\x.2.1∈(os.getD x.2.2.2.toNat ([],0)).1
 nd:(zb8 ss).Nodup
theorem Iv.lt (v:Iv m os ts ss):Lt os (zb7 (zb8 ss)):=⟨zdR _,λn hn=>by
  obtain ⟨x,hx,rfl⟩:=qaU.mp (zaS.mp hn)
  exact (v.stp x hx).2.1⟩
theorem Iv.len (v:Iv m os ts ss) (s:Stk m os):ss.length<=12:=by
 have h1:(zb8 ss).length=ss.length:=qaH ..
 have h2:=zh0 (m:=os.length) ⋯ v.nd λn hn=>by
  obtain ⟨x,hx,rfl⟩:=qaU.mp hn
  exact (v.stp x hx).2.1
 have:=s.len
 omega
theorem Iv.nil:Iv m os [] []:=⟨by simp,by simp,by simp,by simp [zb8]⟩
theorem Iv.come (s:Stk m os) (v:Iv m os ts ss) {t:Int} (t0:0<=t) (t1:t<m) (hf:wI os t≠[]):Iv m os (ts++[t]) (zeO os ts ss t):=by
 unfold zeO
 have hlen:(ts++[t]).length=ts.length+1:=by simp
 split
 ·rename_i e
  refine ⟨λx hx=> ?_,λx hx=> ?_,λx hx=> ?_,v.nd⟩
  ·rcases qaK.mp hx with z | z
   ·exact v.had x z
   ·rw [mem_singleton.mp z];exact e
  ·rcases qaK.mp hx with z | z
   ·exact v.bd x z
   ·rw [mem_singleton.mp z];exact ⟨t0,t1⟩
  ·have:=v.stp x hx
   exact ⟨⟨this.1.1,⋯⟩,this.2⟩
 ·rename_i e
  obtain ⟨n,hn,en⟩:=zmC (ss:=ss) hf
  obtain ⟨n0,n1,nt⟩:=zhW.mp hn
  rw [en]
  have hnums:zb8 (ss++[((ts.length:Int),t,[rm os ss n,n].getD 0 0,[rm os ss n,n].getD 1 0)])=zb8 ss++[n]:=by
   unfold zb8
   rw [map_append]
   rfl
  refine ⟨λx hx=> ?_,λx hx=> ?_,λx hx=> ?_,?_⟩
  ·rw [hnums,zbn]
   rcases qaK.mp hx with z | z
   ·obtain ⟨y,h1,h2⟩:=zbn.mp (v.had x z)
    exact ⟨y,mem_append_left _ h1,h2⟩
   ·rw [mem_singleton.mp z]
    exact ⟨n,by simp,nt⟩
  ·rcases qaK.mp hx with z | z
   ·exact v.bd x z
   ·rw [mem_singleton.mp z];exact ⟨t0,t1⟩
  ·rcases qaK.mp hx with z | z
   ·have:=v.stp x z
    exact ⟨⟨this.1.1,⋯⟩,this.2⟩
   ·rw [mem_singleton.mp z]
    exact ⟨⟨by show (0:Int)<=ts.length;omega,by show (ts.length:Int)<(ts++[t]).length;omega⟩,⟨n0,n1⟩,nt⟩
  ·rw [hnums,List.nodup_append]
   refine ⟨v.nd,by simp,λa ha b hb=> ?_⟩
   rw [mem_singleton.mp hb]
   rintro rfl
   exact e (zbn.mpr ⟨a,ha,nt⟩)
variable {ts:List Int} {ss:List Sp4} {k tn sn:Nat} {h:Hh}
theorem Kq.ne (K:Kq m os ts ss k tn sn h):k≠tn/\k≠sn:=by
 obtain ⟨h1,h2,h3,_⟩:=K
 refine ⟨λz=> ?_,λz=> ?_⟩
 ·subst z;rw [h1] at h2;cases h2
 ·subst z;rw [h1] at h3;cases h3
theorem Kq.lts (K:Kq m os ts ss k tn sn h):tn<h.length/\sn<h.length:=⟨(qac.mp K.2.1).1,(qac.mp K.2.2.1).1⟩
theorem Kq.setT {ts':List Int} (K:Kq m os ts ss k tn sn h):Kq m os ts' ss k tn sn (h.set tn (.lst (ts'.map D.int))):=by
 obtain ⟨n1,n2⟩:=K.ne
 obtain ⟨l1,l2⟩:=K.lts
 obtain ⟨h1,h2,h3,h4⟩:=K
 exact ⟨by rw [qao (Ne.symm n1)];exact h1,by rw [qai l1],by rw [qao h4];exact h3,h4⟩
theorem Kq.setS {ss':List Sp4} (K:Kq m os ts ss k tn sn h):Kq m os ts ss' k tn sn (h.set sn (.lst (ss'.map zqO))):=by
 obtain ⟨n1,n2⟩:=K.ne
 obtain ⟨l1,l2⟩:=K.lts
 obtain ⟨h1,h2,h3,h4⟩:=K
 exact ⟨by rw [qao (Ne.symm n2)];exact h1,by rw [qao (Ne.symm h4)];exact h2,by rw [qai l2],h4⟩
def Fr (tn sn:Nat) (h h':Hh):Prop:= ∀ j c,j≠tn->j≠sn->h[j]? = some c->h'[j]? = some c
theorem Fr.of_gro {h':Hh} (g:Gro h h'):Fr tn sn h h':=λj c _ _ e=>g.get e
theorem Fr.trans {h1 h2:Hh} (a:Fr tn sn h h1) (b:Fr tn sn h1 h2):Fr tn sn h h2:=λj c n1 n2 e=>b j c n1 n2 (a j c n1 n2 e)
theorem Fr.setT {c:C}:Fr tn sn h (h.set tn c):=λj d n1 _ e=>by rw [qao (Ne.symm n1)];exact e
theorem Fr.setS {c:C}:Fr tn sn h (h.set sn c):=λj d _ n2 e=>by rw [qao (Ne.symm n2)];exact e
theorem zlV {P:D->Hh->Prop} (s:Stk m os) (K:Kq m os ts ss k tn sn h) (v:Iv m os ts ss) (tl:ts.length<=500) {t:Int} (t0:0<=t) (t1:t<m) (hf:wI os t≠[])
  (q: ∀ h',Kq m os (ts++[t]) (zeO os ts ss t) k tn sn h'->Fr tn sn h h'->P .non h'):wp (F_Keeper_come [.cel k,.int t]) h P:=by
 have sl:=v.len s
 have ol:=s.len
 have hwe:(wI os t).isEmpty=false:=by
  cases e:wI os t with
  | nil=>exact absurd e hf
  | cons=>rfl
 have hwl:(wI os t).length<=12:=by
  unfold wI
  rw [qaH]
  have:=List.length_filter_le (λj=>zfj t (os.getD j ([],0))) (List.range os.length)
  rw [length_range] at this
  omega
 rw [d_Keeper_come]
 simp only [zbj]
 ac_nf0
 refine zcJ K.1 zb1 ?_
 ac_nf0
 rw [zhI s t0 t1]
 ac_nf0
 refine zcJ K.1 zb1 ?_
 ac_nf0
 rw [zqw s]
 ac_nf0
 rw [zwa,hwe]
 ac_nf0
 refine zcJ K.1 zb1 ?_
 ac_nf0
 refine zax K.1 zcs ?_
 ac_nf0
 refine zdY K ⋯ v.nd ?_
 ac_nf0
 refine (zfA s v.lt).wp λh1 g1=> ?_
 ac_nf0
 rw [zdI,zji,zew (ks:=zb8 ss) λn=>zaS]
 ac_nf0
 have K1:=K.gro g1
 have fin: ∀ {h2:Hh},Kq m os ts (zeO os ts ss t) k tn sn h2->Fr tn sn h h2->wp (ziJ "Keeper" "things" (.cel k)) h2 λb h'=>wp (zc7 b) h' λ_ h'=>wp (zds b (.int t)) h' λ_ h'=>P .non h':=by
  intro h2 K2 f2
  refine zcJ K2.1 zdt (zoL K2.2.1 (zpb K2.2.1 (by rw [qaH];omega) ?_))
  have:=q _ (K2.setT (ts':=ts++[t])) (f2.trans Fr.setT)
  rw [map_append] at this
  exact this
 cases hb:zd7 os (zb8 ss) t with
 | true=>
  ac_nf0
  have ec:zeO os ts ss t=ss:=by unfold zeO;rw [qa4 hb]
  exact fin (h2:=h1) (by rw [ec];exact K1) (.of_gro g1)
 | false=>
  ac_nf0
  unfold zaA
  ac_nf0
  rw [zaI ⋯]
  ac_nf0
  refine zp7 (g':=D.int) (xs:=wI os t) (k:=λn=>some (.tup [.int (rm os ss n),.int n])) (λn hn h2 g2=> ?_) λh2 g2=> ?_
  ·rw [show zak [none,some 0] [some (.cel k),some (.int t),some (.tup ((wI os t).map D.int)),none]=[none,some (.cel k)] from rfl]
   simp only [za5,zdJ]
   obtain ⟨n0,n1,_⟩:=zhW.mp hn
   ac_nf0
   refine zax (K1.gro g2).1 zql ?_
   ac_nf0
   refine zqm s (K1.gro g2) ⋯ n0 n1 λh3 g3=> ?_
   ac_nf0
   exact ⟨g3,trivial⟩
  ·rw [zbi]
   obtain ⟨n,hn,en⟩:=zmC (ss:=ss) hf
   have em:znU [.lst ((wI os t).map λn=> .tup [.int (rm os ss n),.int n])]=pure (.tup [.int (rm os ss n),.int n]):=by
    have e1:=zov (ps:=rms os ss t) λz=>hf (List.map_eq_nil_iff.mp z)
    rw [show (rms os ss t).getD (zfO (rms os ss t)) []=bst os ss t from rfl,en] at e1
    unfold rms at e1
    rw [qaT] at e1
    exact e1
   ac_nf0
   rw [em]
   ac_nf0
   have K2:=K1.gro g2
   refine zcJ K2.1 zeX ?_
   ac_nf0
   rw [zcI K2.2.2.1]
   refine zcJ K2.1 zdt ?_
   ac_nf0
   refine zmw K2.2.1 ?_
   ac_nf0
   refine zpb K2.2.2.1 (by rw [qaH];omega) ?_
   ac_nf0
   have ec:zeO os ts ss t=ss++[((ts.length:Int),t,rm os ss n,n)]:=by unfold zeO;rw [qa5 (by rw [hb];simp),en];rfl
   have:=fin (h2:=h2.set sn (.lst ((zeO os ts ss t).map zqO))) K2.setS ((Fr.of_gro (g1.trans g2)).trans Fr.setS)
   rw [ec,map_append] at this
   exact this
variable {ts:List Int} {ss:List Sp4} {k tn sn:Nat} {h:Hh}
theorem zju {P:D->Hh->Prop} (K:Kq m os ts ss k tn sn h) (q:P (.lst (ts.map D.int)) h):wp (F_Keeper_came [.cel k]) h P:=by
 rw [d_Keeper_came]
 simp only [zaT]
 ac_nf0
 refine zcJ K.1 zdt ?_
 refine znY K.2.1 ?_
 ac_nf0
 exact q
theorem zfq {P:D->Hh->Prop} (s:Stk m os) (K:Kq m os ts ss k tn sn h) (hl:ss.length<=1000) (q: ∀ h',Gro h h'->P (.tup ((shs m ss).map λx=> .tup [.int x,.int 1])) h'):wp (F_Keeper_bears [.cel k]) h P:=by
 have m1:=s.m1
 have m0:=s.m0
 have sl:(shs m ss).length<=1000:=by unfold shs;rw [qaH,length_range];omega
 rw [d_Keeper_bears]
 simp only [zaF]
 unfold zaA
 ac_nf0
 refine zax K.1 ziZ ?_
 ac_nf0
 refine zim s K hl λh1 g1=> ?_
 ac_nf0
 rw [zaI sl]
 ac_nf0
 refine zn2 (g':=D.int) (k:=λx=>some (.tup [.int x,.int 1])) (λx _=> ?_) ?_
 ·rw [show zak [none] [some (.cel k)]=[none] from rfl]
  simp only [za5,zdy]
  ac_nf0
  exact ⟨trivial,trivial⟩
 ·rw [zbi]
  ac_nf0
  exact q h1 g1
theorem zjq {P:D->Hh->Prop} (s:Stk m os) (K:Kq m os ts ss k tn sn h) (v:Iv m os ts ss) (q:P (.int (pr os (zb7 (zb8 ss)))) h):wp (F_Keeper_paid [.cel k]) h P:=by
 have sl:=v.len s
 rw [d_Keeper_paid]
 simp only [zaL]
 ac_nf0
 refine zcJ K.1 zb1 ?_
 ac_nf0
 refine zax K.1 zcs ?_
 ac_nf0
 refine zdY K ⋯ v.nd ?_
 have e:=zeM s v.lt
 unfold tI at e ⊢
 ac_nf0
 rw [e]
 ac_nf0
 exact q
theorem zmT {P:D->Hh->Prop} (s:Stk m os) (K:Kq m os ts ss k tn sn h) (v:Iv m os ts ss) (tl:ts.length<=500) {ls:List Int} (L:Lt os ls) (q: ∀ h',Gro h h'->P (.bl (ts.all (zd7 os ls))) h'):wp (F_Keeper_is_enough [.cel k,tI ls]) h P:=by
 have m0:=s.m0
 have m1:=s.m1
 have hset:=zj1 (xs:=ts) (m:=m) ⋯ v.bd
 rw [d_Keeper_is_enough]
 simp only [zaP]
 have te:=zfA s L
 generalize tI ls=dl at te
 ac_nf0
 refine zcJ K.1 zb1 ?_
 ac_nf0
 refine te.wp λh1 g1=> ?_
 have K1:=K.gro g1
 unfold zaA
 ac_nf0
 refine zcJ K1.1 zdt ?_
 refine zfb K1.2.1 (zgj (m:=m) ⋯ ⋯ v.bd) ⋯ ?_
 ac_nf0
 rw [zaI ⋯]
 ac_nf0
 refine zn2 (g':=D.int) (k:=λx=>some (.bl (zd7 os ls x))) (λx _=> ?_) ?_
 ·rw [show zak [none,some 2] [some (.cel k),some dl,some (.tup ((zb7 ((zce os ls).flatMap (·.1))).map D.int))]=[none,some (.tup ((zb7 ((zce os ls).flatMap (·.1))).map D.int))] from rfl]
  simp only [za5,zcm]
  ac_nf0
  rw [zeK,zji]
  ac_nf0
  exact ⟨trivial,trivial⟩
 ·rw [zbi,show (zb7 ts).map (λx=>D.bl (zd7 os ls x))=((zb7 ts).map (zd7 os ls)).map D.bl by rw [qaT];rfl]
  ac_nf0
  rw [zhs]
  ac_nf0
  have ea:((zb7 ts).map (zd7 os ls)).all id=ts.all (zd7 os ls):=by
   rw [Bool.eq_iff_iff,all_eq_true,all_eq_true]
   constructor
   ·intro z t ht
    exact z _ (qaU.mpr ⟨t,zaS.mpr ht,rfl⟩)
   ·intro z b hb
    obtain ⟨t,ht,rfl⟩:=qaU.mp hb
    exact z t (zaS.mp ht)
  rw [ea]
  exact q h1 g1
def lkp (os:List (List Int×Int)) (ts:List Int):List Int->List Int->List Int
 | [],ks=>ks
 | n::r,ks=>lkp os ts r (if ts.all (zd7 os (ks.filter (· != n)))=true then ks.filter (· != n) else ks)
theorem ze0: ∀ (ns ls:List Int),(lkp os ts ns ls).Sublist ls
 | [],ls=>List.Sublist.refl _
 | n::r,ls=>by
  unfold lkp
  refine (ze0 r _).trans ?_
  split
  ·exact List.filter_sublist
  ·exact List.Sublist.refl _
theorem zeY (s:Stk m os) (v:Iv m os ts ss) (tl:ts.length<=500): ∀ (ns ks:List Int) {h:Hh} {x2 x3:Option D} {P:Out->Hh->Prop},Kq m os ts ss k tn sn h->Lt os ks->
  (∀ y2 y3 h',Gro h h'->P (.nx [some (.cel k),some (tI (lkp os ts ns ks)),y2,y3]) h')->wp (zbq (λx sd=>do let sd1<-za7 2 x sd;za1 sd1) (ns.map D.int) [some (.cel k),some (tI ks),x2,x3]) h P
 | [],ks,h,x2,x3,P,K,L,q=>by rw [map_nil,zd0,zat];exact q x2 x3 h .refl
 | n::r,ks,h,x2,x3,P,K,L,q=>by
  have kl:=L.len s
  have L2:Lt os (ks.filter (· != n)):=L.sub List.filter_sublist
  rw [qaM,zcj]
  have ih1:=λ(h:Hh) (x2 x3:Option D)=>zeY s v tl r (ks.filter (· != n)) (h:=h) (x2:=x2) (x3:=x3) (P:=P)
  have ih2:=λ(h:Hh) (x2 x3:Option D)=>zeY s v tl r ks (h:=h) (x2:=x2) (x3:=x3) (P:=P)
  generalize zbq (λx sd=>do let sd1<-za7 2 x sd;za1 sd1) (r.map D.int)=zc2 at ih1 ih2 ⊢
  simp only [za1]
  have ec: ∀ x3:Option D,zaA (iSq (zaf 1)) (za7 0) zbt zbw [none,some 2] [some (.cel k),some (tI ks),some (.int n),x3]=pure (.lst ((ks.filter (· != n)).map D.int)):=λx3=>by
   rw [<- zbu]
   refine zbb (g':=D.int) (xs:=ks) rfl ⋯ λy _=> ?_
   rw [show zak [none,some 2] [some (.cel k),some (tI ks),some (.int n),x3]=[none,some (.int n)] from rfl]
   simp only [za5,zbt,zbw]
   ac_nf0
   rw [zve]
   ac_nf0
   split<;>rfl
  have ew:=λ(P:D->Hh->Prop)=>zmT (P:=P) s K v tl L2
  have q': ∀ y2 y3 h',Gro h h'->P (.nx [some (.cel k),some (tI (lkp os ts r (if ts.all (zd7 os (ks.filter (· != n)))=true then ks.filter (· != n) else ks))),y2,y3]) h':=q
  generalize hk:tI ks=dk at ec ih2 ⊢
  generalize hf:tI (ks.filter (· != n))=df at ew ih1
  have hft:D.tup ((ks.filter (· != n)).map D.int)=df:=hf
  ac_nf0
  rw [ec]
  ac_nf0
  rw [hft]
  refine zax K.1 ziV ?_
  ac_nf0
  refine ew _ λh1 g1=> ?_
  ac_nf0
  cases hb:ts.all (zd7 os (ks.filter (· != n))) with
  | true=>
   rw [hb] at q'
   ac_nf0
   exact ih1 h1 _ _ (K.gro g1) L2 λy2 y3 h' g=>q' y2 y3 h' (g1.trans g)
  | false=>
   rw [hb] at q'
   ac_nf0
   exact ih2 h1 _ _ (K.gro g1) L λy2 y3 h' g=>q' y2 y3 h' (g1.trans g)
theorem zft {P:D->Hh->Prop} (s:Stk m os) (K:Kq m os ts ss k tn sn h) (v:Iv m os ts ss) (tl:ts.length<=500) (q: ∀ h',Gro h h'->P (tI (lkp os ts (zb8 ss).reverse (zb7 (zb8 ss)))) h'):wp (F_Keeper_least_kept [.cel k]) h P:=by
 have sl:=v.len s
 rw [d_Keeper_least_kept]
 simp only [zao]
 have ll:=λ(h:Hh) (P:Out->Hh->Prop)=>zeY s v tl (zb8 ss).reverse (zb7 (zb8 ss)) (k:=k) (tn:=tn) (sn:=sn) (h:=h) (x2:=none) (x3:=none) (P:=P)
 generalize hd:tI (zb7 (zb8 ss))=d0 at ll
 ac_nf0
 refine zax K.1 zcs ?_
 ac_nf0
 refine zdY K ⋯ v.nd ?_
 rw [hd]
 ac_nf0
 refine zax K.1 zfY ?_
 ac_nf0
 refine zgh K ⋯ ?_
 ac_nf0
 rw [show zqN (.lst ((zb8 ss).map D.int))=pure (.lst ((zb8 ss).reverse.map D.int)) by rw [List.map_reverse];rfl]
 ac_nf0
 refine ll h _ K v.lt λy2 y3 h1 g1=> ?_
 have q:=q h1 g1
 generalize tI (lkp os ts (zb8 ss).reverse (zb7 (zb8 ss)))=d1 at q ⊢
 ac_nf0
 exact q
theorem zpA (s:Stk m os) {d:D} {os':List (List Int×Int)} (hd:zfe d=pure (os'.map zb6)) (hl:os'.length<=12) (hs: ∀ o∈os',o∈os):Ev (F_26 [zbm m os,d]) (.bl (((zb7 (os'.flatMap (·.1))).length:Int)==m)):=by
 have tg:=zpD hd (m:=m) (by have:=s.m0;omega) (by have:=s.m1;omega) (by have:=zj5 (os:=os') (n:=10) λo ho=>s.olen o (hs o ho);omega) λo ho=>s.bd o (hs o ho)
 refine .of_wp λh=> ?_
 rw [d_26]
 simp only [G_26,zbm]
 ac_nf0
 refine tg.wp λh' g=> ?_
 ac_nf0
 rw [zsb]
 ac_nf0
 exact ⟨trivial,g⟩
def znz (m:Int) (os:List (List Int×Int)):Bool:=((zb7 (os.flatMap (·.1))).length:Int)==m
theorem zrt (s:Stk m os):Ev (F_18 [zbm m os]) (.bl (znz m os)):=by
 have e:=zpA s (d:= .tup (os.map zb6)) (os':=os) rfl s.len λo ho=>ho
 refine .of_wp λh=> ?_
 rw [d_18]
 simp only [G_18]
 ac_nf0
 rw [zrM]
 ac_nf0
 refine e.wp λh' g=> ?_
 ac_nf0
 first | exact ⟨g,rfl⟩ | exact ⟨trivial,g⟩ | exact ⟨g,trivial⟩ | exact g
theorem zmW (s:Stk m os):znz m os=true↔ ∀ t:Int,0<=t->t<m-> ∃ o∈os,t∈o.1:=by
 have m0:=s.m0
 have hbd: ∀ x∈zb7 (os.flatMap (·.1)),0<=x/\x<m:=λx hx=>by
  obtain ⟨o,ho,hx⟩:=mem_flatMap.mp (zaS.mp hx)
  exact s.bd o ho x hx
 have hf:=zno ⋯ (zdR _) hbd
 unfold znz
 rw [<- hf,beq_iff_eq]
 constructor
 ·intro e t t0 t1
  have:t∈zb7 (os.flatMap (·.1)):=by
   rw [e]
   exact qaU.mpr ⟨t.toNat,mem_range.mpr ⋯,⋯⟩
  exact mem_flatMap.mp (zaS.mp this)
 ·intro h
  refine List.Perm.eq_of_pairwise (le:=λa b:Int=>a<b) (λa b _ _ h1 h2=>by omega) (zdR _) (zcx _) ?_
  refine (List.perm_ext_iff_of_nodup ((zdR _).imp λz=>by omega) ((zcx _).imp λz=>by omega)).mpr λx=> ?_
  constructor
  ·intro hx
   have:=hbd x hx
   exact qaU.mpr ⟨x.toNat,mem_range.mpr ⋯,⋯⟩
  ·intro hx
   have:=zda x hx
   obtain ⟨o,ho,h2⟩:=h x ⋯ ⋯
   exact zaS.mpr (mem_flatMap.mpr ⟨o,ho,h2⟩)
theorem zq6 (s:Stk m os) (hf:znz m os=true):Ev (F_21 [zbm m os]) .non:=by
 refine .of_wp λh=> ?_
 rw [d_21]
 simp only [G_21]
 ac_nf0
 refine (zrt s).wp λh' g=> ?_
 rw [hf]
 ac_nf0
 exact ⟨trivial,g⟩
theorem ziB {s0:Option D} {d:D} {p:Nat->Bool}: ∀ (r j:Nat) (x3:Option D),(∀ t:Nat,t<j+r->dIn (.int (t:Int)) d=pure (.bl (p t)))->
  ∃ y3,zbq (λx sd=>do let sd1<-za7 3 x sd;zdv sd1) (zdj j r) [s0,some d,some (.int (bv p j)),x3]=pure (.nx [s0,some d,some (.int (bv p (j+r))),y3])
 | 0,j,x3,_=>⟨x3,rfl⟩
 | r+1,j,x3,hd=>by
  obtain ⟨y3,ih⟩:=ziB (s0:=s0) (d:=d) (p:=p) r (j+1) (some (.int j)) λt ht=>hd t ⋯
  refine ⟨y3,?_⟩
  have e1:((j+1:Nat):Int)=(j:Int)+1:=by omega
  have e2:j+1+r=j+(r+1):=by omega
  rw [e1,e2] at ih
  rw [zn1,zcj, <-ih]
  generalize zbq (λx sd=>do let sd1<-za7 3 x sd;zdv sd1) (zdj ((j:Int)+1) r)=zc2
  simp only [zdv]
  ac_nf0
  rw [zsZ (by decide) (by decide)]
  ac_nf0
  rw [hd j ⋯]
  ac_nf0
  have eb:bv p (j+1)=bv p j*2+(if p j=true then 1 else 0):=rfl
  rw [eb]
  cases p j
  ·ac_nf0
   simp
  ·ac_nf0
   simp
theorem zmk {d:D} {p:Nat->Bool} (m0:0<=m) (m1:m<1000) (hd: ∀ t:Nat,t<m.toNat->dIn (.int (t:Int)) d=pure (.bl (p t))):F_35 [.int m,d]=pure (.int (bv p m.toNat)):=by
 obtain ⟨y3,el⟩:=ziB (s0:=some (.int m)) (d:=d) (p:=p) m.toNat 0 none λt ht=>hd t ⋯
 rw [Nat.zero_add] at el
 have e0:((bv p 0:Nat):Int)=0:=rfl
 rw [e0] at el
 rw [d_35]
 simp only [G_35]
 ac_nf0
 rw [zdE m0 m1]
 simp only [zdN,pure_bind,Int.natCast_zero] at el
 ac_nf0
 rw [el]
 ac_nf0
theorem zn8 (m0:0<=m) (m1:m<1000):F_35 [.int m,.lst (zdj 0 m.toNat)]=pure (.int (bv (λ_=>true) m.toNat)):=by
 refine zmk m0 m1 λt ht=> ?_
 rw [zhm,znq]
 congr 2
 rw [any_eq_true]
 exact ⟨(t:Int),qaU.mpr ⟨t,mem_range.mpr ht,rfl⟩,by simp⟩
theorem zkM (s:Stk m os) (n9:os.length<=10) {r:Nat} (hr:r<os.length) {x3 x4 x5:Option D}: ∃ y3 y4 y5,zbJ [some (zbm m os),some (.lst ((kl os.length r).map (trD m os))),some (.int (((os.length - (r+1):Nat)):Int)),x3,x4,x5]=pure (.nx [some (zbm m os),some (.lst ((kl os.length (r+1)).map (trD m os))),some (.int (((os.length - (r+1):Nat)):Int)),y3,y4,y5]):=by
 have m0:=s.m0
 have m1:=s.m1
 have hk:=zj0 os.length r
 have hk9:2^r<=2^9:=Nat.pow_le_pow_right (by decide) ⋯
 have hj:os.length - (r+1)<os.length:=by omega
 generalize hje:os.length - (r+1)=j at hj
 have ea:=zi9 (os:=os) (i:=(j:Int)) ⋯ ⋯
 rw [qaB] at ea
 have mo:os.getD j ([],0)∈os:=by simp [List.getD,hj]
 generalize ho:os.getD j ([],0)=o at ea mo
 have lo:=s.olen o mo
 have eb:=zmk (m:=m) (d:= .tup (o.1.map D.int)) (p:=λt=>o.1.any (· == (t:Int))) ⋯ ⋯ λt _=>zeK _ _
 have ec:zaA (iSq (zaf 1)) (za7 0) (λ_=>pure true) zc0 [none,some 3,some 2,some 4] [some (zbm m os),some (.lst ((kl os.length r).map (trD m os))),some (.int (j:Int)),some (.tup [.tup (o.1.map D.int),.int o.2]),some (.int (bv (λt=>o.1.any (· == (t:Int))) m.toNat)),x5]=pure (.lst (((kl os.length r).map λls=>(j:Int)::ls).map (trD m os))):=by
  rw [show ((kl os.length r).map λls=>(j:Int)::ls).map (trD m os)=(kl os.length r).filterMap λls=>some (trD m os ((j:Int)::ls)) by simp]
  refine zbb (g':=trD m os) rfl ⋯ λls hls=> ?_
  obtain ⟨h1,h2⟩:=(ziN os.length r ls ⋯).mp hls
  have ll:=zh6 (m:=os.length) ⋯ h1 λx hx=>by have:=h2 x hx;omega
  have f:=zaI (show 1+ls.length<=1000 by omega)
  have ebs:zak [none,some 3,some 2,some 4] [some (zbm m os),some (.lst ((kl os.length r).map (trD m os))),some (.int (j:Int)),some (.tup [.tup (o.1.map D.int),.int o.2]),some (.int (bv (λt=>o.1.any (· == (t:Int))) m.toNat)),x5]=[none,some (.tup [.tup (o.1.map D.int),.int o.2]),some (.int (j:Int)),some (.int (bv (λt=>o.1.any (· == (t:Int))) m.toNat))]:=rfl
  have e2: ∀ a b c:D,atI [a,b,c] 2=some c:=λa b c=>rfl
  have eo:dOr (.int (bv (λt=>o.1.any (· == (t:Int))) m.toNat)) (.int (bv (zpv os ls) m.toNat))=pure (.int (bv (zpv os ((j:Int)::ls)) m.toNat)):=by
   show (pure (D.int (Builtin.bitOr _ _)):M D)=_
   rw [ztz,zso]
   congr 3
   refine zka λi _=> ?_
   unfold zpv
   rw [any_cons,qaB,ho]
  have ep:pr os ((j:Int)::ls)=o.2+pr os ls:=by
   unfold pr
   rw [qaM,sum_cons,qaB,ho]
  rw [ebs]
  simp only [za5,zc0,trD]
  ac_nf0
  simp only [e2,f]
  ac_nf0
  rw [eo,ep]
  ac_nf0
  rfl
 refine ⟨some (.tup [.tup (o.1.map D.int),.int o.2]),some (.int (bv (λt=>o.1.any (· == (t:Int))) m.toNat)),some (.lst (((kl os.length r).map λls=>(j:Int)::ls).map (trD m os))),?_⟩
 have fk:(kl os.length (r+1)).length<=2000:=by
  rw [zj0]
  have:2^(r+1)<=2^10:=Nat.pow_le_pow_right (by decide) ⋯
  omega
 have ek:kl os.length (r+1)=(kl os.length r).take 1++(kl os.length r).map (λls=>(j:Int)::ls)++(kl os.length r).drop 1:=by
  rw [<- hje]
  rfl
 have f1:=zaI (show (((kl os.length r).map (trD m os)).take 1).length+((kl os.length r).map λls=>(j:Int)::ls).length<=1000 by simp only [length_take,qaH,hk];omega)
 have f2:=zjZ (show (((kl os.length r).map (trD m os)).take 1++((kl os.length r).map λls=>(j:Int)::ls).map (trD m os)).length+(((kl os.length r).map (trD m os)).drop 1).length<=16000000 by simp only [qav,length_take,length_drop,qaH,hk];omega)
 have es: ∀ (ds:List D) (lo hi:Option Int),dSl (.lst ds) lo hi=pure (.lst (zk2 ds lo hi)):=λ_ _ _=>rfl
 simp only [zbJ]
 ac_nf0
 rw [zrM]
 ac_nf0
 rw [ea]
 ac_nf0
 rw [zrO]
 ac_nf0
 rw [eb]
 ac_nf0
 rw [ec]
 ac_nf0
 simp only [es,zhq _ (show (0:Int)<=1 by decide),zhe _ (show (0:Int)<=1 by decide),pure_bind,bind_assoc]
 rw [show (1:Int).toNat=1 from rfl]
 simp only [zmI,qaH,qav] at f1 f2 ⊢
 rw [f1]
 ac_nf0
 rw [f2]
 ac_nf0
 rw [ek,map_append,map_append,map_take,map_drop]
theorem zg5 (s:Stk m os) (n9:os.length<=10): ∀ (k r:Nat) (x2 x3 x4 x5:Option D),k+r=os.length->
  ∃ y2 y3 y4 y5,zbq (λx sd=>do let sd1<-za7 2 x sd;zbJ sd1) (zk7 ((k:Int) - 1) k) [some (zbm m os),some (.lst ((kl os.length r).map (trD m os))),x2,x3,x4,x5]=pure (.nx [some (zbm m os),some (.lst ((kl os.length os.length).map (trD m os))),y2,y3,y4,y5])
 | 0,r,x2,x3,x4,x5,h=>⟨x2,x3,x4,x5,by
   have:r=os.length:=by omega
   subst this
   rfl⟩
 | k+1,r,x2,x3,x4,x5,h=>by
  obtain ⟨z3,z4,z5,eb⟩:=zkM s n9 (r:=r) ⋯ (x3:=x3) (x4:=x4) (x5:=x5)
  obtain ⟨y2,y3,y4,y5,ih⟩:=zg5 s n9 k (r+1) (some (.int (k:Int))) z3 z4 z5 ⋯
  refine ⟨y2,y3,y4,y5,?_⟩
  have e1:((k+1:Nat):Int) - 1=(k:Int):=by omega
  have e2:os.length - (r+1)=k:=by omega
  rw [e2] at eb
  rw [e1,zoR,zcj, <-ih]
  show (do let o<-zbJ [some (zbm m os),some (.lst ((kl os.length r).map (trD m os))),some (.int (k:Int)),x3,x4,x5];_:M Out)=_
  rw [eb]
  rfl
theorem zoG (s:Stk m os) (n9:os.length<=10):F_34 [zbm m os]=pure (.lst ((kl os.length os.length).map (trD m os))):=by
 obtain ⟨y2,y3,y4,y5,el⟩:=zg5 s n9 os.length 0 none none none none ⋯
 have e0:(kl os.length 0).map (trD m os)=[.tup [.int 0,.tup [],.int 0]]:=by
  show [trD m os []]=_
  unfold trD
  rw [zmR (p:=zpv os []) (λ_=>rfl)]
  rfl
 rw [e0] at el
 have er:zn4 [.int ((os.length:Int) - 1),.int (-1),.int (-1)]=pure (zk7 ((os.length:Int) - 1) os.length):=by
  show (if (-1000<=(os.length:Int) - 1/\(os.length:Int) - 1<1000/\(-1000:Int)<= -1/\(-1:Int)<1000)/\(-1:Int)= -1 then (pure (zk7 ((os.length:Int) - 1) ((os.length:Int) - 1 - -1).toNat):M (List D)) else M.bad)=_
  rw [qa4 ⟨⟨⋯,⋯,⋯,⋯⟩,rfl⟩]
  congr 2
  omega
 have ei: ∀ (fs:FA) (sd:Sd),zq3 fs sd=(do let ds<-fs sd;zn4 ds):=λ_ _=>rfl
 simp only [zdN,pure_bind] at el
 rw [d_34]
 simp only [G_34]
 ac_nf0
 simp only [ei]
 ac_nf0
 rw [zrM]
 ac_nf0
 rw [er]
 ac_nf0
 rw [el]
 ac_nf0
def zkL (m:Int) (os:List (List Int×Int)):List (Int×List Int):=((kl os.length os.length).filter (cvB m os)).map λls=>(pr os ls,ls)
def zlm (m:Int) (os:List (List Int×Int)):Int×List Int:=(zkL m os).getD (zeG (zkL m os)) (0,[])
theorem zls (s:Stk m os) (n9:os.length<=10):F_33 [zbm m os]=pure (.lst ((zkL m os).map pD)):=by
 have m0:=s.m0
 have m1:=s.m1
 have hk:=zj0 os.length os.length
 have hk9:2^os.length<=2^10:=Nat.pow_le_pow_right (by decide) n9
 have ec:zaA (iSq (zaB (zaj 1 F_34) (zac (zaf 0) zap))) (za7 0) zb2 zb5 [none,some 1] [some (zbm m os),some (.int (bv (λ_=>true) m.toNat))]=pure (.lst ((zkL m os).map pD)):=by
  unfold zkL
  rw [qaT, <-zbu]
  refine zlf (g':=trD m os) ?_ ⋯ λls hls=> ?_
  ·ac_nf0
   rw [zoG s n9]
   ac_nf0
  ·have eb:zak [none,some 1] [some (zbm m os),some (.int (bv (λ_=>true) m.toNat))]=[none,some (.int (bv (λ_=>true) m.toNat))]:=rfl
   have e2: ∀ a b c:D,atI [a,b,c] 2=some c:=λa b c=>rfl
   rw [eb]
   simp only [za5,zb2,zb5,trD]
   ac_nf0
   try simp only [e2,pure_bind,bind_assoc,zmr]
   rw [zsb,znK]
   ac_nf0
   unfold cvB
   split<;>rfl
 have el:zhF (.int m)=pure (.lst (zdj 0 m.toNat)):=by
  show (if 0<=m/\m<1000 then _ else _)=_
  rw [qa4 ⟨⋯,⋯⟩]
 rw [d_33]
 simp only [G_33]
 ac_nf0
 rw [zrO]
 ac_nf0
 rw [el]
 ac_nf0
 rw [zn8 ⋯ ⋯]
 ac_nf0
 rw [ec]
 ac_nf0
theorem zm0 (s:Stk m os) (hf:znz m os=true):zkL m os≠[]:=λz=>by
 have hall:=(zmW s).mp hf
 have hm:((pr os ((List.range os.length).map λ(k:Nat)=>(k:Int))),((List.range os.length).map λ(k:Nat)=>(k:Int)))∈zkL m os:=by
  refine qaU.mpr ⟨_,mem_filter.mpr ⟨(ziN os.length os.length _ (qaV _)).mpr ⟨zcx _,λy hy=> ?_⟩,zdQ.mpr λt t0 t1=> ?_⟩,rfl⟩
  ·have:=zda y hy
   omega
  ·obtain ⟨o,ho,ht⟩:=hall t t0 t1
   obtain ⟨j,hj,rfl⟩:=getElem_of_mem ho
   exact ⟨(j:Int),qaU.mpr ⟨j,mem_range.mpr hj,rfl⟩,by simpa [List.getD,hj] using ht⟩
 rw [z] at hm
 cases hm
theorem zfL (s:Stk m os) (hf:znz m os=true) (n9:os.length<=10):Ev (F_36 [zbm m os]) (tI (zlm m os).2):=by
 refine .of_wp λh=> ?_
 rw [d_36]
 simp only [G_36]
 ac_nf0
 refine (zq6 s hf).wp λh' g=> ?_
 have ep:dIx (pD (zlm m os)) (.int 1)=pure (tI (zlm m os).2):=rfl
 ac_nf0
 rw [zls s n9]
 ac_nf0
 rw [zmM (zm0 s hf),show (zkL m os).getD (zeG (zkL m os)) (0,[])=zlm m os from rfl]
 ac_nf0
 rw [ep]
 ac_nf0
 exact ⟨g,trivial⟩
theorem zrD (s:Stk m os) {ls:List Int} (L:Lt os ls):(((zb7 ((zce os ls).flatMap (·.1))).length:Int)==m)=cvB m os ls:=by
 have m0:=s.m0
 rw [<- zno ⋯ (zdR _) λx hx=>by
   obtain ⟨o,ho,hx⟩:=mem_flatMap.mp (zaS.mp hx)
   exact s.bd o (zez L.2 o ho) x hx]
 rw [Bool.eq_iff_iff,beq_iff_eq,zdQ]
 constructor
 ·intro e t t0 t1
  have h1:t∈zb7 ((zce os ls).flatMap (·.1)):=by
   rw [e]
   exact qaU.mpr ⟨t.toNat,mem_range.mpr ⋯,⋯⟩
  obtain ⟨o,ho,hx⟩:=mem_flatMap.mp (zaS.mp h1)
  obtain ⟨i,hi,rfl⟩:=qaU.mp ho
  exact ⟨i,hi,hx⟩
 ·intro h
  refine zpO (zdR _) (zcx _) λk=> ?_
  rw [zaS]
  constructor
  ·intro hk
   obtain ⟨o,ho,hx⟩:=mem_flatMap.mp hk
   have:=s.bd o (zez L.2 o ho) k hx
   exact qaU.mpr ⟨k.toNat,mem_range.mpr ⋯,⋯⟩
  ·intro hk
   have:=zda k hk
   obtain ⟨i,hi,hx⟩:=h k this.1 ⋯
   exact mem_flatMap.mpr ⟨_,qaU.mpr ⟨i,hi,rfl⟩,hx⟩
theorem zfs (s:Stk m os) {ls:List Int} (L:Lt os ls):Ev (F_29 [zbm m os,tI ls]) (.bl (cvB m os ls)):=by
 have e1:=zpe s (d:=tI ls) (zt0 (by have:=L.len s;omega))
 rw [L.lot] at e1
 have e2:=zfH s L.1 L.2
 have ll:=L.len s
 have h3:(zce os ls).length=ls.length:=by unfold zce;simp
 refine .of_wp λh=> ?_
 rw [d_29]
 simp only [G_29]
 simp only [tI] at e1 e2
 ac_nf0
 rw [e1]
 ac_nf0
 rw [e2]
 ac_nf0
 refine (zpA s (d:= .lst ((zce os ls).map zb6)) (os':=zce os ls) rfl ⋯ (zez L.2)).wp λh' g=> ?_
 rw [zrD s L]
 ac_nf0
 exact ⟨trivial,g⟩
theorem zlU (s:Stk m os) (hf:znz m os=true):Lt os (zlm m os).2/\(∀ t:Int,0<=t->t<m-> ∃ i∈(zlm m os).2,t∈(os.getD i.toNat ([],0)).1)/\ ∀ ls',Lt os ls'->(∀ t:Int,0<=t->t<m-> ∃ i∈ls',t∈(os.getD i.toNat ([],0)).1)->pr os (zlm m os).2<=pr os ls':=by
 obtain ⟨h1,h2⟩:=zix (zm0 s hf)
 have hm:zlm m os∈zkL m os:=by
  unfold zlm
  simp [List.getD,h1]
 obtain ⟨ls0,hl,e⟩:=qaU.mp hm
 obtain ⟨k1,k2⟩:=mem_filter.mp hl
 have k1:=(ziN os.length os.length ls0 (qaV _)).mp k1
 have e2:(zlm m os).2=ls0:=by rw [<- e]
 rw [e2]
 refine ⟨⟨k1.1,λx hx=>by have:=k1.2 x hx;omega⟩,zdQ.mp k2,λls' L hc=> ?_⟩
 have hm':(pr os ls',ls')∈zkL m os:=qaU.mpr ⟨ls',mem_filter.mpr ⟨(ziN os.length os.length ls' (qaV _)).mpr ⟨L.1,λy hy=>by have:=L.2 y hy;omega⟩,zdQ.mpr hc⟩,rfl⟩
 have h3:=h2 _ hm'
 have e3:(zkL m os).getD (zeG (zkL m os)) (0,[])=(pr os ls0,ls0):=e.symm
 rw [e3] at h3
 unfold pLt at h3
 by_cases hc:pr os ls'<pr os ls0
 ·simp [hc] at h3
  omega
 ·omega
theorem zjz {d:D} (k:kn d=true):F_8 [d]=pure (.bl (match d with | .tup [_,_]=>true | _=>false)):=by
 have et:=zmi k
 rw [d_8]
 simp only [G_8]
 ac_nf0
 rw [et]
 cases d with
 | tup ds=>
  simp only [isT]
  ac_nf0
  rw [zsb]
  ac_nf0
  match ds with
  | []=>rfl
  | [x]=>rfl
  | [x,y]=>rfl
  | x::y::z::r=>
   rw [show (((x::y::z::r).length:Int)==2)=false by rw [beq_eq_false_iff_ne];simp;omega]
 | _=>simp only [isT];ac_nf0
def zch (x:Int):D:= .tup [.int x,.int 1]
theorem gd1 (a:Int):F_11 [.int a,.int 1]=pure (.int 1):=by
 rw [d_11]
 simp only [G_11]
 ac_nf0
 show (do let o<-zev zaQ za9 (19998+1+1) [some (.int a),some (.int 1),some (.int a),some (.int 1),none];let o<-zdH o (zbC (zaf 2));zbX o)=_
 rw [zjk]
 generalize hr:zev zaQ za9 (19998+1)=zc2
 simp only [zaQ,za9]
 ac_nf0
 rw [show decide ((0:Int)<1)=true from rfl,zhc (by decide),Int.emod_one]
 ac_nf0
 rw [<- hr,zjk]
 simp only [zaQ]
 ac_nf0
 rw [show decide ((0:Int)<0)=false from rfl]
 ac_nf0
theorem fd1 (i:Int):zjP (.int i) (.int 1)=pure (.int i):=by
 have h:(1:Int)<2^8000:=by
  have:=Nat.one_lt_two_pow (n:=8000) (by decide)
  exact_mod_cast this
 show (if (decide ((0:Int)<1) && decide ((1:Int)<2^8000))=true then (pure (.int (i / 1)):M D) else M.bad)=_
 rw [decide_eq_true h,show (decide ((0:Int)<1) && true)=true from rfl,qa4 rfl,ediv_one]
theorem zwD (a:Int):F_10 [.int a,.int 1]=pure (zch a):=by
 rw [d_10]
 simp only [G_10]
 ac_nf0
 rw [gd1]
 ac_nf0
 rw [fd1,fd1]
 ac_nf0
 rfl
theorem zsl (a:Int):zee (.int a) (.int 1)=pure (.int a):=by
 rw [zjx (by decide) (by decide),mul_one]
theorem ziG {s0:Option D}: ∀ (xs:List Int) (a:Int) (x3:Option D), ∃ y3,zbq (λx sd=>zcN (List.set sd 3 (some x))) (xs.map zch) [s0,some (.int a),some (.int 1),x3]=pure (.nx [s0,some (.int (a+xs.sum)),some (.int 1),y3])
 | [],a,x3=>⟨x3,by rw [map_nil,zd0,List.sum_nil,Int.add_zero]⟩
 | x::xs,a,x3=>by
  obtain ⟨y3,ih⟩:=ziG (s0:=s0) xs (a+x) (some (zch x))
  refine ⟨y3,?_⟩
  rw [qaM,zcj]
  generalize zbq (λx sd=>zcN (List.set sd 3 (some x))) (xs.map zch)=zc2 at ih ⊢
  simp only [zcN]
  unfold zch at ih ⊢
  ac_nf0
  rw [zsl,zsl]
  ac_nf0
  rw [zsl]
  ac_nf0
  rw [sum_cons, <-Int.add_assoc]
  exact ih
theorem zvM {d:D} {xs:List Int} (hd:zfe d=pure (xs.map zch)):F_14 [d]=pure (zch xs.sum):=by
 obtain ⟨y3,e⟩:=ziG (s0:=some d) xs 0 none
 rw [Int.zero_add] at e
 rw [d_14]
 simp only [G_14]
 ac_nf0
 rw [hd]
 ac_nf0
 rw [e]
 ac_nf0
 rw [zwD]
 ac_nf0
theorem zuM (a b:Int):F_12 [zch a,zch b]=pure (.bl (decide (a<b))):=by
 rw [d_12]
 simp only [G_12]
 unfold zch
 ac_nf0
 rw [zsl,zsl]
 ac_nf0
 rw [zrL]
 ac_nf0
theorem ztY {x:Int} (h:0<=x):F_40 [zch x]=pure (.bl true):=by
 have e1:F_8 [zch x]=pure (.bl true):=zjz rfl
 have e2:F_7 [.int x]=pure (.bl true):=zdq rfl
 have e3:F_7 [.int 1]=pure (.bl true):=zdq rfl
 have ef:F_13 [zch x]=pure (.bl true):=by
  rw [d_13]
  simp only [G_13]
  unfold zch at e1 ⊢
  ac_nf0
  rw [e1]
  ac_nf0
  rw [e2]
  ac_nf0
  rw [e3]
  ac_nf0
  rw [show decide ((0:Int)<1)=true from rfl]
  ac_nf0
  rw [gd1]
  ac_nf0
  rw [zsb]
  ac_nf0
  rfl
 rw [d_40]
 simp only [G_40]
 unfold zch at ef ⊢
 ac_nf0
 rw [ef]
 ac_nf0
 rw [zun,decide_eq_true h]
 ac_nf0
def pk1 (xs:List Int) (ts:List Int):List Int:=ts.map λt=>xs.getD t.toNat 0
theorem ztM {o:List Int×Int} {xs:List Int} (hl:o.1.length<=100) (hb: ∀ t∈o.1,0<=t/\t<(xs.length:Int)) (h:(pk1 xs o.1).sum<=o.2):F_41 [zb6 o,.tup (xs.map zch)]=pure (.bl true):=by
 have ec:zaA (iSq (cOp dIx (zaf 0) (cK (.int 0)))) (za7 0) (λ_=>pure true) zdL [none,some 1] [some (zb6 o),some (.tup (xs.map zch)),none]=pure (.lst ((pk1 xs o.1).map zch)):=by
  have e:(pk1 xs o.1).map zch=o.1.filterMap λt=>some (zch (xs.getD t.toNat 0)):=by
   unfold pk1
   rw [qaT]
   simp [Function.comp_def]
  rw [e]
  refine zbb (g':=D.int) (by ac_nf0) ⋯ λt ht=> ?_
  have hh:=hb t ht
  have ea:atI (xs.map zch) t=some (zch (xs.getD t.toNat 0)):=by
   have:=zdM (xs:=xs.map zch) (j:=t.toNat) (v:=zch (xs.getD t.toNat 0)) (by simp [List.getD,show t.toNat<xs.length by omega])
   rw [show ((t.toNat:Nat):Int)=t by omega] at this
   exact this
  rw [show zak [none,some 1] [some (zb6 o),some (.tup (xs.map zch)),none]=[none,some (.tup (xs.map zch))] from rfl]
  simp only [za5,zdL]
  ac_nf0
  rw [ea]
  ac_nf0
 have et:=zvM (d:= .lst ((pk1 xs o.1).map zch)) (xs:=pk1 xs o.1) rfl
 have el:=zuM o.2 (pk1 xs o.1).sum
 rw [decide_eq_false ⋯] at el
 rw [d_41]
 simp only [G_41]
 generalize hx:D.tup (xs.map zch)=dx at ec ⊢
 simp only [zba,zcM,zbY,za6,zbD,bind_assoc,pure_bind]
 rw [ec]
 simp only [pure_bind,zhn]
 rw [et]
 simp only [pure_bind,zi2,List.set,zcL,zlB,zbY,za6,zbD,bind_assoc,zks,zeB,zbe,zbE,zhR]
 rw [show dIx (zb6 o) (.int 1)=pure (.int o.2) from rfl]
 ac_nf0
 rw [show D.tup [.int o.2,.int 1]=zch o.2 from rfl,el]
 ac_nf0
theorem zuz (s:Stk m os) {xs:List Int} (hl:(xs.length:Int)=m) (hn: ∀ x∈xs,0<=x) (hb: ∀ o∈os,(pk1 xs o.1).sum<=o.2):F_37 [zbm m os,.tup (xs.map zch)]=pure (.bl true):=by
 have ol:=s.len
 have m1:=s.m1
 have et:zi1 "tuple" (.tup (xs.map zch))=pure (.bl true):=zmi rfl
 have ea:F_39 [.tup (xs.map zch),.int m]=pure (.bl true):=by
  have ec:zaA (iSq (zaf 0)) (za7 0) (λ_=>pure true) zcR [none] [some (.tup (xs.map zch)),some (.int m)]=pure (.lst ((replicate xs.length true).map D.bl)):=by
   have e:(replicate xs.length true).map D.bl=xs.filterMap λ_=>some (.bl true):=by
    rw [List.filterMap_eq_map',List.map_replicate,List.map_const']
   rw [e]
   refine zbb (g':=zch) (by ac_nf0) ⋯ λx hx=> ?_
   rw [show zak [none] [some (.tup (xs.map zch)),some (.int m)]=[none] from rfl]
   simp only [za5,zcR]
   ac_nf0
   rw [ztY (hn x hx)]
   ac_nf0
  rw [d_39]
  simp only [G_39]
  ac_nf0
  rw [et]
  ac_nf0
  rw [zue,hl,beq_self_eq_true]
  ac_nf0
  rw [ec]
  ac_nf0
  rw [zhs,show ((replicate xs.length true).all id)=true by simp]
  ac_nf0
 have ec:zaA (iSq (cOp dIx (zaf 0) (cK (.int 1)))) (za7 0) (λ_=>pure true) zcZ [none,some 1] [some (zbm m os),some (.tup (xs.map zch))]=pure (.lst ((replicate os.length true).map D.bl)):=by
  have e:(replicate os.length true).map D.bl=os.filterMap λ_=>some (.bl true):=by
   rw [List.filterMap_eq_map',List.map_replicate,List.map_const']
  rw [e]
  refine zbb (g':=zb6) (by ac_nf0;rw [zrM];ac_nf0) ⋯ λo ho=> ?_
  have eb:=ztM (o:=o) (xs:=xs) (by have:=s.olen o ho;omega) (λt ht=>by have:=s.bd o ho t ht;omega) (hb o ho)
  rw [show zak [none,some 1] [some (zbm m os),some (.tup (xs.map zch))]=[none,some (.tup (xs.map zch))] from rfl]
  simp only [za5,zcZ]
  generalize zb6 o=d at eb
  ac_nf0
  rw [eb]
  ac_nf0
 rw [d_37]
 simp only [G_37]
 ac_nf0
 rw [zrO]
 ac_nf0
 rw [ea]
 ac_nf0
 rw [ec]
 ac_nf0
 rw [zhs,show ((replicate os.length true).all id)=true by simp]
 ac_nf0
theorem zr3 (s:Stk m os) {xs:List Int} (hb:F_37 [zbm m os,.tup (xs.map zch)]=pure (.bl true)):F_38 [zbm m os,.tup (xs.map zch)]=pure (zch xs.sum):=by
 have et:=zvM (d:= .tup (xs.map zch)) (xs:=xs) rfl
 generalize zch xs.sum=q at et
 rw [d_38]
 simp only [G_38]
 ac_nf0
 rw [hb]
 ac_nf0
 rw [et]
 ac_nf0
variable {ts:List Int} {ss:List Sp4}
theorem zjl {f:Nat->Int} {k:Nat}: ∀ {ts:List Int},ts.Nodup->(∀ t∈ts,0<=t/\t<(k:Int))->(ts.map λt=>f t.toNat).sum=SX.sm k λx=>(if ts.any (· == (x:Int))=true then 1 else 0)*f x
 | [],_,_=>by
  refine (Eq.trans (SX.zct (g:=λ_=>0) λx _=> ?_) (SX.zhb k)).symm
  simp
 | t::ts,hn,hb=>by
  obtain ⟨h1,h2⟩:=nodup_cons.mp hn
  have ih:=zjl (f:=f) h2 λx hx=>hb x (qan _ hx)
  have ht:=hb t qau
  have eu:=SX.zqs (n:=k) (f:=f) (i:=t.toNat) ⋯
  rw [qaM,sum_cons,ih, <-eu, <-SX.zlM]
  refine SX.zct λx hx=> ?_
  rw [any_cons]
  by_cases hx2:t.toNat=x
  ·have e:t=(x:Int):=by omega
   have hno:ts.any (· == (x:Int))=false:=by
    rw [Bool.eq_false_iff]
    intro z
    exact h1 (e▸zcd.mp z)
   rw [hno,show (t==(x:Int))=true from beq_iff_eq.mpr e,qa4 hx2]
   simp
  ·rw [show (t==(x:Int))=false from beq_eq_false_iff_ne.mpr ⋯,qa5 hx2,Bool.false_or]
   omega
theorem zjX (f:Nat->Int): ∀ n,SX.sm (n+1) f=f 0+SX.sm n λi=>f (i+1)
 | 0=>by simp [SX.sm]
 | n+1=>by rw [SX.sm,zjX f n,SX.sm];omega
theorem zs1 {f:Nat->Int} {n j:Nat} (hj:j<n) (h: ∀ i,i<n->0<=f i):f j<=SX.sm n f:=by
 rw [SX.zqz f hj]
 have:0<=SX.sm n (λi=>if i=j then 0 else f i):=SX.ztR λi hi=>by
  split
  ·exact le_refl _
  ·exact h i hi
 omega
theorem zps (f:Nat->Int): ∀ k,((List.range k).map f).sum=SX.sm k f
 | 0=>rfl
 | k+1=>by rw [List.range_succ,map_append,List.sum_append,zps f k,SX.sm];simp
def cj (os:List (List Int×Int)) (j x:Nat):Int:=if (os.getD j ([],0)).1.any (· == (x:Int))=true then 1 else 0
def ej (ls:List Int) (j:Nat):Int:=if ls.any (· == (j:Int))=true then 1 else 0
theorem ztU (j x:Nat):0<=cj os j x/\cj os j x<=1:=by unfold cj;split<;>decide
theorem zqJ (ls:List Int) (j:Nat):0<=ej ls j/\ej ls j<=1:=by unfold ej;split<;>decide
def Rj (m:Int) (os:List (List Int×Int)) (ss:List Sp4) (j:Nat):Int:=SX.sm m.toNat λx=>cj os j x*sh ss (x:Int)
theorem zvU (s:Stk m os) {j:Nat} (hj:j<os.length):rm os ss (j:Int)=(os.getD j ([],0)).2 - Rj m os ss j:=by
 have m0:=s.m0
 have ho:os.getD j ([],0)∈os:=by simp [List.getD,hj]
 have e:=zjl (f:=λx=>sh ss (x:Int)) (k:=m.toNat) (ts:=(os.getD j ([],0)).1) ((s.up _ ho).imp λh=>by omega) λt ht=>by have:=s.bd _ ho t ht;omega
 unfold rm Rj cj
 rw [qaB, <-e]
 congr 2
 refine map_congr_left λt ht=> ?_
 have:=s.bd _ ho t ht
 rw [show ((t.toNat:Nat):Int)=t by omega]
theorem zrT {ls:List Int} (L:Lt os ls):pr os ls=SX.sm os.length λj=>ej ls j*(os.getD j ([],0)).2:=
 zjl (f:=λj=>(os.getD j ([],0)).2) L.nodup L.2
theorem zvW (e:Nat->Int):(SX.sm os.length λj=>e j*Rj m os ss j)=SX.sm m.toNat λx=>sh ss (x:Int)*SX.sm os.length λj=>e j*cj os j x:=by
 have h1:(SX.sm os.length λj=>e j*Rj m os ss j)=SX.sm os.length λj=>SX.sm m.toNat λx=>e j*(cj os j x*sh ss (x:Int)):=SX.zct λj _=>by unfold Rj;rw [SX.zjT]
 rw [h1, <-SX.zna λj x=>e j*(cj os j x*sh ss (x:Int))]
 refine SX.zct λx _=> ?_
 rw [<- SX.zjT]
 exact SX.zct λj _=>by grind
theorem zm4:(shs m ss).sum=SX.sm m.toNat λx=>sh ss (x:Int):=zps _ _
structure Jv (m:Int) (os:List (List Int×Int)) (ts:List Int) (ss:List Sp4):Prop where
 iv:Iv m os ts ss
 rm0: ∀ n:Int,0<=n->n<os.length->0<=rm os ss n
 tg: ∀ n∈zb8 ss,rm os ss n=0
 sn: ∀ t,0<=sh ss t
 sz: ∀ t,t∉ts->sh ss t=0
theorem zmt {key:Nat->Int} {bt:Nat->Nat->Bool} {K:Nat} (h1: ∀ i j,i<=K->j<=K->bt i j=true->key i<=key j) (h2: ∀ i j,i<=K->j<=K->bt i j=false->key j<=key i): ∀ k i,k<=K->i<=k->key (argBest bt k)<=key i
 | 0,i,_,hi=>by
  have:i=0:=by omega
  subst this
  exact le_refl _
 | k+1,i,hk,hi=>by
  have ih:=zmt h1 h2 k
  have hl:=zkj bt k
  rw [argBest]
  cases hb:bt (k+1) (argBest bt k) with
  | true=>
   have:=h1 _ _ hk ⋯ hb
   by_cases e:i=k+1
   ·subst e;simp
   ·have:=ih i ⋯ ⋯
    simp
    omega
  | false=>
   have:=h2 _ _ hk ⋯ hb
   by_cases e:i=k+1
   ·subst e;simpa using this
   ·have:=ih i ⋯ ⋯
    simpa using this
theorem zqV {t n:Int} (hn:n∈wI os t):(bst os ss t).getD 0 0<=rm os ss n:=by
 have hmem:[rm os ss n,n]∈rms os ss t:=qaU.mpr ⟨n,hn,rfl⟩
 obtain ⟨i,hi,e⟩:=getElem_of_mem hmem
 have sh2: ∀ i,i<=(rms os ss t).length - 1-> ∃ a b,(rms os ss t).getD i []=[a,b]:=λj hj=>by
  have hj:j<(rms os ss t).length:=by omega
  rw [show (rms os ss t).getD j []=(rms os ss t)[j] by simp [List.getD,hj]]
  obtain ⟨k,_,e⟩:=qaU.mp (getElem_mem hj)
  exact ⟨_,_,e.symm⟩
 have h:=zmt (key:=λi=>((rms os ss t).getD i []).getD 0 0) (bt:=λi j=>HT.zci ((rms os ss t).getD i []) ((rms os ss t).getD j [])) (K:=(rms os ss t).length - 1) (λi j hi hj hb=>by
   obtain ⟨a,b,e1⟩:=sh2 i hi
   obtain ⟨c,d,e2⟩:=sh2 j hj
   simp only [e1,e2,HT.zdd] at hb ⊢
   show a<=c
   split at hb
   · omega
   · have:=of_decide_eq_true hb;omega) (λi j hi hj hb=>by
   obtain ⟨a,b,e1⟩:=sh2 i hi
   obtain ⟨c,d,e2⟩:=sh2 j hj
   simp only [e1,e2,HT.zdd] at hb ⊢
   show c<=a
   split at hb
   · omega
   · have:=of_decide_eq_false hb;omega) ((rms os ss t).length - 1) i (qaV _) ⋯
 have e2:((rms os ss t).getD i []).getD 0 0=rm os ss n:=by
  rw [show (rms os ss t).getD i []=[rm os ss n,n] by simp [List.getD,hi,e]]
  rfl
 rw [<- e2]
 exact h
theorem zr5 {l:List Int} (hn:l.Nodup) (f:Int->Int) (t r:Int) (h0:f t=0):(l.map λx=>if t=x then r else f x).sum=(l.map f).sum+if t∈l then r else 0:=by
 induction l with
 | nil=>rfl
 | cons x l ih=>
  obtain ⟨h1,h2⟩:=nodup_cons.mp hn
  rw [qaM,sum_cons,ih h2,qaM,sum_cons]
  by_cases e:t=x
  ·subst e
   rw [qa4 rfl,qa5 h1,qa4 qau,h0]
   omega
  ·rw [qa5 e]
   have:(t∈x::l)↔t∈l:=by simp [e]
   simp only [this]
   omega
theorem Jv.nil (s:Stk m os):Jv m os [] [] where
 iv:=Iv.nil
 rm0:=λn h0 h1=>by
  have ho:os.getD n.toNat ([],0)∈os:=zjd s h0 h1
  have e:((os.getD n.toNat ([],0)).1.map (sh [])).sum=0:=by
   generalize (os.getD n.toNat ([],0)).1=l
   induction l with
   | nil=>rfl
   | cons x l ih=>rw [qaM,sum_cons,ih];rfl
  unfold rm
  rw [e]
  have:=s.pos _ ho
  omega
 tg:=λn hn=>by cases hn
 sn:=λt=>le_refl _
 sz:=λt _=>rfl
theorem Jv.come (s:Stk m os) (v:Jv m os ts ss) {t:Int} (t0:0<=t) (t1:t<m) (hf:wI os t≠[]):Jv m os (ts++[t]) (zeO os ts ss t):=by
 have iv':=v.iv.come s t0 t1 hf
 unfold zeO at iv' ⊢
 by_cases hh:zd7 os (zb8 ss) t=true
 ·rw [qa4 hh] at iv' ⊢
  exact ⟨iv',v.rm0,v.tg,v.sn,λx hx=>v.sz x λz=>hx (mem_append_left _ z)⟩
 ·rw [qa5 hh] at iv' ⊢
  obtain ⟨n,hn,eb⟩:=zmC (ss:=ss) hf
  have hnb:=zhW.mp hn
  have hmin:=λn' hn'=>zqV (os:=os) (ss:=ss) (t:=t) (n:=n') hn'
  rw [eb] at iv' hmin ⊢
  have e0:[rm os ss n,n].getD 0 0=rm os ss n:=rfl
  have e1:[rm os ss n,n].getD 1 0=n:=rfl
  rw [e0] at hmin
  rw [e0,e1] at iv' ⊢
  have st0:sh ss t=0:=zqy λx hx z=>hh (zbn.mpr ⟨x.2.2.2,qaU.mpr ⟨x,hx,rfl⟩,z▸(v.iv.stp x hx).2.2⟩)
  have er: ∀ n':Int,0<=n'->n'<os.length->rm os (ss++[((ts.length:Int),t,rm os ss n,n)]) n'=rm os ss n' - if t∈(os.getD n'.toNat ([],0)).1 then rm os ss n else 0:=λn' h0 h1=>by
   have ho:=zjd s h0 h1
   have e2:(os.getD n'.toNat ([],0)).1.map (sh (ss++[((ts.length:Int),t,rm os ss n,n)]))=(os.getD n'.toNat ([],0)).1.map λx=>if t=x then rm os ss n else sh ss x:=map_congr_left λx _=>zjh ss _ x
   have e3:=zr5 ((s.up _ ho).imp λh=>by omega) (sh ss) t (rm os ss n) st0
   show (os.getD n'.toNat ([],0)).2 - _=(os.getD n'.toNat ([],0)).2 - _ - _
   rw [e2,e3]
   omega
  have rn:=v.rm0 n hnb.1 hnb.2.1
  refine ⟨iv',λn' h0 h1=> ?_,λn' hn'=> ?_,λx=> ?_,λx hx=> ?_⟩
  ·rw [er n' h0 h1]
   split
   ·rename_i ht
    have:=hmin n' (zhW.mpr ⟨h0,h1,ht⟩)
    omega
   ·have:=v.rm0 n' h0 h1
    omega
  ·have hb:0<=n'/\n'<os.length:=by
    obtain ⟨x,hx,rfl⟩:=qaU.mp hn'
    exact (iv'.stp x hx).2.1
   rw [er n' hb.1 hb.2]
   rw [zb8,map_append,qaK] at hn'
   rcases hn' with h | h
   ·have h3:=v.tg n' h
    rw [qa5 λz=>hh (zbn.mpr ⟨n',h,z⟩)]
    omega
   ·have:n'=n:=by simpa using h
    subst this
    rw [qa4 hnb.2.2]
    omega
  ·rw [zjh]
   show 0<=if t=x then rm os ss n else sh ss x
   split
   ·exact rn
   ·exact v.sn x
  ·rw [zjh]
   show (if t=x then rm os ss n else sh ss x)=0
   rw [qa5 λz=>hx (by simp [z])]
   exact v.sz x λz=>hx (mem_append_left _ z)
variable {ts:List Int} {ss:List Sp4}
theorem zpo {ls:List Int} (L:Lt os ls) {x:Nat} (h:zd7 os ls (x:Int)=true):1<=SX.sm os.length λj=>ej ls j*cj os j x:=by
 obtain ⟨n,hn,hx⟩:=zbn.mp h
 have hb:=L.2 n hn
 have h1:=zs1 (f:=λj=>ej ls j*cj os j x) (n:=os.length) (j:=n.toNat) ⋯ λi _=>Int.mul_nonneg (zqJ ls i).1 (ztU i x).1
 have e1:ej ls n.toNat=1:=by
  unfold ej
  rw [show ((n.toNat:Nat):Int)=n by omega,qa4 (zcd.mpr hn)]
 have e2:cj os n.toNat x=1:=by unfold cj;rw [qa4 (zcd.mpr hx)]
 rw [e1,e2] at h1
 exact h1
theorem Jv.R_le (s:Stk m os) (v:Jv m os ts ss) {j:Nat} (hj:j<os.length):Rj m os ss j<=(os.getD j ([],0)).2:=by
 have:=v.rm0 (j:Int) ⋯ ⋯
 rw [zvU s hj] at this
 omega
theorem Jv.le_cov (s:Stk m os) (v:Jv m os ts ss) {C:List Int} (L:Lt os C) (hc: ∀ t:Int,0<=t->t<m->zd7 os C t=true):(shs m ss).sum<=pr os C:=by
 rw [zm4,zrT L]
 have h1:(SX.sm m.toNat λx=>sh ss (x:Int))<=SX.sm m.toNat λx=>sh ss (x:Int)*SX.sm os.length λj=>ej C j*cj os j x:=SX.zkC λx hx=>by
  have h2:=zpo L (hc (x:Int) ⋯ ⋯)
  have h3:=Int.mul_le_mul_of_nonneg_left h2 (v.sn (x:Int))
  rw [mul_one] at h3
  exact h3
 rw [<- zvW (m:=m)] at h1
 refine Int.le_trans h1 (SX.zkC λj hj=>Int.mul_le_mul_of_nonneg_left (v.R_le s hj) (zqJ C j).1)
theorem Jv.paid_eq (s:Stk m os) (v:Jv m os ts ss):pr os (zb7 (zb8 ss))=SX.sm m.toNat λx=>sh ss (x:Int)*SX.sm os.length λj=>ej (zb7 (zb8 ss)) j*cj os j x:=by
 rw [zrT v.iv.lt, <-zvW (m:=m)]
 refine SX.zct λj hj=> ?_
 unfold ej
 split
 ·rename_i h
  have h1:=v.tg (j:Int) (zaS.mp (zcd.mp h))
  rw [zvU s hj] at h1
  rw [show Rj m os ss j=(os.getD j ([],0)).2 by omega]
 ·rw [zero_mul,zero_mul]
theorem Jv.le_paid (s:Stk m os) (v:Jv m os ts ss):(shs m ss).sum<=pr os (zb7 (zb8 ss)):=by
 rw [v.paid_eq s,zm4]
 refine SX.zkC λx hx=> ?_
 by_cases h:(x:Int)∈ts
 ·have h1:=v.iv.had _ h
  rw [<- zew λn=>zaS] at h1
  have h3:=Int.mul_le_mul_of_nonneg_left (zpo v.iv.lt h1) (v.sn (x:Int))
  rw [mul_one] at h3
  exact h3
 ·rw [v.sz _ h,zero_mul]
  exact le_refl _
theorem zpC {t:Nat}: ∀ os:List (List Int×Int),((os.filter (zfj (t:Int))).length:Int)=SX.sm os.length λj=>cj os j t
 | []=>rfl
 | o::os=>by
  rw [qaE,zjX]
  have e1:(SX.sm os.length λj=>cj (o::os) (j+1) t)=SX.sm os.length λj=>cj os j t:=rfl
  have e0:cj (o::os) 0 t=if o.1.any (· == (t:Int))=true then 1 else 0:=rfl
  rw [e1,e0, <-zpC os,List.filter_cons]
  have:zfj (t:Int) o=o.1.any (· == (t:Int)):=rfl
  rw [this]
  split
  ·rw [qaE]
   omega
  ·omega
theorem Jv.paid_le (s:Stk m os) (v:Jv m os ts ss) {M:Int} (hM: ∀ t∈ts,((os.filter (zfj t)).length:Int)<=M):pr os (zb7 (zb8 ss))<=M*(shs m ss).sum:=by
 rw [v.paid_eq s,zm4, <-SX.zjT]
 refine SX.zkC λx hx=> ?_
 by_cases h:(x:Int)∈ts
 ·have h1:=hM _ h
  rw [zpC os] at h1
  have h2:(SX.sm os.length λj=>ej (zb7 (zb8 ss)) j*cj os j x)<=SX.sm os.length λj=>cj os j x:=SX.zkC λj _=>by
   have h3:=Int.mul_le_mul_of_nonneg_right (zqJ (zb7 (zb8 ss)) j).2 (ztU (os:=os) j x).1
   rw [Int.one_mul] at h3
   exact h3
  rw [Int.mul_comm M]
  exact Int.mul_le_mul_of_nonneg_left (Int.le_trans h2 h1) (v.sn (x:Int))
 ·rw [v.sz _ h,zero_mul,Int.mul_zero]
  exact le_refl _
theorem znF {ks ls:List Int} (h: ∀ n∈ks,n∈ls) {t:Int} (hh:zd7 os ks t=true):zd7 os ls t=true:=by
 obtain ⟨n,hn,ht⟩:=zbn.mp hh
 exact zbn.mpr ⟨n,h n hn,ht⟩
theorem zjn: ∀ (ns ls:List Int),ts.all (zd7 os ls)=true->ts.all (zd7 os (lkp os ts ns ls))=true
 | [],ls,h=>h
 | n::r,ls,h=>by
  unfold lkp
  split
  ·rename_i h2
   exact zjn r _ h2
  ·exact zjn r _ h
theorem znj: ∀ (ns ls:List Int) (n:Int),n∈ns->n∈lkp os ts ns ls->ts.all (zd7 os ((lkp os ts ns ls).filter (· != n)))=false
 | [],ls,n,hn,_=>by cases hn
 | k::r,ls,n,hn,hm=>by
  unfold lkp at hm ⊢
  rcases qaP.mp hn with e | hr
  ·subst e
   split at hm
   ·have:=(ze0 r _).subset hm
    simp at this
   ·rename_i h2
    rw [qa5 h2]
    rw [Bool.eq_false_iff]
    intro z
    apply h2
    refine all_eq_true.mpr λt ht=>znF (λx hx=> ?_) (all_eq_true.mp z t ht)
    obtain ⟨a,b⟩:=mem_filter.mp hx
    exact mem_filter.mpr ⟨(ze0 r ls).subset a,b⟩
  ·exact znj r _ n hr hm
theorem zjK {t:Int} (h:t∈ts): ∀ ns ls:List Int,lkp os (ts++[t]) ns ls=lkp os ts ns ls
 | [],ls=>rfl
 | n::r,ls=>by
  have e:(ts++[t]).all (zd7 os (ls.filter (· != n)))=ts.all (zd7 os (ls.filter (· != n))):=by
   rw [List.all_append]
   cases hh:ts.all (zd7 os (ls.filter (· != n))) with
   | false=>rfl
   | true=>simp [all_eq_true.mp hh t h]
  unfold lkp
  rw [e]
  exact zjK h r _
def kp (os:List (List Int×Int)) (ts:List Int) (ss:List Sp4):List Int:=lkp os ts (zb8 ss).reverse (zb7 (zb8 ss))
theorem Jv.kp_lt (v:Jv m os ts ss):Lt os (kp os ts ss):=v.iv.lt.sub (ze0 _ _)
theorem Jv.kp_had (v:Jv m os ts ss): ∀ t∈ts,zd7 os (kp os ts ss) t=true:=by
 refine all_eq_true.mp (zjn _ _ (all_eq_true.mpr λt ht=> ?_))
 rw [zew λn=>zaS]
 exact v.iv.had t ht
theorem Jv.kp_min (v:Jv m os ts ss) {n:Int} (hn:n∈kp os ts ss): ∃ t∈ts,zd7 os ((kp os ts ss).filter (· != n)) t=false:=by
 have h:=znj (os:=os) (ts:=ts) (zb8 ss).reverse (zb7 (zb8 ss)) n (List.mem_reverse.mpr (zaS.mp ((ze0 _ _).subset hn))) hn
 obtain ⟨t,ht,hh⟩:=List.all_eq_false.mp h
 exact ⟨t,ht,by unfold kp;simpa using hh⟩
theorem zkN {fi:FA} {src:List (Option Nat)} {sd:Sd} {t:Int} (hi:fi sd=pure (os.map zb6)) (hl:os.length<=1000) (eb:zak src sd=[none,some (.int t)]):zaA fi (za7 0) zcV zcS src sd=pure (.lst ((os.filter (zfj t)).map zb6)):=by
 rw [<- zbu]
 refine zbb hi hl λo ho=> ?_
 rw [eb]
 simp only [za5,zcV,zcS]
 ac_nf0
 rw [zeK]
 ac_nf0
 unfold zfj
 split<;>rfl
section
variable {ts:List Int} {ss:List Sp4} {k tn sn:Nat} {h:Hh}
theorem ziE (ss:List Sp4):((shs m ss).map λx=>D.tup [.int x,.int 1])=(shs m ss).map zch:=rfl
theorem zqP:(shs m ss).length=m.toNat:=by unfold shs;simp
theorem Jv.bear (s:Stk m os) (v:Jv m os ts ss):F_37 [zbm m os,.tup ((shs m ss).map zch)]=pure (.bl true):=by
 have m0:=s.m0
 refine zuz s (by rw [zqP];omega) (λx hx=> ?_) λo ho=> ?_
 ·obtain ⟨t,_,rfl⟩:=qaU.mp hx
  exact v.sn _
 ·obtain ⟨j,hj,e⟩:=getElem_of_mem ho
  have h1:=v.rm0 (j:Int) ⋯ ⋯
  unfold rm at h1
  rw [qaB,show os.getD j ([],0)=o by simp [List.getD,hj,e]] at h1
  have e2:pk1 (shs m ss) o.1=o.1.map (sh ss):=by
   unfold pk1
   refine map_congr_left λt ht=> ?_
   have hb:=s.bd o ho t ht
   unfold shs
   rw [show ((List.range m.toNat).map λ(t:Nat)=>sh ss (t:Int)).getD t.toNat 0=sh ss ((t.toNat:Nat):Int) by simp [List.getD,show t.toNat<m.toNat by omega]]
   rw [show ((t.toNat:Nat):Int)=t by omega]
  rw [e2]
  omega
theorem zl4 (s:Stk m os) {ls:List Int} (L:Lt os ls) (hh: ∀ t∈ts,zd7 os ls t=true) (tl:ts.length<=500) {s1 s3 s4:Option D} {P:D->Hh->Prop} (q: ∀ h',Gro h h'->P (.lst []) h'):
  wp (zaA (iSq (zaf 2)) (za7 0) zcc zcP [none,some 0,some 5] [some (zbm m os),s1,some (.lst (ts.map D.int)),s3,s4,some (tI ls)]) h P:=by
 refine zsa (xs:=ts) (λQ q=>by ac_nf0;exact q _ .refl) ⋯ (λx hx h' g=> ?_) q
 rw [show zak [none,some 0,some 5] [some (zbm m os),s1,some (.lst (ts.map D.int)),s3,s4,some (tI ls)]=[none,some (zbm m os),some (tI ls)] from rfl]
 have et:=zfA s L
 have eh:(zb7 ((zce os ls).flatMap (·.1))).any (· == x)=true:=zji.trans (hh x hx)
 generalize zb7 ((zce os ls).flatMap (·.1))=zs at et eh
 simp only [zcc,List.set]
 generalize hst:zbm m os=st at et ⊢
 generalize hls:tI ls=dl at et ⊢
 ac_nf0
 refine et.wp λh2 g2=> ?_
 ac_nf0
 rw [zdI,eh]
 ac_nf0
 first | exact ⟨trivial,g2⟩ | exact ⟨g2,trivial⟩ | exact g2 | exact ⟨rfl,g2⟩
theorem zoT {P:D->Hh->Prop} (s:Stk m os) (hful:znz m os=true) (n9:os.length<=10) (K:Kq m os ts ss k tn sn h) (v:Jv m os ts ss) (tl:ts.length<=400) (q: ∀ h',Gro h h'->P (.bl true) h'):wp (F_48 [zbm m os,.cel k]) h P:=by
 have sl:=v.iv.len s
 have m0:=s.m0
 obtain ⟨cL,cC,cM⟩:=zlU s hful
 have eb:=v.bear s
 have ew:=zr3 s eb
 have hle:=v.le_cov s cL λt t0 t1=>zbn.mpr (cC t t0 t1)
 have hlp:=v.le_paid s
 have epr:=zeM s v.iv.lt
 have epc:=zeM s cL
 have ech:=zfL s hful n9
 generalize hlens:(0:Int)::ts.map (λt=>((os.filter (zfj t)).length:Int))=lens
 have hmx:=zsc (ns:=lens) (by rw [<- hlens];simp)
 have hM: ∀ t∈ts,((os.filter (zfj t)).length:Int)<=zgz lens:=λt ht=>zlv (by rw [<- hlens];exact qan _ (qaU.mpr ⟨t,ht,rfl⟩))
 have hM0:0<=zgz lens:=zlv (by rw [<- hlens];exact qau)
 have hM1:zgz lens<=12:=by
  have:=zor (ns:=lens) (by rw [<- hlens];simp)
  generalize zgz lens=z at this
  rw [<- hlens] at this
  rcases qaP.mp this with rfl | h
  ·decide
  ·obtain ⟨t,_,rfl⟩:=qaU.mp h
   have h1:=List.length_filter_le (zfj t) os
   have h2:=s.len
   omega
 have hpl:=v.paid_le s hM
 have ec: ∀ {s1 s3 s4 s5:Option D},zaA (iSq (zaf 2)) (za7 0) (λ_=>pure true) zcQ [none,some 0] [some (zbm m os),s1,some (.lst (ts.map D.int)),s3,s4,s5]=pure (.lst ((ts.map λt=>((os.filter (zfj t)).length:Int)).map D.int)):=λ{s1 s3 s4 s5}=>by
  have e:(ts.map λt=>((os.filter (zfj t)).length:Int)).map D.int=ts.filterMap λt=>some (.int ((os.filter (zfj t)).length:Int)):=by
   rw [qaT]
   simp [Function.comp_def]
  rw [e]
  refine zbb (g':=D.int) (by ac_nf0) ⋯ λt ht=> ?_
  rw [show zak [none,some 0] [some (zbm m os),s1,some (.lst (ts.map D.int)),s3,s4,s5]=[none,some (zbm m os)] from rfl]
  have eo:=zkN (os:=os) (fi:=iSq (cOp dIx (zaf 1) (cK (.int 1)))) (src:=[none,some 0]) (sd:=[some (.int t),some (zbm m os)]) (t:=t) (by ac_nf0;rw [zrM];ac_nf0) (by have:=s.len;omega) rfl
  simp only [za5,zcQ]
  ac_nf0
  rw [eo]
  ac_nf0
 have tw:=λ(h:Hh) (K:Kq m os ts ss k tn sn h) (P:D->Hh->Prop)=>zdY (P:=P) K ⋯ v.iv.nd
 have lw:=λ(h:Hh) (K:Kq m os ts ss k tn sn h) (P:D->Hh->Prop)=>zft (P:=P) s K v.iv ⋯
 have pw:=λ(h:Hh) (K:Kq m os ts ss k tn sn h) (P:D->Hh->Prop)=>zjq (P:=P) s K v.iv
 have lk1:=λ(h:Hh) (s1 s3 s4:Option D) (P:D->Hh->Prop)=>zl4 (h:=h) (ts:=ts) (s1:=s1) (s3:=s3) (s4:=s4) (P:=P) s v.iv.lt (λt ht=>by rw [zew λn=>zaS];exact v.iv.had t ht) ⋯
 have lk2:=λ(h:Hh) (s1 s3 s4:Option D) (P:D->Hh->Prop)=>zl4 (h:=h) (ts:=ts) (s1:=s1) (s3:=s3) (s4:=s4) (P:=P) s v.kp_lt v.kp_had ⋯
 have hsub: ∀ x∈kp os ts ss,x∈zb7 (zb8 ss):=λx hx=>(ze0 _ _).subset hx
 have klen:=v.kp_lt.len s
 rw [show lkp os ts (zb8 ss).reverse (zb7 (zb8 ss))=kp os ts ss from rfl] at lw
 generalize kp os ts ss=kk at lw lk2 hsub klen
 generalize zb7 (zb8 ss)=tk at tw epr hlp hpl lk1 hsub pw
 rw [d_48]
 simp only [G_48]
 ac_nf0
 refine zax K.1 zjo ?_
 ac_nf0
 refine zju K ?_
 ac_nf0
 refine zax K.1 zfy ?_
 ac_nf0
 refine zfq s K ⋯ λh1 g1=> ?_
 have K1:=K.gro g1
 rw [ziE]
 ac_nf0
 rw [eb]
 ac_nf0
 simp only [zhJ,bne_self_eq_false]
 ac_nf0
 refine zax K1.1 zcs ?_
 ac_nf0
 refine tw _ K1 _ ?_
 rw [epr]
 ac_nf0
 refine zax K1.1 zhd ?_
 ac_nf0
 refine pw _ K1 _ ?_
 rw [zue,beq_self_eq_true]
 ac_nf0
 refine zax K1.1 zfy ?_
 ac_nf0
 refine zfq s K1 ⋯ λh2 g2=> ?_
 have K2:=K1.gro g2
 rw [ziE]
 ac_nf0
 rw [ew]
 ac_nf0
 rw [ec]
 have ea:zes (.lst [.int 0]) (.lst ((ts.map λt=>((os.filter (zfj t)).length:Int)).map D.int))=pure (.lst (lens.map D.int)):=by
  rw [zmI,zaI (by simp;omega), <-hlens]
  rfl
 have o1:dIx (zch (shs m ss).sum) (.int 1)=pure (.int 1):=rfl
 have o0:dIx (zch (shs m ss).sum) (.int 0)=pure (.int (shs m ss).sum):=rfl
 have em:znG (.int (zgz lens)) (.int (shs m ss).sum)=pure (.int (zgz lens*(shs m ss).sum)):=zpm ⋯ ⋯
 refine zat.mpr ?_
 rw [ea]
 refine zat.mpr ?_
 rw [hmx]
 refine zat.mpr ?_
 rw [o1]
 refine zat.mpr ?_
 rw [zue,beq_self_eq_true]
 ac_nf0
 rw [o0]
 ac_nf0
 refine zax K2.1 zhd ?_
 ac_nf0
 refine pw _ K2 _ ?_
 rw [zvE,decide_eq_true hlp]
 ac_nf0
 rw [em]
 ac_nf0
 rw [zvE,decide_eq_true hpl]
 ac_nf0
 rw [o0]
 ac_nf0
 refine ech.wp λh3 g3=> ?_
 have K3:=K2.gro g3
 rw [epc]
 ac_nf0
 rw [decide_eq_false (show ¬pr os (zlm m os).2<(shs m ss).sum by omega)]
 ac_nf0
 refine zax K3.1 zcs ?_
 ac_nf0
 refine tw _ K3 _ ?_
 refine zax K3.1 zbl ?_
 ac_nf0
 refine lw _ K3 _ λh4 g4=> ?_
 have K4:=K3.gro g4
 have dn:dNe (.lst []) (.lst [])=pure (.bl false):=zol [] []
 have de:dEq (.lst []) (.lst [])=pure (.bl true):=zgc []
 have body: ∀ (h':Hh) (dl:D) {Q:Out->Hh->Prop},(∀ P:D->Hh->Prop,(∀ h'',Gro h' h''->P (.lst []) h'')->wp (zaA (iSq (zaf 2)) (za7 0) zcc zcP [none,some 0,some 5] [some (zbm m os),some (.cel k),some (.lst (ts.map D.int)),some (zch (shs m ss).sum),some (.int (zgz lens)),some dl]) h' P)->
   (∀ h'',Gro h' h''->Q (.nx [some (zbm m os),some (.cel k),some (.lst (ts.map D.int)),some (zch (shs m ss).sum),some (.int (zgz lens)),some dl]) h'')->wp (zcX [some (zbm m os),some (.cel k),some (.lst (ts.map D.int)),some (zch (shs m ss).sum),some (.int (zgz lens)),some dl]) h' Q:=by
  intro h' dl Q hc hq
  simp only [zcX]
  ac_nf0
  refine hc _ λh'' g=> ?_
  rw [dn]
  ac_nf0
  exact hq h'' g
 rw [show D.tup (tk.map D.int)=tI tk from rfl,zcj,zar]
 refine body h4 (tI tk) (lk1 h4 _ _ _) λh5 g5=> ?_
 show wp (zbq _ [tI kk] _) h5 _
 rw [zcj,zar]
 refine body h5 (tI kk) (lk2 h5 _ _ _) λh6 g6=> ?_
 show wp (zbq _ [] _) h6 _
 have K6:=(K4.gro g5).gro g6
 rw [zd0,zat]
 simp only [zi2,zcL,zeB,bind_assoc,zar]
 refine zsa (xs:=kk) (λQ q=> ?_) ⋯ (λx hx h' g=> ?_) λh7 g7=> ?_
 ·ac_nf0
  refine zax K6.1 zbl ?_
  ac_nf0
  refine lw _ K6 _ λh7 g7=> ?_
  ac_nf0
  exact q _ g7
 ·have K7:=K6.gro g
  rw [show zak [none,some 1] [some (zbm m os),some (.cel k),some (.lst (ts.map D.int)),some (zch (shs m ss).sum),some (.int (zgz lens)),some (tI kk)]=[none,some (.cel k)] from rfl]
  simp only [zd6,List.set]
  ac_nf0
  refine zax K7.1 zcs ?_
  ac_nf0
  refine tw _ K7 _ ?_
  unfold tI
  rw [zdI,zcd.mpr (hsub x hx)]
  ac_nf0
  first | exact ⟨trivial,.refl⟩ | exact ⟨.refl,trivial⟩ | exact .refl | exact ⟨rfl,.refl⟩
 ·ac_nf0
  rw [de]
  ac_nf0
  exact q h7 (((((g1.trans g2).trans g3).trans g4).trans g5).trans (g6.trans g7))
end
theorem zoZ {ls:List Int} {p:Int} (h0:0<=p) (h1:p<ls.length) (hl:ls.length<=100):F_31 [tI ls,.int p]=pure (tI (ls.eraseIdx p.toNat)):=by
 rw [d_31]
 simp only [G_31]
 ac_nf0
 rw [zhq _ h0,zhe _ ⋯]
 have f:=zaI (show ((ls.map D.int).take p.toNat).length+((ls.map D.int).drop (p+1).toNat).length<=1000 by rw [length_take,length_drop,qaH];omega)
 rw [f]
 ac_nf0
 rw [List.eraseIdx_eq_take_drop_succ,map_append,map_take,map_drop,show (p+1).toNat=p.toNat+1 by omega]
theorem zod (s:Stk m os) {ls:List Int} (L:Lt os ls) (hc:cvB m os ls=true):Ev (F_32 [zbm m os,tI ls]) .non:=by
 have e:=zfs s L
 rw [hc] at e
 rw [d_32]
 simp only [G_32]
 generalize zbm m os=st at e
 generalize tI ls=dl at e
 ac_nf0
 refine Ev.bind e ?_
 ac_nf0
 exact .of (by ac_nf0)
theorem zpU (s:Stk m os) {ls:List Int} (L:Lt os ls) (hc:cvB m os ls=true) (hm: ∀ p,p<ls.length->cvB m os (ls.eraseIdx p)=false):Ev (F_30 [zbm m os,tI ls]) (.bl true):=by
 have hl:=L.len s
 have en:=zod s L hc
 have ec:Ev (zaA (zlo (zac (zaB zgt (zac (zaf 1) zap)) zap)) (za7 0) (λ_=>pure true) zeh [none,some 0,some 1] [some (zbm m os),some (tI ls)]) (.lst ((replicate ls.length false).map D.bl)):=by
  have e:(replicate ls.length false).map D.bl=(List.range ls.length).filterMap λ_=>some (.bl false):=by
   rw [List.filterMap_eq_map',List.map_replicate,List.map_const',length_range]
  rw [e]
  refine zlX (g':=λ(x:Nat)=>D.int (x:Int)) (by
    unfold tI
    ac_nf0
    rw [zdE ⋯ ⋯,qaB]
    unfold zdj
    congr 1
    exact map_congr_left λk _=>by rw [Int.zero_add]) (by rw [length_range];omega) λx hx=> ?_
  have hx:=mem_range.mp hx
  have e1:=zoZ (ls:=ls) (p:=(x:Int)) ⋯ ⋯ ⋯
  rw [qaB] at e1
  have e2:=zfs s (L.sub (List.eraseIdx_sublist (l:=ls) (k:=x)))
  rw [hm x hx] at e2
  rw [show zak [none,some 0,some 1] [some (zbm m os),some (tI ls)]=[none,some (zbm m os),some (tI ls)] from rfl]
  simp only [za5,zeh]
  generalize zbm m os=st at e2
  generalize tI ls=dl at e1
  ac_nf0
  rw [e1]
  ac_nf0
  exact Ev.bind e2 (.of rfl)
 rw [d_30]
 simp only [G_30]
 generalize zbm m os=st at en ec
 generalize tI ls=dl at en ec
 ac_nf0
 refine Ev.bind en ?_
 ac_nf0
 refine Ev.bind ec ?_
 ac_nf0
 rw [zp4,show ((replicate ls.length false).any id)=false by simp]
 ac_nf0
 exact .of rfl
section
variable {ts:List Int} {ss:List Sp4} {b k l:Nat} {h:Hh}
theorem Jv.kp_thin (s:Stk m os) (v:Jv m os ts ss) (p:Nat) (hp:p<(kp os ts ss).length):cvB m os ((kp os ts ss).eraseIdx p)=false:=by
 rw [Bool.eq_false_iff]
 intro z
 obtain ⟨t,ht,hh⟩:=v.kp_min (getElem_mem hp)
 have hb:=v.iv.bd t ht
 obtain ⟨n,hn,hnt⟩:=zdQ.mp z t hb.1 hb.2
 have pm:=zky (xs:=kp os ts ss) (i:=p) (x:=(kp os ts ss)[p]) (by simp [hp])
 have nd:=(pm.nodup_iff.mpr v.kp_lt.nodup)
 have hne:n≠(kp os ts ss)[p]:=λe=>(nodup_cons.mp nd).1 (e▸hn)
 have:zd7 os ((kp os ts ss).filter (· != (kp os ts ss)[p])) t=true:=zbn.mpr ⟨n,mem_filter.mpr ⟨List.mem_of_mem_eraseIdx hn,by simpa using hne⟩,hnt⟩
 rw [hh] at this
 cases this
structure WJ (m:Int) (os:List (List Int×Int)) (b k l:Nat) (ts:List Int) (ss:List Sp4) (lf:List Int) (h:Hh):Prop where
 bx:Bx b h
 kq:Kq m os ts ss k (k+1) (k+2) h
 lf:h[l]? = some (.lst (lf.map D.int))
 ob:b<k
 ol:k+2<l
theorem WJ.gro {lf:List Int} {h':Hh} (J:WJ m os b k l ts ss lf h) (g:Gro h h'):WJ m os b k l ts ss lf h':=⟨(Gro.ext J.bx g).1,J.kq.gro g,g.get J.lf,J.ob,J.ol⟩
theorem WJ.ext {lf:List Int} {h':Hh} (J:WJ m os b k l ts ss lf h) (x:Ext b h h'):WJ m os b k l ts ss lf h':=by
 have o1:=J.ob
 have o2:=J.ol
 exact ⟨x.1,⟨x.2 _ _ ⋯ J.kq.1,x.2 _ _ ⋯ J.kq.2.1,x.2 _ _ ⋯ J.kq.2.2.1,J.kq.2.2.2⟩,x.2 _ _ ⋯ J.lf,J.ob,J.ol⟩
theorem WJ.set {lf lf':List Int} (J:WJ m os b k l ts ss lf h):WJ m os b k l ts ss lf' (h.set l (.lst (lf'.map D.int))):=by
 have o1:=J.ob
 have o2:=J.ol
 have hl:l<h.length:=(qac.mp J.lf).1
 have key: ∀ {j:Nat} {c:C},j≠l->h[j]? = some c->(h.set l (.lst (lf'.map D.int)))[j]? = some c:=λhj e=>by rw [qao (Ne.symm hj)];exact e
 obtain ⟨z,e⟩:=J.bx
 exact ⟨⟨z,key ⋯ e⟩,⟨key ⋯ J.kq.1,key ⋯ J.kq.2.1,key ⋯ J.kq.2.2.1,J.kq.2.2.2⟩,qai hl,J.ob,J.ol⟩
theorem WJ.fr {ts':List Int} {ss':List Sp4} {lf:List Int} {h':Hh} (J:WJ m os b k l ts ss lf h) (K:Kq m os ts' ss' k (k+1) (k+2) h') (f:Fr (k+1) (k+2) h h'):WJ m os b k l ts' ss' lf h':=by
 have o1:=J.ob
 have o2:=J.ol
 obtain ⟨z,e⟩:=J.bx
 exact ⟨⟨z,f _ _ ⋯ ⋯ e⟩,K,f _ _ ⋯ ⋯ J.lf,J.ob,J.ol⟩
end
theorem zoW (s:Stk m os) {o:List Int×Int} (ho:o∈os):F_16 [zb6 o,.int m]=pure (.bl true):=by
 have hr:zdc m 0 (o.1.map D.int)=true:=zc9.mpr ⟨s.up o ho,s.bd o ho⟩
 have hl:0<o.1.length:=List.length_pos_iff.mpr (s.ne o ho)
 have e1:=zi0 (d:= .tup (o.1.map D.int)) (m:=m) rfl λds e x hx=>by
  cases e
  obtain ⟨y,_,rfl⟩:=qaU.mp hx
  rfl
 rw [d_16]
 simp only [G_16]
 ac_nf0
 rw [zjz (d:= .tup [.tup (o.1.map D.int),.int o.2]) rfl]
 ac_nf0
 rw [e1]
 simp only [hr]
 ac_nf0
 rw [decide_eq_true (show (0:Int)<o.1.length by omega)]
 ac_nf0
 rw [zdq (d:= .int o.2) rfl]
 simp only [isI]
 ac_nf0
 rw [decide_eq_true (s.pos o ho)]
theorem znI (s:Stk m os):F_15 [zbm m os]=pure (.bl true):=by
 have ol:=s.len
 have m0:=s.m0
 have m1:=s.m1
 have ec:zaA (iSq (zaf 2)) (za7 0) (λ_=>pure true) zdD [none,some 1] [some (zbm m os),some (.int m),some (.tup (os.map zb6))]=pure (.lst ((os.map λ_=>true).map D.bl)):=by
  rw [show (os.map λ_=>true).map D.bl=os.filterMap λ_=>some (D.bl true) by simp]
  refine zbb (g':=zb6) (xs:=os) rfl ⋯ λo ho=> ?_
  rw [show zak [none,some 1] [some (zbm m os),some (.int m),some (.tup (os.map zb6))]=[none,some (.int m)] from rfl]
  simp only [za5,zdD]
  have e:=zoW s ho
  generalize zb6 o=d at e
  ac_nf0
  rw [e]
  ac_nf0
 rw [d_15]
 simp only [G_15]
 ac_nf0
 rw [zjz (d:=zbm m os) rfl]
 simp only [zbm]
 ac_nf0
 rw [zdq (d:= .int m) rfl]
 simp only [isI]
 ac_nf0
 simp only [zrL]
 ac_nf0
 rw [decide_eq_false (show ¬m<1 by omega),decide_eq_false (show ¬(10:Int)<m by omega)]
 ac_nf0
 rw [zv7]
 ac_nf0
 rw [decide_eq_false (show ¬(12:Int)<os.length by omega)]
 ac_nf0
 unfold zbm at ec
 rw [ec]
 ac_nf0
 rw [zhs,show (os.map λ_=>true).all id=true by simp]
 ac_nf0
section
variable {h:Hh}
theorem zpZ {P:D->Hh->Prop} (s:Stk m os) (q: ∀ h',Gro h h'->h'.length=h.length+3->Kq m os [] [] h.length (h.length+1) (h.length+2) h'->P (.cel h.length) h'):wp (zoy "Keeper" (zaj 2 F_Keeper___init__) [zbm m os]) h P:=by
 have eo:=znI s
 unfold Kq at q
 generalize zbm m os=st at eo q
 ac_nf0
 refine zng ?_
 ac_nf0
 rw [d_Keeper___init__]
 simp only [zaU]
 ac_nf0
 rw [eo]
 ac_nf0
 refine zjG (fs:=[]) (by simp) (by decide) ?_
 rw [zoP]
 ac_nf0
 refine zjG (fs:=[("stock",st)]) (by simp;rfl) (by show 1<1000;decide) ?_
 ac_nf0
 refine zjG (fs:=[("stock",st),("things",.cel (h.length+1))]) (by simp;rfl) (by show 2<1000;decide) ?_
 ac_nf0
 simp only [zuj]
 ac_nf0
 have this:P (.cel h.length) (h++[.ins "Keeper" (zjt st (h.length+1) (h.length+2)),.lst [],.lst []]):=q _ ⟨_,rfl⟩ (by simp) ⟨by simp,by simp,by simp,⋯⟩
 rw [zwe,zwu,show (h++[C.ins "Keeper" (zfo "things" (.cel (h.length+1)) [("stock",st)]),C.lst []]).length=h.length+2 by simp]
 exact this
end
section
variable {ts:List Int} {ss:List Sp4} {b k l:Nat} {h:Hh}
theorem zuo {t:Int} (h:t∈ts) (v:Jv m os ts ss):zeO os ts ss t=ss:=by
 unfold zeO
 rw [qa4 (v.iv.had t h)]
theorem zgO (s:Stk m os) (hful:znz m os=true) (n9:os.length<=10) (hf: ∀ t,0<=t->t<m->wI os t≠[]) {s0 s1:Option D}: ∀ (n:Nat) (lf:List Int) {ts:List Int} {ss:List Sp4} {h:Hh} {x6:Option D} {P:Out->Hh->Prop},WJ m os b k l ts ss lf h->Jv m os ts ss->lf.length<n->(∀ t∈lf,0<=t/\t<m)->(∀ t,0<=t->t<m->t∈lf\/t∈ts)->ts.length+2*lf.length<=100->
   (∀ ts' ss' h' y6,Jv m os ts' ss'->WJ m os b k l ts' ss' [] h'->(∀ t,0<=t->t<m->t∈ts')->ts'.length<=100->P (.nx [s0,s1,some (.cel b),some (zbm m os),some (.cel k),some (.cel l),y6]) h')->
   wp (zev zf5 zfC n [s0,s1,some (.cel b),some (zbm m os),some (.cel k),some (.cel l),x6]) h P
 | 0,lf,ts,ss,h,x6,P,J,v,hn,hb,ha,hl,p=>by omega
 | n+1,lf,ts,ss,h,x6,P,J,v,hn,hb,ha,hl,p=>by
  rw [zjk]
  have ih:= @zgO s hful n9 hf s0 s1 n
  generalize zev zf5 zfC n=zc2 at ih ⊢
  simp only [zf5]
  ac_nf0
  refine zof J.lf ?_
  cases hlf:lf with
  | nil=>
   subst hlf
   ac_nf0
   rw [show (!([]:List Int).isEmpty)=false from rfl]
   ac_nf0
   exact p ts ss h x6 v J (λt t0 t1=>(ha t t0 t1).resolve_left (by simp)) (by simp at hl;omega)
  | cons f fs=>
   rw [<- hlf]
   have hne:lf.isEmpty=false:=by rw [hlf];rfl
   have hpos:0<lf.length:=by rw [hlf];simp
   rw [hne]
   simp only [zfC]
   ac_nf0
   refine zax J.kq.1 zmF ?_
   ac_nf0
   refine (zcI J.lf).mpr ?_
   refine zmw J.lf ?_
   rw [qaH]
   refine zcw J.bx ⋯ ⋯ λd h1 d0 d1 x1=> ?_
   have J1:=J.ext x1
   have hd:d.toNat<lf.length:=by omega
   refine ztr (d:= .int lf[d.toNat]) J1.lf d0 ⋯ (by simp [hd]) ?_
   rw [show (lf.map D.int).eraseIdx d.toNat=(lf.eraseIdx d.toNat).map D.int by rw [List.eraseIdx_eq_take_drop_succ,List.eraseIdx_eq_take_drop_succ,map_append,map_take,map_drop]]
   have J2:=J1.set (lf':=lf.eraseIdx d.toNat)
   have hm:=hb _ (getElem_mem hd)
   have v2:=v.come s hm.1 hm.2 (hf _ hm.1 hm.2)
   refine zlV s J2.kq v.iv ⋯ hm.1 hm.2 (hf _ hm.1 hm.2) λh3 K3 f3=> ?_
   have J3:=J2.fr K3 f3
   have hall: ∀ t,0<=t->t<m->t∈lf.eraseIdx d.toNat\/t∈ts++[lf[d.toNat]]:=λt t0 t1=>by
    rcases ha t t0 t1 with z | z
    ·have pm:=(zky (xs:=lf) (i:=d.toNat) (x:=lf[d.toNat]) (by simp [hd])).mem_iff.mpr z
     rcases qaP.mp pm with e | e
     ·exact .inr (by simp [e])
     ·exact .inl e
    ·exact .inr (mem_append_left _ z)
   have hbf: ∀ t∈lf.eraseIdx d.toNat,0<=t/\t<m:=λt ht=>hb t (List.mem_of_mem_eraseIdx ht)
   have hlen:(lf.eraseIdx d.toNat).length=lf.length - 1:=by rw [List.length_eraseIdx,qa4 hd]
   have htl:(ts++[lf[d.toNat]]).length=ts.length+1:=by simp
   have hne2:ts++[lf[d.toNat]]≠[]:=by simp
   generalize zeO os ts ss lf[d.toNat]=ss2 at v2 K3 J3
   generalize ts++[lf[d.toNat]]=ts2 at v2 K3 J3 hall htl hne2
   generalize lf.eraseIdx d.toNat=lf2 at J3 hall hbf hlen
   refine zoT s hful n9 K3 v2 ⋯ λh4 g4=> ?_
   have J4:=J3.gro g4
   have sl:=v2.iv.len s
   have tw:=λ(h:Hh) (ts:List Int) (K:Kq m os ts ss2 k (k+1) (k+2) h) (P:D->Hh->Prop)=>zdY (P:=P) K ⋯ v2.iv.nd
   have eb:((shs m ss2).map λx=>D.tup [.int x,.int 1])=((shs m ss2).map λx=>[x,1]).map tI:=by rw [qaT];rfl
   ac_nf0
   refine zax J4.kq.1 zcs ?_
   ac_nf0
   refine tw _ _ J4.kq _ ?_
   refine zax J4.kq.1 zfy ?_
   ac_nf0
   refine zfq s J4.kq ⋯ λh5 g5=> ?_
   have J5:=J4.gro g5
   refine zax J5.kq.1 zhd ?_
   ac_nf0
   refine zjq s J5.kq v2.iv ?_
   refine zax J5.kq.1 zbl ?_
   ac_nf0
   refine zft s J5.kq v2.iv ⋯ λh6 g6=> ?_
   have J6:=J5.gro g6
   ac_nf0
   refine zax J6.kq.1 zmF ?_
   ac_nf0
   refine zax J6.kq.1 zjo ?_
   ac_nf0
   refine zju J6.kq ?_
   refine zax J6.kq.1 zjo ?_
   ac_nf0
   refine zju J6.kq ?_
   ac_nf0
   have hp2:0<ts2.length:=List.length_pos_iff.mpr hne2
   refine zcw J6.bx ⋯ ⋯ λe h7 e0 e1 x7=> ?_
   have J7:=J6.ext x7
   have he:e.toNat<ts2.length:=by omega
   have ea:atI (ts2.map D.int) e=some (.int ts2[e.toNat]):=by
    have:=zdM (xs:=ts2.map D.int) (j:=e.toNat) (v:= .int ts2[e.toNat]) (by simp [he])
    rw [show ((e.toNat:Nat):Int)=e by omega] at this
    exact this
   ac_nf0
   rw [ea]
   ac_nf0
   have hin:ts2[e.toNat]∈ts2:=getElem_mem he
   have hbt:=v2.iv.bd _ hin
   have v3:=v2.come s hbt.1 hbt.2 (hf _ hbt.1 hbt.2)
   have es:=zuo hin v2
   refine zlV s J7.kq v2.iv ⋯ hbt.1 hbt.2 (hf _ hbt.1 hbt.2) λh8 K8 f8=> ?_
   have J8:=J7.fr K8 f8
   rw [es] at J8 v3
   have lm:=zjK (os:=os) hin (zb8 ss2).reverse (zb7 (zb8 ss2))
   have htl3:(ts2++[ts2[e.toNat]]).length=ts2.length+1:=by simp
   have hall3: ∀ t,0<=t->t<m->t∈lf2\/t∈ts2++[ts2[e.toNat]]:=λt t0 t1=>(hall t t0 t1).imp id λz=>mem_append_left _ z
   generalize ts2++[ts2[e.toNat]]=ts3 at J8 v3 lm htl3 hall3
   ac_nf0
   refine zax J8.kq.1 zcs ?_
   ac_nf0
   refine tw _ _ J8.kq _ ?_
   refine zax J8.kq.1 zfy ?_
   ac_nf0
   refine zfq s J8.kq ⋯ λh9 g9=> ?_
   have J9:=J8.gro g9
   refine zax J9.kq.1 zhd ?_
   ac_nf0
   refine zjq s J9.kq v3.iv ?_
   refine zax J9.kq.1 zbl ?_
   ac_nf0
   refine zft s J9.kq v3.iv ⋯ λh10 g10=> ?_
   have J10:=J9.gro g10
   ac_nf0
   rw [lm,eb]
   refine zp8 (zb7 (zb8 ss2)) (lkp os ts2 (zb8 ss2).reverse (zb7 (zb8 ss2))) ((shs m ss2).map λx=>[x,1]) (pr os (zb7 (zb8 ss2))) ?_
   ac_nf0
   exact ih lf2 J10 v3 ⋯ hbf hall3 ⋯ p
end
theorem znL {ns:List Int} (hb: ∀ i∈ns,Builtin.Int.intBits i<=2^20) {i:Int} (i0:0<=i) (i6:i<6) {h:Hh} {x2 x3 x4 x5 x6:Option D} {P:Out->Hh->Prop}
  (q: ∀ y2 y3 y4 y5 y6 h',P (.nx [some (.scr (ns.map D.int)),some (.int i),y2,y3,y4,y5,y6]) h'):wp (zfW [some (.scr (ns.map D.int)),some (.int i),x2,x3,x4,x5,x6]) h P:=by
 unfold zfW
 refine zfu ?_
 rw [show zaB (zaj 2 F_44) (zac (zaf 0) (zac (zaf 1) zap)) [some (.scr (ns.map D.int)),some (.int i),x2,x3,x4,x5,x6]=F_44 [.scr (ns.map D.int),.int i] from rfl]
 refine ztX hb i0 i6 λz=> ?_
 have qb:Bx h.length (h++[.lst [.int z]]):=⟨z,by simp⟩
 generalize h.length=b at qb ⊢
 generalize h++[.lst [.int z]]=h1 at qb ⊢
 refine zfu ?_
 refine zqj (mt:=8) (mo:=9) qb (by decide) (by decide) (by decide) (by decide) λm os h2 q2 s hl ol mm=> ?_
 have m0:=s.m0
 have m1:=s.m1
 have hf: ∀ t,0<=t->t<m->wI os t≠[]:=λt t0 t1 z=>by
  obtain ⟨o,ho,ht⟩:=zkB hl t0 t1
  obtain ⟨j,hj,ej⟩:=getElem_of_mem ho
  have:(j:Int)∈wI os t:=zhW.mpr ⟨⋯,⋯,by
    rw [qaB,List.getD,qaf hj,ej]
    exact ht⟩
  rw [z] at this
  cases this
 have hful:znz m os=true:=(zmW s).mpr λt t0 t1=>zkB hl t0 t1
 have bl2:b<h2.length:=by
  obtain ⟨z,e⟩:=q2
  exact (qac.mp e).1
 refine zfu ?_
 refine zpZ s λh3 g3 l3 K3=> ?_
 have q3:Bx b h3:=(Gro.ext q2 g3).1
 generalize hk:h2.length=k at bl2 l3 K3 ⊢
 refine zfu ?_
 have er:zfT (.int m)=zdO (zdj 0 m.toNat):=by
  show (if 0<=m/\m<1000 then _ else _)=_
  rw [qa4 ⟨⋯,⋯⟩]
 have ei:cUn zfT (cOp dIx (zaf 3) (cK (.int 0))) [some (.scr (ns.map D.int)),some (.int i),some (.cel b),some (zbm m os),some (.cel k),x5,x6]=zdO (zdj 0 m.toNat):=by
  ac_nf0
  rw [zrO]
  ac_nf0
  exact er
 show wp (cUn zfT (cOp dIx (zaf 3) (cK (.int 0))) [some (.scr (ns.map D.int)),some (.int i),some (.cel b),some (zbm m os),some (.cel k),x5,x6]) h3 _
 rw [ei,zh3]
 have rg:zdj 0 m.toNat=((List.range m.toNat).map λ(k:Nat)=>(k:Int)).map D.int:=by
  rw [qaT]
  unfold zdj
  exact map_congr_left λk _=>by rw [Int.zero_add];rfl
 have g4:Gro h3 (h3++[.lst (zdj 0 m.toNat)]):=⟨_,rfl⟩
 have J4:WJ m os b k h3.length [] [] ((List.range m.toNat).map λ(k:Nat)=>(k:Int)) (h3++[.lst (zdj 0 m.toNat)]):=⟨(Gro.ext q3 g4).1,K3.gro g4,by rw [<- rg];simp,bl2,⋯⟩
 generalize h3++[.lst (zdj 0 m.toNat)]=h4 at J4 ⊢
 generalize h3.length=l at J4 ⊢
 refine zos ?_
 show wp (zev zf5 zfC 1000 [some (.scr (ns.map D.int)),some (.int i),some (.cel b),some (zbm m os),some (.cel k),some (.cel l),x6]) h4 _
 refine zgO s hful ⋯ hf 1000 _ J4 (.nil s) (by simp;omega) (λt ht=> ?_) (λt t0 t1=> .inl ?_) (by simp;omega) λts ss h5 y6 v J5 hall tl=> ?_
 ·obtain ⟨x,hx,rfl⟩:=qaU.mp ht
  have:=mem_range.mp hx
  omega
 ·exact qaU.mpr ⟨t.toNat,mem_range.mpr ⋯,⋯⟩
 have sl:=v.iv.len s
 have hc1:cvB m os (zb7 (zb8 ss))=true:=zdQ.mpr λt t0 t1=>zbn.mp (by rw [zew λn=>zaS];exact v.iv.had t (hall t t0 t1))
 have hc2:cvB m os (kp os ts ss)=true:=zdQ.mpr λt t0 t1=>zbn.mp (v.kp_had t (hall t t0 t1))
 have c1:=zfs s v.iv.lt
 have c2:=zfs s v.kp_lt
 rw [hc1] at c1
 rw [hc2] at c2
 have ct:=zpU s v.kp_lt hc2 (v.kp_thin s)
 have ek:=zeM s v.kp_lt
 obtain ⟨cL,cC,cM⟩:=zlU s hful
 have hmin:=cM _ v.kp_lt (zdQ.mp hc2)
 have epc:=zeM s cL
 have ech:=zfL s hful ⋯
 have tw:=λ(h:Hh) (K:Kq m os ts ss k (k+1) (k+2) h) (P:D->Hh->Prop)=>zdY (P:=P) K ⋯ v.iv.nd
 have lw:=λ(h:Hh) (K:Kq m os ts ss k (k+1) (k+2) h) (P:D->Hh->Prop)=>zft (P:=P) s K v.iv ⋯
 rw [show lkp os ts (zb8 ss).reverse (zb7 (zb8 ss))=kp os ts ss from rfl] at lw
 generalize tI (zb7 (zb8 ss))=dk at tw c1
 generalize tI (zlm m os).2=dc at ech epc
 generalize hkk:tI (kp os ts ss)=dl at lw c2 ct ek
 generalize hst:zbm m os=st at c1 c2 ct ek ech epc
 have K5:=J5.kq
 ac_nf0
 refine zax K5.1 zcs ?_
 ac_nf0
 refine tw _ K5 _ ?_
 refine c1.wp λh6 g6=> ?_
 have K6:=K5.gro g6
 simp only [zhJ,bne_self_eq_false,zat]
 ac_nf0
 refine zax K6.1 zbl ?_
 ac_nf0
 refine lw _ K6 _ λh7 g7=> ?_
 refine c2.wp λh8 g8=> ?_
 have K8:=(K6.gro g7).gro g8
 simp only [zhJ,bne_self_eq_false,zat]
 ac_nf0
 refine zax K8.1 zbl ?_
 ac_nf0
 refine lw _ K8 _ λh9 g9=> ?_
 refine ct.wp λh10 g10=> ?_
 have K10:=(K8.gro g9).gro g10
 simp only [zhJ,bne_self_eq_false,zat]
 ac_nf0
 refine zax K10.1 zbl ?_
 ac_nf0
 refine lw _ K10 _ λh11 g11=> ?_
 rw [ek]
 ac_nf0
 refine ech.wp λh12 g12=> ?_
 rw [epc]
 ac_nf0
 rw [zrL,decide_eq_false ⋯]
 ac_nf0
 exact q _ _ _ _ _ _
theorem zjN {ns:List Int} (hb: ∀ i∈ns,Builtin.Int.intBits i<=2^20): ∀ (ds:List D) {h:Hh} {x1 x2 x3 x4 x5 x6:Option D} {P:Out->Hh->Prop},(∀ d∈ds, ∃ i:Int,d= .int i/\0<=i/\i<6)->(∀ y1 y2 y3 y4 y5 y6 h',P (.nx [some (.scr (ns.map D.int)),y1,y2,y3,y4,y5,y6]) h')->
  wp (zbq (λx sd=>do let sd1<-za7 1 x sd;zfW sd1) ds [some (.scr (ns.map D.int)),x1,x2,x3,x4,x5,x6]) h P
 | [],h,x1,x2,x3,x4,x5,x6,P,_,k=>by
  rw [zd0,zat]
  exact k _ _ _ _ _ _ _
 | d::r,h,x1,x2,x3,x4,x5,x6,P,hd,k=>by
  obtain ⟨i,rfl,i0,i1⟩:=hd _ qau
  have ih:=λ(h:Hh) (x1 x2 x3 x4 x5 x6:Option D)=>zjN hb r (h:=h) (x1:=x1) (x2:=x2) (x3:=x3) (x4:=x4) (x5:=x5) (x6:=x6) (P:=P) (λy hy=>hd y (qan _ hy)) k
  rw [zcj]
  generalize zbq (λx sd=>do let sd1<-za7 1 x sd;zfW sd1) r=zc2 at ih ⊢
  rw [zar,zdN,pure_bind]
  exact znL hb i0 i1 λy2 y3 y4 y5 y6 h'=>ih _ _ _ _ _ _ _
theorem zo0: ∀ ns:List Int,ns.length<=63->(∀ i∈ns,Builtin.Int.intBits i<=2^20)-> ∃ h',F_49 [.scr (ns.map D.int)] []= .ok (.bl true) h':=by
 intro ns _ hb
 have key:wp (F_49 [.scr (ns.map D.int)]) [] λd _=>d= .bl true:=by
  rw [d_49,zar]
  unfold G_49
  generalize hn:(if (if (3:Int)<(ns.length:Int) then (3:Int) else (ns.length:Int))>1 then (if (3:Int)<(ns.length:Int) then (3:Int) else (ns.length:Int)) else (1:Int))=n
  have n0:0<=n/\n<=6:=by
   rw [<- hn]
   split<;>split<;>omega
  refine zp6 (ds:=zdj 0 n.toNat) ?_ ?_
  ·ac_nf0
   simp only [zpq,qaH]
   ac_nf0
   simp only [zvo]
   ac_nf0
   rw [hn]
   exact zdE n0.1 ⋯
  refine zjN hb _ (λd hd=> ?_) λy1 y2 y3 y4 y5 y6 h'=> ?_
  ·obtain ⟨i,e,i0,i1⟩:=zl8 hd
   exact ⟨i,e,i0,⋯⟩
  ac_nf0
 obtain ⟨d,h',e,rfl⟩:=key
 exact ⟨h',e⟩
end K95
namespace K95
open L2 L3
theorem zt6 {l:W.OpenLaw} {w:World} {K:W.Frag} {h:Heap} {mg:Str->Option Value} {fa a_28 a_42 a_43 a_44 a_45 a_46 a_47 a_8 a_7 a_9 a_16 a_15 a_Keeper___init__ a_22 a_27 a_25 a_17 a_23 a_24 a_19 a_Keeper_in_order a_Keeper_taken a_Keeper_shares a_Keeper_room a_Keeper_come a_Keeper_came a_20 a_Keeper_paid a_11 a_10 a_14 a_12 a_41 a_13 a_40 a_39 a_37 a_Keeper_bears a_38 a_26 a_18 a_21 a_35 a_34 a_33 a_36 a_Keeper_is_enough a_Keeper_least_kept a_48 a_29 a_32 a_31 a_30 a_49:Addr} (X:K.In h) (G:h.Ns mainGlobals mg) (hfa:mg "law"=some (.ref fa))
  {od_49 an_49:Option Addr} {sl_49:Array (Option Value)} {oc_49 kV_49 dc_49 pm_49 cd_49 ct_49:Value}
  {d_42 d_43 d_44 d_45 d_46 d_47 d_8 d_7 d_9 d_16 d_15 d_Keeper___init__ d_22 d_27 d_25 d_17 d_23 d_24 d_19 d_Keeper_in_order d_Keeper_taken d_Keeper_shares d_Keeper_room d_Keeper_come d_Keeper_came d_20 d_Keeper_paid d_11 d_10 d_14 d_12 d_41 d_13 d_40 d_39 d_37 d_Keeper_bears d_38 d_26 d_18 d_21 d_35 d_34 d_33 d_36 d_Keeper_is_enough d_Keeper_least_kept d_48 d_29 d_32 d_31 d_30:FuncData}
  {tk_MOST_OFFERS tk_MOST_THINGS:Tok}
  (e_28:W.nsIn K mainGlobals "Keeper"=some (some (.ref a_28))) (pg_28:W.plainGet K a_28 Str.empty=true) (hd_28:W.hasDictIn K a_28=true) (po_28:W.plainOver K a_28=true) (sa_28:W.findIn K (.ref a_28) "__setattr__"=some (some (.builtin "object.__setattr__"))) (mk_28:W.makesIn K a_28=true) (kc_28:W.keepIn K (.ref a_28)=true)
  (nf_stock:W.findIn K (.ref a_28) "stock"=some none)
  (nf_things:W.findIn K (.ref a_28) "things"=some none)
  (nf_steps:W.findIn K (.ref a_28) "steps"=some none)
  (f_42:Fd K "_law_cell" s_42 a_42 d_42)
  (f_43:Fd K "_law_mix" s_43 a_43 d_43)
  (f_44:Fd K "_law_box" s_44 a_44 d_44)
  (f_45:Fd K "_law_take" s_45 a_45 d_45)
  (f_46:Fd K "_law_stock" s_46 a_46 d_46)
  (f_47:Fd K "_law_full" s_47 a_47 d_47)
  (f_8:Fd K "is_pair" s_8 a_8 d_8)
  (f_7:Fd K "is_whole" s_7 a_7 d_7)
  (f_9:Fd K "is_rising" s_9 a_9 d_9)
  (f_16:Fd K "is_offer" s_16 a_16 d_16)
  (f_15:Fd K "is_stock" s_15 a_15 d_15)
  (f_Keeper___init__:Fm K a_28 "__init__" "Keeper.__init__" zbA a_Keeper___init__ d_Keeper___init__)
  (f_22:Fd K "need_thing" s_22 a_22 d_22)
  (f_27:Fd K "offers_with" s_27 a_27 d_27)
  (f_25:Fd K "things_together" s_25 a_25 d_25)
  (f_17:Fd K "is_lot" s_17 a_17 d_17)
  (f_23:Fd K "need_lot" s_23 a_23 d_23)
  (f_24:Fd K "offers_of" s_24 a_24 d_24)
  (f_19:Fd K "things_of" s_19 a_19 d_19)
  (f_Keeper_in_order:Fm K a_28 "in_order" "Keeper.in_order" zbf a_Keeper_in_order d_Keeper_in_order)
  (f_Keeper_taken:Fm K a_28 "taken" "Keeper.taken" zb9 a_Keeper_taken d_Keeper_taken)
  (f_Keeper_shares:Fm K a_28 "shares" "Keeper.shares" zbc a_Keeper_shares d_Keeper_shares)
  (f_Keeper_room:Fm K a_28 "room" "Keeper.room" zbU a_Keeper_room d_Keeper_room)
  (f_Keeper_come:Fm K a_28 "come" "Keeper.come" zbQ a_Keeper_come d_Keeper_come)
  (f_Keeper_came:Fm K a_28 "came" "Keeper.came" zcp a_Keeper_came d_Keeper_came)
  (f_20:Fd K "price_of" s_20 a_20 d_20)
  (f_Keeper_paid:Fm K a_28 "paid" "Keeper.paid" zcr a_Keeper_paid d_Keeper_paid)
  (f_11:Fd K "greatest_divisor" s_11 a_11 d_11)
  (f_10:Fd K "reduced" s_10 a_10 d_10)
  (f_14:Fd K "together" s_14 a_14 d_14)
  (f_12:Fd K "is_less" s_12 a_12 d_12)
  (f_41:Fd K "is_borne" s_41 a_41 d_41)
  (f_13:Fd K "is_fraction" s_13 a_13 d_13)
  (f_40:Fd K "is_share" s_40 a_40 d_40)
  (f_39:Fd K "are_shares" s_39 a_39 d_39)
  (f_37:Fd K "is_bearing" s_37 a_37 d_37)
  (f_Keeper_bears:Fm K a_28 "bears" "Keeper.bears" zbI a_Keeper_bears d_Keeper_bears)
  (f_38:Fd K "worth_of" s_38 a_38 d_38)
  (f_26:Fd K "have_all" s_26 a_26 d_26)
  (f_18:Fd K "is_full" s_18 a_18 d_18)
  (f_21:Fd K "need_full" s_21 a_21 d_21)
  (f_35:Fd K "bits_of" s_35 a_35 d_35)
  (f_34:Fd K "known_lots" s_34 a_34 d_34)
  (f_33:Fd K "priced_covers" s_33 a_33 d_33)
  (f_36:Fd K "cheapest_cover" s_36 a_36 d_36)
  (f_Keeper_is_enough:Fm K a_28 "is_enough" "Keeper.is_enough" za3 a_Keeper_is_enough d_Keeper_is_enough)
  (f_Keeper_least_kept:Fm K a_28 "least_kept" "Keeper.least_kept" zaY a_Keeper_least_kept d_Keeper_least_kept)
  (f_48:Fd K "_law_right" s_48 a_48 d_48)
  (f_29:Fd K "is_cover" s_29 a_29 d_29)
  (f_32:Fd K "need_cover" s_32 a_32 d_32)
  (f_31:Fd K "without_place" s_31 a_31 d_31)
  (f_30:Fd K "is_thin" s_30 a_30 d_30)
  (e_49:W.nsIn K mainGlobals "law"=some (some (.ref a_49))) (l_49:K.lookup a_49=some ⟨oc_49,od_49,.func (W.fnOf "law" "law" (ze1 s_49) (zdK s_49) (zae s_49) .none kV_49 dc_49 pm_49 an_49 cd_49 ct_49),sl_49⟩) (c_49:W.codeIn K cd_49 "law"=true) (k_49:W.keepIn K (.ref a_49)=true)
  (z_all:W.nsIn K mainGlobals "all"=some none)
  (z_any:W.nsIn K mainGlobals "any"=some none)
  (z_bool:W.nsIn K mainGlobals "bool"=some none)
  (z_dict:W.nsIn K mainGlobals "dict"=some none)
  (z_divmod:W.nsIn K mainGlobals "divmod"=some none)
  (z_enumerate:W.nsIn K mainGlobals "enumerate"=some none)
  (z_int:W.nsIn K mainGlobals "int"=some none)
  (z_isinstance:W.nsIn K mainGlobals "isinstance"=some none)
  (z_len:W.nsIn K mainGlobals "len"=some none)
  (z_list:W.nsIn K mainGlobals "list"=some none)
  (z_max:W.nsIn K mainGlobals "max"=some none)
  (z_min:W.nsIn K mainGlobals "min"=some none)
  (z_range:W.nsIn K mainGlobals "range"=some none)
  (z_set:W.nsIn K mainGlobals "set"=some none)
  (z_sorted:W.nsIn K mainGlobals "sorted"=some none)
  (z_sum:W.nsIn K mainGlobals "sum"=some none)
  (z_tuple:W.nsIn K mainGlobals "tuple"=some none)
  (y_MOST_OFFERS:W.nsIn K mainGlobals "MOST_OFFERS"=some (some (.int 12 tk_MOST_OFFERS)))
  (y_MOST_THINGS:W.nsIn K mainGlobals "MOST_THINGS"=some (some (.int 10 tk_MOST_THINGS)))
  : ∃ fd:FuncData,(∀ (s:Shared) (v:Value),BindsTo s fd ⟨[v],[]⟩ [("script",v)])/\ ∀ base:Heap,K.In base->base.Ns mainGlobals mg->zbr l.prog w K mg base CX0 10 fa fd yba (zbG K 1 F_49):=by
 have e:=hfa.symm.trans (W.mg_of X G e_49)
 cases e
 have F_49:=zaw (st:=s_49) l_49 c_49 k_49
 have b_49:=F_49.binds (ps:=yba) λ_ _ _ _ _ _ us hl=>match us,hl with | [_],_=>rfl
 have T:Tx K mg ⟨a_28,a_42,_,a_43,_,a_44,_,a_45,_,a_46,_,a_47,_,a_8,_,a_7,_,a_9,_,a_16,_,a_15,_,a_Keeper___init__,_,a_22,_,a_27,_,a_25,_,a_17,_,a_23,_,a_24,_,a_19,_,a_Keeper_in_order,_,a_Keeper_taken,_,a_Keeper_shares,_,a_Keeper_room,_,a_Keeper_come,_,a_Keeper_came,_,a_20,_,a_Keeper_paid,_,a_11,_,a_10,_,a_14,_,a_12,_,a_41,_,a_13,_,a_40,_,a_39,_,a_37,_,a_Keeper_bears,_,a_38,_,a_26,_,a_18,_,a_21,_,a_35,_,a_34,_,a_33,_,a_36,_,a_Keeper_is_enough,_,a_Keeper_least_kept,_,a_48,_,a_29,_,a_32,_,a_31,_,a_30,_,fa,_⟩:=
  {n_all:=W.mg_none_of X G z_all,
    n_any:=W.mg_none_of X G z_any,
    n_bool:=W.mg_none_of X G z_bool,
    n_dict:=W.mg_none_of X G z_dict,
    n_divmod:=W.mg_none_of X G z_divmod,
    n_enumerate:=W.mg_none_of X G z_enumerate,
    n_int:=W.mg_none_of X G z_int,
    n_isinstance:=W.mg_none_of X G z_isinstance,
    n_len:=W.mg_none_of X G z_len,
    n_list:=W.mg_none_of X G z_list,
    n_max:=W.mg_none_of X G z_max,
    n_min:=W.mg_none_of X G z_min,
    n_range:=W.mg_none_of X G z_range,
    n_set:=W.mg_none_of X G z_set,
    n_sorted:=W.mg_none_of X G z_sorted,
    n_sum:=W.mg_none_of X G z_sum,
    n_tuple:=W.mg_none_of X G z_tuple,
    c_MOST_OFFERS:=⟨tk_MOST_OFFERS,W.mg_of X G y_MOST_OFFERS⟩,
    c_MOST_THINGS:=⟨tk_MOST_THINGS,W.mg_of X G y_MOST_THINGS⟩,
    g_28:=W.mg_of X G e_28,
    I_28:=⟨e_28,⟨pg_28,hd_28,po_28,sa_28⟩,λf hf=>by rcases qaP.mp hf with rfl | hf;exact nf_stock;rcases qaP.mp hf with rfl | hf;exact nf_things;rcases qaP.mp hf with rfl | hf;exact nf_steps;cases hf⟩,
    Y_28:=⟨mk_28,f_Keeper___init__.at_,f_Keeper___init__.fn,kc_28⟩,
    m_42:=W.mg_of X G f_42.e,
    F_42:=f_42.F,
    b_42:=f_42.F.binds (ps:=yl) λ_ _ _ _ _ _ us hl=>match us,hl with | [_,_],_=>rfl,
    m_43:=W.mg_of X G f_43.e,
    F_43:=f_43.F,
    b_43:=f_43.F.binds (ps:=yaw) λ_ _ _ _ _ _ us hl=>match us,hl with | [_,_],_=>rfl,
    m_44:=W.mg_of X G f_44.e,
    F_44:=f_44.F,
    b_44:=f_44.F.binds (ps:=yl) λ_ _ _ _ _ _ us hl=>match us,hl with | [_,_],_=>rfl,
    m_45:=W.mg_of X G f_45.e,
    F_45:=f_45.F,
    b_45:=f_45.F.binds (ps:=yay) λ_ _ _ _ _ _ us hl=>match us,hl with | [_,_],_=>rfl,
    m_46:=W.mg_of X G f_46.e,
    F_46:=f_46.F,
    b_46:=f_46.F.binds (ps:=yc) λ_ _ _ _ _ _ us hl=>match us,hl with | [_,_,_],_=>rfl,
    m_47:=W.mg_of X G f_47.e,
    F_47:=f_47.F,
    b_47:=f_47.F.binds (ps:=yc) λ_ _ _ _ _ _ us hl=>match us,hl with | [_,_,_],_=>rfl,
    m_8:=W.mg_of X G f_8.e,
    F_8:=f_8.F,
    b_8:=f_8.F.binds (ps:=yg) λ_ _ _ _ _ _ us hl=>match us,hl with | [_],_=>rfl,
    m_7:=W.mg_of X G f_7.e,
    F_7:=f_7.F,
    b_7:=f_7.F.binds (ps:=yg) λ_ _ _ _ _ _ us hl=>match us,hl with | [_],_=>rfl,
    m_9:=W.mg_of X G f_9.e,
    F_9:=f_9.F,
    b_9:=f_9.F.binds (ps:=yap) λ_ _ _ _ _ _ us hl=>match us,hl with | [_,_],_=>rfl,
    m_16:=W.mg_of X G f_16.e,
    F_16:=f_16.F,
    b_16:=f_16.F.binds (ps:=yk) λ_ _ _ _ _ _ us hl=>match us,hl with | [_,_],_=>rfl,
    m_15:=W.mg_of X G f_15.e,
    F_15:=f_15.F,
    b_15:=f_15.F.binds (ps:=yg) λ_ _ _ _ _ _ us hl=>match us,hl with | [_],_=>rfl,
    M_Keeper___init__:=⟨f_Keeper___init__.at_,f_Keeper___init__.fn,f_Keeper___init__.F.kp⟩,
    F_Keeper___init__:=f_Keeper___init__.F,
    b_Keeper___init__:=f_Keeper___init__.F.binds (ps:=yw) λ_ _ _ _ _ _ us hl=>match us,hl with | [_,_],_=>rfl,
    m_22:=W.mg_of X G f_22.e,
    F_22:=f_22.F,
    b_22:=f_22.F.binds (ps:=ya) λ_ _ _ _ _ _ us hl=>match us,hl with | [_,_],_=>rfl,
    m_27:=W.mg_of X G f_27.e,
    F_27:=f_27.F,
    b_27:=f_27.F.binds (ps:=ya) λ_ _ _ _ _ _ us hl=>match us,hl with | [_,_],_=>rfl,
    m_25:=W.mg_of X G f_25.e,
    F_25:=f_25.F,
    b_25:=f_25.F.binds (ps:=yaz) λ_ _ _ _ _ _ us hl=>match us,hl with | [_],_=>rfl,
    m_17:=W.mg_of X G f_17.e,
    F_17:=f_17.F,
    b_17:=f_17.F.binds (ps:=ya) λ_ _ _ _ _ _ us hl=>match us,hl with | [_,_],_=>rfl,
    m_23:=W.mg_of X G f_23.e,
    F_23:=f_23.F,
    b_23:=f_23.F.binds (ps:=yb) λ_ _ _ _ _ _ us hl=>match us,hl with | [_,_],_=>rfl,
    m_24:=W.mg_of X G f_24.e,
    F_24:=f_24.F,
    b_24:=f_24.F.binds (ps:=yb) λ_ _ _ _ _ _ us hl=>match us,hl with | [_,_],_=>rfl,
    m_19:=W.mg_of X G f_19.e,
    F_19:=f_19.F,
    b_19:=f_19.F.binds (ps:=yb) λ_ _ _ _ _ _ us hl=>match us,hl with | [_,_],_=>rfl,
    M_Keeper_in_order:=⟨f_Keeper_in_order.at_,f_Keeper_in_order.fn,f_Keeper_in_order.F.kp⟩,
    F_Keeper_in_order:=f_Keeper_in_order.F,
    b_Keeper_in_order:=f_Keeper_in_order.F.binds (ps:=ye) λ_ _ _ _ _ _ us hl=>match us,hl with | [_],_=>rfl,
    M_Keeper_taken:=⟨f_Keeper_taken.at_,f_Keeper_taken.fn,f_Keeper_taken.F.kp⟩,
    F_Keeper_taken:=f_Keeper_taken.F,
    b_Keeper_taken:=f_Keeper_taken.F.binds (ps:=ye) λ_ _ _ _ _ _ us hl=>match us,hl with | [_],_=>rfl,
    M_Keeper_shares:=⟨f_Keeper_shares.at_,f_Keeper_shares.fn,f_Keeper_shares.F.kp⟩,
    F_Keeper_shares:=f_Keeper_shares.F,
    b_Keeper_shares:=f_Keeper_shares.F.binds (ps:=ye) λ_ _ _ _ _ _ us hl=>match us,hl with | [_],_=>rfl,
    M_Keeper_room:=⟨f_Keeper_room.at_,f_Keeper_room.fn,f_Keeper_room.F.kp⟩,
    F_Keeper_room:=f_Keeper_room.F,
    b_Keeper_room:=f_Keeper_room.F.binds (ps:=yag) λ_ _ _ _ _ _ us hl=>match us,hl with | [_,_],_=>rfl,
    M_Keeper_come:=⟨f_Keeper_come.at_,f_Keeper_come.fn,f_Keeper_come.F.kp⟩,
    F_Keeper_come:=f_Keeper_come.F,
    b_Keeper_come:=f_Keeper_come.F.binds (ps:=yat) λ_ _ _ _ _ _ us hl=>match us,hl with | [_,_],_=>rfl,
    M_Keeper_came:=⟨f_Keeper_came.at_,f_Keeper_came.fn,f_Keeper_came.F.kp⟩,
    F_Keeper_came:=f_Keeper_came.F,
    b_Keeper_came:=f_Keeper_came.F.binds (ps:=ye) λ_ _ _ _ _ _ us hl=>match us,hl with | [_],_=>rfl,
    m_20:=W.mg_of X G f_20.e,
    F_20:=f_20.F,
    b_20:=f_20.F.binds (ps:=yb) λ_ _ _ _ _ _ us hl=>match us,hl with | [_,_],_=>rfl,
    M_Keeper_paid:=⟨f_Keeper_paid.at_,f_Keeper_paid.fn,f_Keeper_paid.F.kp⟩,
    F_Keeper_paid:=f_Keeper_paid.F,
    b_Keeper_paid:=f_Keeper_paid.F.binds (ps:=ye) λ_ _ _ _ _ _ us hl=>match us,hl with | [_],_=>rfl,
    m_11:=W.mg_of X G f_11.e,
    F_11:=f_11.F,
    b_11:=f_11.F.binds (ps:=yn) λ_ _ _ _ _ _ us hl=>match us,hl with | [_,_],_=>rfl,
    m_10:=W.mg_of X G f_10.e,
    F_10:=f_10.F,
    b_10:=f_10.F.binds (ps:=yn) λ_ _ _ _ _ _ us hl=>match us,hl with | [_,_],_=>rfl,
    m_14:=W.mg_of X G f_14.e,
    F_14:=f_14.F,
    b_14:=f_14.F.binds (ps:=yam) λ_ _ _ _ _ _ us hl=>match us,hl with | [_],_=>rfl,
    m_12:=W.mg_of X G f_12.e,
    F_12:=f_12.F,
    b_12:=f_12.F.binds (ps:=yo) λ_ _ _ _ _ _ us hl=>match us,hl with | [_,_],_=>rfl,
    m_41:=W.mg_of X G f_41.e,
    F_41:=f_41.F,
    b_41:=f_41.F.binds (ps:=yac) λ_ _ _ _ _ _ us hl=>match us,hl with | [_,_],_=>rfl,
    m_13:=W.mg_of X G f_13.e,
    F_13:=f_13.F,
    b_13:=f_13.F.binds (ps:=yg) λ_ _ _ _ _ _ us hl=>match us,hl with | [_],_=>rfl,
    m_40:=W.mg_of X G f_40.e,
    F_40:=f_40.F,
    b_40:=f_40.F.binds (ps:=yg) λ_ _ _ _ _ _ us hl=>match us,hl with | [_],_=>rfl,
    m_39:=W.mg_of X G f_39.e,
    F_39:=f_39.F,
    b_39:=f_39.F.binds (ps:=yk) λ_ _ _ _ _ _ us hl=>match us,hl with | [_,_],_=>rfl,
    m_37:=W.mg_of X G f_37.e,
    F_37:=f_37.F,
    b_37:=f_37.F.binds (ps:=ya) λ_ _ _ _ _ _ us hl=>match us,hl with | [_,_],_=>rfl,
    M_Keeper_bears:=⟨f_Keeper_bears.at_,f_Keeper_bears.fn,f_Keeper_bears.F.kp⟩,
    F_Keeper_bears:=f_Keeper_bears.F,
    b_Keeper_bears:=f_Keeper_bears.F.binds (ps:=ye) λ_ _ _ _ _ _ us hl=>match us,hl with | [_],_=>rfl,
    m_38:=W.mg_of X G f_38.e,
    F_38:=f_38.F,
    b_38:=f_38.F.binds (ps:=yq) λ_ _ _ _ _ _ us hl=>match us,hl with | [_,_],_=>rfl,
    m_26:=W.mg_of X G f_26.e,
    F_26:=f_26.F,
    b_26:=f_26.F.binds (ps:=yy) λ_ _ _ _ _ _ us hl=>match us,hl with | [_,_],_=>rfl,
    m_18:=W.mg_of X G f_18.e,
    F_18:=f_18.F,
    b_18:=f_18.F.binds (ps:=yf) λ_ _ _ _ _ _ us hl=>match us,hl with | [_],_=>rfl,
    m_21:=W.mg_of X G f_21.e,
    F_21:=f_21.F,
    b_21:=f_21.F.binds (ps:=yf) λ_ _ _ _ _ _ us hl=>match us,hl with | [_],_=>rfl,
    m_35:=W.mg_of X G f_35.e,
    F_35:=f_35.F,
    b_35:=f_35.F.binds (ps:=yaq) λ_ _ _ _ _ _ us hl=>match us,hl with | [_,_],_=>rfl,
    m_34:=W.mg_of X G f_34.e,
    F_34:=f_34.F,
    b_34:=f_34.F.binds (ps:=yf) λ_ _ _ _ _ _ us hl=>match us,hl with | [_],_=>rfl,
    m_33:=W.mg_of X G f_33.e,
    F_33:=f_33.F,
    b_33:=f_33.F.binds (ps:=yf) λ_ _ _ _ _ _ us hl=>match us,hl with | [_],_=>rfl,
    m_36:=W.mg_of X G f_36.e,
    F_36:=f_36.F,
    b_36:=f_36.F.binds (ps:=yf) λ_ _ _ _ _ _ us hl=>match us,hl with | [_],_=>rfl,
    M_Keeper_is_enough:=⟨f_Keeper_is_enough.at_,f_Keeper_is_enough.fn,f_Keeper_is_enough.F.kp⟩,
    F_Keeper_is_enough:=f_Keeper_is_enough.F,
    b_Keeper_is_enough:=f_Keeper_is_enough.F.binds (ps:=yar) λ_ _ _ _ _ _ us hl=>match us,hl with | [_,_],_=>rfl,
    M_Keeper_least_kept:=⟨f_Keeper_least_kept.at_,f_Keeper_least_kept.fn,f_Keeper_least_kept.F.kp⟩,
    F_Keeper_least_kept:=f_Keeper_least_kept.F,
    b_Keeper_least_kept:=f_Keeper_least_kept.F.binds (ps:=ye) λ_ _ _ _ _ _ us hl=>match us,hl with | [_],_=>rfl,
    m_48:=W.mg_of X G f_48.e,
    F_48:=f_48.F,
    b_48:=f_48.F.binds (ps:=yad) λ_ _ _ _ _ _ us hl=>match us,hl with | [_,_],_=>rfl,
    m_29:=W.mg_of X G f_29.e,
    F_29:=f_29.F,
    b_29:=f_29.F.binds (ps:=ya) λ_ _ _ _ _ _ us hl=>match us,hl with | [_,_],_=>rfl,
    m_32:=W.mg_of X G f_32.e,
    F_32:=f_32.F,
    b_32:=f_32.F.binds (ps:=yi) λ_ _ _ _ _ _ us hl=>match us,hl with | [_,_],_=>rfl,
    m_31:=W.mg_of X G f_31.e,
    F_31:=f_31.F,
    b_31:=f_31.F.binds (ps:=yz) λ_ _ _ _ _ _ us hl=>match us,hl with | [_,_],_=>rfl,
    m_30:=W.mg_of X G f_30.e,
    F_30:=f_30.F,
    b_30:=f_30.F.binds (ps:=yi) λ_ _ _ _ _ _ us hl=>match us,hl with | [_,_],_=>rfl,
    m_49:=W.mg_of X G e_49,
    F_49:=F_49,
    b_49:=b_49}
 exact ⟨W.fnOf "law" "law" (ze1 s_49) (zdK s_49) (zae s_49) .none kV_49 dc_49 pm_49 an_49 cd_49 ct_49,λs v=> .of_eq rfl,λbase _ _=>ok_49 T⟩
theorem zwt {l:W.OpenLaw} {q:Program} {loose:List Str} {XP:(Str->Option Value)->Heap->Prop} {YP:World->Heap->Prop} {d:DefRec} {K:Params->W.Frag} (hn:l.most=some 63) (hdf:d.params.defaults=[])
  (hY: ∀ (w:World) (h:Heap),YP w h->(K w.params).In h)
  (F: ∀ (w:World) (mg:Str->Option Value) (fa:Addr) (h:Heap),(K w.params).In h->h.Ns mainGlobals mg->mg d.name=some (.ref fa)->
    ∃ fd:FuncData,(∀ (s:Shared) (u:Value),BindsTo s fd ⟨[u],[]⟩ [("script",u)])/\ ∀ base:Heap,(K w.params).In base->base.Ns mainGlobals mg->zbr l.prog w (K w.params) mg base CX0 10 fa fd yba (zbG (K w.params) 1 F_49))
  (hm: ∀ ns:List Int,ns.length<=63->(∀ i∈ns,Builtin.Int.intBits i<=2^20)-> ∃ h',F_49 [.scr (ns.map D.int)] []= .ok (.bl true) h'):
  W.WalkO q loose XP YP l.row.toRowW d [] (λf vs=>PySem.call f vs):=
 L2.zoV (n:=63) (k:=10) (x:="script") (CX:=λ_=>CX0) (sp:=λw=>zbG (K w.params) 1 F_49) hn (by decide) hdf ⟨rfl,by decide,by decide⟩ hY F (λw H a ns hl hw hS=>zu5 hS (hm ns hl hw)) λ_ _ _ _ _ z=>z
end K95
open PySem.W
set_option maxRecDepth 100000 in
set_option maxHeartbeats 0 in
theorem PySem.Challenge.cw_cheapcovers_k95_whole_kept_covers_holds : PySem.Challenge.rw_cheapcovers_k95_whole_kept_covers.Holds := by
 w_on; o_law; k_head; (case hw => w_witness2)
 k_fill
 refine K95.zwt (l := PySem.Challenge.rw_cheapcovers_k95_whole_kept_covers) rfl rfl (fun w h Y => W.kIn_of Y) ?F K95.zo0
 case F =>
  intro w mg fa h KX G hmg
  refine' K95.zt6 KX G hmg ?_ ?pg_Keeper ?hd_Keeper ?po_Keeper ?sa_Keeper ?mk_Keeper ?kc_Keeper ?nf_stock ?nf_things ?nf_steps (L3.Fd.mk ?_ (L2.zaw ?_ ?_ ?_)) (L3.Fd.mk ?_ (L2.zaw ?_ ?_ ?_)) (L3.Fd.mk ?_ (L2.zaw ?_ ?_ ?_)) (L3.Fd.mk ?_ (L2.zaw ?_ ?_ ?_)) (L3.Fd.mk ?_ (L2.zaw ?_ ?_ ?_)) (L3.Fd.mk ?_ (L2.zaw ?_ ?_ ?_)) (L3.Fd.mk ?_ (L2.zaw ?_ ?_ ?_)) (L3.Fd.mk ?_ (L2.zaw ?_ ?_ ?_)) (L3.Fd.mk ?_ (L2.zaw ?_ ?_ ?_)) (L3.Fd.mk ?_ (L2.zaw ?_ ?_ ?_)) (L3.Fd.mk ?_ (L2.zaw ?_ ?_ ?_)) (L3.Fm.mk ?_ ?_ (L2.zaw ?_ ?_ ?_)) (L3.Fd.mk ?_ (L2.zaw ?_ ?_ ?_)) (L3.Fd.mk ?_ (L2.zaw ?_ ?_ ?_)) (L3.Fd.mk ?_ (L2.zaw ?_ ?_ ?_)) (L3.Fd.mk ?_ (L2.zaw ?_ ?_ ?_)) (L3.Fd.mk ?_ (L2.zaw ?_ ?_ ?_)) (L3.Fd.mk ?_ (L2.zaw ?_ ?_ ?_)) (L3.Fd.mk ?_ (L2.zaw ?_ ?_ ?_)) (L3.Fm.mk ?_ ?_ (L2.zaw ?_ ?_ ?_)) (L3.Fm.mk ?_ ?_ (L2.zaw ?_ ?_ ?_)) (L3.Fm.mk ?_ ?_ (L2.zaw ?_ ?_ ?_)) (L3.Fm.mk ?_ ?_ (L2.zaw ?_ ?_ ?_)) (L3.Fm.mk ?_ ?_ (L2.zaw ?_ ?_ ?_)) (L3.Fm.mk ?_ ?_ (L2.zaw ?_ ?_ ?_)) (L3.Fd.mk ?_ (L2.zaw ?_ ?_ ?_)) (L3.Fm.mk ?_ ?_ (L2.zaw ?_ ?_ ?_)) (L3.Fd.mk ?_ (L2.zaw ?_ ?_ ?_)) (L3.Fd.mk ?_ (L2.zaw ?_ ?_ ?_)) (L3.Fd.mk ?_ (L2.zaw ?_ ?_ ?_)) (L3.Fd.mk ?_ (L2.zaw ?_ ?_ ?_)) (L3.Fd.mk ?_ (L2.zaw ?_ ?_ ?_)) (L3.Fd.mk ?_ (L2.zaw ?_ ?_ ?_)) (L3.Fd.mk ?_ (L2.zaw ?_ ?_ ?_)) (L3.Fd.mk ?_ (L2.zaw ?_ ?_ ?_)) (L3.Fd.mk ?_ (L2.zaw ?_ ?_ ?_)) (L3.Fm.mk ?_ ?_ (L2.zaw ?_ ?_ ?_)) (L3.Fd.mk ?_ (L2.zaw ?_ ?_ ?_)) (L3.Fd.mk ?_ (L2.zaw ?_ ?_ ?_)) (L3.Fd.mk ?_ (L2.zaw ?_ ?_ ?_)) (L3.Fd.mk ?_ (L2.zaw ?_ ?_ ?_)) (L3.Fd.mk ?_ (L2.zaw ?_ ?_ ?_)) (L3.Fd.mk ?_ (L2.zaw ?_ ?_ ?_)) (L3.Fd.mk ?_ (L2.zaw ?_ ?_ ?_)) (L3.Fd.mk ?_ (L2.zaw ?_ ?_ ?_)) (L3.Fm.mk ?_ ?_ (L2.zaw ?_ ?_ ?_)) (L3.Fm.mk ?_ ?_ (L2.zaw ?_ ?_ ?_)) (L3.Fd.mk ?_ (L2.zaw ?_ ?_ ?_)) (L3.Fd.mk ?_ (L2.zaw ?_ ?_ ?_)) (L3.Fd.mk ?_ (L2.zaw ?_ ?_ ?_)) (L3.Fd.mk ?_ (L2.zaw ?_ ?_ ?_)) (L3.Fd.mk ?_ (L2.zaw ?_ ?_ ?_)) ?_ ?_ ?_ ?_ ?_ ?_ ?_ ?_ ?_ ?_ ?_ ?_ ?_ ?_ ?_ ?_ ?_ ?_ ?_ ?_ ?_ ?_ ?_
  all_goals try first | k_is | kernel_rfl
