import PyProof.Rows.All
import Wide.All
import OpenK.AllK
import Wide.FinOn
import PyProof.EqAt
import PyProof.EqKinds
import PyProof.TupleCall
import PyProof.StationsW
import PyProof.ExcArgs
import PyProof.Seq
import PyProof.TupleIter
import PyProof.RangeIter
import PyProof.WalkInts
import PyProof.SumWalkG
import PyProof.ListRange
import PyProof.Rows.Range3
import OpenK.KDescr
import PyProof.ExcAttrAll.ValueError
import PyProof.Draws
import PyProof.EnumFor
import PyProof.EnumMake
import PyProof.LayNew
import PyProof.Rows.EnumRows
import PyProof.MinMaxWalk
import Lean
import PySem.Challenge.RW_cheapcovers_k34_whole_both_sides
set_option Elab.async false
set_option linter.all false
set_option maxRecDepth 100000
set_option maxHeartbeats 8000000
set_option compiler.extract_closed false
set_option bootstrap.genMatcherCode false
set_option genSizeOfSpec false
open PySem PySem.Spec PyProof.Rows
open List (all_eq_true any_cons any_eq_true append_nil cons_append filterMap_eq_map' filter_cons flatMap_cons flatten_cons foldl_cons foldl_nil forIn_cons forIn_nil getElem_mem length_drop length_range length_singleton length_take length_zip lookup_cons map_append map_congr_left map_nil mem_append_left mem_filter mem_filterMap mem_flatMap mem_range mem_singleton nil_append nodup_append nodup_cons of_mem_zip pairwise_lt_range range_succ replicate replicate_succ)
open Nat (add_mul gcd le_add_right le_of_lt le_succ lt_of_le_of_lt lt_succ_of_lt lt_trans mod_lt mul_le_mul mul_le_mul_left mul_le_mul_right mul_pos ne_of_gt one_mul pos_of_ne_zero pow_le_pow_right pow_lt_pow_right pow_succ zero_le)
open Int (emod_nonneg le_of_eq lt_or_le mul_add mul_assoc mul_comm mul_one mul_zero natAbs_mul natAbs_natCast natCast_mul neg_mul zero_add zero_mul)
open Rat (add_zero le_refl mkRat_self not_lt num_mkRat num_nonneg)
noncomputable section
local macro_rules | `(term| ⋯) => `(term| by first | decide +kernel | omega)
section
open PyProof
abbrev qaa := @List.getElem?_append_right
abbrev qab := @Array.getElem?_eq_some_iff
abbrev qac := @List.getElem?_eq_some_iff
abbrev qad := @List.getElem?_append_left
abbrev qae := @List.drop_eq_getElem_cons
abbrev qaf := @List.getElem?_eq_getElem
abbrev qag := @Heap.get?_push_of_some
abbrev qah := @Heap.get?_update_other
abbrev qai := @List.getElem?_set_self
abbrev qak := @List.mem_append_right
abbrev qal := @Heap.get?_update_self
abbrev qan := @List.mem_cons_of_mem
abbrev qao := @List.getElem?_set_ne
abbrev qap := @Around.under_plainId
abbrev qar := @Heap.get?_push_size
abbrev qas := @Array.length_toList
abbrev qat := @List.filterMap_cons
abbrev qau := @List.mem_cons_self
abbrev qav := @List.length_append
abbrev qaw := @Nat.lt_of_lt_of_le
abbrev qax := @Bool.false_eq_true
abbrev qay := @List.pairwise_cons
abbrev qaA := @List.size_toArray
abbrev qaB := @Int.toNat_natCast
abbrev qaC := @wpAny_newObj_type
abbrev qaD := @decide_eq_true_eq
abbrev qaE := @List.length_cons
abbrev qaF := @List.not_mem_nil
abbrev qaG := @Bool.and_eq_true
abbrev qaH := @List.length_map
abbrev qaI := @List.length_set
abbrev qaJ := @List.length_nil
abbrev qaK := @List.mem_append
abbrev qaL := @Heap.size_push
abbrev qaM := @List.map_cons
abbrev qaN := @Nat.lt_irrefl
abbrev qaO := @wpAny_holding
abbrev qaP := @List.mem_cons
abbrev qaQ := @Heap.lt_size
abbrev qaR := @Nat.ne_of_lt
abbrev qaS := @Nat.le_trans
abbrev qaT := @List.map_map
abbrev qaU := @List.mem_map
abbrev qaV := @Nat.le_refl
abbrev qaW := @wpAny_bind
abbrev qaX := @wpAny_pure
abbrev qaZ := @wpAny_mono
abbrev qa0 := @False.elim
abbrev qa4 := @if_pos
abbrev qa5 := @if_neg
end
def PySem.W.Fast.tw8507949895045785552:Nat:=0
def PySem.W.Fast.tw9776823545345776548:Nat:=0
def PySem.W.Fast.tw752563798646831880:Nat:=0
def PySem.W.Fast.tw7050487289593358729:Nat:=0
def PySem.W.Fast.tw12212847373741936175:Nat:=0
def PySem.W.Fast.tw10710461473562878992:Nat:=0
def PySem.W.Fast.tw2886806759686656025:Nat:=0
def PySem.W.Fast.tw2942021941490085750:Nat:=0
def PySem.W.Fast.tw7058611298691236828:Nat:=0
def PySem.W.Fast.tw14656177663172456859:Nat:=0
def PySem.W.Fast.tw962731181371690608:Nat:=0
def PySem.W.Fast.tw17602263689795969635:Nat:=0
def PySem.W.Fast.tw825586900642103385:Nat:=0
def PySem.W.Fast.tw4416531896027851085:Nat:=0
def PySem.W.Fast.tw8563665581146600351:Nat:=0
def PySem.W.Fast.tw17812767432012069604:Nat:=0
def PySem.W.Fast.tw7198370484801287238:Nat:=0
def PySem.W.Fast.tw1379624949914280015:Nat:=0
def PySem.W.Fast.tw9453176211274647365:Nat:=0
def PySem.W.Fast.tw16723777972192113243:Nat:=0
def PySem.W.Fast.tw9721509153318514078:Nat:=0
def PySem.W.Fast.tw6540636412449142757:Nat:=0
def PySem.W.Fast.tw5423616928553313413:Nat:=0
def PySem.W.Fast.tw16573058206935446157:Nat:=0
namespace L3
def zpt (h:Heap) (e:Addr) (cls head:Value):Prop:= ∃ ob vs,h.get? e=some ob/\ob.cls=cls/\ob.dict=none/\ob.data= .fields vs/\vs[2]? = some .none/\vs[1]? = some head
def zvE (h B:Heap) (e:Addr) (head fl:Value):Prop:= ∃ T ot ts,head= .ref T/\B.get? T=none/\T≠e/\h.get? T=some ot/\ot.data= .fields ts/\ts[3]? = some fl
structure Fly (B:Heap) (l:List Env) (e:Addr) (cls fl:Value) (h:Heap):Prop where
 stays:B.StaysIn h
 new:B.get? e=none
 frames:h.FunFrames B l
 exc: ∃ head,zpt h e cls head/\zvE h B e head fl
section
variable {M:Model} {A:Around} {E:Value->Shared->Prop} {s:Shared} {B:Heap} {env:Env} {outer l:List Env} {L e:Addr} {cls head fl:Value}
end
theorem zgW:entryFor table "proto.unchain"=some Builtin.«proto.unchain» := entryFor_of_tree (by kernel_rfl)
section
variable {prog:Program} {w:World} {A:Around} {E:Value->Shared->Prop} {s:Shared}
theorem zcY {α:Type} {a h:Addr} {o:Obj} {us:Array Value} {cls head:Value} {Q:α->Shared->Prop} (hh:A.handled=some (.ref h)) (hx:zpt s.heap h cls head) (ho:s.heap.get? a=some o) (hd:o.data= .fields us) (hz:2<us.size) (hne:h≠a)
  (q:E (.ref a) {s with heap:=s.heap.update a (Obj.mapFields (·.setIfInBounds 2 (.ref h)))}):wpAny (model prog w) A (raiseNew (.ref a):Sem α) Q E s:=by
 obtain ⟨ob,vs,h1,h2,h3,h4,h5,h6⟩:=hx
 unfold raiseNew
 refine qaW (wpAny_handled ?_)
 rw [hh]
 dsimp only
 rw [qa4 (show (Value.ref h != Value.ref a)=true by simp [hne])]
 refine qaW (qaO (wpAny_runValue (codeAny_builtin zgW ?_)))
 unfold Builtin.«proto.unchain»
 refine qaW (wpAny_field h1 h4 h5 ?_)
 rw [qa4 (show (Value.none==Value.none)=true from rfl)]
 refine qaW (qaX (qaX ?_))
 refine qaW ?_
 obtain ⟨c,d,dt,sl⟩:=o
 dsimp only at hd
 subst hd
 unfold updateField
 refine qaW (wpAny_load ho ?_)
 dsimp only
 rw [qa4 hz]
 exact wpAny_update ho (wpAny_throw q)
def zhc (A:Around) (h:Heap):Prop:=A.handled=none\/ ∃ a cls head,A.handled=some (.ref a)/\zpt h a cls head
theorem znE {it l:Addr} {i:Nat} {items:Array Value} {Q:Option Value->Shared->Prop} (hh:zhc A s.heap) (hit:s.heap.IsListIter it l i) (hl:s.heap.IsList l items) (hx:items[i]? = none)
  (k: ∀ h',Heap.ExtBut it s.heap h'->Q none {s with heap:=h'}):wpAny (model prog w) A (pyNext (.ref it)) Q E s:=by
 rcases hh with hh | ⟨ha,cls,head,hh,hX⟩
 ·exact wpAny_pyNext_list_end hh hit hl hx k
 obtain ⟨o,h1,h2,h3⟩:=id hit
 obtain ⟨ol,l1,_,nl,l2⟩:=hl
 unfold pyNext
 refine qaW (wpAny_attempt (wpAny_callSpecial?_slot (name:=Str.ofString "__next__") hit.typeIs slot_listiter_next (wpAny_call_entry slot_listiter_next hit.typeIs entry_listiter_next ?_ (args_listiter_next _))))
 show wpAny _ _ (field (.ref it) 0>>=_) _ _ s
 refine qaW (wpAny_field h1 h3 (x:= .ref l) rfl ?_)
 show wpAny _ _ (if (Value.ref l==Value.none)=true then _ else _) _ _ s
 rw [qa5 (show ¬(Value.ref l==Value.none)=true from nofun)]
 show wpAny _ _ (field (.ref it) 1>>=_) _ _ s
 refine qaW (wpAny_field h1 h3 (x:= .int i 0) rfl ?_)
 show wpAny _ _ (seqItems? (.ref l)>>=_) _ _ s
 refine qaW (wpAny_seqItems l1 l2 ?_)
 simp only [qaB,hx]
 refine qaW (wpAny_rule (qaW (wpAny_setField h1 h3 (by simp) ?_)))
 have nit:ha≠it:=λz=>by
  subst z
  obtain ⟨ob,vs,x1,_,_,x4,x5,x6⟩:=hX
  rw [h1] at x1
  cases x1
  rw [h3] at x4
  cases x4
  simp at x5
 have hX1:zpt (s.heap.update it (Obj.mapFields (·.setIfInBounds 0 Value.none))) ha cls head:=by
  obtain ⟨ob,vs,x1,x2⟩:=hX
  exact ⟨ob,vs,(qah _ _ (Ne.symm nit)).trans x1,x2⟩
 show wpAny _ _ (newExc (.type "StopIteration") []>>=_) _ _ _
 refine qaW ?_
 simp only [newExc,newTuple]
 refine qaW (qaC ?_ (by size_fits))
 refine qaW (m:=firstArgMember _ _) (wpAny_of_eq (a:=Value.none) (by first | rfl | (simp only [firstArgMember];rfl)) ?_)
 refine qaC ?_ (by size_fits)
 obtain ⟨ob,vs,x1,x2⟩:=hX1
 have y1:=qag {cls:= .type "tuple",dict:=none,data:= .seq [].toArray} x1
 refine zcY (h:=ha) (cls:=cls) (head:=head) hh ⟨ob,vs,qag _ y1,x2⟩ (qar _ rfl) rfl (by simp;omega) (qaR (qaQ y1)) ?_
 refine qaW (wpAny_isInstance (T:="StopIteration") (b:=true) ⟨_,qal _ (qar _ rfl) rfl,rfl⟩ isSubtype_stop ?_)
 refine qaX (k _ λb o hb z=> ?_)
 have z1:(s.heap.update it (Obj.mapFields (·.setIfInBounds 0 Value.none))).get? b=some o:=(qah _ _ (Ne.symm hb)).trans z
 have z2:=qag {cls:= .type "tuple",dict:=none,data:= .seq [].toArray} z1
 rw [qah _ _ (ne_of_gt (qaQ z2))]
 exact qag _ z2
theorem zke {it l:Addr} {i:Nat} {items:Array Value} {Q:Option Value->Shared->Prop} (hh:zhc A s.heap) (hit:s.heap.IsTupleIter it l i) (hl:s.heap.IsTuple l items) (hx:items[i]? = none)
  (k: ∀ h',Heap.ExtBut it s.heap h'->Q none {s with heap:=h'}):wpAny (model prog w) A (pyNext (.ref it)) Q E s:=by
 rcases hh with hh | ⟨ha,cls,head,hh,hX⟩
 ·exact wpAny_pyNext_tuple_end hh hit hl hx k
 obtain ⟨o,h1,h2,h3⟩:=id hit
 obtain ⟨ol,l1,_,nl,l2⟩:=hl
 unfold pyNext
 refine qaW (wpAny_attempt (wpAny_callSpecial?_slot (name:=Str.ofString "__next__") hit.typeIs F.slot_tuple_iterator_next (wpAny_call_entry F.slot_tuple_iterator_next hit.typeIs F.entry_tuple_iterator_next ?_ (F.args_tuple_iterator_next_1 _))))
 show wpAny _ _ (field (.ref it) 0>>=_) _ _ s
 refine qaW (wpAny_field h1 h3 (x:= .ref l) rfl ?_)
 show wpAny _ _ (if (Value.ref l==Value.none)=true then _ else _) _ _ s
 rw [qa5 (show ¬(Value.ref l==Value.none)=true from nofun)]
 show wpAny _ _ (field (.ref it) 1>>=_) _ _ s
 refine qaW (wpAny_field h1 h3 (x:= .int i 0) rfl ?_)
 show wpAny _ _ (seqItems? (.ref l)>>=_) _ _ s
 refine qaW (wpAny_seqItems l1 l2 ?_)
 simp only [qaB,hx]
 refine qaW (wpAny_rule (qaW (wpAny_setField h1 h3 (by simp) ?_)))
 have nit:ha≠it:=λz=>by
  subst z
  obtain ⟨ob,vs,x1,_,_,x4,x5,x6⟩:=hX
  rw [h1] at x1
  cases x1
  rw [h3] at x4
  cases x4
  simp at x5
 have hX1:zpt (s.heap.update it (Obj.mapFields (·.setIfInBounds 0 Value.none))) ha cls head:=by
  obtain ⟨ob,vs,x1,x2⟩:=hX
  exact ⟨ob,vs,(qah _ _ (Ne.symm nit)).trans x1,x2⟩
 show wpAny _ _ (newExc (.type "StopIteration") []>>=_) _ _ _
 refine qaW ?_
 simp only [newExc,newTuple]
 refine qaW (qaC ?_ (by size_fits))
 refine qaW (m:=firstArgMember _ _) (wpAny_of_eq (a:=Value.none) (by first | rfl | (simp only [firstArgMember];rfl)) ?_)
 refine qaC ?_ (by size_fits)
 obtain ⟨ob,vs,x1,x2⟩:=hX1
 have y1:=qag {cls:= .type "tuple",dict:=none,data:= .seq [].toArray} x1
 refine zcY (h:=ha) (cls:=cls) (head:=head) hh ⟨ob,vs,qag _ y1,x2⟩ (qar _ rfl) rfl (by simp;omega) (qaR (qaQ y1)) ?_
 refine qaW (wpAny_isInstance (T:="StopIteration") (b:=true) ⟨_,qal _ (qar _ rfl) rfl,rfl⟩ isSubtype_stop ?_)
 refine qaX (k _ λb o hb z=> ?_)
 have z1:(s.heap.update it (Obj.mapFields (·.setIfInBounds 0 Value.none))).get? b=some o:=(qah _ _ (Ne.symm hb)).trans z
 have z2:=qag {cls:= .type "tuple",dict:=none,data:= .seq [].toArray} z1
 rw [qah _ _ (ne_of_gt (qaQ z2))]
 exact qag _ z2
theorem zll {it:Addr} {x left step:Int} {Q:Option Value->Shared->Prop} (hh:zhc A s.heap) (hit:IsRangeIter s.heap it x left step) (hleft:left<=0)
  (k: ∀ h',Heap.ExtBut it s.heap h'->Q none {s with heap:=h'}):wpAny (model prog w) A (pyNext (.ref it)) Q E s:=by
 rcases hh with hh | ⟨ha,cls,head,hh,hX⟩
 ·exact wpAny_pyNext_range_end hh hit hleft k
 have hT:s.TypeIs (.ref it) "range_iterator":=⟨_,hit,rfl⟩
 unfold pyNext
 refine qaW (wpAny_attempt (wpAny_callSpecial?_slot (name:=Str.ofString "__next__") hT F.slot_range_iterator_next (wpAny_call_entry F.slot_range_iterator_next hT F.entry_range_iterator_next ?_ (F.args_range_iterator_next_1 _))))
 show wpAny _ _ (field (.ref it) 0>>=_) _ _ s
 refine qaW (wpAny_field hit rfl (x:=rawInt x) rfl ?_)
 show wpAny _ _ (field (.ref it) 1>>=_) _ _ s
 refine qaW (wpAny_field hit rfl (x:=rawInt left) rfl ?_)
 show wpAny _ _ (field (.ref it) 2>>=_) _ _ s
 refine qaW (wpAny_field hit rfl (x:=rawInt step) rfl ?_)
 show wpAny _ _ (if left<=0 then _ else _) _ _ s
 rw [qa4 hleft]
 refine qaW (wpAny_rule (qaW ?_))
 show wpAny _ _ (newExc (.type "StopIteration") []>>=_) _ _ _
 refine qaW ?_
 simp only [newExc,newTuple]
 refine qaW (qaC ?_ (by size_fits))
 refine qaW (m:=firstArgMember _ _) (wpAny_of_eq (a:=Value.none) (by first | rfl | (simp only [firstArgMember];rfl)) ?_)
 refine qaC ?_ (by size_fits)
 obtain ⟨ob,vs,x1,x2⟩:=hX
 have y1:=qag {cls:= .type "tuple",dict:=none,data:= .seq [].toArray} x1
 refine zcY (h:=ha) (cls:=cls) (head:=head) hh ⟨ob,vs,qag _ y1,x2⟩ (qar _ rfl) rfl (by simp;omega) (qaR (qaQ y1)) ?_
 refine qaW (wpAny_isInstance (T:="StopIteration") (b:=true) ⟨_,qal _ (qar _ rfl) rfl,rfl⟩ isSubtype_stop ?_)
 refine qaX (k _ λb o hb z=> ?_)
 have z2:=qag {cls:= .type "tuple",dict:=none,data:= .seq [].toArray} z
 rw [qah _ _ (ne_of_gt (qaQ z2))]
 exact qag _ z2
end
end L3
namespace L2
abbrev Key:=Sum Int Str
def zjF:Key->Value->Bool
 | .inl k,v=>Value.isInt k v
 | .inr x,v=>Value.isStrOf x v
def zvJ (w:World):Key->Int
 | .inl k=>hashInt k
 | .inr x=>hashStr w x
theorem zbj: ∀ {k:Key} {v:Value},zjF k v=true->(∃ i t,k=Sum.inl i/\v=Value.int i t)\/(∃ x t,k=Sum.inr x/\v=Value.str x t)
 | .inl i,v,h=>by
  obtain ⟨t,e⟩:=Value.isInt_shape (k:=i) (v:=v) h
  exact .inl ⟨i,t,rfl,e⟩
 | .inr x,v,h=>by
  obtain ⟨t,e⟩:=Value.isStrOf_shape (x:=x) (v:=v) h
  exact .inr ⟨x,t,rfl,e⟩
theorem zlo (i:Int) (t:Tok):zjF (.inl i) (.int i t)=true:=by simp [zjF,Value.isInt]
theorem zlV (x:Str) (t:Tok):zjF (.inr x) (.str x t)=true:=by simp [zjF,Value.isStrOf]
theorem zr7 (a b:Int):decide ((Sum.inl a:Key)=Sum.inl b)=(a==b):=by
 by_cases e:a=b
 ·subst e;simp
 ·have h: ¬(Sum.inl a:Key)=Sum.inl b:=λq=>e (Sum.inl.inj q)
  rw [decide_eq_false h]
  exact (beq_eq_false_iff_ne.mpr e).symm
theorem ztF (a b:Str):decide ((Sum.inr a:Key)=Sum.inr b)=decide (a=b):=by
 by_cases e:a=b
 ·subst e;simp
 ·have h: ¬(Sum.inr a:Key)=Sum.inr b:=λq=>e (Sum.inr.inj q)
  rw [decide_eq_false h,decide_eq_false e]
theorem zrJ (a:Int) (b:Str):decide ((Sum.inl a:Key)=Sum.inr b)=false:=decide_eq_false (λq=>nomatch q)
theorem zsD (a:Str) (b:Int):decide ((Sum.inr a:Key)=Sum.inl b)=false:=decide_eq_false (λq=>nomatch q)
def zeF (prog:Program) (w:World):PySem.KeyKind prog w Key where
 is:=zjF
 hash:=zvJ w
 inj:=λv a b ha hb=>by
  rcases zbj ha with ⟨i,t,rfl,rfl⟩ | ⟨x,t,rfl,rfl⟩
  ·rcases zbj hb with ⟨j,u,rfl,e⟩ | ⟨y,u,rfl,e⟩
   ·injection e with e1 _;rw [e1]
   ·exact nomatch e
  ·rcases zbj hb with ⟨j,u,rfl,e⟩ | ⟨y,u,rfl,e⟩
   ·exact nomatch e
   ·injection e with e1 _;rw [e1]
 byValue:=λk v h=>by
  rcases zbj h with ⟨i,t,rfl,rfl⟩ | ⟨x,t,rfl,rfl⟩<;>rfl
 pyHash:=λhv h=>by
  rcases zbj hv with ⟨i,t,rfl,rfl⟩ | ⟨x,t,rfl,rfl⟩
  ·exact wpAny_pyHash_int h
  ·exact wpAny_pyHash_str h
 eqBool:=λhu hv h=>by
  rcases zbj hu with ⟨i,t,rfl,rfl⟩ | ⟨x,t,rfl,rfl⟩
  ·rcases zbj hv with ⟨j,u,rfl,rfl⟩ | ⟨y,u,rfl,rfl⟩
   ·rw [zr7] at h;exact wpAny_eqBool_int h
   ·rw [zrJ] at h;exact SeqAt.EqAt.int_str i t y u _ _ _ _ h
  ·rcases zbj hv with ⟨j,u,rfl,rfl⟩ | ⟨y,u,rfl,rfl⟩
   ·rw [zsD] at h;exact SeqAt.EqAt.str_int x t j u _ _ _ _ h
   ·rw [ztF] at h;exact wpAny_eqBool_str h
 «strs» := λk x t v h=>by
  rcases zbj h with ⟨i,u,rfl,e⟩ | ⟨y,u,rfl,e⟩
  ·exact nomatch e
  ·injection e with e1 _
   subst e1
   cases v<;>rfl
theorem ziu (prog:Program) (w:World) (i:Int) (t:Tok):(zeF prog w).is (.inl i) (.int i t)=true:=zlo i t
theorem zhQ (prog:Program) (w:World) (x:Str) (t:Tok):(zeF prog w).is (.inr x) (.str x t)=true:=zlV x t
inductive V where
 | non | bl (b:Bool) | int (i:Int) | str (x:Str) | byt (b:Array UInt8) | flt (b:UInt64) | ref (a:Addr) | ty (n:String)
 deriving DecidableEq
def zcc:V->Value->Prop
 | .non,u=>u=Value.none
 | .bl b,u=>u=Value.bool b
 | .int i,u=> ∃ t,u=Value.int i t
 | .str x,u=> ∃ t,u=Value.str x t
 | .byt b,u=> ∃ t,u=Value.bytes b t
 | .flt b,u=> ∃ t,u=Value.float b t
 | .ref a,u=>u=Value.ref a
 | .ty n,u=>u=Value.type n
abbrev zby:List V->List Value->Prop:=Paired zcc
theorem zby.length {xs:List V} {us:List Value} (r:zby xs us):xs.length=us.length:=Paired.length r
theorem zby.get: ∀ {xs:List V} {us:List Value} {i:Nat} {x:V},zby xs us->xs[i]? = some x-> ∃ u,us[i]? = some u/\zcc x u
 | _,_,_,_,.nil,e=>by simp at e
 | _,_,0,_,.cons r _,e=>by simp at e;subst e;exact ⟨_,rfl,r⟩
 | _,_,i+1,x,.cons _ t,e=>by
  obtain ⟨u,h1,h2⟩:=zby.get (i:=i) (x:=x) t (by simpa using e)
  exact ⟨u,by simpa using h1,h2⟩
theorem zby.set {x:V} {u:Value} (r:zcc x u): ∀ {xs:List V} {us:List Value} (i:Nat),zby xs us->zby (xs.set i x) (us.set i u)
 | _,_,_,.nil=> .nil
 | _,_,0,.cons _ t=> .cons r t
 | _,_,i+1,.cons q t=> .cons q (zby.set r i t)
theorem zby.append: ∀ {xs ys:List V} {us ws:List Value},zby xs us->zby ys ws->zby (xs++ys) (us++ws)
 | _,_,_,_,.nil,s=>s
 | _,_,_,_,.cons r t,s=> .cons r (zby.append t s)
def zvb:Option V->Option Value->Prop
 | some v,some u=>zcc v u
 | none,none=>True
 | _,_=>False
def KV {κ:Type}:List (κ×V)->List (κ×Value)->Prop:=Paired λ(p:κ×V) (q:κ×Value)=>p.1=q.1/\zcc p.2 q.2
def kV:Key->V
 | .inl i=> .int i
 | .inr x=> .str x
inductive HO where
 | lst (xs:List V)
 | tup (xs:List V)
 | dK (kvs:List (Key×V)) | dT (kvs:List (List Key×V))
 | set (S:Int->Bool) (n:Nat)
 | ins (C dx:Addr) (fs:List (Str×V))
 | own (x:Addr)
 | xd (fs:List (Str×V))
 | met (f x:Addr)
 | rng (lo hi:Int)
 | frz (o:Obj) (u:HO)
 | tbl (ps:Array Value)
 | ext (φ:Heap->Prop)
abbrev Hp:=Addr->Option HO
def upd (H:Hp) (a:Addr) (o:HO):Hp:=λb=>if b=a then some o else H b
theorem za4 {H:Hp} {a:Addr} {o:HO}:upd H a o a=some o:=by unfold upd;rw [qa4 rfl]
theorem zaN {H:Hp} {a b:Addr} {o:HO} (h:b≠a):upd H a o b=H b:=by unfold upd;rw [qa5 h]
theorem za9 {H:Hp} {a b:Addr} {o:HO} (h:H a=some o) (h':H b=none):a≠b:=by
 intro e;subst e;rw [h] at h';cases h'
def zjV (h:Heap) (a:Addr) (items:Array Value):Prop:= ∃ o,h.get? a=some o/\o.cls= .type "tuple"/\ ∃ n,o.data= .seq items n/\o.dict=none
theorem zjV.is {h:Heap} {a:Addr} {items:Array Value} (x:zjV h a items):IsTup h a items:=by
 obtain ⟨o,h1,h2,n,h3,_⟩:=x
 exact ⟨o,h1,h2,n,h3⟩
theorem zjV.new (h:Heap) (items:Array Value):zjV (h.push {cls:= .type "tuple",data:= .seq items}) h.objs.size items:=⟨_,qar _ rfl,rfl,_,rfl,rfl⟩
section
variable (P:Program) (w:World)
def zbW (H:Hp) (h:Heap) (a:Addr):HO->Prop
 | .lst xs=>xs.length<=sizeLine/\ ∃ (its:List Value) (n:Nat),zby xs its/\h.get? a=some {cls:= .type "list",data:= .seq its.toArray n}
 | .tup xs=>xs.length<=sizeLine/\ ∃ its:List Value,zby xs its/\zjV h a its.toArray
 | .dK kvs=>kvs.length<=sizeLine/\(a==sysModules)=false/\ ∃ vs,KV kvs vs/\h.DictOf (zeF P w) a vs
 | .dT kvs=>kvs.length<=sizeLine/\(a==sysModules)=false/\ ∃ xs:List (List Key×Addr×Value),
   Paired (λ(p:List Key×V) (q:List Key×Addr×Value)=>p.1=q.1/\H q.2.1=some (.tup (p.1.map kV))/\zcc p.2 q.2.2) kvs xs/\
   ∃ o es ep,h.get? a=some o/\o.ExactDict/\o.data= .dict es ep/\es.toList=xs.map (entryOfKey (tupleKind (zeF P w)))/\(xs.map (·.1)).Nodup
 | .set S n=>h.SetOf (intKind P w) a S n
 | .ins C dx fs=>H dx=some (.own a)/\fs.length<=1000/\dx≠a/\h.get? a=some (W.instObj C dx)/\
   ∃ mA,h.Ns1 dx mA/\(∀ f,zvb (fs.lookup f) (mA f))/\PySem.Within mA (fs.map (·.1))
 | .own _=> ∃ o,h.get? a=some o
 | .xd fs=> ∃ mA,h.Ns1 a mA/\ ∀ f,zvb (fs.lookup f) (mA f)
 | .rng lo hi=> ∃ t u v,h.get? a=some {cls:= .type "range",data:= .fields #[.int lo t,.int hi u,.int 1 v]}
 | .frz o u=>h.get? a=some o/\zbW H h a u
 | .tbl ps=>h.get? a=some {cls:= .none,data:= .fields ps}
 | .met f x=>h.get? a=some (W.methodObj (.ref f) (.ref x))
 | .ext φ=>φ h/\(∃ o,h.get? a=some o)/\ ∀ h1 h2:Heap,φ h1->(∀ o,h1.get? a=some o->h2.get? a=some o)->φ h2
def HOk (H:Hp) (h:Heap):Prop:= ∀ a o,H a=some o->zbW P w H h a o
end
section
variable {P:Program} {w:World} {H H':Hp} {h h':Heap} {a:Addr} {o:HO}
theorem zbW.lt (x:zbW P w H h a o):a<h.objs.size:=by
 cases o with
 | lst xs=>obtain ⟨_,_,_,_,e⟩:=x;exact qaQ e
 | tup xs=>obtain ⟨_,_,_,p⟩:=x;exact p.is.lt
 | dK kvs=>obtain ⟨_,_,_,_,o,_,_,e,_⟩:=x;exact qaQ e
 | dT kvs=>obtain ⟨_,_,_,_,o,_,_,e,_⟩:=x;exact qaQ e
 | set S n=>obtain ⟨o,_,_,_,e,_⟩:=x;exact qaQ e
 | ins C dx fs=>obtain ⟨_,_,_,e,_⟩:=x;exact qaQ e
 | own y=>obtain ⟨_,e⟩:=x;exact qaQ e
 | xd fs=>obtain ⟨_,⟨_,_,_,e,_⟩,_⟩:=x;exact qaQ e
 | rng lo hi=>obtain ⟨_,_,_,e⟩:=x;exact qaQ e
 | frz ob u=>obtain ⟨e,_⟩:=x;exact qaQ e
 | tbl ps=>exact qaQ (show h.get? a=some _ from x)
 | met f y=>exact qaQ (show h.get? a=some _ from x)
 | ext φ=>obtain ⟨_,⟨_,e⟩,_⟩:=x;exact qaQ e
theorem Paired.mapP {α β:Type} {F G:α->β->Prop}: ∀ {l₁:List α} {l₂:List β},Paired F l₁ l₂->(∀ a b,F a b->G a b)->Paired G l₁ l₂
 | _,_,.nil,_=> .nil
 | _,_,.cons r t,f=> .cons (f _ _ r) (Paired.mapP t f)
theorem zbW.stay (x:zbW P w H h a o) (k: ∀ b u,(b=a\/H b=some (.own a))->h.get? b=some u->h'.get? b=some u)
  (ho: ∀ b,H b=some (.own a)->H' b=some (.own a)) (ht: ∀ b xs,H b=some (.tup xs)->H' b=some (.tup xs)):zbW P w H' h' a o:=by
 induction o with
 | lst xs=>obtain ⟨z,its,n,r,e⟩:=x;exact ⟨z,its,n,r,k _ _ (.inl rfl) e⟩
 | tup xs=>obtain ⟨z,its,r,ob,e,c⟩:=x;exact ⟨z,its,r,ob,k _ _ (.inl rfl) e,c⟩
 | dK kvs=>obtain ⟨z,y,vs,r,ob,es,ep,e,c⟩:=x;exact ⟨z,y,vs,r,ob,es,ep,k _ _ (.inl rfl) e,c⟩
 | dT kvs=>
  obtain ⟨z,y,xs,r,ob,es,ep,e,c⟩:=x
  exact ⟨z,y,xs,Paired.mapP r λp q z=>⟨z.1,ht _ _ z.2.1,z.2.2⟩,ob,es,ep,k _ _ (.inl rfl) e,c⟩
 | set S n=>obtain ⟨ob,es,ep,t,e,c⟩:=x;exact ⟨ob,es,ep,t,k _ _ (.inl rfl) e,c⟩
 | ins C dx fs=>
  obtain ⟨d,z,ne,e,mA,⟨od,es,ep,e2,c⟩,r⟩:=x
  exact ⟨ho _ d,z,ne,k _ _ (.inl rfl) e,mA,⟨od,es,ep,k _ _ (.inr d) e2,c⟩,r⟩
 | own y=>obtain ⟨ob,e⟩:=x;exact ⟨ob,k _ _ (.inl rfl) e⟩
 | xd fs=>obtain ⟨mA,⟨od,es,ep,e,c⟩,r⟩:=x;exact ⟨mA,⟨od,es,ep,k _ _ (.inl rfl) e,c⟩,r⟩
 | rng lo hi=>obtain ⟨t,u,v,e⟩:=x;exact ⟨t,u,v,k _ _ (.inl rfl) e⟩
 | frz ob u ih=>obtain ⟨e,q⟩:=x;exact ⟨k _ _ (.inl rfl) e,ih q⟩
 | tbl ps=>
  have e:h.get? a=some {cls:= .none,data:= .fields ps}:=x
  show h'.get? a=some {cls:= .none,data:= .fields ps}
  exact k a _ (.inl rfl) e
 | met f y=>
  have e:h.get? a=some (W.methodObj (.ref f) (.ref y)):=x
  show h'.get? a=some (W.methodObj (.ref f) (.ref y))
  exact k a _ (.inl rfl) e
 | ext φ=>obtain ⟨p,⟨o,e⟩,st⟩:=x;exact ⟨st _ _ p λo q=>k _ _ (.inl rfl) q,⟨o,k _ _ (.inl rfl) e⟩,st⟩
theorem HOk.lt (x:HOk P w H h) (e:H a=some o):a<h.objs.size:=(x a o e).lt
theorem HOk.fresh (x:HOk P w H h) (e:h.objs.size<=a):H a=none:=by
 cases q:H a with
 | none=>rfl
 | some u=>exact absurd (qaw (x.lt q) e) (qaN _)
theorem HOk.kept (x:HOk P w H h) (k: ∀ b u,h.get? b=some u->h'.get? b=some u):HOk P w H h':=λa o e=>
 (x a o e).stay (λb u _ q=>k b u q) (λ_ q=>q) λ_ _ q=>q
theorem HOk.laid (x:HOk P w H h) (k: ∀ b u,h.get? b=some u->h'.get? b=some u) (hp:h.objs.size<=a) (new:zbW P w (upd H a o) h' a o):HOk P w (upd H a o) h':=λb u e=>by
 have hn:=x.fresh hp
 by_cases hb:b=a
 ·subst hb;rw [za4] at e;cases e;exact new
 ·rw [zaN hb] at e
  exact (x b u e).stay (λc v _ q=>k c v q) (λc q=>by rw [zaN (za9 q hn)];exact q) λc xs q=>by rw [zaN (za9 q hn)];exact q
end
def Rd (H:Hp) (a:Addr) (u:HO):Prop:=H a=some u\/ ∃ o,H a=some (.frz o u)
theorem Rd.ok {P:Program} {w:World} {H:Hp} {h:Heap} {a:Addr} {u:HO} (r:Rd H a u) (x:HOk P w H h):zbW P w H h a u:=by
 rcases r with r | ⟨o,r⟩
 ·exact x a u r
 ·obtain ⟨_,q⟩:=x a _ r
  exact q
def Mut:Option HO->Prop
 | some (.lst _)=>True
 | some (.dK _)=>True
 | some (.dT _)=>True
 | some (.set _ _)=>True
 | some (.ins _ _ _)=>True
 | some (.ext _)=>True
 | _=>False
section
variable {P:Program} {w:World} {H:Hp} {h h':Heap} {x e:Addr} {o':HO}
theorem HOk.write (ok:HOk P w H h) (mu:Mut (H x)) (he:e=x\/H e=some (.own x)) (k: ∀ b u,b≠e->h.get? b=some u->h'.get? b=some u) (heo: ∃ u,h'.get? e=some u)
  (new:zbW P w (upd H x o') h' x o'):HOk P w (upd H x o') h':=λb u q=>by
 have nown: ∀ c y,H c=some (.own y)->c≠x:=λc y r z=>by subst z;rw [r] at mu;exact mu
 have ntup: ∀ c xs,H c=some (.tup xs)->c≠x:=λc xs r z=>by subst z;rw [r] at mu;exact mu
 by_cases hb:b=x
 ·subst hb;rw [za4] at q;cases q;exact new
 ·rw [zaN hb] at q
  by_cases hbe:b=e
  ·have q':H b=some (.own x):=by
    rcases he with z | z
    ·exact absurd (hbe.trans z) hb
    ·rw [hbe];exact z
   rw [q] at q';cases q'
   obtain ⟨v,hv⟩:=heo
   exact ⟨v,by rw [hbe];exact hv⟩
  ·refine (ok b u q).stay (λc v hc r=>k c v ?_ r) (λc r=>by rw [zaN (nown c b r)];exact r) λc xs r=>by rw [zaN (ntup c xs r)];exact r
   rcases hc with rfl | hc
   ·exact hbe
   ·rintro rfl
    rcases he with z | z
    ·exact nown c b hc z
    ·rw [hc] at z;cases z;exact hb rfl
end
structure Un (fs ex:List Addr) (H H':Hp) (h h':Heap):Prop where
 keep: ∀ b o,h.get? b=some o->H b=none->b∉fs->b∉ex->h'.get? b=some o
 slot: ∀ b o,h.get? b=some o->H b=none->b∈fs->b∉ex-> ∃ sl,h'.get? b=some {o with slots:=sl}
 free: ∀ b o,h.get? b=some o->H b=none->b∉ex->H' b=none
 there: ∀ b o,h.get? b=some o->b∉ex-> ∃ o',h'.get? b=some o'
 tups: ∀ b xs,H b=some (.tup xs)->H' b=some (.tup xs)
 frzs: ∀ b o u,H b=some (.frz o u)->H' b=some (.frz o u)
 tbls: ∀ b ps,H b=some (.tbl ps)-> ∃ more,H' b=some (.tbl (ps++more))
section
variable {fs fs' ex ex':List Addr} {H H1 H2:Hp} {h h1 h2 h':Heap} {a x e:Addr} {o:HO}
theorem Un.any (u:Un fs ex H H1 h h1) {b:Addr} {ob:Obj} (q:h.get? b=some ob) (n:H b=none) (hx:b∉ex): ∃ sl,h1.get? b=some {ob with slots:=sl}:=by
 by_cases hb:b∈fs
 ·exact u.slot b ob q n hb hx
 ·exact ⟨ob.slots,u.keep b ob q n hb hx⟩
theorem Un.trans (a:Un fs ex H H1 h h1) (b:Un fs ex H1 H2 h1 h2):Un fs ex H H2 h h2 where
 keep:=λc ob q n hc hx=>b.keep c ob (a.keep c ob q n hc hx) (a.free c ob q n hx) hc hx
 slot:=λc ob q n hc hx=>by
  obtain ⟨sl,e1⟩:=a.slot c ob q n hc hx
  obtain ⟨sl',e2⟩:=b.slot c _ e1 (a.free c ob q n hx) hc hx
  exact ⟨sl',e2⟩
 free:=λc ob q n hx=>by
  obtain ⟨o',e1⟩:=a.there c ob q hx
  exact b.free c o' e1 (a.free c ob q n hx) hx
 there:=λc ob q hx=>by
  obtain ⟨o',e1⟩:=a.there c ob q hx
  exact b.there c o' e1 hx
 tups:=λc xs q=>b.tups c xs (a.tups c xs q)
 frzs:=λc ob xs q=>b.frzs c ob xs (a.frzs c ob xs q)
 tbls:=λc ps q=>by
  obtain ⟨m1,e1⟩:=a.tbls c ps q
  obtain ⟨m2,e2⟩:=b.tbls c _ e1
  exact ⟨m1++m2,by rw [e2,Array.append_assoc]⟩
theorem Un.kept (k: ∀ b u,h.get? b=some u->h'.get? b=some u):Un fs ex H H h h':=
 ⟨λb ob q _ _ _=>k b ob q,λb ob q _ _ _=>⟨ob.slots,k b ob q⟩,λ_ _ _ n _=>n,λb ob q _=>⟨ob,k b ob q⟩,λ_ _ q=>q,λ_ _ _ q=>q,λ_ ps q=>⟨#[],by rw [q];simp⟩⟩
theorem Un.refl:Un fs ex H H h h:=Un.kept λ_ _ q=>q
theorem Un.laid (k: ∀ b u,h.get? b=some u->h'.get? b=some u) (hp:h.objs.size<=a) (hn:H a=none):Un fs ex H (upd H a o) h h' where
 keep:=λb u q _ _ _=>k b u q
 slot:=λb u q _ _ _=>⟨u.slots,k b u q⟩
 free:=λb u q n _=>by rw [zaN (qaR (qaw (qaQ q) hp))];exact n
 there:=λb u q _=>⟨u,k b u q⟩
 tups:=λb xs q=>by rw [zaN (za9 q hn)];exact q
 frzs:=λb u xs q=>by rw [zaN (za9 q hn)];exact q
 tbls:=λb ps q=>⟨#[],by rw [zaN (za9 q hn),q];simp⟩
theorem Un.write (mu:Mut (H x)) (he:e=x\/H e=some (.own x)) (k: ∀ b u,b≠e->h.get? b=some u->h'.get? b=some u) (heo: ∃ u,h'.get? e=some u):Un fs ex H (upd H x o) h h':=by
 have hx: ∀ b,H b=none->b≠x:=λb n z=>by subst z;rw [n] at mu;exact mu
 have hb: ∀ b,H b=none->b≠e:=λb n z=>by
  subst z
  rcases he with r | r
  ·exact hx b n r
  ·rw [n] at r;cases r
 have hm: ∀ b u,H b=some u-> ¬Mut (some u)->b≠x:=λb u q nm z=>by subst z;rw [q] at mu;exact nm mu
 refine ⟨λb u q n _ _=>k b u (hb b n) q,λb u q n _ _=>⟨u.slots,k b u (hb b n) q⟩,λb u q n _=>by rw [zaN (hx b n)];exact n,λb u q _=> ?_,
   λb xs q=>by rw [zaN (hm b _ q λz=>z)];exact q,λb u xs q=>by rw [zaN (hm b _ q λz=>z)];exact q,λb ps q=>⟨#[],by rw [zaN (hm b _ q λz=>z),q];simp⟩⟩
 by_cases hbe:b=e
 ·subst hbe;exact heo
 ·exact ⟨u,k b u hbe q⟩
end
def trk (h:Heap) (H:Hp):List Addr:=(List.range h.objs.size).filter λa=>(H a).isSome
def zmV (h:Heap) (H:Hp):Heap:=W.hideAll h (trk h H)
theorem zkq (h:Heap) (H:Hp):(zmV h H).objs.size=h.objs.size:=W.hideAll_size _ _
theorem zmK {h:Heap} {H:Hp} {b:Addr} {o:Obj} (e:h.get? b=some o) (n:H b=none):(zmV h H).get? b=some o:=
 W.hideAll_get _ e λhm=>by
  have q:(H b).isSome=true:=(mem_filter.mp hm).2
  rw [n] at q;simp at q
theorem zpE {h:Heap} {H:Hp} {b:Addr} {o:Obj} (e:(zmV h H).get? b=some o):h.get? b=some o/\H b=none:=by
 have e':h.get? b=some o:=W.of_hideAll (trk h H) e
 refine ⟨e',?_⟩
 cases q:H b with
 | none=>rfl
 | some x=>
  have hm:b∈trk h H:=mem_filter.mpr ⟨mem_range.mpr (qaQ e'),by simp [q]⟩
  have z:(zmV h H).get? b=none:=W.hideAll_none (trk h H) hm
  rw [z] at e;cases e
def zoX (g h:Heap) (L:Addr):List (Addr×Obj):=(List.range h.objs.size).filterMap λa=>if a=L\/(g.get? a).isSome=true then none else (h.get? a).map λo=>(a,o)
def zbz (g h:Heap) (L d:Addr):List (Addr×Obj):=(zoX g h L).filter λp=>decide (p.1≠d)
structure Mod (K:W.Frag) (mg:Str->Option Value) (base:Heap):Prop where
 kin:K.In base
 glob:base.Ns mainGlobals mg
 blt: ∃ mb,base.Ns builtinsNs mb/\ ∀ x:Str,x≠"__name__"->mb x=bootBuiltins x
 nolimit:base.NoLimit
structure Cx where
 prog:Program
 w:World
 K:W.Frag
 mg:Str->Option Value
 base:Heap
 A:Around
 N:List Str
 s₀:Shared
 H₀:Hp
 env:Env
 outer:List Env
 stack:List Env
 ex:List Addr
 fn:Str->Bool
 calm:Bool
 pn:List (Addr×Obj)
 xe:Value->Shared->Prop
def frs (l:List Env):List Addr:=l.filterMap (·.frame)
abbrev Cx.fs (X:Cx):List Addr:=frs X.outer
def Vis (sc:Scope) (x:Str):Prop:=sc.names.lookup x=some .local\/sc.names.lookup x=some .cell\/sc.names.lookup x=some .free
def Loc (sc:Scope) (x:Str):Prop:=sc.names.lookup x=some .local\/sc.names.lookup x=some .cell
def zvZ (env:Env) (h:Heap) (m:Str->Option Value) (x:Str) (u:Value):Prop:=
 (env.kindOf x=some .local/\m x=some u)\/((env.kindOf x=some .cell\/env.kindOf x=some .free)/\ ∃ c,env.cells.lookup x=some c/\h.IsCell c (some u))
def zhB (A:Around) (H:Hp):Prop:=A.handled=none\/ ∃ a o cls head vs,A.handled=some (.ref a)/\H a=some (.frz o (.own 0))/\o.cls=cls/\o.dict=none/\o.data= .fields vs/\vs[2]? = some .none/\vs[1]? = some head
structure Cx.Ok (X:Cx):Prop where
 mod:Mod X.K X.mg X.base
 kind:X.env.scope.kind= .function
 glob:X.env.globals=mainGlobals
 blt:X.env.builtins=builtinsNs
 above:X.s₀.heap.objs.size<=X.env.locals
 inj: ∀ x y c,X.env.cells.lookup x=some c->X.env.cells.lookup y=some c->x=y
 has: ∀ x,(X.env.kindOf x=some .cell\/X.env.kindOf x=some .free)-> ∃ c,X.env.cells.lookup x=some c
 cab: ∀ x c,X.fn x=true->X.env.cells.lookup x=some c->X.s₀.heap.objs.size<=c
 hd:X.calm=true->X.A.handled=none
 hx:zhB X.A X.H₀
 frames:X.A.frames=some X.stack
 stk:X.stack=X.outer\/(X.stack=X.env::X.outer/\X.env.frame=some X.env.locals)
 exf: ∀ b∈X.ex,b≠X.env.locals/\ ∀ x c,X.env.cells.lookup x=some c->c≠b
 bs: ∀ b o,X.base.get? b=some o->X.s₀.heap.get? b=some o/\X.H₀ b=none
 bsz:X.base.objs.size<=X.s₀.heap.objs.size
 noex: ∀ b o,X.base.get? b=some o->b∉X.ex
 exfs: ∀ b∈X.ex,b∉X.fs
 funs:X.s₀.heap.FunFrames X.base X.outer
 frf: ∀ b∈X.fs,X.H₀ b=none
structure Inv (X:Cx) (pins:List (Addr×Obj)) (σ:List (Option V)) (H:Hp) (s:Shared):Prop where
 ok:X.Ok
 os:s.os=X.s₀.os
 bare:AllBare s.gens
 base:Un X.fs X.ex X.H₀ H X.s₀.heap s.heap
 loc: ∃ m,s.heap.Ns X.env.locals m/\ ∀ (i:Nat) (x:Str) (v:V),X.N[i]? = some x->σ[i]? = some (some v)->Vis X.env.scope x-> ∃ u,zcc v u/\zvZ X.env s.heap m x u
 cell: ∀ x c,X.env.cells.lookup x=some c-> ∃ v,s.heap.IsCell c v
 free:H X.env.locals=none
 freeC: ∀ x c,X.env.cells.lookup x=some c->H c=none
 pin: ∀ p∈X.pn++pins,s.heap.get? p.1=some p.2/\H p.1=none/\p.1≠X.env.locals/\p.1∉X.fs/\ ∀ v,p.2.data≠ .cell v
 hok:HOk X.prog X.w H s.heap
 len:σ.length=X.N.length
section
variable {X:Cx} {pins:List (Addr×Obj)} {σ:List (Option V)} {H H':Hp} {s:Shared} {h':Heap}
theorem Cx.Ok.nofr (ok:X.Ok) {b:Addr} {o:Obj} (e:X.base.get? b=some o):b∉X.fs:=λhb=>by
 have:=(ok.funs.mem hb).1
 rw [e] at this;cases this
theorem Inv.bs (I:Inv X pins σ H s): ∀ b o,X.base.get? b=some o->s.heap.get? b=some o/\H b=none:=λb o e=>
 ⟨I.base.keep b o (I.ok.bs b o e).1 (I.ok.bs b o e).2 (I.ok.nofr e) (I.ok.noex b o e),I.base.free b o (I.ok.bs b o e).1 (I.ok.bs b o e).2 (I.ok.noex b o e)⟩
theorem Inv.bk (I:Inv X pins σ H s): ∀ b o,X.base.get? b=some o->s.heap.get? b=some o:=λb o e=>(I.bs b o e).1
theorem Inv.mod (I:Inv X pins σ H s):Mod X.K X.mg X.base:=I.ok.mod
theorem Inv.kIn (I:Inv X pins σ H s):X.K.In s.heap:=I.ok.mod.kin.keeps I.bk
theorem Inv.lt (I:Inv X pins σ H s):X.env.locals<s.heap.objs.size:=let ⟨_,hn,_⟩:=I.loc;hn.lt
theorem Inv.sz (I:Inv X pins σ H s):X.s₀.heap.objs.size<=s.heap.objs.size:=qaS I.ok.above (le_of_lt I.lt)
theorem Inv.nofs (I:Inv X pins σ H s) {a:Addr} (h:s.heap.objs.size<=a):a∉X.fs:=λhb=>by
 obtain ⟨_,o,ho,_⟩:=I.ok.funs.mem hb
 exact absurd (qaw (qaQ ho) (qaS I.sz h)) (qaN _)
theorem Inv.cne (I:Inv X pins σ H s): ∀ x c,X.env.cells.lookup x=some c->c≠X.env.locals:=λx c e z=>by
 obtain ⟨v,o,ho,hd⟩:=I.cell x c e
 obtain ⟨m,⟨o',es,ep,ho',hd',_⟩,_⟩:=I.loc
 rw [z,ho'] at ho;cases ho;rw [hd'] at hd;cases hd
theorem Inv.funs (I:Inv X pins σ H s):s.heap.FunFrames X.base X.outer:=by
 have all: ∀ (l:List Env),(∀ b∈frs l,b∈X.fs)->X.s₀.heap.FunFrames X.base l->s.heap.FunFrames X.base l:=by
  intro l
  induction l with
  | nil=>intro _ _;trivial
  | cons env r ih=>
   intro hs hl
   obtain ⟨hk,⟨L,o,hf,hn,ho,hd⟩,hr⟩:=hl
   have hL:L∈X.fs:=hs L (by unfold frs;rw [qat,hf];exact qau)
   obtain ⟨sl,e⟩:=I.base.slot L o ho (I.ok.frf L hL) hL λz=>I.ok.exfs L z hL
   exact ⟨hk,⟨L,_,hf,hn,e,hd⟩,ih (λb hb=>hs b (by unfold frs;rw [qat,hf];exact qan _ hb)) hr⟩
 exact all X.outer (λ_ hb=>hb) I.ok.funs
theorem Inv.stack (I:Inv X pins σ H s):s.heap.FunFrames X.base X.stack:=by
 rcases I.ok.stk with e | ⟨e,hf⟩
 ·rw [e];exact I.funs
 ·rw [e]
  obtain ⟨m,hn,_⟩:=I.loc
  refine .cons (by rw [I.ok.kind];decide) hf hn ?_ I.funs
  exact Heap.get?_none_of_le (qaS I.ok.bsz I.ok.above)
theorem Inv.stkSub (I:Inv X pins σ H s): ∀ b∈frs X.stack,b∈X.env.locals::X.fs:=λb hb=>by
 rcases I.ok.stk with e | ⟨e,hf⟩
 ·rw [e] at hb;exact qan _ hb
 ·rw [e] at hb
  unfold frs at hb
  rw [qat,hf] at hb
  exact hb
theorem Inv.stkFree (I:Inv X pins σ H s): ∀ b∈frs X.stack,H b=none:=λb hb=>by
 rcases qaP.mp (I.stkSub b hb) with e | hb
 ·rw [e];exact I.free
 ·obtain ⟨_,o,ho,_⟩:=I.ok.funs.mem hb
  exact I.base.free b o ho (I.ok.frf b hb) λz=>I.ok.exfs b z hb
theorem Inv.step {g':Array GenState} {t':Nat} {d':Drawn} {ch:List Addr} (I:Inv X pins σ H s)
  (hch: ∀ b∈ch,(b∈X.ex\/X.s₀.heap.objs.size<=b)/\b≠X.env.locals/\(∀ x c,X.env.cells.lookup x=some c->c≠b)/\ ∀ p∈X.pn++pins,p.1≠b)
  (keep: ∀ b o,b≠X.env.locals->b∉X.fs->b∉ch->s.heap.get? b=some o->H b=none->h'.get? b=some o)
  (slot: ∀ b o,b≠X.env.locals->b∈X.fs->b∉ch->s.heap.get? b=some o->H b=none-> ∃ sl,h'.get? b=some {o with slots:=sl}) (free: ∀ b o,b∉ch->s.heap.get? b=some o->H b=none->H' b=none)
  (there: ∀ b o,b∉ch->s.heap.get? b=some o-> ∃ o',h'.get? b=some o')
  (tups: ∀ b xs,H b=some (.tup xs)->H' b=some (.tup xs)) (frzs: ∀ b o u,H b=some (.frz o u)->H' b=some (.frz o u)) (tbls: ∀ b ps,H b=some (.tbl ps)-> ∃ more,H' b=some (.tbl (ps++more)))
  (ns: ∀ m,s.heap.Ns X.env.locals m->h'.Ns X.env.locals m) (hok:HOk X.prog X.w H' h') (hg:AllBare g'):
  Inv X pins σ H' {s with heap:=h',gens:=g',drawn:=d',toks:=t'}:=by
 have neL: ∀ b o,X.s₀.heap.get? b=some o->b≠X.env.locals:=λb o e=>qaR (qaw (qaQ e) I.ok.above)
 have neC: ∀ b o,X.s₀.heap.get? b=some o->b∉X.ex->b∉ch:=λb o e hx hb=>by
  rcases (hch b hb).1 with z | z
  ·exact hx z
  ·exact absurd (qaw (qaQ e) z) (qaN _)
 have cellK: ∀ x c,X.env.cells.lookup x=some c-> ∀ v,s.heap.IsCell c v->h'.IsCell c v:=λx c e v ⟨o,ho,hd⟩=>by
  have nch:c∉ch:=λz=>(hch c z).2.2.1 x c e rfl
  by_cases hc:c∈X.fs
  ·obtain ⟨sl,q⟩:=slot c o (I.cne x c e) hc nch ho (I.freeC x c e)
   exact ⟨_,q,hd⟩
  ·exact ⟨o,keep c o (I.cne x c e) hc nch ho (I.freeC x c e),hd⟩
 refine ⟨I.ok,I.os,hg,⟨λb o e n hb hx=> ?_,λb o e n hb hx=> ?_,λb o e n hx=> ?_,λb o e hx=> ?_,λb xs e=>tups b xs (I.base.tups b xs e),λb o xs e=>frzs b o xs (I.base.frzs b o xs e),λb ps e=> ?_⟩,?_,λx c e=> ?_,?_,λx c e=> ?_,λp hp=> ?_,hok,I.len⟩
 ·exact keep b o (neL b o e) hb (neC b o e hx) (I.base.keep b o e n hb hx) (I.base.free b o e n hx)
 ·obtain ⟨sl,e1⟩:=I.base.slot b o e n hb hx
  obtain ⟨sl',e2⟩:=slot b _ (neL b o e) hb (neC b o e hx) e1 (I.base.free b o e n hx)
  exact ⟨sl',e2⟩
 ·obtain ⟨o',e1⟩:=I.base.there b o e hx
  exact free b o' (neC b o e hx) e1 (I.base.free b o e n hx)
 ·obtain ⟨o',e1⟩:=I.base.there b o e hx
  exact there b o' (neC b o e hx) e1
 ·obtain ⟨m1,e1⟩:=I.base.tbls b ps e
  obtain ⟨m2,e2⟩:=tbls b _ e1
  exact ⟨m1++m2,by rw [e2,Array.append_assoc]⟩
 ·obtain ⟨m,hn,hl⟩:=I.loc
  refine ⟨m,ns m hn,λi x v e1 e2 e3=> ?_⟩
  obtain ⟨u,r,l⟩:=hl i x v e1 e2 e3
  refine ⟨u,r,?_⟩
  rcases l with l | ⟨k,c,e,z⟩
  ·exact .inl l
  ·exact .inr ⟨k,c,e,cellK x c e _ z⟩
 ·obtain ⟨v,z⟩:=I.cell x c e
  exact ⟨v,cellK x c e v z⟩
 ·obtain ⟨m,⟨o,_,_,ho,_⟩,_⟩:=I.loc
  exact free _ o (λz=>(hch _ z).2.1 rfl) ho I.free
 ·obtain ⟨v,o,ho,hd⟩:=I.cell x c e
  exact free c o (λz=>(hch c z).2.2.1 x c e rfl) ho (I.freeC x c e)
 ·obtain ⟨e,n,ne,nf,d⟩:=I.pin p hp
  have nch:p.1∉ch:=λz=>(hch p.1 z).2.2.2 p hp rfl
  exact ⟨keep p.1 p.2 ne nf nch e n,free p.1 p.2 nch e n,ne,nf,d⟩
theorem Inv.un {t':Nat} (I:Inv X pins σ H s) (u:Un X.fs [] H H' s.heap h') (hok:HOk X.prog X.w H' h'):Inv X pins σ H' {s with heap:=h',toks:=t'}:=by
 obtain ⟨m,⟨o,es,ep,ho,r⟩,_⟩:=id I.loc
 obtain ⟨sl,hL⟩:=u.any ho I.free (by simp)
 exact I.step (g':=s.gens) (d':=s.drawn) (ch:=[]) (λ_ z=>nomatch z) (λb o _ hb _ e n=>u.keep b o e n hb (by simp)) (λb o _ hb _ e n=>u.slot b o e n hb (by simp)) (λb o _ e n=>u.free b o e n (by simp)) (λb o _ e=>u.there b o e (by simp)) u.tups u.frzs u.tbls (λm' hm=>by
   obtain ⟨o',es',ep',ho',r'⟩:=hm
   rw [ho] at ho';cases ho'
   exact ⟨_,es',ep',hL,r'⟩) hok I.bare
theorem Inv.call {g':Array GenState} {t':Nat} {d':Drawn} {ch:List Addr} (I:Inv X pins σ H s) (u:Un (frs X.stack) ch H H' s.heap h') (hok:HOk X.prog X.w H' h') (hg:AllBare g')
  (hch: ∀ b∈ch,(b∈X.ex\/X.s₀.heap.objs.size<=b)/\b≠X.env.locals/\(∀ x c,X.env.cells.lookup x=some c->c≠b)/\ ∀ p∈X.pn++pins,p.1≠b):
  Inv X pins σ H' {s with heap:=h',gens:=g',drawn:=d',toks:=t'}:=by
 obtain ⟨m,⟨o,es,ep,ho,r⟩,_⟩:=id I.loc
 obtain ⟨sl,hL⟩:=u.any ho I.free λz=>(hch _ z).2.1 rfl
 exact I.step (ch:=ch) hch (λb o hL hb hc e n=>u.keep b o e n (λz=>(qaP.mp (I.stkSub b z)).elim hL hb) hc) (λb o _ _ hc e n=>u.any e n hc) (λb o hc e n=>u.free b o e n hc) (λb o hc e=>u.there b o e hc) u.tups u.frzs u.tbls (λm' hm=>by
   obtain ⟨o',es',ep',ho',r'⟩:=hm
   rw [ho] at ho';cases ho'
   exact ⟨_,es',ep',hL,r'⟩) hok hg
theorem Inv.turned {t':Nat} {it:Addr} (I:Inv X pins σ H s) (k: ∀ b o,b≠it->s.heap.get? b=some o->h'.get? b=some o) (hn:H it=none) (hL:it≠X.env.locals)
  (h1:it∈X.ex\/X.s₀.heap.objs.size<=it) (h2: ∀ x c,X.env.cells.lookup x=some c->c≠it) (h3: ∀ p∈X.pn++pins,p.1≠it):Inv X pins σ H {s with heap:=h',toks:=t'}:=by
 have nit: ∀ b u,H b=some u->b≠it:=λb u e z=>by rw [z,hn] at e;cases e
 refine I.step (g':=s.gens) (d':=s.drawn) (ch:=[it]) (λb hb=> ?_) (λb o _ _ hc e _=>k b o (λz=>hc (by simp [z])) e) (λb o _ _ hc e _=>⟨o.slots,k b o (λz=>hc (by simp [z])) e⟩) (λ_ _ _ _ n=>n)
  (λb o hc e=>⟨o,k b o (λz=>hc (by simp [z])) e⟩) (λ_ _ e=>e) (λ_ _ _ e=>e) (λb ps e=>⟨#[],by rw [e];simp⟩) (λm hm=> ?_) (λb u e=> ?_) I.bare
 ·have e:b=it:=by simpa using hb
  subst e
  exact ⟨h1,hL,h2,h3⟩
 ·obtain ⟨o,es,ep,ho,r⟩:=hm
  exact ⟨o,es,ep,k _ o (Ne.symm hL) ho,r⟩
 ·refine (I.hok b u e).stay (λc v hc q=>k c v ?_ q) (λ_ q=>q) λ_ _ q=>q
  rcases hc with z | z
  ·rw [z];exact nit b u e
  ·exact nit c _ z
theorem Inv.tok (I:Inv X pins σ H s) (t:Nat):Inv X pins σ H {s with toks:=t}:=I.un (h':=s.heap) (t':=t) Un.refl I.hok
theorem Inv.kept {t':Nat} (I:Inv X pins σ H s) (k: ∀ b u,s.heap.get? b=some u->h'.get? b=some u):Inv X pins σ H {s with heap:=h',toks:=t'}:=I.un (Un.kept k) (I.hok.kept k)
theorem Inv.laid {a:Addr} {o:HO} {t':Nat} (I:Inv X pins σ H s) (k: ∀ b u,s.heap.get? b=some u->h'.get? b=some u) (hp:s.heap.objs.size<=a) (new:zbW X.prog X.w (upd H a o) h' a o):
  Inv X pins σ (upd H a o) {s with heap:=h',toks:=t'}:=I.un (Un.laid k hp (I.hok.fresh hp)) (I.hok.laid k hp new)
theorem Inv.write {x e:Addr} {o:HO} {t':Nat} (I:Inv X pins σ H s) (mu:Mut (H x)) (he:e=x\/H e=some (.own x)) (k: ∀ b u,b≠e->s.heap.get? b=some u->h'.get? b=some u) (heo: ∃ u,h'.get? e=some u)
  (new:zbW X.prog X.w (upd H x o) h' x o):Inv X pins σ (upd H x o) {s with heap:=h',toks:=t'}:=I.un (Un.write mu he k heo) (I.hok.write mu he k heo new)
theorem Inv.pins_of {pins':List (Addr×Obj)} (I:Inv X pins σ H s) (h: ∀ p∈pins',s.heap.get? p.1=some p.2/\H p.1=none/\p.1≠X.env.locals/\p.1∉X.fs/\ ∀ v,p.2.data≠ .cell v):Inv X pins' σ H s:=
 ⟨I.ok,I.os,I.bare,I.base,I.loc,I.cell,I.free,I.freeC,λp hp=>(qaK.mp hp).elim (λz=>I.pin p (mem_append_left _ z)) (h p),I.hok,I.len⟩
theorem ziT {N:List Str} (hN:N.Nodup) {i j:Nat} {x:Str} (a:N[i]? = some x) (b:N[j]? = some x):i=j:=by
 obtain ⟨h1,e1⟩:=qac.mp a
 obtain ⟨h2,e2⟩:=qac.mp b
 exact (List.getElem_inj hN).mp (e1.trans e2.symm)
theorem zkn {M:Model} {A:Around} {E:Value->Shared->Prop} {i:Nat} {x:Str} {v:V} {u:Value} {Q:Unit->Shared->Prop} (I:Inv X pins σ H s) (hN:X.N.Nodup) (hi:X.N[i]? = some x) (hx:Loc X.env.scope x) (r:zcc v u)
  (h: ∀ s',Inv X pins (σ.set i (some v)) H s'->(∃ a,Heap.SameBut a s.heap s'.heap/\(a=X.env.locals\/X.env.cells.lookup x=some a))->Q () s') (hf:X.fn x=true\/X.env.scope.names.lookup x=some .local:=by first | exact .inl rfl | exact .inr rfl | assumption):wpAny M A (storeName X.env x u) Q E s:=by
 obtain ⟨m,hn,hl⟩:=id I.loc
 have hcls:(X.env.scope.kind== .class || (X.env.scope.kind== .module && X.env.locals != X.env.globals))=false:=by rw [I.ok.kind];rfl
 have hiσ:i<σ.length:=by rw [I.len];exact (qac.mp hi).1
 have cne:=I.cne
 have tracked: ∀ {a:Addr} {h':Heap},(∃ o,s.heap.get? a=some o/\H a=none)->Heap.SameBut a s.heap h'->HOk X.prog X.w H h':=λ{a h'} ha hs b ob e=>by
  obtain ⟨_,_,hfree⟩:=ha
  refine (I.hok b ob e).stay (λc w' hc q=>(hs.2 c ?_).trans q) (λ_ q=>q) λ_ _ q=>q
  rintro rfl
  rcases hc with rfl | hc
  ·rw [hfree] at e;cases e
  ·rw [hfree] at hc;cases hc
 rcases hx with hk | hk
 ·refine wpAny_storeName_local hk hn (λh' hn' hs=> ?_) hcls
  obtain ⟨oL,_,_,hoL,_⟩:=id hn
  refine h _ ⟨I.ok,I.os,I.bare,⟨λb o e n hb hx=> ?_,λb o e n hb hx=> ?_,I.base.free,λb o e hx=> ?_,I.base.tups,I.base.frzs,I.base.tbls⟩,⟨_,hn',λj y v' e1 e2 e3=> ?_⟩,λy c e=> ?_,I.free,I.freeC,λp hp=> ?_,tracked ⟨oL,hoL,I.free⟩ hs,by simpa using I.len⟩ ⟨_,hs,.inl rfl⟩
  ·exact (hs.2 b (qaR (qaw (qaQ e) I.ok.above))).trans (I.base.keep b o e n hb hx)
  ·obtain ⟨sl,e1⟩:=I.base.slot b o e n hb hx
   exact ⟨sl,(hs.2 b (qaR (qaw (qaQ e) I.ok.above))).trans e1⟩
  ·obtain ⟨o',e1⟩:=I.base.there b o e hx
   exact ⟨o',(hs.2 b (qaR (qaw (qaQ e) I.ok.above))).trans e1⟩
  ·by_cases hj:j=i
   ·subst hj
    rw [hi] at e1;cases e1
    rw [qai hiσ] at e2
    cases e2
    exact ⟨u,r,.inl ⟨hk,by simp⟩⟩
   ·rw [qao (Ne.symm hj)] at e2
    obtain ⟨u',r',q⟩:=hl j y v' e1 e2 e3
    refine ⟨u',r',?_⟩
    rcases q with ⟨k,e⟩ | ⟨k,c,e,z⟩
    ·refine .inl ⟨k,?_⟩
     have:y≠x:=λe=>hj (ziT hN e1 (e▸hi))
     simp [this,e]
    ·exact .inr ⟨k,c,e,z.sameBut hs (cne y c e)⟩
  ·obtain ⟨w',z⟩:=I.cell y c e
   exact ⟨w',z.sameBut hs (cne y c e)⟩
  ·obtain ⟨e,n,ne,nf,d⟩:=I.pin p hp
   exact ⟨(hs.2 p.1 ne).trans e,n,ne,nf,d⟩
 ·have hfn:X.fn x=true:=by
   rcases hf with z | z
   ·exact z
   ·rw [z] at hk;cases hk
  obtain ⟨c,hc⟩:=I.ok.has x (.inl hk)
  obtain ⟨w',z⟩:=I.cell x c hc
  refine wpAny_storeName_cell I.ok.kind hk hc z (λh' hc' hs=> ?_)
  obtain ⟨oc,hoc,hocd⟩:=id z
  refine h {s with heap:=h'} ⟨I.ok,I.os,I.bare,⟨λb o e n hb hx=> ?_,λb o e n hb hx=> ?_,I.base.free,λb o e hx=> ?_,I.base.tups,I.base.frzs,I.base.tbls⟩,⟨m,hn.sameBut hs (Ne.symm (cne x c hc)),λj y v' e1 e2 e3=> ?_⟩,λy c' e=> ?_,I.free,I.freeC,λp hp=> ?_,tracked ⟨oc,hoc,I.freeC x c hc⟩ hs,by simpa using I.len⟩ ⟨c,hs,.inr hc⟩
  ·exact (hs.2 b (qaR (qaw (qaQ e) (I.ok.cab x c hfn hc)))).trans (I.base.keep b o e n hb hx)
  ·obtain ⟨sl,e1⟩:=I.base.slot b o e n hb hx
   exact ⟨sl,(hs.2 b (qaR (qaw (qaQ e) (I.ok.cab x c hfn hc)))).trans e1⟩
  ·obtain ⟨o',e1⟩:=I.base.there b o e hx
   exact ⟨o',(hs.2 b (qaR (qaw (qaQ e) (I.ok.cab x c hfn hc)))).trans e1⟩
  ·by_cases hj:j=i
   ·subst hj
    rw [hi] at e1;cases e1
    rw [qai hiσ] at e2
    cases e2
    exact ⟨u,r,.inr ⟨.inl hk,c,hc,hc'⟩⟩
   ·rw [qao (Ne.symm hj)] at e2
    obtain ⟨u',r',q⟩:=hl j y v' e1 e2 e3
    refine ⟨u',r',?_⟩
    rcases q with q | ⟨k,c',e,z'⟩
    ·exact .inl q
    ·refine .inr ⟨k,c',e,z'.sameBut hs ?_⟩
     rintro rfl
     exact hj (ziT hN e1 (I.ok.inj _ _ _ e hc▸hi))
  ·by_cases hcc:c'=c
   ·subst hcc;exact ⟨_,hc'⟩
   ·obtain ⟨w2,z2⟩:=I.cell y c' e
    exact ⟨w2,z2.sameBut hs hcc⟩
  ·obtain ⟨e,n,ne,nf,d⟩:=I.pin p hp
   refine ⟨(hs.2 p.1 ?_).trans e,n,ne,nf,d⟩
   intro q
   rw [q,hoc] at e
   have q':oc=p.2:=Option.some.inj e
   exact d w' (by rw [<- q'];exact hocd)
theorem zek {M:Model} {A:Around} {E:Value->Shared->Prop} {i:Nat} {x:Str} {v:V} {u:Value} {Q:Unit->Shared->Prop} (I:Inv X pins σ H s) (hN:X.N.Nodup) (hi:X.N[i]? = some x) (hx:Loc X.env.scope x) (r:zcc v u)
  (h: ∀ s',Inv X pins (σ.set i (some v)) H s'->Q () s') (hf:X.fn x=true\/X.env.scope.names.lookup x=some .local:=by first | exact .inl rfl | exact .inr rfl | assumption):wpAny M A (storeName X.env x u) Q E s:=
 zkn I hN hi hx r (λs' I' _=>h s' I') hf
theorem Inv.call' {s':Shared} {ch:List Addr} (I:Inv X pins σ H s) (ho:s'.os=s.os) (u:Un (frs X.stack) ch H H' s.heap s'.heap) (hok:HOk X.prog X.w H' s'.heap) (hg:AllBare s'.gens)
  (hch: ∀ b∈ch,(b∈X.ex\/X.s₀.heap.objs.size<=b)/\b≠X.env.locals/\(∀ x c,X.env.cells.lookup x=some c->c≠b)/\ ∀ p∈X.pn++pins,p.1≠b):Inv X pins σ H' s':=by
 obtain ⟨h',g',d',t',o'⟩:=s'
 have e:o'=s.os:=ho
 subst e
 exact I.call (g':=g') (t':=t') (d':=d') u hok hg hch
end
abbrev XK:=Value->Option Addr->Hp->Prop
abbrev St:=List (Option V)
abbrev VK:=V->Hp->Prop
abbrev TE:=St->Hp->VK->Prop
abbrev TT:=St->Hp->(Bool->Hp->Prop)->Prop
abbrev TA:=St->Hp->(List V->Hp->Prop)->Prop
structure zqO where
 nx:St->Hp->Prop
 rt:VK
 bk:St->Hp->Prop:=λ_ _=>False
 ct:St->Hp->Prop:=λ_ _=>False
abbrev TS:=zqO->St->Hp->Prop
def EP (X:Cx) (pins:List (Addr×Obj)) (σ:St) (Q:VK) (u:Value) (s':Shared):Prop:= ∃ v H',Inv X pins σ H' s'/\zcc v u/\Q v H'
def TP (X:Cx) (pins:List (Addr×Obj)) (σ:St) (Q:Bool->Hp->Prop) (b:Bool) (s':Shared):Prop:= ∃ H',Inv X pins σ H' s'/\Q b H'
def AP (X:Cx) (pins:List (Addr×Obj)) (σ:St) (Q:List V->Hp->Prop) (us:List Value) (s':Shared):Prop:= ∃ vs H',Inv X pins σ H' s'/\zby vs us/\Q vs H'
def SP (X:Cx) (pins:List (Addr×Obj)) (D:zqO) (f:Flow) (s':Shared):Prop:=
 match f with
 | .next=> ∃ σ' H',Inv X pins σ' H' s'/\D.nx σ' H'
 | .brk=> ∃ σ' H',Inv X pins σ' H' s'/\D.bk σ' H'
 | .cont=> ∃ σ' H',Inv X pins σ' H' s'/\D.ct σ' H'
 | .ret u=> ∃ v σ' H',Inv X pins σ' H' s'/\zcc v u/\D.rt v H'
def PE (X:Cx) (e:Expr) (t:TE):Prop:=
 ∀ (pins:List (Addr×Obj)) (s:Shared) (σ:St) (H:Hp) (Q:VK),Inv X pins σ H s->t σ H Q->wpAny (model X.prog X.w) X.A (eval e X.env) (EP X pins σ Q) X.xe s
def PT (X:Cx) (e:Expr) (t:TT):Prop:=
 ∀ (pins:List (Addr×Obj)) (s:Shared) (σ:St) (H:Hp) (Q:Bool->Hp->Prop),Inv X pins σ H s->t σ H Q->wpAny (model X.prog X.w) X.A (isTrue e X.env (eval e X.env)) (TP X pins σ Q) X.xe s
def PW (X:Cx) (e:Expr) (t:TT):Prop:=
 ∀ (whole:Sem Value) (pins:List (Addr×Obj)) (s:Shared) (σ:St) (H:Hp) (Q:Bool->Hp->Prop),Inv X pins σ H s->t σ H Q->wpAny (model X.prog X.w) X.A (isTrue e X.env whole) (TP X pins σ Q) X.xe s
theorem PW.pt {X:Cx} {e:Expr} {t:TT} (h:PW X e t):PT X e t:=h _
def PA (X:Cx) (es:List Expr) (t:TA):Prop:=
 ∀ (pos:Pos) (pins:List (Addr×Obj)) (s:Shared) (σ:St) (H:Hp) (Q:List V->Hp->Prop),Inv X pins σ H s->t σ H Q->wpAny (model X.prog X.w) X.A (spliced (backTo pos (starEach es X.env))) (AP X pins σ Q) X.xe s
def PS (X:Cx) (st:Stmt) (t:TS):Prop:=
 ∀ (pins:List (Addr×Obj)) (s:Shared) (σ:St) (H:Hp) (D:zqO),Inv X pins σ H s->t D σ H->wpAny (model X.prog X.w) X.A (exec st X.env) (SP X pins D) X.xe s
def PSs (X:Cx) (st:List Stmt) (t:TS):Prop:=
 ∀ (pins:List (Addr×Obj)) (s:Shared) (σ:St) (H:Hp) (D:zqO),Inv X pins σ H s->t D σ H->wpAny (model X.prog X.w) X.A (execs st X.env) (SP X pins D) X.xe s
theorem thn {α:Type} {t:Sem α} {Q Q':α->Shared->Prop} {M:Model} {A:Around} {E:Value->Shared->Prop} {s:Shared} (h:wpAny M A t Q E s) (hQ: ∀ a s,Q a s->Q' a s):wpAny M A t Q' E s:=qaZ h hQ λ_ _ x=>x
section
variable {X:Cx}
def zvr (i:Nat):TE:=λσ H Q=> ∃ v,σ[i]? = some (some v)/\Q v H
def tC (v:V):TE:=λ_ H Q=>Q v H
theorem zov {i:Nat} {x:Str} {pos:Pos} (hN:X.N[i]? = some x) (hv:Vis X.env.scope x) (hd:(x==("__debug__":Str))=false:=by decide) (hcd:(x==("__classdict__":Str))=false:=by decide):PE X (.Name x pos) (zvr i):=by
 intro pins s σ H Q I h
 obtain ⟨v,e,h⟩:=h
 obtain ⟨m,hn,hl⟩:=I.loc
 obtain ⟨u,r,l⟩:=hl i x v hN e hv
 have fin:EP X pins σ Q u s:=⟨v,H,I,r,h⟩
 rcases l with ⟨hk,hm⟩ | ⟨hk,c,hc,hcell⟩
 ·exact wpAny_Name (wpAny_loadName_local I.ok.kind hk hn hm fin) hd
 ·rcases hk with hk | hk
  ·exact wpAny_Name (wpAny_loadName_cell I.ok.kind hk hc hcell fin) hd
  ·exact wpAny_Name (wpAny_loadName_free I.ok.kind hk hc hcell fin hcd) hd
theorem zrS {i j pos}:PE X (.Constant (.int i) j pos) (tC (.int i)):=λ_ _ _ H _ I h=>wpAny_Constant_int ⟨.int i,H,I.tok _,⟨_,rfl⟩,h⟩
theorem ztX {b j pos}:PE X (.Constant (.bool b) j pos) (tC (.bl b)):=λ_ _ _ H _ I h=>Constant_bool ⟨.bl b,H,I,rfl,h⟩
theorem zs9 {j pos}:PE X (.Constant .none j pos) (tC .non):=λ_ _ _ H _ I h=>Constant_none ⟨.non,H,I,rfl,h⟩
def Gl (X:Cx) (x:Str):Prop:=X.env.kindOf x=some .globalImplicit
theorem zpz {E:Value->Shared->Prop} {pins:List (Addr×Obj)} {s:Shared} {σ:St} {H:Hp} {x:Str} {u:Value} {pos:Pos} {Q:Value->Shared->Prop} (I:Inv X pins σ H s) (hg:Gl X x) (hm:X.mg x=some u) (h:Q u s)
  (hd:(x==("__debug__":Str))=false:=by decide):wpAny (model X.prog X.w) X.A (eval (.Name x pos) X.env) Q E s:=
 Calls.Name_function_global I.ok.kind hg (Calls.loadGlobal_global (by rw [I.ok.glob];exact I.mod.glob.keeps I.bk) hm h) hd
theorem zeN {E:Value->Shared->Prop} {pins:List (Addr×Obj)} {s:Shared} {σ:St} {H:Hp} {x:Str} {u:Value} {pos:Pos} {Q:Value->Shared->Prop} (I:Inv X pins σ H s) (hg:Gl X x) (hm:X.mg x=none) (hv:bootBuiltins x=some u) (h:Q u s)
  (hn:x≠"__name__":=by decide) (hd:(x==("__debug__":Str))=false:=by decide):wpAny (model X.prog X.w) X.A (eval (.Name x pos) X.env) Q E s:=by
 obtain ⟨mb,h1,h2⟩:=I.mod.blt
 exact Calls.Name_function_global I.ok.kind hg (Calls.loadGlobal_builtin (by rw [I.ok.glob];exact I.mod.glob.keeps I.bk) hm (by rw [I.ok.blt];exact h1.keeps I.bk) ((h2 x hn).trans hv) h) hd
theorem zqd {x:Str} {v:V} {u:Value} {pos:Pos} (hg:Gl X x) (hm:X.mg x=none) (hv:bootBuiltins x=some u) (r:zcc v u) (hn:x≠"__name__":=by decide) (hd:(x==("__debug__":Str))=false:=by decide):PE X (.Name x pos) (tC v):=
 λ_ _ _ H _ I h=>zeN I hg hm hv ⟨v,H,I,r,h⟩ hn hd
def t2I (ta tb:TE) (k:Int->Int->Hp->Prop):St->Hp->Prop:=λσ H=>ta σ H λx H1=>tb σ H1 λy H2=> ∃ i j,x= .int i/\y= .int j/\k i j H2
variable {a b:Expr} {ta tb:TE} {pos:Pos}
def zdn (p:Int->Int->Bool) (ta tb:TE):TE:=λσ H Q=>t2I ta tb (λi j H2=>Q (.bl (p i j)) H2) σ H
def tB (t:TE):TT:=λσ H Q=>t σ H λx H1=> ∃ c,x= .bl c/\Q c H1
theorem zrq {e:Expr} {t:TE} (h:PE X e t) (he: ∀ whole,isTrue e X.env whole=(do let v<-whole;standAt e.pos;holding [v] (truthy v)):=by intro _;rfl):PT X e (tB t):=by
 intro pins s σ H Q I hw
 refine isTrue_plain (thn (h pins s σ H _ I hw) λv s1 ⟨x,H1,I1,r1,q1⟩=> ?_) (he _)
 obtain ⟨d,rfl,q⟩:=q1
 cases r1
 exact wpAny_truthy_bool ⟨H1,I1,q⟩
variable {tA tB':TT} {zbz:List Expr}
def zqg (t u:TT):TT:=λσ H Q=>t σ H λc H1=>if c=true then u σ H1 Q else Q false H1
def tOr (t u:TT):TT:=λσ H Q=>t σ H λc H1=>if c=true then Q true H1 else u σ H1 Q
def zge (t:TT):TT:=λσ H Q=>t σ H λc H1=>Q (!c) H1
theorem pw_and1 (ha:PT X a tA):PW X (.BoolOp .And [a] pos) tA:=by
 intro wh pins s σ H Q I h
 refine isTrue_and (thn (ha pins s σ H Q I h) λc s1 e=> ?_)
 cases c with
 | true=>exact isTrue_and_nil e
 | false=>exact e
theorem pw_or1 (ha:PT X a tA):PW X (.BoolOp .Or [a] pos) tA:=by
 intro wh pins s σ H Q I h
 refine isTrue_or (thn (ha pins s σ H Q I h) λc s1 e=> ?_)
 cases c with
 | false=>exact isTrue_or_nil e
 | true=>exact e
theorem pw_and (ha:PT X a tA) (hb:PW X (.BoolOp .And (b::zbz) pos) tB'):PW X (.BoolOp .And (a::b::zbz) pos) (zqg tA tB'):=by
 intro wh pins s σ H Q I h
 refine isTrue_and (thn (ha pins s σ H _ I h) λc s1 ⟨H1,I1,q1⟩=> ?_)
 cases c with
 | true=>exact hb wh pins s1 σ H1 Q I1 q1
 | false=>exact ⟨H1,I1,q1⟩
theorem pw_or (ha:PT X a tA) (hb:PW X (.BoolOp .Or (b::zbz) pos) tB'):PW X (.BoolOp .Or (a::b::zbz) pos) (tOr tA tB'):=by
 intro wh pins s σ H Q I h
 refine isTrue_or (thn (ha pins s σ H _ I h) λc s1 ⟨H1,I1,q1⟩=> ?_)
 cases c with
 | true=>exact ⟨H1,I1,q1⟩
 | false=>exact hb wh pins s1 σ H1 Q I1 q1
theorem zrg (ha:PT X a tA):PT X (.UnaryOp .Not a pos) (zge tA):=by
 intro pins s σ H Q I h
 exact isTrue_not (ha pins s σ H (λc H1=>Q (!c) H1) I h)
def zuQ (ta tb:TE):TE:=λσ H Q=>ta σ H λx H1=> ∃ c,x= .bl c/\if c=true then tb σ H1 Q else Q (.bl false) H1
def zv5 (ta tb:TE):TE:=λσ H Q=>ta σ H λx H1=> ∃ c,x= .bl c/\if c=true then Q (.bl true) H1 else tb σ H1 Q
def zuz (ta:TE):TE:=λσ H Q=>ta σ H λx H1=> ∃ c,x= .bl c/\Q (.bl (!c)) H1
theorem zsP {op} {t:TE} (h:PE X a t):PE X (.BoolOp op [a] pos) t:=λpins s σ H Q I hw=>BoolOp_one (h pins s σ H Q I hw)
theorem zsx (ha:PE X a ta) (hb:PE X (.BoolOp .And (b::zbz) pos) tb):PE X (.BoolOp .And (a::b::zbz) pos) (zuQ ta tb):=by
 intro pins s σ H Q I h
 refine BoolOp_and (thn (ha pins s σ H _ I h) λv s1 ⟨x,H1,I1,r1,q1⟩=> ?_)
 obtain ⟨c,rfl,q1⟩:=q1
 cases r1
 refine wpAny_truthy_bool ?_
 cases c with
 | true=>exact hb pins s1 σ H1 Q I1 q1
 | false=>exact ⟨.bl false,H1,I1,rfl,q1⟩
theorem zub (ha:PE X a ta) (hb:PE X (.BoolOp .Or (b::zbz) pos) tb):PE X (.BoolOp .Or (a::b::zbz) pos) (zv5 ta tb):=by
 intro pins s σ H Q I h
 refine BoolOp_or (thn (ha pins s σ H _ I h) λv s1 ⟨x,H1,I1,r1,q1⟩=> ?_)
 obtain ⟨c,rfl,q1⟩:=q1
 cases r1
 refine wpAny_truthy_bool ?_
 cases c with
 | false=>exact hb pins s1 σ H1 Q I1 q1
 | true=>exact ⟨.bl true,H1,I1,rfl,q1⟩
theorem zrc (ha:PE X a ta):PE X (.UnaryOp .Not a pos) (zuz ta):=by
 intro pins s σ H Q I h
 refine UnaryOp_ (thn (ha pins s σ H _ I h) λv s1 ⟨x,H1,I1,r1,q1⟩=> ?_)
 obtain ⟨c,rfl,q1⟩:=q1
 cases r1
 exact not_of (wpAny_truthy_bool ⟨.bl (!c),H1,I1,rfl,q1⟩)
def tIf (t:TT) (ta tb:TE):TE:=λσ H Q=>t σ H λc H1=>if c=true then ta σ H1 Q else tb σ H1 Q
theorem znh {c:Expr} (hc:PT X c tA) (ha:PE X a ta) (hb:PE X b tb):PE X (.IfExp c a b pos) (tIf tA ta tb):=by
 intro pins s σ H Q I h
 refine wpAny_IfExp (thn (hc pins s σ H _ I h) λd s1 ⟨H1,I1,q1⟩=> ?_)
 cases d with
 | true=>exact ha pins s1 σ H1 Q I1 q1
 | false=>exact hb pins s1 σ H1 Q I1 q1
end
def SqL (K:W.Frag) (H:Hp) (a:Addr) (xs:List V):Prop:=
 Rd H a (.lst xs)\/
  ∃ (o:Obj) (its:Array Value) (n:Nat),K.lookup a=some o/\o.cls= .type "list"/\o.dict=none/\o.data= .seq its n/\its.size<=sizeLine/\zby xs its.toList
def SqT (K:W.Frag) (H:Hp) (a:Addr) (xs:List V):Prop:=
 Rd H a (.tup xs)\/
  ∃ (o:Obj) (its:Array Value) (n:Nat),K.lookup a=some o/\o.cls= .type "tuple"/\o.dict=none/\o.data= .seq its n/\its.size<=sizeLine/\zby xs its.toList
def zv4:Value->Option V
 | .none=>some .non
 | .bool b=>some (.bl b)
 | .int i _=>some (.int i)
 | .str x _=>some (.str x)
 | .bytes b _=>some (.byt b)
 | .float b _=>some (.flt b)
 | .ref a=>some (.ref a)
 | .type n=>some (.ty n)
 | _=>none
theorem zcc.abs {x:V} {u:Value} (r:zcc x u):zv4 u=some x:=by
 cases x with
 | non=>cases r;rfl
 | bl _=>cases r;rfl
 | int _=>obtain ⟨t,rfl⟩:=r;rfl
 | str _=>obtain ⟨t,rfl⟩:=r;rfl
 | byt _=>obtain ⟨t,rfl⟩:=r;rfl
 | flt _=>obtain ⟨t,rfl⟩:=r;rfl
 | ref _=>cases r;rfl
 | ty _=>cases r;rfl
theorem zcc.inj {x y:V} {u:Value} (r:zcc x u) (q:zcc y u):x=y:=Option.some.inj (r.abs.symm.trans q.abs)
theorem zby.inj: ∀ {xs ys:List V} {us:List Value},zby xs us->zby ys us->xs=ys
 | _,_,_,.nil,.nil=>rfl
 | _,_,_,.cons r t,.cons r' t'=>by rw [r.inj r',zby.inj t t']
section
variable {X:Cx} {pins:List (Addr×Obj)} {σ:St} {H:Hp} {s:Shared} {a:Addr} {xs ys:List V}
theorem SqL.of {K:W.Frag} (h:H a=some (.lst xs)):SqL K H a xs:= .inl (.inl h)
theorem Inv.list (I:Inv X pins σ H s) (h:SqL X.K H a xs): ∃ its:List Value,zby xs its/\PlainL s.heap a its.toArray/\xs.length<=sizeLine:=by
 rcases h with h | ⟨o,its,n,hk,hc,hd,hs,hz,r⟩
 ·obtain ⟨z,its,n,r,e⟩:=h.ok I.hok
  exact ⟨its,r,⟨_,n,e,rfl,rfl,rfl⟩,z⟩
 ·refine ⟨its.toList,r,⟨o,n,I.kIn a o hk,hc,hd,by simpa using hs⟩,?_⟩
  have e:=r.length
  simp only [qas] at e
  omega
theorem Inv.tupleD (I:Inv X pins σ H s) (h:SqT X.K H a xs): ∃ its:List Value,zby xs its/\zjV s.heap a its.toArray/\xs.length<=sizeLine:=by
 rcases h with h | ⟨o,its,n,hk,hc,hd,hs,hz,r⟩
 ·obtain ⟨z,its,r,p⟩:=h.ok I.hok
  exact ⟨its,r,p,z⟩
 ·refine ⟨its.toList,r,⟨o,I.kIn a o hk,hc,n,by simpa using hs,hd⟩,?_⟩
  have e:=r.length
  simp only [qas] at e
  omega
theorem Inv.tuple (I:Inv X pins σ H s) (h:SqT X.K H a xs): ∃ its:List Value,zby xs its/\IsTup s.heap a its.toArray/\xs.length<=sizeLine:=by
 obtain ⟨its,r,p,z⟩:=I.tupleD h
 exact ⟨its,r,p.is,z⟩
theorem Inv.list_inj (I:Inv X pins σ H s) (h:SqL X.K H a xs) (h':SqL X.K H a ys):xs=ys:=by
 obtain ⟨its,r,⟨o,n,e,_,_,d⟩,_⟩:=I.list h
 obtain ⟨its',r',⟨o',n',e',_,_,d'⟩,_⟩:=I.list h'
 rw [e] at e';cases e'
 rw [d] at d'
 injection d' with d1 _
 have:its=its':=by simpa using congrArg Array.toList d1
 subst this
 exact r.inj r'
theorem Inv.tuple_inj (I:Inv X pins σ H s) (h:SqT X.K H a xs) (h':SqT X.K H a ys):xs=ys:=by
 obtain ⟨its,r,⟨o,e,_,n,d⟩,_⟩:=I.tuple h
 obtain ⟨its',r',⟨o',e',_,n',d'⟩,_⟩:=I.tuple h'
 rw [e] at e';cases e'
 rw [d] at d'
 injection d' with d1 _
 have:its=its':=by simpa using congrArg Array.toList d1
 subst this
 exact r.inj r'
end
abbrev Cx.wish (X:Cx) (E:Value->Shared->Prop):Cx:={X with xe:=E}
abbrev Cx.nox (X:Cx):Cx:=X.wish λ_ _=>False
theorem Cx.Ok.wish {X:Cx} (ok:X.Ok) (E:Value->Shared->Prop):(X.wish E).Ok:=
 ⟨ok.mod,ok.kind,ok.glob,ok.blt,ok.above,ok.inj,ok.has,ok.cab,ok.hd,ok.hx,ok.frames,ok.stk,ok.exf,ok.bs,ok.bsz,ok.noex,ok.exfs,ok.funs,ok.frf⟩
theorem Cx.Ok.unwish {X:Cx} {E:Value->Shared->Prop} (ok:(X.wish E).Ok):X.Ok:=
 ⟨ok.mod,ok.kind,ok.glob,ok.blt,ok.above,ok.inj,ok.has,ok.cab,ok.hd,ok.hx,ok.frames,ok.stk,ok.exf,ok.bs,ok.bsz,ok.noex,ok.exfs,ok.funs,ok.frf⟩
section
variable {X:Cx} {pins:List (Addr×Obj)} {σ:St} {H:Hp} {s:Shared} {E:Value->Shared->Prop}
theorem Inv.wish (I:Inv X pins σ H s) (E:Value->Shared->Prop):Inv (X.wish E) pins σ H s:=⟨I.ok.wish E,I.os,I.bare,I.base,I.loc,I.cell,I.free,I.freeC,I.pin,I.hok,I.len⟩
theorem Inv.unwish (I:Inv (X.wish E) pins σ H s):Inv X pins σ H s:=⟨I.ok.unwish,I.os,I.bare,I.base,I.loc,I.cell,I.free,I.freeC,I.pin,I.hok,I.len⟩
theorem SP.unwish {D:zqO} {f:Flow} {s':Shared} (h:SP (X.wish E) pins D f s'):SP X pins D f s':=by
 cases f with
 | next=>obtain ⟨σ',H',I,q⟩:=h;exact ⟨σ',H',I.unwish,q⟩
 | brk=>obtain ⟨σ',H',I,q⟩:=h;exact ⟨σ',H',I.unwish,q⟩
 | cont=>obtain ⟨σ',H',I,q⟩:=h;exact ⟨σ',H',I.unwish,q⟩
 | ret u=>obtain ⟨v,σ',H',I,r,q⟩:=h;exact ⟨v,σ',H',I.unwish,r,q⟩
theorem PSs.nox {st:List Stmt} {t:TS} (h:PSs X.nox st t):PSs X st t:=λpins s σ H D I hw=>
 qaZ (h pins s σ H D (I.wish _) hw) (λ_ _ q=>q.unwish) λ_ _ z=>qa0 z
end
section
variable {X:Cx} {st:Stmt} {zbz:List Stmt} {t u:TS} {e:Expr} {te:TE} {pos:Pos}
def zu1:TS:=λD σ H=>D.nx σ H
def zvG (t u:TS):TS:=λD σ H=>t {D with nx:=u D} σ H
theorem zpD:PSs X [] zu1:=λ_ _ σ H _ I h=>wpAny_execs_nil ⟨σ,H,I,h⟩
theorem zmr (h1:PS X st t) (h2:PSs X zbz u):PSs X (st::zbz) (zvG t u):=by
 intro pins s σ H D I h
 refine wpAny_execs_cons (thn (h1 pins s σ H {D with nx:=u D} I h) λf s1 q=> ?_)
 cases f with
 | next=>
  obtain ⟨σ',H',I',q⟩:=q
  exact h2 pins s1 σ' H' D I' q
 | ret v=>exact q
 | brk=>exact q
 | cont=>exact q
theorem zqb (h1:PS X st t):PSs X [st] t:=by
 intro pins s σ H D I h
 refine wpAny_execs_cons (thn (h1 pins s σ H D I h) λf s1 q=> ?_)
 cases f with
 | next=>exact wpAny_execs_nil q
 | ret v=>exact q
 | brk=>exact q
 | cont=>exact q
theorem Inv.quiet {pins:List (Addr×Obj)} {σ:St} {H:Hp} {s:Shared} (I:Inv X pins σ H s):interactive X.env=false:=by simp [interactive,I.ok.kind]
def ztR (te:TE):TS:=λD σ H=>te σ H λ_ H1=>D.nx σ H1
theorem zp7 (he:PE X e te) (hs:swapsWith e none pos.line X.env=pure false:=by rfl):PS X (.Expr e pos) (ztR te):=by
 intro pins s σ H D I h
 exact wpAny_Expr_any (thn (he pins s σ H _ I h) λv s1 ⟨x,H1,I1,r1,q1⟩=>⟨σ,H1,I1,q1⟩) I.quiet hs
def zv8 (te:TE):TS:=λD σ H=>te σ H D.rt
theorem zsL (he:PE X e te):PS X (.Return (some e) pos) (zv8 te):=by
 intro pins s σ H D I h
 exact wpAny_Return_some (thn (he pins s σ H _ I h) λv s1 ⟨x,H1,I1,r1,q1⟩=>⟨x,σ,H1,I1,r1,q1⟩)
def zwe (c:TT) (t u:TS):TS:=λD σ H=>c σ H λb H1=>if b=true then t D σ H1 else u D σ H1
theorem ztS {c:Expr} {a b:List Stmt} {tc:TT} (hc:PT X c tc) (ha:PSs X a t) (hb:PSs X b u):PS X (.If c a b pos) (zwe tc t u):=by
 intro pins s σ H D I h
 refine wpAny_If (thn (hc pins s σ H _ I h) λd s1 ⟨H1,I1,q1⟩=> ?_)
 cases d with
 | true=>exact ha pins s1 σ H1 D I1 q1
 | false=>exact hb pins s1 σ H1 D I1 q1
end
abbrev TG:=V->St->Hp->(St->Hp->Prop)->Prop
abbrev TGs:=List V->St->Hp->(St->Hp->Prop)->Prop
def PG (X:Cx) (target:Expr) (t:TG):Prop:=
 ∀ (pins:List (Addr×Obj)) (s:Shared) (σ:St) (H:Hp) (v:V) (u:Value) (Q:St->Hp->Prop),Inv X pins σ H s->zcc v u->t v σ H Q->
  wpAny (model X.prog X.w) X.A (assign target X.env u) (λ_ s'=> ∃ σ' H',Inv X pins σ' H' s'/\Q σ' H') X.xe s
def PGs (X:Cx) (ts:List Expr) (t:TGs):Prop:=
 ∀ (pins:List (Addr×Obj)) (s:Shared) (σ:St) (H:Hp) (vs:List V) (us:List Value) (Q:St->Hp->Prop),Inv X pins σ H s->zby vs us->t vs σ H Q->
  wpAny (model X.prog X.w) X.A (assignInOrder ((assignEach ts X.env).map (·.2)) us) (λ_ s'=> ∃ σ' H',Inv X pins σ' H' s'/\Q σ' H') X.xe s
abbrev ztJ:=V->V->V->Hp->(Hp->Prop)->Prop
def zvd (X:Cx) (t:ztJ):Prop:=
 ∀ (pins:List (Addr×Obj)) (s:Shared) (σ:St) (H:Hp) (o i v:V) (ov iv u:Value) (Q:Hp->Prop),Inv X pins σ H s->zcc o ov->zcc i iv->zcc v u->t o i v H Q->
  wpAny (model X.prog X.w) X.A (setItem ov iv u) (λ_ s'=> ∃ H',Inv X pins σ H' s'/\Q H') X.xe s
section
variable {X:Cx} {pos:Pos}
def zoT (i:Nat):TG:=λv σ H Q=>Q (σ.set i (some v)) H
theorem zo4 {i:Nat} {x:Str} (hN:X.N.Nodup) (hi:X.N[i]? = some x) (hx:Loc X.env.scope x) (hf:X.fn x=true\/X.env.scope.names.lookup x=some .local:=by first | exact .inl rfl | exact .inr rfl | assumption):PG X (.Name x pos) (zoT i):=by
 intro pins s σ H v u Q I r h
 exact wpAny_assign_Name (zek I hN hi hx r (λs' I'=>⟨_,H,I',h⟩) hf)
def zwb:TGs:=λvs σ H Q=>vs=[]/\Q σ H
def zud (t:TG) (u:TGs):TGs:=λvs σ H Q=> ∃ v r,vs=v::r/\t v σ H λσ' H'=>u r σ' H' Q
theorem zpf:PGs X [] zwb:=by
 intro pins s σ H vs us Q I r h
 obtain ⟨e,h⟩:=h
 subst e
 cases r
 exact assignInOrder_nil ⟨σ,H,I,h⟩
theorem znt {e:Expr} {es:List Expr} {t:TG} {u:TGs} (h1:PG X e t) (h2:PGs X es u)
  (hs:(assignEach (e::es) X.env).map (·.2)=assign e X.env::(assignEach es X.env).map (·.2):=by rfl):PGs X (e::es) (zud t u):=by
 intro pins s σ H vs us Q I r h
 obtain ⟨v,vr,e1,h⟩:=h
 subst e1
 cases r with
 | cons r rr=>
  rw [hs]
  refine assignInOrder_cons (thn (h1 pins s σ H _ _ _ I r h) λ_ s1 ⟨σ1,H1,I1,q1⟩=> ?_)
  exact h2 pins s1 σ1 H1 _ _ Q I1 rr q1
def zvY (K:W.Frag) (n:Nat) (t:TGs):TG:=λv σ H Q=> ∃ a xs,v= .ref a/\SqT K H a xs/\xs.length=n/\t xs σ H Q
theorem zrM {es:List Expr} {k:Nat} {t:TGs} {n:Nat} (hc:X.calm=true) (h:PGs X es t)
  (hn:(assignEach es X.env).length=n:=by rfl) (hst:(assignEach es X.env).findIdx? (·.1)=none:=by rfl):PG X (.Tuple es k pos) (zvY X.K n t):=by
 intro pins s σ H v u Q I r hw
 obtain ⟨a,xs,e1,hq,hl,hw⟩:=hw
 subst e1
 cases r
 obtain ⟨its,rv,ht,hz⟩:=I.tuple hq
 refine assign_Tuple_tuple (I.ok.hd hc) ht (by simp [hn, <-hl,rv.length]) hst λh' hx=> ?_
 have I1:Inv X pins σ H {s with heap:=h'}:=I.kept (t':=s.toks) λb o e=>hx b o (qaR (qaQ e)) e
 exact h pins _ σ H xs _ Q I1 (by simpa using rv) hw
def zvp (to ti:TE) (t:ztJ):TG:=λv σ H Q=>to σ H λo H1=>ti σ H1 λi H2=>t o i v H2 λH3=>Q σ H3
theorem zr3 {o i:Expr} {to ti:TE} {t:ztJ} (ho:PE X o to) (hi:PE X i ti) (hs:zvd X t)
  (ha: ∀ v,assign (.Subscript o i pos) X.env v=(do
    let ov<-holding [v] (eval o X.env)
    let iv<-holding [v,ov] (eval i X.env)
    standAt pos
    holding [v,ov,iv] (setItem ov iv v)
    release [v,ov,iv] []):=by intro _;rfl):PG X (.Subscript o i pos) (zvp to ti t):=by
 intro pins s σ H v u Q I r h
 rw [ha]
 refine qaW (qaO (thn (ho pins s σ H _ I h) λov s1 ⟨x,H1,I1,r1,q1⟩=> ?_))
 refine qaW (qaO (thn (hi pins s1 σ H1 _ I1 q1) λiv s2 ⟨y,H2,I2,r2,q2⟩=> ?_))
 refine qaW (wpAny_standAt (qaW (qaO (thn (hs pins s2 σ H2 x y v ov iv u _ I2 r1 r2 r q2) λ_ s3 ⟨H3,I3,q3⟩=> ?_))))
 exact wpAny_release ⟨σ,H3,I3,q3⟩
def zuZ (te:TE) (g:TG):TS:=λD σ H=>te σ H λx H1=>g x σ H1 D.nx
theorem zs6 {tg e:Expr} {te:TE} {g:TG} (he:PE X e te) (hg:PG X tg g) (hs:swapsWithSole [tg] e pos.line X.env=pure false:=by rfl) (hw:swappedStores [tg] e X.env=pure none:=by rfl)
  (h1:(assignEach [tg] X.env).map (·.2)=[assign tg X.env]:=by rfl):PS X (.Assign [tg] e pos) (zuZ te g):=by
 intro pins s σ H D I h
 refine wpAny_Assign_stores (thn (he pins s σ H _ I h) λv s1 ⟨x,H1,I1,r1,q1⟩=> ?_) hs hw
 rw [h1]
 exact thn (hg pins s1 σ H1 x v _ I1 r1 q1) λ_ s2 q=>q
theorem zr6 {i:Nat} {x:Str} {e:Expr} {te:TE} {pos':Pos} (hN:X.N.Nodup) (hi:X.N[i]? = some x) (hx:Loc X.env.scope x) (he:PE X e te) (hs:swapsWith e (some (.Name x pos')) pos.line X.env=pure false:=by rfl) (hf:X.fn x=true\/X.env.scope.names.lookup x=some .local:=by first | exact .inl rfl | exact .inr rfl | assumption):
  PS X (.Assign [.Name x pos'] e pos) (zuZ te (zoT i)):=by
 intro pins s σ H D I h
 refine wpAny_Assign_Name (thn (he pins s σ H _ I h) λv s1 ⟨y,H1,I1,r1,q1⟩=> ?_) hs
 exact zek I1 hN hi hx r1 (λs2 I2=>⟨_,H1,I2,q1⟩) hf
def zvy (i j:Nat) (ta:TA):TS:=λD σ H=>ta σ H λvs H1=> ∃ v w,vs=[v,w]/\D.nx ((σ.set i (some v)).set j (some w)) H1
theorem zsC {i j:Nat} {x y:Str} {a b:Expr} {ta:TA} {px py pt:Pos} {kt k2 pt2} (hc:X.calm=true) (hN:X.N.Nodup) (hi:X.N[i]? = some x) (hj:X.N[j]? = some y) (hij:i≠j)
  (hx:X.env.scope.names.lookup x=some .local) (hy:X.env.scope.names.lookup y=some .local) (ha:PA X [a,b] ta)
  (hw:swappedStores [.Tuple [.Name x px,.Name y py] kt pt] (.Tuple [a,b] k2 pt2) X.env=pure (some [x,y]))
  (hs:swapsWithSole [.Tuple [.Name x px,.Name y py] kt pt] (.Tuple [a,b] k2 pt2) pos.line X.env=pure false:=by rfl):
  PS X (.Assign [.Tuple [.Name x px,.Name y py] kt pt] (.Tuple [a,b] k2 pt2) pos) (zvy i j ta):=by
 intro pins s σ H D I h
 rw [exec_Assign_arm]
 refine qaW (wpAny_standAt ?_)
 rw [hs]
 refine qaW (qaX ?_)
 rw [qa5 (by decide)]
 refine qaW (Tuple_ (thn (ha _ pins s σ H _ I h) λus s1 ⟨vs,H1,I1,r1,q1⟩=> ?_))
 obtain ⟨v,w,e1,q1⟩:=q1
 subst e1
 obtain ⟨u1,u2,rfl,rv,rw'⟩: ∃ u1 u2,us=[u1,u2]/\zcc v u1/\zcc w u2:=by
  cases r1 with
  | cons p q=>
   cases q with
   | cons p' q'=>
    cases q'
    exact ⟨_,_,rfl,p,p'⟩
 refine qaC ?_ (by show 2<=sizeLine;decide)
 have I2:Inv X pins σ H1 {s1 with heap:=s1.heap.push {cls:= .type "tuple",data:= .seq [u1,u2].toArray}}:=I1.kept (t':=s1.toks) λb o e=>qag _ e
 rw [hw]
 refine qaW (qaX ?_)
 show wpAny (model X.prog X.w) X.A (do rule "assign.swapped-stores";let items<-unpackItems (.ref s1.heap.objs.size) 2 none;assignInOrder [λv=>bindName X.env y v,λv=>bindName X.env x v] items.reverse;pure Flow.next) _ _ _
 refine qaW (wpAny_rule (qaW (unpackItems_tuple (items:= #[u1,u2]) (I.ok.hd hc) (IsTup.new s1.heap _) λh' hx'=> ?_)))
 have I3:=I2.kept (h':=h') (t':=s1.toks) λb o e=>hx' b o (qaR (qaQ e)) e
 show wpAny _ _ (assignInOrder [λv=>bindName X.env y v,λv=>bindName X.env x v] [u2,u1]>>=λ_=>pure Flow.next) _ _ _
 refine qaW (assignInOrder_cons (wpAny_bindName (zek I3 hN hj (.inl hy) rw' (λs2 I4=> ?_) (.inr hy))))
 refine assignInOrder_cons (wpAny_bindName (zek I4 hN hi (.inl hx) rv (λs3 I5=>assignInOrder_nil (qaX ?_)) (.inr hx)))
 rw [List.set_comm _ _ (Ne.symm hij)] at I5
 exact ⟨_,H1,I5,q1⟩
end
section
variable {X:Cx} {pos:Pos}
def ztb (c:TT) (tb:TS):TS:=λD σ H=> ∃ W:Nat->St->Hp->Prop,(∃ m,W m σ H)/\ ∀ m σ H,W m σ H->
 c σ H λb H1=>if b=true then ∃ N:St->Hp->Prop,(∀ σ' H',N σ' H'-> ∃ m',m'<m/\W m' σ' H')/\tb {D with nx:=N,ct:=N,bk:=D.nx} σ H1 else D.nx σ H1
theorem znu {c:Expr} {body:List Stmt} {tc:TT} {tb:TS} (hp:PassesOwn (model X.prog X.w) X.A X.env X.xe) (hc:PT X c tc) (hb:PSs X body tb):PS X (.While c body [] pos) (ztb tc tb):=by
 intro pins s σ H D I h
 obtain ⟨W,⟨m0,w0⟩,turn⟩:=h
 refine wpAny_While (codeAny_whileLoop (λn s'=> ∃ σ' H',Inv X pins σ' H' s'/\W n σ' H') ?_ m0 ⟨σ,H,I,w0⟩)
 rintro n s1 ⟨σ1,H1,I1,w1⟩
 refine wpAny_passesOwn hp (thn (hc pins s1 σ1 H1 _ I1 (turn n σ1 H1 w1)) λb s2 ⟨H2,I2,q2⟩=> ?_)
 cases b with
 | true=>
  obtain ⟨N,hN,q2⟩:=q2
  rw [qa4 rfl]
  refine wpAny_passesOwn hp (thn (hb pins s2 σ1 H2 _ I2 q2) λf s3 q3=> ?_)
  cases f with
  | next=>
   obtain ⟨σ3,H3,I3,n3⟩:=q3
   obtain ⟨m',hm,w3⟩:=hN σ3 H3 n3
   exact ⟨m',hm,σ3,H3,I3,w3⟩
  | cont=>
   obtain ⟨σ3,H3,I3,n3⟩:=q3
   obtain ⟨m',hm,w3⟩:=hN σ3 H3 n3
   exact ⟨m',hm,σ3,H3,I3,w3⟩
  | brk=>exact q3
  | ret v=>exact q3
 | false=>
  rw [qa5 Bool.false_ne_true]
  exact wpAny_execs_nil ⟨σ1,H2,I2,q2⟩
end
structure It where
 go:Nat->Hp->Prop
 yld:Nat->Hp->V->Hp->Prop
 stop:Nat->Hp->Prop
def zgx (X:Cx) (pins:List (Addr×Obj)) (H:Hp) (b:Addr):Prop:=
 H b=none/\b≠X.env.locals/\b∉X.fs/\(b∈X.ex\/X.s₀.heap.objs.size<=b)/\(∀ x c,X.env.cells.lookup x=some c->c≠b)/\ ∀ p∈X.pn++pins,p.1≠b
theorem Inv.fpOk {X:Cx} {pins:List (Addr×Obj)} {σ:St} {H H':Hp} {s:Shared} {b:Addr} (I:Inv X pins σ H s) (hb:s.heap.objs.size<=b) (hn:H' b=none):zgx X pins H' b:=by
 refine ⟨hn,ne_of_gt (qaw I.lt hb),I.nofs hb,.inr (qaS I.sz hb),λx c e z=> ?_,λp hp z=> ?_⟩
 ·obtain ⟨v,q⟩:=I.cell x c e
  exact absurd (qaw q.lt (by rw [z];exact hb)) (qaN _)
 ·exact absurd (qaw (qaQ (I.pin p hp).1) (by rw [z];exact hb)) (qaN _)
structure zmx (P:Program) (w:World) (K:W.Frag) (tg:Expr) (J:It) (fp:List Addr) (it:Addr) (tn:Nat->Heap->Prop):Prop where
 mem:it∈fp
 obj: ∀ i h,tn i h-> ∀ b∈fp, ∃ o,h.get? b=some o/\ ∀ v,o.data≠ .cell v
 keep: ∀ i h h',tn i h->(∀ b∈fp, ∀ o,h.get? b=some o->h'.get? b=some o)->tn i h'
 item: ∀ (X:Cx),X.prog=P->X.w=w->X.K=K-> ∀ (i:Nat) (pins:List (Addr×Obj)) (s:Shared) (σ:St) (H:Hp) (E:Value->Shared->Prop),Inv X pins σ H s->(∀ b∈fp,zgx X pins H b)->tn i s.heap->J.go i H->
  wpAny (model P w) X.A (pyNext (.ref it)) (λr s1=> ∃ u,r=some u/\
    wpAny (model P w) X.A (letOwnedTupleGo tg (.ref it) u) (λ_ s2=> ∃ x H',Inv X pins σ H' s2/\zcc x u/\J.yld i H x H'/\tn (i+1) s2.heap/\ ∀ b∈fp,H' b=none) E s1) E s
 done: ∀ (X:Cx),X.prog=P->X.w=w->X.K=K-> ∀ (i:Nat) (pins:List (Addr×Obj)) (s:Shared) (σ:St) (H:Hp) (E:Value->Shared->Prop),Inv X pins σ H s->(∀ b∈fp,zgx X pins H b)->tn i s.heap->J.stop i H->
  wpAny (model P w) X.A (pyNext (.ref it)) (λr s1=>r=none/\Inv X pins σ H s1) E s
 self: ∀ (A:Around) (i:Nat) (s:Shared) (Q:Value->Shared->Prop) (E:Value->Shared->Prop),tn i s.heap->Q (.ref it) s->wpAny (model P w) A (pyIter (.ref it)) Q E s
abbrev TI:=St->Hp->(It->Hp->Prop)->Prop
def PIE (X:Cx) (pins:List (Addr×Obj)) (σ:St) (tg:Expr) (R:It->Hp->Prop) (itv:Value) (s2:Shared):Prop:=
 ∃ (it:Addr) (fp:List Addr) (tn:Nat->Heap->Prop) (J:It) (H':Hp),itv= .ref it/\Inv X pins σ H' s2/\zmx X.prog X.w X.K tg J fp it tn/\tn 0 s2.heap/\(∀ b∈fp,zgx X pins H' b)/\R J H'
def PI (X:Cx) (tg iter:Expr) (wi:TI):Prop:=
 ∀ (pins:List (Addr×Obj)) (s:Shared) (σ:St) (H:Hp) (R:It->Hp->Prop),Inv X pins σ H s->wi σ H R->
  wpAny (model X.prog X.w) X.A (eval iter X.env) (λv s1=>wpAny (model X.prog X.w) X.A (pyIter v) (PIE X pins σ tg R) X.xe s1) X.xe s
theorem zoW {M:Model} {A:Around} {E:Value->Shared->Prop} {s:Shared} {tg:Expr} {it:Addr} {u:Value} {o:Obj} {n:String} {vs:Array Value} {Q:Unit->Shared->Prop} (ho:s.heap.get? it=some o) (hc:o.cls= .type n) (hd:o.data= .fields vs)
  (hn:["enumerate","zip","dict_itemiterator","dict_reverseitemiterator","odict_iterator","itertools.zip_longest","itertools.pairwise"].contains n=false) (hQ:Q () s):wpAny M A (letOwnedTupleGo tg (.ref it) u) Q E s:=by
 unfold letOwnedTupleGo
 cases tg<;>first
  | exact qaX hQ
  | (cases u<;>first
      | exact qaX hQ
      | (refine qaW (wpAny_load ho ?_)
         rw [hc,hd]
         show wpAny M A (if (["enumerate","zip","dict_itemiterator","dict_reverseitemiterator","odict_iterator","itertools.zip_longest","itertools.pairwise"].contains n && vs[0]? == some (rawInt _))=true then _ else _) Q E s
         rw [qa5 (by intro h;rw [hn,Bool.false_and] at h;cases h)]
         exact qaX hQ))
def Itl (K:W.Frag) (a:Addr):It:=
 ⟨λi H=> ∃ xs x,SqL K H a xs/\xs[i]? = some x,λi H x H'=>H'=H/\ ∀ xs,SqL K H a xs->xs[i]? = some x,λi H=> ∃ xs,SqL K H a xs/\xs.length<=i⟩
def Itt (K:W.Frag) (a:Addr):It:=
 ⟨λi H=> ∃ xs x,SqT K H a xs/\xs[i]? = some x,λi H x H'=>H'=H/\ ∀ xs,SqT K H a xs->xs[i]? = some x,λi H=> ∃ xs,SqT K H a xs/\xs.length<=i⟩
def Itr (lo:Int) (n:Nat):It:=⟨λi _=>i<n,λi H x H'=>H'=H/\x= .int (lo+i),λi _=>n<=i⟩
theorem zhB.keep {A:Around} {H H':Hp} (x:zhB A H) (k: ∀ b o u,H b=some (.frz o u)->H' b=some (.frz o u)):zhB A H':=by
 rcases x with x | ⟨a,o,cls,head,vs,x1,x2,x3⟩
 ·exact .inl x
 ·exact .inr ⟨a,o,cls,head,vs,x1,k _ _ _ x2,x3⟩
theorem zhB.at_ {A:Around} {P:Program} {w:World} {H:Hp} {h:Heap} (x:zhB A H) (ok:HOk P w H h):L3.zhc A h:=by
 rcases x with x | ⟨a,o,cls,head,vs,x1,x2,x3⟩
 ·exact .inl x
 ·exact .inr ⟨a,cls,head,x1,o,vs,(ok a _ x2).1,x3⟩
theorem Inv.handA {X:Cx} {pins:List (Addr×Obj)} {σ:St} {H:Hp} {s:Shared} (I:Inv X pins σ H s):zhB X.A H:=I.ok.hx.keep I.base.frzs
theorem Inv.hand {X:Cx} {pins:List (Addr×Obj)} {σ:St} {H:Hp} {s:Shared} (I:Inv X pins σ H s):L3.zhc X.A s.heap:=I.handA.at_ I.hok
theorem zlP {P:Program} {w:World} {K:W.Frag} {tg:Expr} (a it:Addr):zmx P w K tg (Itl K a) [it] it (λi h=>h.IsListIter it a i) where
 mem:=by simp
 obj:=λi h st b hb=>by
  have e:b=it:=by simpa using hb
  subst e
  obtain ⟨o,e,c,d⟩:=st
  exact ⟨o,e,λv z=>by rw [d] at z;cases z⟩
 keep:=λi h h' st k=>st.at λo e=>k it (by simp) o e
 item:=by
  intro X hP hw hK i pins s σ H E I hf st hg
  subst hP hw hK
  obtain ⟨xs,x,hq,hx⟩:=hg
  obtain ⟨its,rv,p,hz⟩:=I.list hq
  obtain ⟨u,hu,ru⟩:=rv.get hx
  obtain ⟨f0,f1,f2,f3,f4,f5⟩:=hf it (by simp)
  refine wpAny_pyNext_list_item st p.isList (x:=u) (by simpa using hu) λh' st' sb=> ?_
  have I1:Inv X pins σ H {s with heap:=h'}:=I.turned (t':=s.toks) (λb o hb e=>(sb.2 b hb).trans e) f0 f1 f3 f4 f5
  obtain ⟨o,e,c,d⟩:=id st'
  exact ⟨u,rfl,zoW (s:={s with heap:=h'}) e c d (by decide) ⟨x,H,I1,ru,⟨rfl,λys hy=>by rw [I.list_inj hy hq];exact hx⟩,st',λb hb=>(hf b hb).1⟩⟩
 done:=by
  intro X hP hw hK i pins s σ H E I hf st hg
  subst hP hw hK
  obtain ⟨xs,hq,hx⟩:=hg
  obtain ⟨its,rv,p,hz⟩:=I.list hq
  obtain ⟨f0,f1,f2,f3,f4,f5⟩:=hf it (by simp)
  have hl:=rv.length
  exact L3.znE I.hand st p.isList (by simp;omega) λh' eb=>⟨rfl,I.turned (t':=s.toks) (λb o hb e=>eb b o hb e) f0 f1 f3 f4 f5⟩
 self:=λ_ _ _ _ _ st h=>wpAny_pyIter_listiter st h
theorem zjD {P:Program} {w:World} {K:W.Frag} {tg:Expr} (a it:Addr):zmx P w K tg (Itt K a) [it] it (λi h=>h.IsTupleIter it a i) where
 mem:=by simp
 obj:=λi h st b hb=>by
  have e:b=it:=by simpa using hb
  subst e
  obtain ⟨o,e,c,d⟩:=st
  exact ⟨o,e,λv z=>by rw [d] at z;cases z⟩
 keep:=λi h h' st k=>st.at λo e=>k it (by simp) o e
 item:=by
  intro X hP hw hK i pins s σ H E I hf st hg
  subst hP hw hK
  obtain ⟨xs,x,hq,hx⟩:=hg
  obtain ⟨its,rv,p,hz⟩:=I.tuple hq
  obtain ⟨u,hu,ru⟩:=rv.get hx
  obtain ⟨f0,f1,f2,f3,f4,f5⟩:=hf it (by simp)
  refine wpAny_pyNext_tuple_item st (show s.heap.IsTuple a its.toArray from p) (x:=u) (by simpa using hu) λh' st' sb=> ?_
  have I1:Inv X pins σ H {s with heap:=h'}:=I.turned (t':=s.toks) (λb o hb e=>(sb.2 b hb).trans e) f0 f1 f3 f4 f5
  obtain ⟨o,e,c,d⟩:=id st'
  exact ⟨u,rfl,zoW (s:={s with heap:=h'}) e c d (by decide) ⟨x,H,I1,ru,⟨rfl,λys hy=>by rw [I.tuple_inj hy hq];exact hx⟩,st',λb hb=>(hf b hb).1⟩⟩
 done:=by
  intro X hP hw hK i pins s σ H E I hf st hg
  subst hP hw hK
  obtain ⟨xs,hq,hx⟩:=hg
  obtain ⟨its,rv,p,hz⟩:=I.tuple hq
  obtain ⟨f0,f1,f2,f3,f4,f5⟩:=hf it (by simp)
  have hl:=rv.length
  exact L3.zke I.hand st (show s.heap.IsTuple a its.toArray from p) (by simp;omega) λh' eb=>⟨rfl,I.turned (t':=s.toks) (λb o hb e=>eb b o hb e) f0 f1 f3 f4 f5⟩
 self:=λ_ _ _ _ _ st h=>wpAny_pyIter_tupleiter st h
theorem zj0 {P:Program} {w:World} {K:W.Frag} {tg:Expr} (it:Addr) (lo:Int) (n:Nat):zmx P w K tg (Itr lo n) [it] it (λi h=>IsRangeIter h it (lo+(i:Nat)*1) ((n:Int) - (i:Nat)) 1) where
 mem:=by simp
 obj:=λi h st b hb=>by
  have e:b=it:=by simpa using hb
  subst e
  exact ⟨_,st,λv z=>by
    have z':Data.fields _=Data.cell v:=z
    cases z'⟩
 keep:=λi h h' st k=>k it (by simp) _ st
 item:=by
  intro X hP hw hK i pins s σ H E I hf st hg
  subst hP hw hK
  obtain ⟨f0,f1,f2,f3,f4,f5⟩:=hf it (by simp)
  refine wpAny_pyNext_range_item st (by have:i<n:=hg;omega) λh' st' kk=> ?_
  have e1:lo+(i:Nat)*1+1=lo+((i+1:Nat):Int)*1:=by omega
  have e2:(n:Int) - (i:Nat) - 1=(n:Int) - ((i+1:Nat):Int):=by omega
  rw [e1,e2] at st'
  have I1:Inv X pins σ H {s with heap:=h',toks:=s.toks+1}:=I.turned (λb o hb e=>(kk.2 b hb).trans e) f0 f1 f3 f4 f5
  refine ⟨_,rfl,zoW (s:={s with heap:=h',toks:=s.toks+1}) (n:="range_iterator") st' rfl rfl (by decide) ⟨.int (lo+i),H,I1,⟨s.toks,?_⟩,⟨rfl,rfl⟩,st',λb hb=>(hf b hb).1⟩⟩
  rw [mul_one]
 done:=by
  intro X hP hw hK i pins s σ H E I hf st hg
  subst hP hw hK
  obtain ⟨f0,f1,f2,f3,f4,f5⟩:=hf it (by simp)
  exact L3.zll I.hand st (by have:n<=i:=hg;omega) λh' eb=>⟨rfl,I.turned (t':=s.toks) (λb o hb e=>eb b o hb e) f0 f1 f3 f4 f5⟩
 self:=λ_ _ _ _ _ st h=>wpAny_pyIter_rangeiter st h
section
variable {X:Cx} {tg:Expr}
theorem zm1 {pins:List (Addr×Obj)} {σ:St} {H:Hp} {s:Shared} {R:It->Hp->Prop} {E:Value->Shared->Prop} {lo hi:Int} {t u v:Tok} {tk:Nat} (I:Inv X pins σ H s) (h1: -(2^62)<=lo) (h2:lo<2^62) (h3: -(2^62)<=hi) (h4:hi<2^62)
  (q:R (Itr lo (hi - lo).toNat) H):wpAny (model X.prog X.w) X.A (pyIter (.ref s.heap.objs.size)) (PIE X pins σ tg R) E {s with heap:=s.heap.push {cls:= .type "range",data:= .fields #[.int lo t,.int hi u,.int 1 v]},toks:=tk}:=by
 refine wpAny_pyIter_range (IsRange.new ..) (small_one h1 h2 h3 h4) ?_
 have I1:Inv X pins σ H {s with heap:=s.heap.push {cls:= .type "range",data:= .fields #[.int lo t,.int hi u,.int 1 v]},toks:=tk}:=I.kept λb o e=>qag _ e
 refine ⟨(s.heap.push {cls:= .type "range",data:= .fields #[.int lo t,.int hi u,.int 1 v]}).objs.size,[(s.heap.push {cls:= .type "range",data:= .fields #[.int lo t,.int hi u,.int 1 v]}).objs.size],_,_,H,rfl,
   I1.kept (t':=tk) λb o e=>qag _ e,zj0 _ lo (hi - lo).toNat,?_,λb hb=> ?_,q⟩
 ·have e1:lo+((0:Nat):Int)*1=lo:=by simp
  have e2:(((hi - lo).toNat:Nat):Int) - ((0:Nat):Int)=Builtin.Range.rangeSize lo hi 1:=by rw [rangeSize_one];split<;>omega
  show IsRangeIter _ _ (lo+((0:Nat):Int)*1) ((((hi - lo).toNat:Nat):Int) - ((0:Nat):Int)) 1
  rw [e1,e2]
  exact qar _ rfl
 ·have e:b=(s.heap.push {cls:= .type "range",data:= .fields #[.int lo t,.int hi u,.int 1 v]}).objs.size:=by simpa using hb
  subst e
  exact I1.fpOk (qaV _) (I1.hok.fresh (qaV _))
def zua (ta:TA):TI:=λσ H R=>ta σ H λvs H1=> ∃ j:Int,vs=[.int j]/\ -(2^62)<=j/\j<2^62/\R (Itr 0 j.toNat) H1
theorem zko {a:Expr} {ta:TA} {p pos:Pos} (hg:Gl X "range") (hm:X.mg "range"=none) (ha:PA X [a] ta) (hs:starEach [a] X.env=[(false,eval a X.env)]:=by rfl):PI X tg (.Call (.Name "range" p) [a] [] pos) (zua ta):=by
 intro pins s σ H R I h
 refine Call_ (zeN I hg hm boot_range (PyProof.Rows.callWith_type1 (thn (ha pos pins s σ H _ I h) λus s1 ⟨vs,H1,I1,r1,q1⟩=> ?_) hs rfl))
 obtain ⟨j,e,q1,q2,q⟩:=q1
 subst e
 cases r1 with
 | cons r rr=>
  cases rr
  obtain ⟨t,rfl⟩:=r
  exact call_range_1 (zm1 I1 ⋯ ⋯ q1 q2 (by simpa using q))
def zv1 (wi:TI) (g:TG) (tb:TS):TS:=λD σ H=>wi σ H λJ H1=> ∃ W:Nat->Nat->St->Hp->Prop,(∃ m,W 0 m σ H1)/\ ∀ i m σ H,W i m σ H->
 (J.stop i H/\D.nx σ H)\/(J.go i H/\ ∃ N:St->Hp->Prop,(∀ σ' H',N σ' H'-> ∃ m',m'<m/\W (i+1) m' σ' H')/\ ∀ x H',J.yld i H x H'->g x σ H' λσ2 H2=>tb {D with nx:=N,ct:=N,bk:=D.nx} σ2 H2)
def zhy (fp:List Addr) (h:Heap):List (Addr×Obj):=fp.filterMap λb=>(h.get? b).map λo=>(b,o)
theorem zdE {fp:List Addr} {h:Heap} {b:Addr} {o:Obj} (hb:b∈fp) (e:h.get? b=some o):(b,o)∈zhy fp h:=mem_filterMap.mpr ⟨b,hb,by rw [e];rfl⟩
theorem zlC {fp:List Addr} {h:Heap} {p:Addr×Obj} (hp:p∈zhy fp h):p.1∈fp/\h.get? p.1=some p.2:=by
 obtain ⟨b,hb,e⟩:=mem_filterMap.mp hp
 cases q:h.get? b with
 | none=>rw [q] at e;cases e
 | some o=>
  rw [q] at e
  have e':(b,o)=p:=Option.some.inj e
  subst e'
  exact ⟨hb,q⟩
theorem Inv.pinned {pins:List (Addr×Obj)} {σ:St} {H:Hp} {s:Shared} {fp:List Addr} (I:Inv X pins σ H s) (hf: ∀ b∈fp,zgx X pins H b) (ho: ∀ b∈fp, ∃ o,s.heap.get? b=some o/\ ∀ v,o.data≠ .cell v):Inv X (pins++zhy fp s.heap) σ H s:=
 I.pins_of λp hp=>(qaK.mp hp).elim (λz=>I.pin p (qak _ z)) λz=>by
  obtain ⟨hb,e⟩:=zlC z
  obtain ⟨f0,f1,f2,_⟩:=hf p.1 hb
  obtain ⟨o,e',d⟩:=ho p.1 hb
  rw [e] at e';cases e'
  exact ⟨e,f0,f1,f2,d⟩
theorem Inv.unpinned {pins pl:List (Addr×Obj)} {σ:St} {H:Hp} {s:Shared} (I:Inv X (pins++pl) σ H s):Inv X pins σ H s:=I.pins_of λp hp=>I.pin p (qak _ (mem_append_left _ hp))
theorem zsB {iter:Expr} {body:List Stmt} {wi:TI} {g:TG} {tb:TS} {pos:Pos} (hp:PassesOwn (model X.prog X.w) X.A X.env X.xe) (hc:X.calm=true) (hi:PI X tg iter wi) (hg:PG X tg g) (hb:PSs X body tb)
  (hs: ∀ x,foldedSetIterable iter X.env x=pure x:=by intro _;rfl):PS X (.For tg iter body [] pos) (zv1 wi g tb):=by
 intro pins s σ H D I h
 refine wpAny_For (thn (hi pins s σ H _ I h) λv s1 h1=>thn h1 λitv s2 h2=> ?_) hs
 obtain ⟨it,fp,tn,J,H2,e,I2,T,st2,f2,W,⟨m0,w0⟩,turn⟩:=h2
 subst e
 have stat: ∀ {H':Hp},(∀ b∈fp,H' b=none)-> ∀ b∈fp,zgx X pins H' b:=λhn b hb=>⟨hn b hb,(f2 b hb).2⟩
 refine codeAny_forLoop_any (λn s'=> ∃ i σ' H',Inv X pins σ' H' s'/\tn i s'.heap/\(∀ b∈fp,H' b=none)/\W i n σ' H') ?_ m0 ⟨0,σ,H2,I2,st2,λb hb=>(f2 b hb).1,w0⟩
 rintro n s3 ⟨i,σ3,H3,I3,st3,fr3,w3⟩
 rcases turn i n σ3 H3 w3 with ⟨stop,qn⟩ | ⟨go,N,hN,step⟩
 ·refine wpAny_passesOwn hp (thn (T.done X rfl rfl rfl i pins s3 σ3 H3 X.xe I3 (stat fr3) st3 stop) λr s4 ⟨hr,I4⟩=> ?_)
  subst hr
  exact wpAny_execs_nil ⟨σ3,H3,I4,qn⟩
 ·refine wpAny_passesOwn hp (thn (T.item X rfl rfl rfl i pins s3 σ3 H3 X.xe I3 (stat fr3) st3 go) λr s4 ⟨u,hr,h4⟩=> ?_)
  subst hr
  refine wpAny_passesOwn hp (thn h4 λ_ s5 ⟨x,H5,I5,r5,y5,st5,fr5⟩=> ?_)
  have I5':=I5.pinned (stat fr5) (T.obj _ _ st5)
  refine wpAny_passesOwn hp (thn (hg _ s5 σ3 H5 x u _ I5' r5 (step x H5 y5)) λ_ s6 ⟨σ6,H6,I6,q6⟩=> ?_)
  refine wpAny_passesOwn hp (thn (hb _ s6 σ6 H6 _ I6 q6) λf s7 q7=> ?_)
  have again: ∀ {σ7:St} {H7:Hp},Inv X (pins++zhy fp s5.heap) σ7 H7 s7->N σ7 H7-> ∃ m,m<n/\ ∃ i σ' H',Inv X pins σ' H' s7/\tn i s7.heap/\(∀ b∈fp,H' b=none)/\W i m σ' H':=λ{σ7 H7} I7 n7=>by
   obtain ⟨m',hm,w7⟩:=hN σ7 H7 n7
   refine ⟨m',hm,i+1,σ7,H7,I7.unpinned,T.keep _ _ _ st5 λb hb o e=>(I7.pin (b,o) (qak _ (qak _ (zdE hb e)))).1,λb hb=> ?_,w7⟩
   obtain ⟨o,e,d⟩:=T.obj _ _ st5 b hb
   exact (I7.pin (b,o) (qak _ (qak _ (zdE hb e)))).2.1
  cases f with
  | next=>obtain ⟨σ7,H7,I7,n7⟩:=q7;exact again I7 n7
  | cont=>obtain ⟨σ7,H7,I7,n7⟩:=q7;exact again I7 n7
  | brk=>obtain ⟨σ7,H7,I7,q7⟩:=q7;exact ⟨σ7,H7,I7.unpinned,q7⟩
  | ret v=>obtain ⟨x7,σ7,H7,I7,r7,q7⟩:=q7;exact ⟨x7,σ7,H7,I7.unpinned,r7,q7⟩
end
abbrev R2:=V->V->Hp->VK->Prop
def OpR (X:Cx) (f:Value->Value->Sem Value) (r:R2):Prop:=
 ∀ (pins:List (Addr×Obj)) (s:Shared) (σ:St) (H:Hp) (x y:V) (v u:Value) (Q:VK),Inv X pins σ H s->zcc x v->zcc y u->r x y H Q->
  wpAny (model X.prog X.w) X.A (f v u) (EP X pins σ Q) X.xe s
def UnR (X:Cx) (f:Value->Sem Value) (r:V->Hp->VK->Prop):Prop:=
 ∀ (pins:List (Addr×Obj)) (s:Shared) (σ:St) (H:Hp) (x:V) (v:Value) (Q:VK),Inv X pins σ H s->zcc x v->r x H Q->
  wpAny (model X.prog X.w) X.A (f v) (EP X pins σ Q) X.xe s
def zba (X:Cx) (f:Value) (r:List V->Hp->VK->Prop):Prop:=
 ∀ (pins:List (Addr×Obj)) (s:Shared) (σ:St) (H:Hp) (xs:List V) (us:List Value) (Q:VK),Inv X pins σ H s->zby xs us->r xs H Q->
  wpAny (model X.prog X.w) X.A (call f us) (EP X pins σ Q) X.xe s
def tOp (r:R2) (ta tb:TE):TE:=λσ H Q=>ta σ H λx H1=>tb σ H1 λy H2=>r x y H2 Q
def tUn (r:V->Hp->VK->Prop) (ta:TE):TE:=λσ H Q=>ta σ H λx H1=>r x H1 Q
def rI (C:Int->Int->Prop) (g:Int->Int->V):R2:=λx y H Q=> ∃ i j,x= .int i/\y= .int j/\C i j/\Q (g i j) H
def rI0 (g:Int->Int->V):R2:=λx y H Q=> ∃ i j,x= .int i/\y= .int j/\Q (g i j) H
def rU (g:Int->V):V->Hp->VK->Prop:=λx H Q=> ∃ i,x= .int i/\Q (g i) H
section
variable {X:Cx} {a b c:Expr} {ta tb tc:TE} {pos:Pos}
theorem zu7 (ha:PE X a ta) (hb:PE X b tb) {pins:List (Addr×Obj)} {s:Shared} {σ:St} {H:Hp} {R:V->V->Hp->Prop} (I:Inv X pins σ H s)
  (h:ta σ H λx H1=>tb σ H1 λy H2=>R x y H2) {Q:Value->Shared->Prop} {f:Value->Value->Sem Value}
  (hf: ∀ v u s2 x y H2,Inv X pins σ H2 s2->zcc x v->zcc y u->R x y H2->wpAny (model X.prog X.w) X.A (f v u) Q X.xe s2):
  wpAny (model X.prog X.w) X.A (eval a X.env) (λv s₁=>wpAny (model X.prog X.w) X.A (eval b X.env) (λu s₂=>wpAny (model X.prog X.w) X.A (f v u) Q X.xe s₂) X.xe s₁) X.xe s:=by
 refine thn (ha pins s σ H _ I h) λv s1 ⟨x,H1,I1,r1,q1⟩=> ?_
 refine thn (hb pins s1 σ H1 _ I1 q1) λu s2 ⟨y,H2,I2,r2,q2⟩=> ?_
 exact hf v u s2 x y H2 I2 r1 r2 q2
theorem ztU {op:Operator} {r:R2} (ho:OpR X (binaryOp op) r) (ha:PE X a ta) (hb:PE X b tb):PE X (.BinOp a op b pos) (tOp r ta tb):=by
 intro pins s σ H Q I h
 exact wpAny_BinOp (zu7 ha hb I h λv u s2 x y H2 I2 rx ry q=>ho pins s2 σ H2 x y v u Q I2 rx ry q)
theorem zuP {op:UnaryOp} {r:V->Hp->VK->Prop} (ho:UnR X (unaryOp op) r) (ha:PE X a ta):PE X (.UnaryOp op a pos) (tUn r ta):=by
 intro pins s σ H Q I h
 exact UnaryOp_ (thn (ha pins s σ H _ I h) λv s1 ⟨x,H1,I1,r1,q1⟩=>ho pins s1 σ H1 x v Q I1 r1 q1)
theorem opI {f:Value->Value->Sem Value} {C:Int->Int->Prop} {g:Int->Int->Int}
  (rule: ∀ (i j:Int) (t u:Tok) (s:Shared) (Q:Value->Shared->Prop) (E:Value->Shared->Prop),C i j->Q (.int (g i j) s.toks) {s with toks:=s.toks+1}->wpAny (model X.prog X.w) X.A (f (.int i t) (.int j u)) Q E s):
  OpR X f (rI C λi j=> .int (g i j)):=by
 intro pins s σ H x y v u Q I rx ry h
 obtain ⟨i,j,rfl,rfl,hc,q⟩:=h
 obtain ⟨t,rfl⟩:=rx
 obtain ⟨t',rfl⟩:=ry
 exact rule i j t t' s _ _ hc ⟨.int (g i j),H,I.tok _,⟨_,rfl⟩,q⟩
theorem zuB {f:Value->Value->Sem Value} {g:Int->Int->Int}
  (rule: ∀ (i j:Int) (t u:Tok) (s:Shared) (Q:Value->Shared->Prop) (E:Value->Shared->Prop),Q (.int (g i j) s.toks) {s with toks:=s.toks+1}->wpAny (model X.prog X.w) X.A (f (.int i t) (.int j u)) Q E s):
  OpR X f (rI0 λi j=> .int (g i j)):=by
 intro pins s σ H x y v u Q I rx ry h
 obtain ⟨i,j,rfl,rfl,q⟩:=h
 obtain ⟨t,rfl⟩:=rx
 obtain ⟨t',rfl⟩:=ry
 exact rule i j t t' s _ _ ⟨.int (g i j),H,I.tok _,⟨_,rfl⟩,q⟩
theorem zuH {f:Value->Value->Sem Value} {g:Int->Int->Bool}
  (rule: ∀ (i j:Int) (t u:Tok) (s:Shared) (Q:Value->Shared->Prop) (E:Value->Shared->Prop),Q (.bool (g i j)) s->wpAny (model X.prog X.w) X.A (f (.int i t) (.int j u)) Q E s):
  OpR X f (rI0 λi j=> .bl (g i j)):=by
 intro pins s σ H x y v u Q I rx ry h
 obtain ⟨i,j,rfl,rfl,q⟩:=h
 obtain ⟨t,rfl⟩:=rx
 obtain ⟨t',rfl⟩:=ry
 exact rule i j t t' s _ _ ⟨.bl (g i j),H,I,rfl,q⟩
def ztO (i j:Int):Prop:=0<=j/\j<=1000000/\i.natAbs<2^64
def zuO (i j:Int):Prop:=(-(2^64)<i/\i<2^64)\/(-(2^64)<j/\j<2^64)
theorem zuO.ok {i j:Int} (h:zuO i j):IntMulOk i j:=by
 rcases h with ⟨h1,h2⟩ | ⟨h1,h2⟩
 ·exact .of_left (intBits_le_64 h1 h2)
 ·exact .of_right (intBits_le_64 h1 h2)
theorem two_pow_nn (k:Nat):(0:Int)<=2^k:=by
 rw [two_pow_cast]
 exact Int.natCast_nonneg _
theorem zsS:OpR X (binaryOp .Add) (rI0 λi j=> .int (i+j)):=zuB λ_ _ _ _ _ _ _ q=>add_int q
theorem zrd:OpR X (binaryOp .Sub) (rI0 λi j=> .int (i - j)):=zuB λ_ _ _ _ _ _ _ q=>sub_int q
theorem zrv:OpR X (binaryOp .Mult) (rI zuO λi j=> .int (i*j)):=opI λ_ _ _ _ _ _ _ hc q=>mul_int q hc.ok
theorem zsj:OpR X (binaryOp .Mod) (rI (λ_ j=>0<j) λi j=> .int (i % j)):=opI λi j _ _ _ _ _ hc q=>by
 have h1:(0:Int)<j:=hc
 exact mod_int' ⋯ (by rw [Int.fmod_eq_emod_of_nonneg i ⋯];exact q)
theorem zsA:OpR X (binaryOp .Pow) (rI ztO λi j=> .int (i^j.toNat)):=opI λ_ _ _ _ _ _ _ hc q=>pow_int_small hc.1 hc.2.1 hc.2.2 q
theorem zrH:OpR X (binaryOp .LShift) (rI ztO λi j=> .int (i*2^j.toNat)):=opI λ_ _ _ _ _ _ _ hc q=>lshift_int_small hc.1 hc.2.1 hc.2.2 q
theorem zsI:OpR X (binaryOp .RShift) (rI (λ_ j=>0<=j) λi j=> .int (i / 2^j.toNat)):=opI λi j _ _ _ _ _ hc q=>
 rshift_int hc (by rw [Int.fdiv_eq_ediv_of_nonneg i (two_pow_nn _)];exact q)
theorem zsT:OpR X (binaryOp .BitAnd) (rI0 λi j=> .int (Builtin.bitAnd i j)):=zuB λ_ _ _ _ _ _ _ q=>and_int q
theorem unI {f:Value->Sem Value} {g:Int->Int}
  (rule: ∀ (i:Int) (t:Tok) (s:Shared) (Q:Value->Shared->Prop) (E:Value->Shared->Prop),Q (.int (g i) s.toks) {s with toks:=s.toks+1}->wpAny (model X.prog X.w) X.A (f (.int i t)) Q E s):
  UnR X f (rU λi=> .int (g i)):=by
 intro pins s σ H x v Q I rx h
 obtain ⟨i,rfl,q⟩:=h
 obtain ⟨t,rfl⟩:=rx
 exact rule i t s _ _ ⟨.int (g i),H,I.tok _,⟨_,rfl⟩,q⟩
theorem ztw:UnR X (unaryOp .USub) (rU λi=> .int (-i)):=unI λ_ _ _ _ _ q=>neg_int q
end
section
variable {X:Cx} {a b c:Expr} {ta tb tc:TE} {pos:Pos}
theorem zhi {pins:List (Addr×Obj)} {σ:St} {H:Hp} {s:Shared} {Q:VK} {k k':Bool} (I:Inv X pins σ H s) (q:Q (.bl k) H) (e:k=k'):EP X pins σ Q (.bool k') s:=by
 subst e
 exact ⟨.bl k,H,I,rfl,q⟩
theorem zva:OpR X (compareOp .Lt) (rI0 λi j=> .bl (decide (i<j))):=zuH λ_ _ _ _ _ _ _ q=>lt_int q
theorem zu0:OpR X (compareOp .Gt) (rI0 λi j=> .bl (decide (j<i))):=zuH λ_ _ _ _ _ _ _ q=>gt_int q
theorem zui:OpR X (compareOp .GtE) (rI0 λi j=> .bl (decide (j<=i))):=zuH λ_ _ _ _ _ _ _ q=>ge_int q
theorem zk4:OpR X (compareOp .Is) (λx y H Q=>y= .non/\Q (.bl (decide (x= .non))) H):=by
 intro pins s σ H x y v u Q I rx ry h
 obtain ⟨rfl,q⟩:=h
 cases ry
 refine is_none_gen (zhi I q ?_)
 cases x<;>first
  | (cases rx;rfl)
  | (obtain ⟨t,rfl⟩:=rx;rfl)
theorem OpR.or {f:Value->Value->Sem Value} {r r':R2} (h:OpR X f r) (h':OpR X f r'):OpR X f (λx y H Q=>r x y H Q\/r' x y H Q):=by
 intro pins s σ H x y v u Q I rx ry q
 rcases q with q | q
 ·exact h pins s σ H x y v u Q I rx ry q
 ·exact h' pins s σ H x y v u Q I rx ry q
theorem zpr {op:CmpOp} {r:R2} (ho:OpR X (compareOp op) r) (ha:PE X a ta) (hb:PE X b tb) (hm:behindInMarks op b=false):PE X (.Compare a [op] [b] pos) (tOp r ta tb):=by
 intro pins s σ H Q I h
 exact wpAny_Compare1 (zu7 ha hb I h λv u s2 x y H2 I2 rx ry q=>ho pins s2 σ H2 x y v u Q I2 rx ry q) hm
def zuF (t:TE):TT:=λσ H Q=>t σ H λx H'=> ∃ k,x= .bl k/\Q k H'
theorem zpC {op:CmpOp} {r:R2} (ho:OpR X (compareOp op) r) (ha:PE X a ta) (hb:PE X b tb) (hm:behindInMarks op b=false):PT X (.Compare a [op] [b] pos) (zuF (tOp r ta tb)):=by
 intro pins s σ H Q I h
 refine wpAny_isTrue_Compare1 (thn (ha pins s σ H _ I h) λv s1 ⟨x,H1,I1,r1,q1⟩=>thn (hb pins s1 σ H1 _ I1 q1) λu s2 ⟨y,H2,I2,r2,q2⟩=>
   thn (ho pins s2 σ H2 x y v u _ I2 r1 r2 q2) λc s3 ⟨z,H3,I3,r3,k,e,q3⟩=> ?_) hm
 subst e
 cases r3
 exact wpAny_truthy_bool ⟨H3,I3,q3⟩
theorem zjp:(sizeLine:Nat)<2^63:=by rw [sizeLine_eq];decide
theorem zjE:OpR X (binaryOp .Add) (λx y H Q=> ∃ i j,x= .str i/\y= .str j/\i.length+j.length<=sizeLine/\Q (.str (i++j)) H):=by
 intro pins s σ H x y v u Q I rx ry h
 obtain ⟨i,j,rfl,rfl,hz,q⟩:=h
 obtain ⟨t,rfl⟩:=rx
 obtain ⟨t',rfl⟩:=ry
 exact add_str (λt' tk=>⟨.str (i++j),H,I.tok _,⟨_,rfl⟩,q⟩) hz
theorem zeM {x:V} {us:List Value} (r:zby [x] us): ∃ u,us=[u]/\zcc x u:=by
 cases r with
 | cons r1 r2=>cases r2;exact ⟨_,rfl,r1⟩
theorem zsw {x y:V} {us:List Value} (r:zby [x,y] us): ∃ u w',us=[u,w']/\zcc x u/\zcc y w':=by
 cases r with
 | cons r1 r2=>
  cases r2 with
  | cons r3 r4=>cases r4;exact ⟨_,_,rfl,r1,r3⟩
theorem zkV (hc:X.calm=true):zba X (.builtin "max") (λxs H Q=> ∃ i j,xs=[.int i,.int j]/\Q (.int (if j>i then j else i)) H):=by
 intro pins s σ H xs us Q I r h
 obtain ⟨i,j,rfl,q⟩:=h
 obtain ⟨u,w',rfl,⟨t,rfl⟩,⟨t',rfl⟩⟩:=zsw r
 refine max_two_ints (I.ok.hd hc) λh' tk k=>⟨_,H,I.kept k,?_,q⟩
 by_cases hj:j>i
 ·rw [qa4 hj,qa4 hj];exact ⟨_,rfl⟩
 ·rw [qa5 hj,qa5 hj];exact ⟨_,rfl⟩
theorem zk7 (hc:X.calm=true):zba X (.builtin "min") (λxs H Q=> ∃ i j,xs=[.int i,.int j]/\Q (.int (if j<i then j else i)) H):=by
 intro pins s σ H xs us Q I r h
 obtain ⟨i,j,rfl,q⟩:=h
 obtain ⟨u,w',rfl,⟨t,rfl⟩,⟨t',rfl⟩⟩:=zsw r
 refine min_two_ints (I.ok.hd hc) λh' tk k=>⟨_,H,I.kept k,?_,q⟩
 by_cases hj:j<i
 ·rw [qa4 hj,qa4 hj];exact ⟨_,rfl⟩
 ·rw [qa5 hj,qa5 hj];exact ⟨_,rfl⟩
theorem zlB:zba X (.type "int") (λxs H Q=>(∃ i,xs=[.int i]/\Q (.int i) H)\/ ∃ k,xs=[.bl k]/\Q (.int (if k then 1 else 0)) H):=by
 intro pins s σ H xs us Q I r h
 rcases h with ⟨i,rfl,q⟩ | ⟨k,rfl,q⟩
 ·obtain ⟨u,rfl,t,rfl⟩:=zeM r
  exact call_int_int ⟨.int i,H,I,⟨_,rfl⟩,q⟩
 ·obtain ⟨u,rfl,r1⟩:=zeM r
  cases r1
  exact call_int_bool ⟨.int (if k then 1 else 0),H,I.tok _,⟨_,rfl⟩,q⟩
end
structure zuE (h:Heap) (x dx C:Addr) (mA:Str->Option Value):Prop where
 obj:h.get? x=some (W.instObj C dx)
 ns:h.Ns1 dx mA
 ne:dx≠x
theorem zlA {h:Heap} {dx:Addr} {mA:Str->Option Value} (n:h.Ns1 dx mA): ∃ od,h.get? dx=some od/\ ∀ name,W.lookIn name od=some (mA name):=by
 obtain ⟨o,es,ep,ho,hd,hk,_,hm⟩:=n
 refine ⟨o,ho,λname=> ?_⟩
 have e:=hm name
 unfold nsFind findBy at e
 rw [<- Array.find?_toList] at e
 unfold W.lookIn
 rw [hd]
 dsimp only
 split
 ·rename_i y q
  rw [q] at e
  exact congrArg some e
 ·rename_i q
  rw [q] at e
  have a:es.toList.any (·.refKey)=false:=by
   rw [List.any_eq_false]
   intro y hy
   obtain ⟨z,t,hkey⟩:=hk y (Array.mem_toList_iff.mp hy)
   simp [DictEntry.refKey,hkey]
  have a': ¬es.toList.any (·.refKey)=true:=by rw [a];exact Bool.false_ne_true
  rw [qa5 a']
  exact congrArg some e
theorem zuE.look {h:Heap} {x dx C:Addr} {mA:Str->Option Value} (I:zuE h x dx C mA): ∃ od,W.InstAt h x (W.instObj C dx) C (some od)/\ ∀ name,W.lookIn name od=some (mA name):=
 let ⟨od,ho,hl⟩:=zlA I.ns
 ⟨od,⟨I.obj,rfl,rfl,ho⟩,hl⟩
section
variable {prog:Program} {w:World} {A:Around} {E:Value->Shared->Prop} {s:Shared} {K:W.Frag} {x dx C f:Addr} {mA:Str->Option Value} {name:Str} {v:Value}
end
section
variable {P:Program} {w:World} {H H':Hp} {h h':Heap} {a C dx:Addr} {fs fs':List (Str×V)}
theorem zqf (hok:HOk P w H h) (e:H a=some (.ins C dx fs)): ∃ mA,zuE h a dx C mA/\(∀ f,zvb (fs.lookup f) (mA f))/\PySem.Within mA (fs.map (·.1))/\fs.length<=1000/\H dx=some (.own a):=by
 obtain ⟨d,z,ne,ob,mA,n,r,q⟩:=(show zbW P w H h a (.ins C dx fs) from hok a _ e)
 exact ⟨mA,⟨ob,n,ne⟩,r,q,z,d⟩
end
structure Cls (K:W.Frag) (C:Addr):Prop where
 pg:W.plainGet K C Str.empty=true
 hd:W.hasDictIn K C=true
 po:W.plainOver K C=true
 sa:W.findIn K (.ref C) "__setattr__"=some (some (.builtin "object.__setattr__"))
theorem Cls.get {K:W.Frag} {C:Addr} (c:Cls K C) (f:Str):W.plainGet K C f=true:=c.pg
structure Con (K:W.Frag) (C:Addr) (f:Str) (v:V) (u:Value):Prop where
 at_:W.findIn K (.ref C) f=some (some u)
 rel:zcc v u
 get:W.specialIn K u "__get__"=some none
 cp:W.copiedNames.contains f=false
structure zwg (K:W.Frag) (C:Addr) (m:Str) (f:Addr):Prop where
 at_:W.findIn K (.ref C) m=some (some (.ref f))
 fn:W.isFn K (.ref f)=true
 kp:W.keepIn K (.ref f)=true
section
variable {X:Cx} {pins:List (Addr×Obj)} {σ:St} {H:Hp} {s:Shared} {a C dx:Addr} {fs:List (Str×V)} {f:Str} {v:V} {A:Around} {E:Value->Shared->Prop}
end
section
variable {X:Cx} {o e value:Expr} {f:Str} {pos pos' tpos:Pos} {ta tv:TE}
end
section
variable {X:Cx} {pins:List (Addr×Obj)} {σ:St} {H:Hp} {s:Shared} {A:Around} {E:Value->Shared->Prop} {Q:Value->Shared->Prop} {c:Value} {b:Bool}
inductive zjc (K:W.Frag) (H:Hp):V->Value->Prop where
 | non:zjc K H .non (.type "NoneType")
 | bl (x:Bool):zjc K H (.bl x) (.type "bool")
 | int (i:Int):zjc K H (.int i) (.type "int")
 | str (x:Str):zjc K H (.str x) (.type "str")
 | flt (x:UInt64):zjc K H (.flt x) (.type "float")
 | lst {a:Addr} {xs:List V} (e:H a=some (.lst xs)):zjc K H (.ref a) (.type "list")
 | frz {a:Addr} {o:Obj} {xs:List V} (e:H a=some (.frz o (.lst xs))):zjc K H (.ref a) (.type "list")
 | tup {a:Addr} {xs:List V} (e:H a=some (.tup xs)):zjc K H (.ref a) (.type "tuple")
 | dK {a:Addr} {kvs:List (Key×V)} (e:H a=some (.dK kvs)):zjc K H (.ref a) (.type "dict")
 | dT {a:Addr} {kvs:List (List Key×V)} (e:H a=some (.dT kvs)):zjc K H (.ref a) (.type "dict")
 | ins {a C dx:Addr} {fs:List (Str×V)} (e:H a=some (.ins C dx fs)) (cl:Cls K C) (ha:W.findIn K (.ref C) "__class__"=some (some (.builtin "object.__class__")))
   (hn:W.specialIn K (.builtin "object.__class__") "__get__"=some (some (.builtin "getset_descriptor.__get__"))) (htk:W.takesIn K (.builtin "object.__class__")=some true)
   (hm:W.mroIn K C (.type "object")=some true):zjc K H (.ref a) (.ref C)
theorem zkg {x:V} {u t:Value} (I:Inv X pins σ H s) (rx:zcc x u) (ty:zjc X.K H x t) (e:W.kitOne X.K t c=some b) (h: ∀ tk,Q (.bool b) {s with toks:=tk}):
  wpAny (model X.prog X.w) A (call (.builtin "isinstance") [u,c]) Q E s:=by
 cases ty with
 | non=>cases (show u=Value.none from rx);exact W.kia_one W.kitx_none I.kIn True.intro e (λz=>nomatch z) h
 | bl y=>cases (show u=Value.bool y from rx);exact W.kia_one W.kitx_bool I.kIn True.intro e (λz=>nomatch z) h
 | int i=>obtain ⟨t,q⟩:=(show ∃ t,u=Value.int i t from rx);cases q;exact W.kia_one W.kitx_int I.kIn True.intro e (λz=>nomatch z) h
 | str y=>obtain ⟨t,q⟩:=(show ∃ t,u=Value.str y t from rx);cases q;exact W.kia_one W.kitx_str I.kIn True.intro e (λz=>nomatch z) h
 | flt y=>obtain ⟨t,q⟩:=(show ∃ t,u=Value.float y t from rx);cases q;exact W.kia_one W.kitx_float I.kIn True.intro e (λz=>nomatch z) h
 | @lst a xs ea=>
  cases (show u=Value.ref a from rx)
  obtain ⟨_,_,n,_,h1⟩:=(show zbW X.prog X.w H s.heap a (.lst xs) from I.hok a _ ea)
  exact W.kia_one W.kitx_list I.kIn ⟨_,h1,rfl⟩ e (λz=>nomatch z) h
 | @frz a ob xs ea=>
  cases (show u=Value.ref a from rx)
  obtain ⟨_,_,_,n,_,h1⟩:=(show zbW X.prog X.w H s.heap a (.frz ob (.lst xs)) from I.hok a _ ea)
  exact W.kia_one W.kitx_list I.kIn ⟨_,h1,rfl⟩ e (λz=>nomatch z) h
 | @tup a xs ea=>
  cases (show u=Value.ref a from rx)
  obtain ⟨_,_,_,p⟩:=(show zbW X.prog X.w H s.heap a (.tup xs) from I.hok a _ ea)
  obtain ⟨o,h1,h2,_⟩:=p
  exact W.kia_one W.kitx_tuple I.kIn ⟨o,h1,h2⟩ e (λz=>nomatch z) h
 | @dK a kvs ea=>
  cases (show u=Value.ref a from rx)
  obtain ⟨_,_,vs,_,p⟩:=(show zbW X.prog X.w H s.heap a (.dK kvs) from I.hok a _ ea)
  obtain ⟨o,es,ep,h1,h2,_⟩:=p
  exact W.kia_one W.kitx_dict I.kIn ⟨o,h1,h2.1⟩ e (λz=>nomatch z) h
 | @dT a kvs ea=>
  cases (show u=Value.ref a from rx)
  obtain ⟨_,_,xs,_,o,es,ep,h1,h2,_⟩:=(show zbW X.prog X.w H s.heap a (.dT kvs) from I.hok a _ ea)
  exact W.kia_one W.kitx_dict I.kIn ⟨o,h1,h2.1⟩ e (λz=>nomatch z) h
 | @ins a C dx fs ea cl ha hn htk hm=>
  cases (show u=Value.ref a from rx)
  obtain ⟨mA,O,_⟩:=zqf I.hok ea
  obtain ⟨od,J,_⟩:=O.look
  exact W.kia_one (W.kitx_own (cl.get _) cl.hd ha hn htk hm) I.kIn J e (λz=>nomatch z) h
end
structure zfN (k:Nat) (A:Around):Prop where
 hd:A.handled=none
 dp:A.depth+3*k+5<recursionLimit
 un:A.units+16*k+200<cLine
theorem zfN.mono {j k:Nat} {A:Around} (r:zfN k A) (h:j<=k):zfN j A:=⟨r.hd,by have:=r.dp;omega,by have:=r.un;omega⟩
theorem zfN.deeper {k:Nat} {A:Around} (r:zfN (k+1) A) (env:Env):zfN k (A.deeper env):=
 ⟨r.hd,by have:=r.dp;show A.depth+1+3*k+5<_;omega,by have:=r.un;show A.units+3+16*k+200<_;omega⟩
theorem zfN.depth {k:Nat} {A:Around} (r:zfN k A):A.depth<recursionLimit:=by have:=r.dp;omega
theorem zfN.units {k:Nat} {A:Around} (r:zfN k A):A.units+64<cLine:=by have:=r.un;omega
def zvQ:TA:=λ_ H Q=>Q [] H
def zqT (ta:TE) (tr:TA):TA:=λσ H Q=>ta σ H λx H1=>tr σ H1 λxs H2=>Q (x::xs) H2
section
variable {X:Cx} {e:Expr} {es:List Expr} {te:TE} {t:TA} {pos:Pos}
theorem zds:PA X [] zvQ:=λ_ _ _ _ H Q I h=>Calls.spliced_nil ⟨[],H,I,.nil,h⟩
theorem zco (ha:PE X e te) (hr:PA X es t) (hs:starEach (e::es) X.env=(false,eval e X.env)::starEach es X.env:=by rfl):PA X (e::es) (zqT te t):=by
 intro pos pins s σ H Q I h
 rw [hs]
 show wpAny _ _ (spliced ((false,eval e X.env)::backTo pos (starEach es X.env))) _ _ s
 refine Calls.spliced_cons (thn (ha pins s σ H _ I h) λu s1 ⟨x,H1,I1,r1,q1⟩=> ?_)
 exact thn (hr pos pins s1 σ H1 _ I1 q1) λus s2 ⟨xs,H2,I2,r2,q2⟩=>⟨x::xs,H2,I2,.cons r1 r2,q2⟩
def zvI (t:TA):TE:=λσ H Q=>t σ H λxs H1=>xs.length<=sizeLine/\ ∀ p,H1 p=none->Q (.ref p) (upd H1 p (.tup xs))
def zvz (t:TA):TE:=λσ H Q=>t σ H λxs H1=>xs.length<=sizeLine/\ ∀ p,H1 p=none->Q (.ref p) (upd H1 p (.lst xs))
theorem zri {x1} (h:PA X es t):PE X (.Tuple es x1 pos) (zvI t):=by
 intro pins s σ H Q I hq
 refine wpAny_Tuple_spliced (thn (h pos pins s σ H _ I hq) λus s1 ⟨xs,H1,I1,r,z,q⟩=>⟨by rw [<- r.length];exact z,?_⟩)
 have hf:H1 s1.heap.objs.size=none:=I1.hok.fresh (qaV _)
 refine ⟨.ref s1.heap.objs.size,upd H1 s1.heap.objs.size (.tup xs),I1.laid (t':=s1.toks) (λb u e=>qag _ e) (qaV _) ?_,rfl,q _ hf⟩
 exact ⟨z,us,r,⟨_,qar _ rfl,rfl,_,rfl,rfl⟩⟩
theorem zoe (h:PA X es t):PE X (.List es pos) (zvz t):=by
 intro pins s σ H Q I hq
 refine wpAny_List_spliced (thn (h pos pins s σ H _ I hq) λus s1 ⟨xs,H1,I1,r,z,q⟩=>⟨by rw [<- r.length];exact z,?_⟩)
 have hf:H1 s1.heap.objs.size=none:=I1.hok.fresh (qaV _)
 refine ⟨.ref s1.heap.objs.size,upd H1 s1.heap.objs.size (.lst xs),I1.laid (t':=s1.toks) (λb u e=>qag _ e) (qaV _) ?_,rfl,q _ hf⟩
 exact ⟨z,us,0,r,qar _ rfl⟩
end
abbrev Sp:=List V->Hp->VK->XK->Prop
abbrev CXT:=List Env->Hp->Shared->XK->Value->Shared->Prop
structure zq5 (P:Program) (w:World) (K:W.Frag) (mg:Str->Option Value) (base:Heap) (A:Around) (outer:List Env) (s:Shared) (H:Hp):Prop where
 frames:A.frames=some outer
 mod:Mod K mg base
 bs: ∀ b o,base.get? b=some o->s.heap.get? b=some o/\H b=none
 bsz:base.objs.size<=s.heap.objs.size
 funs:s.heap.FunFrames base outer
 frf: ∀ b∈frs outer,H b=none
 hok:HOk P w H s.heap
 bare:AllBare s.gens
 hand:zhB A H
def CE (outer:List Env) (P:Program) (w:World) (H:Hp) (s:Shared) (Q:VK) (u:Value) (s':Shared):Prop:=
 ∃ v H',s'.os=s.os/\AllBare s'.gens/\Un (frs outer) [] H H' s.heap s'.heap/\HOk P w H' s'.heap/\zcc v u/\Q v H'
def CR (CX:CXT) (outer:List Env) (P:Program) (w:World) (H:Hp) (s:Shared) (Q:VK) (E:XK) (r:Result) (s':Shared):Prop:=
 match r with
 | .ok (.ret u)=>CE outer P w H s Q u s'
 | .ok _=>False
 | .error e=>CX outer H s E e s'
structure zbP (P:Program) (w:World) (K:W.Frag) (mg:Str->Option Value) (base:Heap) (CX:CXT) (k:Nat) (f:Addr) (fd:FuncData) (ps:List Str) (sp:Sp):Prop where
 len: ∀ vs H Q E,sp vs H Q E->vs.length=ps.length
 run: ∀ (A:Around) (outer:List Env) (s:Shared) (H:Hp) (args:Args) (us:List Value) (vs:List V) (Q:VK) (E:XK),zfN k A->zq5 P w K mg base A outer s H->BindsTo s fd args (ps.zip us)->zby vs us->sp vs H Q E->
  codeAny (model P w) A (.call (.ref f) args) (CR CX outer P w H s Q E) s
section
variable {X:Cx} {pins:List (Addr×Obj)} {σ:St} {H:Hp} {s s':Shared}
theorem Inv.env0 (I:Inv X pins σ H s):zq5 X.prog X.w X.K X.mg X.base X.A X.stack s H:=
 ⟨I.ok.frames,I.ok.mod,I.bs,qaS I.ok.bsz I.sz,I.stack,I.stkFree,I.hok,I.bare,I.handA⟩
theorem Inv.after {Q:VK} {u:Value} (I:Inv X pins σ H s) (h:CE X.stack X.prog X.w H s Q u s'):EP X pins σ Q u s':=by
 obtain ⟨v,H',os,bare,un,hok,r,q⟩:=h
 obtain ⟨hh,g,d,t,os'⟩:=s'
 obtain rfl:os'=s.os:=os
 exact ⟨v,H',I.call (h':=hh) (g':=g) (d':=d) (t':=t) (ch:=[]) un hok bare (λb z=>absurd z (by simp)),r,q⟩
end
def zuY (sp:Sp) (dvs:List V) (E:XK) (t:TA):TE:=λσ H Q=>t σ H λvs H1=>sp (vs++dvs) H1 Q E
def zaS (K:W.Frag) (fd:FuncData) (ps:List Str) (ds:List Value):Prop:=
 ∀ (s:Shared) (us:List Value),K.In s.heap->(us++ds).length=ps.length->BindsTo s fd ⟨us,[]⟩ (ps.zip (us++ds))
theorem zaS.all {K:W.Frag} {fd:FuncData} {ps:List Str} (h: ∀ us:List Value,us.length=ps.length->bindArgs fd ⟨us,[]⟩=pure (ps.zip us)):zaS K fd ps []:=λs us _ hl=>by
 rw [append_nil] at hl ⊢
 exact .of_eq (h us hl)
def zlv (CX:CXT) (X:Cx) (E:XK):Prop:= ∀ (pins:List (Addr×Obj)) (σ:St) (H:Hp) (s:Shared) (e:Value) (s':Shared),Inv X pins σ H s->CX X.stack H s E e s'->X.xe e s'
section
variable {X:Cx} {CX:CXT} {k:Nat} {f C:Addr} {fd:FuncData} {ps:List Str} {sp:Sp} {dvs:List V} {ds:List Value} {E:XK} {x m:Str} {p pos apos:Pos} {e o:Expr} {es:List Expr} {ta:TE} {t:TA}
theorem ztg {pins:List (Addr×Obj)} {σ:St} {H:Hp} {s:Shared} {Q:VK} {us:List Value} {vs:List V} (F:zbP X.prog X.w X.K X.mg X.base CX k f fd ps sp) (hr:zfN k X.A) (hb:zaS X.K fd ps ds) (hd:zby dvs ds) (hx:zlv CX X E)
  (I:Inv X pins σ H s) (r:zby vs us) (h:sp (vs++dvs) H Q E):wpAny (model X.prog X.w) X.A (call (.ref f) us) (EP X pins σ Q) X.xe s:=by
 have r2:zby (vs++dvs) (us++ds):=r.append hd
 have hl:(us++ds).length=ps.length:=by rw [<- r2.length];exact F.len _ _ _ _ h
 refine wpAny_call (codeAny_mono (F.run X.A X.stack s H ⟨us,[]⟩ (us++ds) (vs++dvs) Q E hr I.env0 (hb s us I.kIn hl) r2 h) λr s' hq=> ?_)
 cases r with
 | error e=>exact hx pins σ H s e s' I hq
 | ok fl=>
  cases fl with
  | ret u=>exact I.after hq
  | next=>exact qa0 hq
  | brk=>exact qa0 hq
  | cont=>exact qa0 hq
theorem zpx (F:zbP X.prog X.w X.K X.mg X.base CX k f fd ps sp) (hr:zfN k X.A) (hg:Gl X x) (hm:X.mg x=some (.ref f)) (hk:W.keepIn X.K (.ref f)=true) (hb:zaS X.K fd ps ds) (hd:zby dvs ds) (hx:zlv CX X E)
  (ha:PA X (e::es) t) (hdb:(x==("__debug__":Str))=false:=by decide) (he:starEach (e::es) X.env=(false,eval e X.env)::starEach es X.env:=by rfl) (hpl:(backTo pos (starEach es X.env)).any (·.1)=false:=by rfl):
  PE X (.Call (.Name x p) (e::es) [] pos) (zuY sp dvs E t):=by
 intro pins s σ H Q I h
 refine wpAny_Call_Name_kw (zpz I hg hm ?_ hdb)
 refine W.callWith_K (h₀:=X.base) I.ok.mod.kin hk (thn (ha pos pins s σ H _ I h) λus s1 ⟨vs,H1,I1,r,q⟩=>⟨I1.kIn,?_⟩) he hpl
 exact ztg F hr hb hd hx I1 r q
structure Mk (K:W.Frag) (C f:Addr):Prop where
 makes:W.makesIn K C=true
 init:W.findIn K (.ref C) "__init__"=some (some (.ref f))
 fn:W.isFn K (.ref f)=true
 kp:W.keepIn K (.ref C)=true
end
def PK (X:Cx) (kws:List Keyword) (t:TA):Prop:=
 ∀ (pos:Pos) (pins:List (Addr×Obj)) (s:Shared) (σ:St) (H:Hp) (Q:List V->Hp->Prop),Inv X pins σ H s->t σ H Q->wpAny (model X.prog X.w) X.A (evalAll ((backToKw pos (keywordEach kws X.env)).map (·.2))) (AP X pins σ Q) X.xe s
section
variable {X:Cx} {CX:CXT} {k:Nat} {f C:Addr} {fd:FuncData} {ps ks:List Str} {sp:Sp} {E:XK} {x m:Str} {p pos apos kpos:Pos} {e o:Expr} {es:List Expr} {kws:List Keyword} {te ta:TE} {t tk:TA} {nm:Option Str}
theorem zim (ha:PE X e te) (hr:PK X kws t):PK X (⟨nm,e,kpos⟩::kws) (zqT te t):=by
 intro pos pins s σ H Q I h
 show wpAny _ _ (evalAll ((do let v<-eval e X.env;standAt pos;pure v)::(backToKw pos (keywordEach kws X.env)).map (·.2))) _ _ s
 refine wpAny_evalAll_cons (qaW (thn (ha pins s σ H _ I h) λu s1 ⟨x,H1,I1,r1,q1⟩=>qaW (wpAny_standAt (qaX ?_))))
 exact thn (hr pos pins s1 σ H1 _ I1 q1) λus s2 ⟨xs,H2,I2,r2,q2⟩=>⟨x::xs,H2,I2,.cons r1 r2,q2⟩
structure zvt (K:W.Frag) (fd:FuncData) (ps ks:List Str) (g:List Value->List Value->List Value) (gV:List V->List V->List V):Prop where
 to: ∀ (s:Shared) (us ws:List Value),K.In s.heap->(g us ws).length=ps.length->BindsTo s fd ⟨us,ks.zip ws⟩ (ps.zip (g us ws))
 rel: ∀ {vs:List V} {us:List Value} {zs:List V} {ws:List Value},zby vs us->zby zs ws->zby (gV vs zs) (g us ws)
variable {g:List Value->List Value->List Value} {gV:List V->List V->List V}
end
structure zau (N P:List Str) (sc:Scope):Prop where
 kind:sc.kind= .function
 co:sc.isCoroutine=false
 gen:sc.isGenerator=false
 nd:N.Nodup
 pre:N.take P.length=P
 par: ∀ x∈P,sc.names.lookup x=some .local\/sc.names.lookup x=some .cell
 nofree: ∀ y∈sc.names,y.2≠ .free
theorem zhh {kindOf:Str->Option NameKind} {x:Str}: ∀ {binds:List (Str×Value)} {m:Str->Option Value},(∀ v,(x,v)∉binds)->bindL kindOf binds m x=m x
 | [],_,_=>rfl
 | (n,v)::r,m,h=>by
  unfold bindL
  rw [zhh λw hw=>h w (qan _ hw)]
  split
  ·have:x≠n:=by rintro rfl;exact h v qau
   simp [this]
  ·rfl
theorem zhA {kindOf:Str->Option NameKind} {x:Str}: ∀ {binds:List (Str×Value)} {m:Str->Option Value},(∀ v,(x,v)∉binds)->bindC kindOf binds m x=m x
 | [],_,_=>rfl
 | (n,v)::r,m,h=>by
  unfold bindC
  rw [zhA λw hw=>h w (qan _ hw)]
  split
  ·rfl
  ·have:x≠n:=by rintro rfl;exact h v qau
   simp [this]
theorem zhM {kindOf:Str->Option NameKind} {x:Str} {v:Value}: ∀ {P:List Str} {vs:List Value} {i:Nat} {m:Str->Option Value},P.Nodup->P[i]? = some x->vs[i]? = some v->kindOf x=some .local->
  bindL kindOf (P.zip vs) m x=some v
 | [],_,_,_,_,h,_,_=>by simp at h
 | _::_,[],_,_,_,_,h,_=>by simp at h
 | p::P,w::vs,0,m,nd,h1,h2,hk=>by
  simp at h1 h2;subst h1;subst h2
  show bindL kindOf ((p,w)::P.zip vs) m p=_
  unfold bindL
  rw [zhh λv hv=>(nodup_cons.mp nd).1 (of_mem_zip hv).1,qa4 hk]
  simp
 | p::P,w::vs,i+1,m,nd,h1,h2,hk=>by
  show bindL kindOf ((p,w)::P.zip vs) m x=_
  unfold bindL
  exact zhM (i:=i) (nodup_cons.mp nd).2 (by simpa using h1) (by simpa using h2) hk
theorem zhz {kindOf:Str->Option NameKind} {x:Str} {v:Value}: ∀ {P:List Str} {vs:List Value} {i:Nat} {m:Str->Option Value},P.Nodup->P[i]? = some x->vs[i]? = some v->kindOf x≠some .local->
  bindC kindOf (P.zip vs) m x=some v
 | [],_,_,_,_,h,_,_=>by simp at h
 | _::_,[],_,_,_,_,h,_=>by simp at h
 | p::P,w::vs,0,m,nd,h1,h2,hk=>by
  simp at h1 h2;subst h1;subst h2
  show bindC kindOf ((p,w)::P.zip vs) m p=_
  unfold bindC
  rw [zhA λv hv=>(nodup_cons.mp nd).1 (of_mem_zip hv).1,qa5 hk]
  simp
 | p::P,w::vs,i+1,m,nd,h1,h2,hk=>by
  show bindC kindOf ((p,w)::P.zip vs) m x=_
  unfold bindC
  exact zhz (i:=i) (nodup_cons.mp nd).2 (by simpa using h1) (by simpa using h2) hk
def zfU (N:List Str) (vs:List V):St:=vs.map some++replicate (N.length - vs.length) none
def zqa (CX:CXT) (P:Program) (w:World) (K:W.Frag) (mg:Str->Option Value) (base:Heap) (N:List Str) (qual:Str) (scope:Scope) (f:Addr) (cd:Value) (A:Around) (outer:List Env) (s:Shared) (H:Hp) (E:XK):Cx where
 prog:=P
 w:=w
 K:=K
 mg:=mg
 base:=base
 A:=A.deeper (envOfC qual scope s.heap.objs.size f cd)
 N:=N
 s₀:=s
 H₀:=H
 env:=envOfC qual scope s.heap.objs.size f cd
 outer:=outer
 stack:=envOfC qual scope s.heap.objs.size f cd::outer
 ex:=[]
 calm:=true
 fn:=λ_=>true
 pn:=[]
 xe:=λe s'=>wpAny (model P w) (A.deeper (envOfC qual scope s.heap.objs.size f cd)) (leaving (envOfC qual scope s.heap.objs.size f cd) e) (λ_ s''=>CX outer H s E e s'') (λe' s''=>CX outer H s E e' s'') s'
theorem zjh {sc:Scope} {n:Nat} {x:Str} (h:sc.names.lookup x=some .cell): ∃ c,(cellsFrom n sc.names []).lookup x=some c:=by
 have q:=W.cellsFrom_some sc.names n [] (.inl h)
 exact Option.isSome_iff_exists.mp q
theorem zlM {CX:CXT} {P:Program} {w:World} {K:W.Frag} {mg:Str->Option Value} {base:Heap} {N ps:List Str} {qual:Str} {scope:Scope} {f:Addr} {cd:Value} {A:Around} {outer:List Env} {s s1:Shared} {H:Hp} {E:XK} {us:List Value} {vs:List V}
  (S:zau N ps scope) {cm:Bool} (hd:cm=true->A.handled=none) (e0:zq5 P w K mg base A outer s H) (hl:vs.length=ps.length) (r:zby vs us)
  (x:InCallC s s.heap.objs.size (bindL (envOfC qual scope s.heap.objs.size f cd).kindOf (ps.zip us) λ_=>none) (cellsFrom (s.heap.objs.size+1) scope.names []) (bindC (envOfC qual scope s.heap.objs.size f cd).kindOf (ps.zip us) λ_=>none) s1):
  Inv {zqa CX P w K mg base N qual scope f cd A outer s H E with calm:=cm} [] (zfU N vs) H s1:=by
 have hpl:ps.length<=N.length:=by have:=congrArg List.length S.pre;rw [length_take] at this;omega
 obtain ⟨h1,tk,rfl,hk⟩:=x.done
 have noA: ∀ b:Addr,b∉(zqa CX P w K mg base N qual scope f cd A outer s H E).ex:=λb z=>absurd (show b∈([]:List Addr) from z) (by simp)
 refine ⟨⟨e0.mod,S.kind,rfl,rfl,qaV _,λy z c h1 h2=> ?_,λy hy=> ?_,λy c _ h=> ?_,hd,e0.hand,Around.frames_deeper e0.frames,.inr ⟨rfl,rfl⟩,λb z=>absurd z (noA b),e0.bs,e0.bsz,λb _ _=>noA b,λb z=>absurd z (noA b),e0.funs,e0.frf⟩,
   rfl,e0.bare,Un.kept hk,⟨_,x.toInCall.ns,λi y v h1 h2 h3=> ?_⟩,λy c h=>⟨_,x.cell y c h⟩,e0.hok.fresh (qaV _),λy c h=> ?_,λp hp=>absurd (show p∈([]:List (Addr×Obj)) from hp) (by simp),e0.hok.kept hk,?_⟩
 ·exact name_of_addr x.apart (PySem.mem_of_lookup h1) (PySem.mem_of_lookup h2)
 ·have hy:scope.names.lookup y=some .cell\/scope.names.lookup y=some .free:=hy
  rcases hy with hy | hy
  ·exact zjh hy
  ·exact absurd rfl (S.nofree _ (PySem.mem_of_lookup hy))
 ·exact le_of_lt (x.above y c (PySem.mem_of_lookup h))
 ·have hi:i<vs.length:=by
   unfold zfU at h2
   by_cases hi:i<vs.length
   ·exact hi
   ·rw [qaa (by simpa using hi)] at h2
    rw [List.getElem?_replicate] at h2
    split at h2<;>cases h2
  have ha:vs[i]? = some v:=by
   unfold zfU at h2
   rw [qad (by simpa using hi),List.getElem?_map] at h2
   cases e:vs[i]? with
   | none=>rw [e] at h2;cases h2
   | some a=>rw [e] at h2;cases h2;rfl
  obtain ⟨u,hu,rv⟩:=r.get ha
  have hp:ps[i]? = some y:=by
   rw [<- S.pre,List.getElem?_take_of_lt ⋯];exact h1
  have ndP:ps.Nodup:=by rw [<- S.pre];exact S.nd.sublist (List.take_sublist _ _)
  refine ⟨u,rv,?_⟩
  rcases S.par y (List.mem_of_getElem? hp) with k | k
  ·exact .inl ⟨k,zhM ndP hp hu k⟩
  ·obtain ⟨c,e⟩:=zjh (n:=s.heap.objs.size+1) k
   refine .inr ⟨.inl k,c,e,?_⟩
   have q:=x.cell y c e
   rw [zhz ndP hp hu (by show scope.names.lookup y≠_;rw [k];decide)] at q
   exact q
 ·exact e0.hok.fresh (le_of_lt (x.above y c (PySem.mem_of_lookup h)))
 ·unfold zfU
  show _=N.length
  rw [qav,qaH,List.length_replicate]
  omega
theorem zuA {CX:CXT} {P:Program} {w:World} {K:W.Frag} {mg:Str->Option Value} {base:Heap} {k:Nat} {f:Addr} {name qual:Str} {params:Arguments} {body:List Stmt} {scope:Scope} {dV kV doc pm cdv ct oc:Value} {an od:Option Addr}
  {osl:Array (Option Value)} {N ps:List Str} {sp:Sp} (lk:K.lookup f=some ⟨oc,od,.func (W.fnOf name qual params body scope dV kV doc pm an cdv ct),osl⟩) (hcd:W.codeIn K cdv qual=true) (S:zau N ps scope)
  (len: ∀ vs H Q E,sp vs H Q E->vs.length=ps.length)
  (hbody: ∀ (A:Around) (outer:List Env) (s:Shared) (H:Hp) (vs:List V) (Q:VK) (E:XK),zfN k (A.deeper (envOfC qual scope s.heap.objs.size f cdv))->sp vs H Q E->
    ∃ t,PSs (zqa CX P w K mg base N qual scope f cdv A outer s H E) body t/\t {nx:=λ_ H'=>Q .non H',rt:=Q} (zfU N vs) H):
  zbP P w K mg base CX (k+1) f (W.fnOf name qual params body scope dV kV doc pm an cdv ct) ps sp:=by
 refine ⟨len,λA outer s H args us vs Q E hr e0 hb r hsp=> ?_⟩
 have hl:=len _ _ _ _ hsp
 have KX:K.In s.heap:=e0.mod.kin.keeps λb o e=>(e0.bs b o e).1
 have lim:s.heap.NoLimit:=e0.mod.nolimit.keeps λb o e=>(e0.bs b o e).1
 have hkind: ∀ y∈ps.zip us,scope.names.lookup y.1=some .local\/(scope.names.lookup y.1=some .cell/\((cellsFrom (s.heap.objs.size+1) scope.names []).lookup y.1).isSome=true):=λ⟨n,v⟩ hy=>by
  rcases S.par n (of_mem_zip hy).1 with q | q
  ·exact .inl q
  ·exact .inr ⟨q,W.cellsFrom_some _ _ _ (.inl q)⟩
 refine codeAny_call_function hr.depth (KX _ _ lk) rfl S.co S.gen rfl (W.codeRec_of KX hcd) (hb _ _ _ _ ?_)
 refine wpAny_newFunctionEnv_cells S.kind hkind λenv he s1 x=> ?_
 subst he
 refine ⟨lim.keeps x.toInCall.keep,codeAny_func ?_⟩
 obtain ⟨t,ht,hq⟩:=hbody A outer s H vs Q E (hr.deeper _) hsp
 have I:Inv (zqa CX P w K mg base N qual scope f cdv A outer s H E) [] (zfU N vs) H s1:=zlM (cm:=true) S (λ_=>hr.hd) e0 hl r x
 refine qaZ (ht [] s1 (zfU N vs) H _ I hq) (λfl s' hs=> ?_) λe s' hs=>hs
 have fin: ∀ {σ':St} {H':Hp} {v:V} {u:Value},Inv (zqa CX P w K mg base N qual scope f cdv A outer s H E) [] σ' H' s'->zcc v u->Q v H'->CE outer P w H s Q u s':=
  λ{σ' H' v u} J rv q=>⟨v,H',J.os,J.bare,J.base,J.hok,rv,q⟩
 cases fl with
 | ret u=>
  obtain ⟨v,σ',H',J,rv,q⟩:=hs
  exact fin J rv q
 | next=>
  obtain ⟨σ',H',J,q⟩:=hs
  exact fin (v:=V.non) (u:=Value.none) J rfl q
 | brk=>
  obtain ⟨_,_,_,q⟩:=hs
  exact qa0 q
 | cont=>
  obtain ⟨_,_,_,q⟩:=hs
  exact qa0 q
section
variable {X:Cx} {x:Str} {p pos:Pos} {e:Expr} {es:List Expr} {t:TA} {id T:String} {r:List V->Hp->VK->Prop}
def tCB (r:List V->Hp->VK->Prop) (t:TA):TE:=λσ H Q=>t σ H λvs H1=>r vs H1 Q
theorem zgU (hc:zba X (.builtin id) r) (hg:Gl X x) (hm:X.mg x=none) (hv:bootBuiltins x=some (.builtin id)) (ha:PA X (e::es) t) (hn:x≠"__name__":=by decide) (hdb:(x==("__debug__":Str))=false:=by decide)
  (he:starEach (e::es) X.env=(false,eval e X.env)::starEach es X.env:=by rfl) (hpl:(backTo pos (starEach es X.env)).any (·.1)=false:=by rfl):PE X (.Call (.Name x p) (e::es) [] pos) (tCB r t):=by
 intro pins s σ H Q I h
 refine wpAny_Call_Name_kw (zeN I hg hm hv ?_ hn hdb)
 exact PyProof.Rows.callWith_builtin1 (thn (ha pos pins s σ H _ I h) λus s1 ⟨vs,H1,I1,r1,q1⟩=>hc pins s1 σ H1 vs us Q I1 r1 q1) he hpl
theorem zej (hc:zba X (.type T) r) (hg:Gl X x) (hm:X.mg x=none) (hv:bootBuiltins x=some (.type T)) (ha:PA X (e::es) t) (hn:x≠"__name__":=by decide) (hdb:(x==("__debug__":Str))=false:=by decide)
  (he:starEach (e::es) X.env=(false,eval e X.env)::starEach es X.env:=by rfl) (hpl:(backTo pos (starEach es X.env)).any (·.1)=false:=by rfl):PE X (.Call (.Name x p) (e::es) [] pos) (tCB r t):=by
 intro pins s σ H Q I h
 refine wpAny_Call_Name_kw (zeN I hg hm hv ?_ hn hdb)
 exact PyProof.Rows.callWith_type1 (thn (ha pos pins s σ H _ I h) λus s1 ⟨vs,H1,I1,r1,q1⟩=>hc pins s1 σ H1 vs us Q I1 r1 q1) he hpl
end
end L2
namespace HT
section
open PySem.SeqAt
open PySem.AutoSeq1 (wpAny_loadPart')
open PySem.MeetsSeq PySem.MeetsSeq2 PySem.MeetsSeq3
end
section
variable {prog:Program} {w:World} {A:Around} {E:Value->Shared->Prop} {s:Shared}
theorem zpV {t b:Addr} {vs ws:List Value} {Q:Value->Shared->Prop} (ht:IsTup s.heap t vs.toArray) (hb:IsTup s.heap b ws.toArray) (hv:vs≠[])
  (h1:ws=[]->Q (.ref t) s) (h2:ws≠[]->Q (.ref s.heap.objs.size) {s with heap:=s.heap.push {cls:= .type "tuple",data:= .seq (vs++ws).toArray}})
  (hsz:vs.length+ws.length<=sizeLine):wpAny (model prog w) A (binaryOp .Add (.ref t) (.ref b)) Q E s:=by
 obtain ⟨⟨cls,dd,data,sl⟩,ho,hc,n,hd⟩:=id ht
 obtain ⟨⟨cls2,dd2,data2,sl2⟩,ho2,hc2,n2,hd2⟩:=id hb
 simp only at hc hd hc2 hd2
 subst hc hd hc2 hd2
 have e:vs.toArray++ws.toArray=(vs++ws).toArray:=by simp
 by_cases hw:ws=[]
 ·exact concat_meets ⟨_,ho,rfl⟩ ⟨_,ho2,rfl⟩ noFill_tuple_add seq_tuple_add PySem.F.slot_tuple_add PySem.F.entry_tuple_add (PySem.F.args_tuple_add_2 _ _)
   (tuple_addW1 t b vs.toArray ws.toArray n n2 dd dd2 sl sl2 (by simpa using hv) (by simp [hw])) ⟨ho,ho2,h1 hw⟩
 ·refine concat_meets ⟨_,ho,rfl⟩ ⟨_,ho2,rfl⟩ noFill_tuple_add seq_tuple_add PySem.F.slot_tuple_add PySem.F.entry_tuple_add (PySem.F.args_tuple_add_2 _ _)
   (tuple_addW2 t b vs.toArray ws.toArray n n2 dd dd2 sl sl2 (by simpa using hv) (by simpa using hw) (by rw [qaA,qaA];exact hsz)) ⟨ho,ho2,?_⟩
  rw [e]
  exact h2 hw
def sIx (n d:Nat):Option Int->Nat
 | none=>d
 | some v=>if v<0 then (v+(n:Int)).toNat else min v.toNat n
end
end HT
namespace L2
abbrev TO:=St->Hp->(Option Int->Hp->Prop)->Prop
theorem zc0 {ns:List Int}: ∀ {us:List Value},zby (ns.map V.int) us->IntsAre us ns:=by
 induction ns with
 | nil=>intro us r;rw [map_nil] at r;cases r;exact .nil
 | cons n ns ih=>
  intro us r
  rw [qaM] at r
  cases r with
  | cons r1 r2=>
   obtain ⟨t,e⟩:=r1
   subst e
   exact .cons n t (ih r2)
section
variable {X:Cx} {e:Expr} {te:TE} {lo hi:Option Expr} {tl th:TO} {pos p2:Pos}
def zu3 (K:W.Frag):R2:=λx y H Q=> ∃ a b xs ys,x= .ref a/\y= .ref b/\SqT K H a xs/\SqT K H b ys/\xs≠[]/\xs.length+ys.length<=sizeLine/\
 (ys=[]->Q (.ref a) H)/\(ys≠[]-> ∀ p,H p=none->Q (.ref p) (upd H p (.tup (xs++ys))))
theorem zby.nil_iff {xs:List V} {us:List Value} (r:zby xs us):us=[]↔xs=[]:=by
 cases r with
 | nil=>simp
 | cons _ _=>simp
theorem zqm:OpR X (binaryOp .Add) (zu3 X.K):=by
 intro pins s σ H x y v u Q I rx ry h
 obtain ⟨a,b,xs,ys,rfl,rfl,ha,hb,hx,hz,q1,q2⟩:=h
 cases rx
 cases ry
 obtain ⟨its,r1,p1,_⟩:=I.tuple ha
 obtain ⟨its2,r2,p2,_⟩:=I.tuple hb
 refine HT.zpV p1 p2 (λz=>hx (r1.nil_iff.mp z)) (λz=>⟨.ref a,H,I,rfl,q1 (r2.nil_iff.mp z)⟩) (λz=> ?_) (by rw [<- r1.length, <-r2.length];exact hz)
 refine ⟨.ref s.heap.objs.size,_,I.laid (t':=s.toks) (o:= .tup (xs++ys)) (λb ob q=>qag _ q) (qaV _) ?_,rfl,q2 (λw=>z (r2.nil_iff.mpr w)) _ (I.hok.fresh (qaV _))⟩
 exact ⟨by rw [qav];exact hz,_,r1.append r2,zjV.new _ _⟩
end
def ixN (n:Nat) (i:Int):Option Nat:=if 0<=i then (if i<n then some i.toNat else none) else if -(n:Int)<=i then some (i+n).toNat else none
def atI {α:Type} (xs:List α) (i:Int):Option α:=(ixN xs.length i).bind λj=>xs[j]?
theorem zkZ {n:Nat} {i:Int} {j:Nat} (h:ixN n i=some j):seqIndex? i n=some j/\j<n/\ -(n:Int)<=i/\i<n:=by
 unfold ixN at h
 by_cases h0:0<=i
 ·rw [qa4 h0] at h
  by_cases h1:i<n
  ·rw [qa4 h1] at h
   have e:i.toNat=j:=Option.some.inj h
   exact ⟨by rw [seqIndex_of h0 h1,e],⋯,⋯,h1⟩
  ·rw [qa5 h1] at h;cases h
 ·rw [qa5 h0] at h
  by_cases h1: -(n:Int)<=i
  ·rw [qa4 h1] at h
   have e:(i+n).toNat=j:=Option.some.inj h
   exact ⟨by rw [seqIndex_neg ⋯ h1,e],⋯,h1,⋯⟩
  ·rw [qa5 h1] at h;cases h
theorem zkc {α:Type} {xs:List α} {i:Int} {v:α} (h:atI xs i=some v): ∃ j,seqIndex? i xs.length=some j/\xs[j]? = some v/\j<xs.length/\ -(xs.length:Int)<=i/\i<xs.length:=by
 unfold atI at h
 cases e:ixN xs.length i with
 | none=>rw [e] at h;cases h
 | some j=>
  rw [e] at h
  obtain ⟨h1,h2,h3,h4⟩:=zkZ e
  exact ⟨j,h1,h,h2,h3,h4⟩
theorem zfD {α:Type} {xs:List α} {j:Nat} {v:α} (h:xs[j]? = some v):atI xs (j:Int)=some v:=by
 have hj:j<xs.length:=(qac.mp h).1
 have e:ixN xs.length (j:Int)=some j:=by
  unfold ixN
  rw [qa4 ⋯,qa4 ⋯];simp
 unfold atI;rw [e];exact h
def ziA (b:Expr):Prop:= ∀ o i,subscripted b false o i=operate [o,i] (getItem o i)
def IxR (X:Cx) (r:R2):Prop:=
 ∀ (value slice:Expr) (pins:List (Addr×Obj)) (s:Shared) (σ:St) (H:Hp) (x y:V) (v u:Value) (Q:VK),Inv X pins σ H s->zcc x v->zcc y u->r x y H Q->
  subscripted slice false v u=operate [v,u] (getItem v u)->wpAny (model X.prog X.w) X.A (subscriptTail value slice v u) (EP X pins σ Q) X.xe s
def MtR (X:Cx) (id:String) (r:V->List V->Hp->VK->Prop):Prop:=
 ∀ (pins:List (Addr×Obj)) (s:Shared) (σ:St) (H:Hp) (x:V) (xs:List V) (v:Value) (us:List Value) (Q:VK),Inv X pins σ H s->zcc x v->zby xs us->r x xs H Q->
  wpAny (model X.prog X.w) X.A (call (.builtin id) (v::us)) (EP X pins σ Q) X.xe s
section
variable {X:Cx} {a b:Expr} {ta tb:TE} {pos:Pos}
theorem IxR.or {r r':R2} (h:IxR X r) (h':IxR X r'):IxR X (λx y H Q=>r x y H Q\/r' x y H Q):=by
 intro value slice pins s σ H x y v u Q I rx ry q hs
 rcases q with q | q
 ·exact h value slice pins s σ H x y v u Q I rx ry q hs
 ·exact h' value slice pins s σ H x y v u Q I rx ry q hs
theorem zt1 {r:R2} (hr:IxR X r) (ha:PE X a ta) (hb:PE X b tb) (hs:ziA b):PE X (.Subscript a b pos) (tOp r ta tb):=by
 intro pins s σ H Q I h
 exact Subscript_ (zu7 ha hb I h λv u s2 x y H2 I2 rx ry q=>hr a b pins s2 σ H2 x y v u Q I2 rx ry q (hs _ _))
def zvX (K:W.Frag):R2:=λx y H Q=> ∃ p xs i v,x= .ref p/\y= .int i/\SqL K H p xs/\atI xs i=some v/\Q v H
def zvF (K:W.Frag):R2:=λx y H Q=> ∃ p xs i v,x= .ref p/\y= .int i/\SqT K H p xs/\atI xs i=some v/\Q v H
theorem zqe:IxR X (zvX X.K):=by
 intro value slice pins s σ H x y v u Q I rx ry h hs
 obtain ⟨p,xs,i,z,rfl,rfl,hq,he,q⟩:=h
 cases rx
 obtain ⟨t,rfl⟩:=ry
 obtain ⟨its,r,pl,hz⟩:=I.list hq
 obtain ⟨j,h1,h2,h3,h4,h5⟩:=zkc he
 obtain ⟨w,ew,rw'⟩:=r.get h2
 have hl:=r.length
 have hn:=zjp
 have fin:EP X pins σ Q w s:=⟨z,H,I,rw',q⟩
 by_cases h0:0<=i
 ·have hj:i.toNat=j:=by
   rw [seqIndex_of h0 h5] at h1
   exact Option.some.inj h1
  exact item_listR pl.isList h0 ⋯ (by rw [hj];simpa using ew) fin hs
 ·have hj:(i+(its.toArray.size:Int)).toNat=j:=by
   rw [seqIndex_neg ⋯ h4] at h1
   rw [qaA, <-hl]
   exact Option.some.inj h1
  exact subscriptTail_builtinR (x:=w) pl.isList.typeIs slot_list_getitem.lookup
   (wpAny_getItem_list_neg (Q:=λr s'=>r=w/\EP X pins σ Q r s') pl.isList ⋯ (by rw [qaA]<;>omega) ⋯ (by rw [hj];simpa using ew) ⟨rfl,fin⟩) hs
theorem zrG:IxR X (zvF X.K):=by
 intro value slice pins s σ H x y v u Q I rx ry h hs
 obtain ⟨p,xs,i,z,rfl,rfl,hq,he,q⟩:=h
 cases rx
 obtain ⟨t,rfl⟩:=ry
 obtain ⟨its,r,pl,hz⟩:=I.tuple hq
 obtain ⟨j,h1,h2,h3,h4,h5⟩:=zkc he
 obtain ⟨w,ew,rw'⟩:=r.get h2
 have hl:=r.length
 have hn:=zjp
 have fin:EP X pins σ Q w s:=⟨z,H,I,rw',q⟩
 exact subscriptTail_builtinR (x:=w) pl.typeIs slot_tuple_getitem.lookup
  (getItem_tuple (j:=j) (Q:=λr s'=>r=w/\EP X pins σ Q r s') pl ⋯ ⋯ (by rw [qaA, <-hl];exact h1) (by simpa using ew) ⟨rfl,fin⟩) hs
theorem zjQ (its:List Value) (n j:Nat) (u:Value):Obj.mapSeq (·.setIfInBounds j u) {cls:= .type "list",data:= .seq its.toArray n}={cls:= .type "list",data:= .seq (its.set j u).toArray n}:=by
 simp [Obj.mapSeq]
theorem Inv.lst {pins:List (Addr×Obj)} {σ:St} {H:Hp} {s:Shared} {p:Addr} {xs:List V} (I:Inv X pins σ H s) (h:H p=some (.lst xs)):
  ∃ (its:List Value) (n:Nat),zby xs its/\s.heap.get? p=some {cls:= .type "list",data:= .seq its.toArray n}/\xs.length<=sizeLine:=by
 obtain ⟨z,its,n,r,e⟩:=I.hok p _ h
 exact ⟨its,n,r,e,z⟩
theorem Inv.lstUpd {pins:List (Addr×Obj)} {σ:St} {H:Hp} {s:Shared} {p:Addr} {xs ys:List V} {its its':List Value} {n n':Nat} {f:Obj->Obj} (I:Inv X pins σ H s) (h:H p=some (.lst xs))
  (ho:s.heap.get? p=some {cls:= .type "list",data:= .seq its.toArray n}) (hf:f {cls:= .type "list",data:= .seq its.toArray n}={cls:= .type "list",data:= .seq its'.toArray n'}) (r:zby ys its') (hz:ys.length<=sizeLine) (t:Nat):
  Inv X pins σ (upd H p (.lst ys)) {s with heap:=s.heap.update p f,toks:=t}:=by
 have e:(s.heap.update p f).get? p=some {cls:= .type "list",data:= .seq its'.toArray n'}:=by
  rw [qal f ho (by rw [hf]<;>rfl),hf]
 refine I.write (x:=p) (e:=p) (by rw [h];trivial) (.inl rfl) (λb u hb q=>(qah _ _ (Ne.symm hb)).trans q) ⟨_,e⟩ ?_
 exact ⟨hz,its',n',r,e⟩
def zuw:V->V->V->Hp->(Hp->Prop)->Prop:=λo i v H Q=> ∃ p xs k j,o= .ref p/\i= .int k/\H p=some (.lst xs)/\ixN xs.length k=some j/\Q (upd H p (.lst (xs.set j v)))
theorem zmU:zvd X zuw:=by
 intro pins s σ H o i v ov iv u Q I ro ri rv h
 obtain ⟨p,xs,k,j,rfl,rfl,hp,hj,q⟩:=h
 cases ro
 obtain ⟨t,rfl⟩:=ri
 obtain ⟨its,n,r,ho,hz⟩:=I.lst hp
 obtain ⟨h1,h2,h3,h4⟩:=zkZ hj
 have hl:=r.length
 have hn:=zjp
 have I':Inv X pins σ (upd H p (.lst (xs.set j v))) {s with heap:=s.heap.update p (Obj.mapSeq (·.setIfInBounds j u))}:=
  I.lstUpd hp ho (zjQ its n j u) (r.set rv j) (by rw [qaI];exact hz) s.toks
 by_cases h0:0<=k
 ·have hk:k.toNat=j:=by
   rw [seqIndex_of h0 h4] at h1
   exact Option.some.inj h1
  exact W.ki_setAt ho h0 ⋯ (by rw [qaA, <-hl];exact h4) (by rw [hk];exact ⟨_,I',q⟩)
 ·have hk:(k+(its.toArray.size:Int)).toNat=j:=by
   rw [seqIndex_neg ⋯ h3] at h1
   rw [qaA, <-hl]
   exact Option.some.inj h1
  exact W.ki_setBack ho ⋯ (by rw [qaA, <-hl];exact h3) ⋯ (by rw [hk];exact ⟨_,I',q⟩)
theorem zhb:zba X (.builtin "len") (λxs H Q=> ∃ p ys,xs=[.ref p]/\(SqL X.K H p ys\/SqT X.K H p ys)/\Q (.int ys.length) H):=by
 intro pins s σ H xs us Q I r h
 obtain ⟨p,ys,rfl,hq,q⟩:=h
 obtain ⟨u,rfl,rx⟩:=zeM r
 cases rx
 have hn:=zjp
 rcases hq with hq | hq
 ·obtain ⟨its,r',pl,hz⟩:=I.list hq
  have hlen:=r'.length
  exact Calls.call_len_list pl.isList (by simp only [qaA]<;>omega) ⟨.int ys.length,H,I.tok _,⟨s.toks+1,by rw [qaA,hlen]⟩,q⟩
 ·obtain ⟨its,r',pl,hz⟩:=I.tuple hq
  have hlen:=r'.length
  exact len_tuple pl (by simp only [qaA]<;>omega) ⟨.int ys.length,H,I.tok _,⟨s.toks+1,by rw [qaA,hlen]⟩,q⟩
theorem zgt:zba X (.type "tuple") (λxs H Q=> ∃ p ys,xs=[.ref p]/\((SqL X.K H p ys/\ ∀ l,H l=none->Q (.ref l) (upd H l (.tup ys)))\/(SqT X.K H p ys/\Q (.ref p) H))):=by
 intro pins s σ H xs us Q I r h
 obtain ⟨p,ys,rfl,h⟩:=h
 obtain ⟨u,rfl,rx⟩:=zeM r
 cases rx
 rcases h with ⟨hq,q⟩ | ⟨hq,q⟩
 ·obtain ⟨its,r',pl,hz⟩:=I.list hq
  have hlen:=r'.length
  refine call_tuple_list pl.isList (λh' kp=> ?_) (by simp only [qaA]<;>omega)
  have I1:Inv X pins σ H {s with heap:=h'}:=I.kept (t':=s.toks) kp
  have I2:Inv X pins σ (upd H h'.objs.size (.tup ys)) {s with heap:=h'.push {cls:= .type "tuple",data:= .seq its.toArray}}:=
   I1.laid (t':=s.toks) (λb o e=>qag _ e) (qaV _) (show zbW X.prog X.w _ _ _ (.tup ys) from ⟨hz,its,r',zjV.new _ _⟩)
  exact ⟨.ref h'.objs.size,_,I2,rfl,q _ (I1.hok.fresh (qaV _))⟩
 ·obtain ⟨its,r',pl,hz⟩:=I.tuple hq
  exact call_tuple_same pl ⟨.ref p,H,I,rfl,q⟩
def tyV (K:W.Frag) (T:String) (x:V) (H:Hp):Prop:=match x with
 | .str _=>T="str"
 | .int _=>T="int"
 | .ref p=>(T="list"/\ ∃ xs,SqL K H p xs)\/(T="tuple"/\ ∃ xs,SqT K H p xs)\/
   (T="dict"/\((∃ kvs,H p=some (.dK kvs))\/ ∃ kvs,H p=some (.dT kvs)))\/(T="set"/\ ∃ S n,H p=some (.set S n))
 | _=>False
theorem zs2 {pins:List (Addr×Obj)} {σ:St} {H:Hp} {s:Shared} {T:String} {x:V} {v:Value} (I:Inv X pins σ H s) (r:zcc x v) (ty:tyV X.K T x H):
  s.TypeIs v T/\ ∀ a,v= .ref a-> ∃ ob,s.heap.get? a=some ob/\ob.dict=none:=by
 cases x with
 | str z=>
  obtain ⟨t,rfl⟩:=r
  cases (show T="str" from ty)
  exact ⟨typeIs_str s z t,λ_ e=>nomatch e⟩
 | int i=>
  obtain ⟨t,rfl⟩:=r
  cases (show T="int" from ty)
  exact ⟨typeIs_int s i t,λ_ e=>nomatch e⟩
 | ref p=>
  cases r
  rcases ty with ⟨rfl,xs,hq⟩ | ⟨rfl,xs,hq⟩ | ⟨rfl,hk⟩ | ⟨rfl,S,n,hk⟩
  ·obtain ⟨its,_,pl,_⟩:=I.list hq
   refine ⟨pl.isList.typeIs,λa e=> ?_⟩
   cases e
   obtain ⟨o,n,e,c,hd,_⟩:=pl
   exact ⟨o,e,hd⟩
  ·obtain ⟨its,_,⟨o,e,c,n,_,hd⟩,_⟩:=I.tupleD hq
   refine ⟨⟨o,e,c⟩,λa e2=> ?_⟩
   cases e2
   exact ⟨o,e,hd⟩
  ·have z: ∃ o,s.heap.get? p=some o/\o.ExactDict:=by
    rcases hk with ⟨kvs,hk⟩ | ⟨kvs,hk⟩
    ·obtain ⟨_,_,_,_,o,_,_,e,ex,_⟩:=I.hok p _ hk
     exact ⟨o,e,ex⟩
    ·obtain ⟨_,_,_,_,o,_,_,e,ex,_⟩:=I.hok p _ hk
     exact ⟨o,e,ex⟩
   obtain ⟨o,e,ex⟩:=z
   refine ⟨⟨o,e,ex.1⟩,λa e2=> ?_⟩
   cases e2
   exact ⟨o,e,ex.2.1⟩
  ·obtain ⟨o,_,_,_,e,ex,_⟩:=I.hok p _ hk
   refine ⟨⟨o,e,ex.1⟩,λa e2=> ?_⟩
   cases e2
   exact ⟨o,e,ex.2.1⟩
 | _=>exact qa0 ty
def tBM (K:W.Frag) (T:String) (r:V->List V->Hp->VK->Prop) (to:TE) (t:TA):TE:=λσ H Q=>to σ H λx H1=>tyV K T x H1/\t σ H1 λxs H2=>r x xs H2 Q
variable {o e:Expr} {es:List Expr} {to:TE} {t:TA} {name:Str} {apos cpos:Pos} {T id:String} {r:V->List V->Hp->VK->Prop}
theorem zmq (pa:PlainAttrs T) (slot:Slot T name id) (hty:typeOf (.builtin id)=pure (.type "method_descriptor")) (hm:MtR X id r) (ho:PE X o to) (ha:PA X (e::es) t)
  (hbase:attributeBase o name X.env (eval o X.env)=eval o X.env:=by rfl)
  (hfew:((backTo cpos (starEach (e::es) X.env)).all (λx=> !x.1) && (backToKw cpos (keywordEach [] X.env)).all (λx=>x.1.isSome)
    && decide ((e::es).length+([]:List Keyword).length+(if ([]:List Keyword).isEmpty then 0 else 1)<30))=true:=by rfl)
  (hline:(apos.endLine==cpos.line)=true:=by rfl) (hs:starEach (e::es) X.env=(false,eval e X.env)::starEach es X.env:=by rfl) (hplain:(backTo cpos (starEach es X.env)).any (·.1)=false:=by rfl):
  PE X (.Call (.Attribute o name apos) (e::es) [] cpos) (tBM X.K T r to t):=by
 intro pins s σ H Q I h
 refine wpAny_Call_method_late hbase hfew hline rfl (thn (ho pins s σ H _ I h) λv s1 ⟨x,H1,I1,r1,ty,q1⟩=> ?_)
 obtain ⟨h1,h2⟩:=zs2 I1 r1 ty
 refine ⟨T,id,pa,slot,hty,h1,h2,?_⟩
 have hA:=ha cpos pins s1 σ H1 _ I1 q1
 rw [hs] at hA ⊢
 refine Calls.callWith_builtin (by show (false || (backTo cpos (starEach es X.env)).any (·.1))=false;rw [hplain]<;>rfl) (Calls.evalArgs_plain ?_)
 exact thn hA λus s2 ⟨vs,H2,I2,r2,q2⟩=>hm pins s2 σ H2 x vs v us Q I2 r1 r2 q2
end
def MtM (X:Cx) (id:String) (r:V->List V->Hp->VK->Prop):Prop:=
 ∀ (pins:List (Addr×Obj)) (s:Shared) (σ:St) (H:Hp) (x:V) (xs:List V) (v:Value) (us:List Value) (Q:VK),Inv X pins σ H s->zcc x v->zby xs us->r x xs H Q->
  wpAny (model X.prog X.w) X.A (call (.builtin id) (v::us)) (EP X pins σ Q) X.xe s
theorem zby.one: ∀ {x:V} {us:List Value},zby [x] us-> ∃ u,us=[u]/\zcc x u
 | _,_,.cons r .nil=>⟨_,rfl,r⟩
theorem zby.two: ∀ {x y:V} {us:List Value},zby [x,y] us-> ∃ u v,us=[u,v]/\zcc x u/\zcc y v
 | _,_,_,.cons r (.cons q .nil)=>⟨_,_,rfl,r,q⟩
theorem zby.eraseIdx: ∀ {xs:List V} {us:List Value} (i:Nat),zby xs us->zby (xs.eraseIdx i) (us.eraseIdx i)
 | _,_,_,.nil=> .nil
 | _,_,0,.cons _ t=>t
 | _,_,i+1,.cons r t=> .cons r (zby.eraseIdx i t)
theorem zby.rep {xs:List V} {us:List Value} (h:zby xs us): ∀ k:Nat,zby (replicate k xs).flatten (replicate k us).flatten
 | 0=> .nil
 | k+1=>by
  rw [replicate_succ,replicate_succ,flatten_cons,flatten_cons]
  exact zby.append h (zby.rep h k)
theorem zhx {α:Type}: ∀ (l:List α) (i:Nat),(l.eraseIdx i).length<=l.length
 | [],_=>qaV _
 | _::_,0=>le_succ _
 | _::r,i+1=>Nat.succ_le_succ (zhx r i)
theorem zfo (its:List Value): ∀ (k:Nat) (acc:List Value),
  List.foldl (λx1 x2=>x1++x2) acc.toArray (replicate k its.toArray)=(acc++(replicate k its).flatten).toArray
 | 0,acc=>by simp
 | k+1,acc=>by
  have e:acc.toArray++its.toArray=(acc++its).toArray:=by simp
  have e2:(acc++its)++(replicate k its).flatten=acc++(replicate (k+1) its).flatten:=by
   rw [replicate_succ,flatten_cons,List.append_assoc]
  rw [<- e2, <-zfo its k (acc++its), <-e,replicate_succ,foldl_cons]
section
variable {X:Cx} {pins:List (Addr×Obj)} {σ:St} {H:Hp} {s:Shared} {l b:Addr} {xs ys zs:List V}
theorem Inv.lset {its its':List Value} {n:Nat} {f:Array Value->Array Value} {t':Nat} (I:Inv X pins σ H s) (hH:H l=some (.lst xs))
  (e:s.heap.get? l=some {cls:= .type "list",data:= .seq its.toArray n}) (hf:f its.toArray=its'.toArray) (hv:zby ys its') (hz:ys.length<=sizeLine):
  Inv X pins σ (upd H l (.lst ys)) {s with heap:=s.heap.update l (Obj.mapSeq f),toks:=t'}:=by
 have q:=PySem.IsL.update e f
 rw [hf] at q
 refine I.write (x:=l) (e:=l) (by rw [hH];exact trivial) (.inl rfl) (λb' u hb hu=>(qah s.heap (Obj.mapSeq f) (Ne.symm hb)).trans hu) ⟨_,q⟩ ?_
 exact ⟨hz,its',_,hv,q⟩
theorem Inv.lnew {its:List Value} {t':Nat} (I:Inv X pins σ H s) (hv:zby ys its) (hz:ys.length<=sizeLine):
  Inv X pins σ (upd H s.heap.objs.size (.lst ys)) {s with heap:=s.heap.push {cls:= .type "list",data:= .seq its.toArray},toks:=t'}:=
 I.laid (λ_ _ q=>qag _ q) (qaV _) ⟨hz,its,0,hv,qar _ rfl⟩
theorem Inv.fresh (I:Inv X pins σ H s):H s.heap.objs.size=none:=I.hok.fresh (qaV _)
theorem Inv.lstM (I:Inv X pins σ H s) (hH:H l=some (.lst xs)):xs.length<=sizeLine/\ ∃ (its:List Value) (n:Nat),zby xs its/\xs.length=its.length/\s.heap.get? l=some {cls:= .type "list",data:= .seq its.toArray n}:=by
 obtain ⟨z,its,n,r,e⟩:=I.hok l _ hH
 exact ⟨z,its,n,r,r.length,e⟩
theorem ziD {n:Nat} (h:n<=sizeLine):Builtin.List.listTooLong n=false:=by
 unfold Builtin.List.listTooLong
 exact decide_eq_false ⋯
end
section
variable {X:Cx}
def zpn:V->List V->Hp->VK->Prop:=λx vs H Q=> ∃ l xs y,x= .ref l/\vs=[y]/\H l=some (.lst xs)/\xs.length<sizeLine/\Q .non (upd H l (.lst (xs++[y])))
theorem zho:MtM X "list.append" zpn:=by
 intro pins s σ H x vs v us Q I rx rv h
 obtain ⟨l,xs,y,rfl,rfl,hH,hz,q⟩:=h
 cases rx
 obtain ⟨u,rfl,ru⟩:=rv.one
 obtain ⟨z,its,n,r,hl,e⟩:=I.lstM hH
 refine call_meets F.slot_list_append ⟨_,e,rfl⟩ F.entry_list_append (F.args_list_append_2 _ _) (PySem.list_append l its.toArray n u (by rw [qaA];omega)) ⟨e,?_⟩
 refine ⟨.non,_,I.lset (its':=its++[u]) hH e (by simp) (r.append (.cons ru .nil)) ?_,rfl,q⟩
 rw [qav,length_singleton]
 omega
def zrT:V->List V->Hp->VK->Prop:=λx vs H Q=> ∃ l xs i k y,x= .ref l/\vs=[.int i]/\H l=some (.lst xs)/\ -(2^63)<=i/\i<2^63/\seqIndex? i xs.length=some k/\xs[k]? = some y/\Q y (upd H l (.lst (xs.eraseIdx k)))
theorem znj:MtM X "list.pop" zrT:=by
 intro pins s σ H x vs v us Q I rx rv h
 obtain ⟨l,xs,i,k,y,rfl,rfl,hH,h1,h2,hk,hy,q⟩:=h
 cases rx
 obtain ⟨u,rfl,ru⟩:=rv.one
 obtain ⟨t,rfl⟩:=ru
 obtain ⟨z,its,n,r,hl,e⟩:=I.lstM hH
 obtain ⟨w,hw,rw'⟩:=r.get hy
 refine call_meets F.slot_list_pop ⟨_,e,rfl⟩ F.entry_list_pop (F.args_list_pop_2 _ _)
  (MeetsSeq.list_pop_at l its.toArray n i t k w (fitsIndex_both h1 h2) (by rw [qaA, <-hl];exact hk) (by rw [<- Array.getElem?_toList];exact hw) (by rw [qaA];omega)) ⟨e,?_⟩
 refine ⟨y,_,I.lset (its':=its.eraseIdx k) hH e ?_ (r.eraseIdx k) ?_,rw',q⟩
 ·show its.toArray.eraseIdxIfInBounds k=(its.eraseIdx k).toArray
  rw [List.eraseIdxIfInBounds_toArray]
 ·have:=zhx xs k
  omega
def zwa:R2:=λx y H Q=> ∃ l b xs zs,x= .ref l/\y= .ref b/\H l=some (.lst xs)/\H b=some (.lst zs)/\xs.length+zs.length<=sizeLine/\ ∀ p,H p=none->Q (.ref p) (upd H p (.lst (xs++zs)))
theorem zqU:OpR X (binaryOp .Add) zwa:=by
 intro pins s σ H x y v u Q I rx ry h
 obtain ⟨l,b,xs,zs,rfl,rfl,hH,hB,hz,q⟩:=h
 cases rx
 cases ry
 obtain ⟨z,its,n,r,hl,e⟩:=I.lstM hH
 obtain ⟨z2,its2,n2,r2,hl2,e2⟩:=I.lstM hB
 refine PySem.P.add_list e e2 ?_ (by rw [qaA,qaA];omega)
 have ea:its.toArray++its2.toArray=(its++its2).toArray:=by simp
 rw [ea]
 exact ⟨.ref _,_,I.lnew (t':=s.toks) (r.append r2) (by rw [qav];omega),rfl,q _ I.fresh⟩
def zvN:R2:=λx y H Q=> ∃ l k xs,x= .ref l/\y= .int k/\H l=some (.lst xs)/\ -(2^63)<=k/\k<2^63/\xs.length*k.toNat<=sizeLine/\
 ∀ p,H p=none->Q (.ref p) (upd H p (.lst (replicate k.toNat xs).flatten))
theorem zk2 {α:Type} (xs:List α) (k:Nat):(replicate k xs).flatten.length=k*xs.length:=by
 induction k with
 | zero=>simp
 | succ k ih=>rw [replicate_succ,flatten_cons,qav,ih,Nat.succ_mul,Nat.add_comm]
theorem zsm:OpR X (binaryOp .Mult) zvN:=by
 intro pins s σ H x y v u Q I rx ry h
 obtain ⟨l,k,xs,rfl,rfl,hH,h1,h2,hz,q⟩:=h
 cases rx
 obtain ⟨t,rfl⟩:=ry
 obtain ⟨z,its,n,r,hl,e⟩:=I.lstM hH
 have hlen:its.toArray.size*k.toNat<=sizeLine:=by rw [qaA, <-hl];exact hz
 have hcap: ¬its.toArray.size*k.toNat>(2^63 - 1) / 8:=by
  have:(sizeLine:Nat)<=(2^63 - 1) / 8:=by decide
  omega
 have hfit: ¬(!Builtin.List.listFitsIndex k)=true:=by
  rw [fitsIndex_both h1 h2]
  exact Bool.false_ne_true
 have hlong: ¬Builtin.List.listTooLong (its.toArray.size*k.toNat)=true:=by
  rw [ziD hlen]
  exact Bool.false_ne_true
 have hnew:List.foldl (λx1 x2=>x1++x2) #[] (replicate (if its.toArray.isEmpty=true then 0 else k.toNat) its.toArray)=(replicate k.toNat its).flatten.toArray:=by
  have f0: ∀ m:Nat,List.foldl (λx1 x2=>x1++x2) #[] (replicate m its.toArray)=(replicate m its).flatten.toArray:=λm=>by
   have:=zfo its m []
   rw [nil_append] at this
   exact this
  rw [f0]
  cases its with
  | nil=>simp
  | cons a r'=>rw [qa5 (by simp)]
 refine wpAny_binaryOp_repeat_ref (T:="list") (U:="int") (by decide) ⟨_,e,rfl⟩ (λs'=>typeIs_int s' k t) noFill_list_mul F.fills_int_mul F.slot_int_rmul repeat_list F.slot_int_index.lookup
  (call_meets F.slot_int_rmul (typeIs_int s k t) F.entry_int_rmul (F.args_int_rmul_2 _ _) (int___rmul___int_list k t l its.toArray n)
    ⟨e,rfl,⟨_,e,rfl⟩,call_meets F.slot_list_mul ⟨_,e,rfl⟩ F.entry_list_mul (F.args_list_mul_2 _ _) (AutoListH.list___mul___list_int_3 l its.toArray n k t hfit hcap hlong) ⟨e,?_⟩⟩)
 rw [hnew]
 exact ⟨.ref _,_,I.lnew (t':=s.toks) (r.rep k.toNat) (by rw [zk2,Nat.mul_comm];exact hz),rfl,q _ I.fresh⟩
end
section
variable {prog:Program} {w:World} {A:Around} {E:Value->Shared->Prop} {s:Shared}
end
section
variable {X:Cx}
end
end L2
namespace Att
open PySem.W PySem.Calls
theorem zfc {P:Params} {h:Heap}: ∀ (ns:List Int) (vs:List Value),WellAll P h vs (ns.map WData.int)->IntsAre vs ns:=by
 intro ns
 induction ns with
 | nil=>
  intro vs w
  rw [map_nil] at w
  cases w
  exact .nil
 | cons n ns ih=>
  intro vs w
  rw [qaM] at w
  cases w with
  | cons a b=>
   cases a
   exact .cons _ _ (ih _ b)
theorem zlm {l:OpenLaw} {n:Nat} (hn:l.most=some n) {P:Params} {h:Heap} {args:List WData} {vals:List Value}
  (hpre:l.row.toRowW.claim.pre args=true) (hwl:WellAll P h vals args):
  ∃ a vs ns,vals=[Value.ref a]/\args=[WData.list (ns.map WData.int)]/\h.get? a=some {cls:= .type "list",data:= .seq vs.toArray}/\IntsAre vs ns/\ns.length<=n:=by
 have hsh:WShape.hasAll [] args [.list .int]=true:=(pre_splitW hpre).1
 have hc:l.pre.holds [] {args:=args}=true:=(pre_splitW hpre).2
 obtain ⟨d,r,rfl,h1,h2⟩:=hasAllW_cons hsh
 obtain rfl:=hasAllW_nil h2
 obtain ⟨xs,rfl,h3⟩:=hasW_list h1
 obtain ⟨ns,rfl⟩:=items_int h3
 have hlen:ns.length<=n:=by
  unfold OpenLaw.pre at hc
  have h4:(WTm.not (.lt (.lit (.int (n:Int))) (.len (.arg 0)))).holds [] {args:=[.list (ns.map .int)]}=true:=by
   have h4:=(holds_andW hc).1
   rw [hn] at h4
   exact h4
  have h5:=condW_of h4 (w_not (w_lt w_lit (w_len_list (w_arg rfl))))
  rw [qaH] at h5
  refine Nat.le_of_not_lt λq=> ?_
  have q':(n:Int)<((ns.length:Nat):Int):=by omega
  first
   | (rw [decide_eq_true q'] at h5;exact absurd h5 (by decide))
   | (simp at h5;omega)
 cases hwl with
 | cons w1 w2=>
  cases w2
  cases w1 with
  | list ho hall=>exact ⟨_,_,ns,rfl,rfl,ho,zfc ns _ hall,hlen⟩
theorem zls (l:OpenLaw) (args:List WData):l.row.toRowW.claim.post args (.bool true) args=true:=
 postW_of (r:=l.row.toRowW) (X:=(true==true))
  (show WShape.has [] (.bool true) .bool=true by first | rfl | decide | simp [WShape.has,WShape.arms,WShape.armsAll])
  (show (WTm.eq .res (.lit (.bool true))).value [] {args:=args,res:=some (.bool true),after:=args}=some (.bool (true==true)) from w_eq_bool (w_res rfl) w_lit) rfl
theorem zhV {l:OpenLaw} {n:Nat} {q:Program} {loose:List Str} {XP:(Str->Option Value)->Heap->Prop} {YP:World->Heap->Prop} {d:DefRec}
  (hn:l.most=some n) (hdf:d.params.defaults=[])
  (call: ∀ (w:World) (s₀ s₁:Shared) (mg mb:Str->Option Value) (fa:Addr) (o:Obj) (pm cd doc:Value) (a:Addr) (vs:List Value) (ns:List Int),
    Ground q loose [] XP w s₀ mg mb s₁.heap->YP w s₁.heap->
    s₁.heap.get? fa=some o->o.data= .func (docDef d.name d.params d.body d.scope pm cd doc)->s₁.heap.CodeRec cd d.name->mg d.name=some (.ref fa)->
    s₁.heap.get? a=some {cls:= .type "list",data:= .seq vs.toArray}->IntsAre vs ns->ns.length<=n->s₁.gens= #[]->
    codeAny (model l.prog w) callerA (.call (.ref fa) ⟨[.ref a],[]⟩) (λr s'=>r= .ok (.ret (.bool true))/\OldK s₁.heap s'.heap/\s'.os=s₁.os/\AllBare s'.gens) s₁):
  WalkO q loose XP YP l.row.toRowW d [] (λf vs=>PySem.call f vs):=by
 intro w s₀ s₁ mg mb G Y fa o pm cd doc dV kV ho hd hcd hD hmg hg args vals as hpre hlay hrd hwl hlo
 obtain rfl:dV= .none:=Dflts.none hD hdf
 obtain rfl:kV= .none:=Dflts.noKw hD
 obtain ⟨a,vs,ns,rfl,rfl,hobj,hints,hlen⟩:=zlm hn hpre hwl
 refine enter_call (codeAny_mono (call w s₀ s₁ mg mb fa o pm cd doc a vs ns G Y ho (fd_plain hd) hcd hmg hobj hints hlen hg) λr s' hq=> ?_)
 obtain ⟨rfl,h2,h3,h4⟩:=hq
 exact ⟨.inl ⟨.bool true,.bool true,[],rfl,λ_=>rfl,.bool true,zls l _,λ_=>⟨List.Pairwise.nil,λ_ hm=>(nomatch hm)⟩⟩,h2,h3,h4⟩
section
variable {prog:Program} {w:World} {A:Around} {E:Value->Shared->Prop} {s:Shared} {K:Frag}
end
end Att
namespace L2
theorem zfK: ∀ {vs:List Value} {ns:List Int},IntsAre vs ns->zby (ns.map V.int) vs
 | _,_,.nil=> .nil
 | _,_,.cons n t h=> .cons ⟨t,rfl⟩ (zfK h)
def ztW (H:Hp):Prop:= ∀ b,H b=none\/ ∃ o xs,H b=some (.frz o (.lst xs))
theorem znz {P:Program} {w:World} {K:W.Frag} {mg mb:Str->Option Value} {CX:CXT} {k:Nat} {fa a:Addr} {fd:FuncData} {x:Str} {sp:Sp} {s₁:Shared} {vs:List Value} {ns:List Int}
  (KX:K.In s₁.heap) (hns:s₁.heap.Ns mainGlobals mg) (hb:s₁.heap.Ns builtinsNs mb) (hbb: ∀ x:Str,x≠"__name__"->mb x=bootBuiltins x) (hlim:s₁.heap.NoLimit) (hg:s₁.gens= #[])
  (ha:s₁.heap.get? a=some {cls:= .type "list",data:= .seq vs.toArray}) (hi:IntsAre vs ns) (hl:ns.length<=sizeLine) (hr:zfN k callerA)
  (F: ∀ base:Heap,K.In base->base.Ns mainGlobals mg->zbP P w K mg base CX k fa fd [x] sp) (hbind: ∀ (s:Shared) (u:Value),BindsTo s fd ⟨[u],[]⟩ [(x,u)])
  (hsp: ∀ H:Hp,ztW H->SqL K H a (ns.map V.int)->sp [.ref a] H (λv _=>v= .bl true) λ_ _ _=>False)
  (hCX: ∀ H e s',CX [] H s₁ (λ_ _ _=>False) e s'->False):
  codeAny (model P w) callerA (.call (.ref fa) ⟨[.ref a],[]⟩) (λr s'=>r= .ok (.ret (.bool true))/\OldK s₁.heap s'.heap/\s'.os=s₁.os/\AllBare s'.gens) s₁:=by
 have rv:=zfK hi
 have lenV:=hi.length
 have core: ∀ H:Hp,ztW H->SqL K H a (ns.map V.int)->HOk P w H s₁.heap->(∀ b,H b≠none->b=a)->(H a≠none->K.lookup a=none)->
   codeAny (model P w) callerA (.call (.ref fa) ⟨[.ref a],[]⟩) (λr s'=>r= .ok (.ret (.bool true))/\OldK s₁.heap s'.heap/\s'.os=s₁.os/\AllBare s'.gens) s₁:=by
  intro H hO hS hok hA hK
  have base_of: ∀ {b:Addr} {o:Obj},s₁.heap.get? b=some o->H b=none->(zmV s₁.heap H).get? b=some o:=λe n=>zmK e n
  have noA: ∀ {b:Addr} {o:Obj} {es:Array DictEntry} {ep:Nat},s₁.heap.get? b=some o->o.data= .dict es ep->H b=none:=λ{b o es ep} e d=>by
   cases q:H b with
   | none=>rfl
   | some u=>
    have e':b=a:=hA b (by rw [q];simp)
    subst e'
    rw [ha] at e;cases e
    have d':Data.seq vs.toArray _=Data.dict es ep:=d
    cases d'
  have nsK: ∀ {b:Addr} {m:Str->Option Value},s₁.heap.Ns b m->(zmV s₁.heap H).Ns b m:=λ{b m} ⟨o,es,ep,e,d,r⟩=>⟨o,es,ep,base_of e (noA e d),d,r⟩
  have hKb:K.In (zmV s₁.heap H):=λb o e=>base_of (KX b o e) (by
    cases q:H b with
    | none=>rfl
    | some u=>
      have e':b=a:=hA b (by rw [q];simp)
      subst e'
      rw [hK (by rw [q];simp)] at e;cases e)
  have hM:Mod K mg (zmV s₁.heap H):=⟨hKb,nsK hns,⟨mb,nsK hb,hbb⟩,let ⟨mc,h1,h2⟩:=hlim;⟨mc,nsK h1,h2⟩⟩
  have e0:zq5 P w K mg (zmV s₁.heap H) callerA [] s₁ H:=⟨rfl,hM,λb o e=>zpE e,Nat.le_of_eq (zkq _ _),trivial,λb hb=>absurd (show b∈([]:List Addr) from hb) (by simp),hok,.of_eq hg,.inl rfl⟩
  refine codeAny_mono ((F _ hKb (nsK hns)).run callerA [] s₁ H ⟨[.ref a],[]⟩ [.ref a] [.ref a] _ _ hr e0 (hbind s₁ (.ref a)) (.cons rfl .nil) (hsp H hO hS)) λr s' h=> ?_
  cases r with
  | error e=>exact (hCX H e s' h).elim
  | ok fl=>
   cases fl with
   | next=>exact qa0 h
   | brk=>exact qa0 h
   | cont=>exact qa0 h
   | ret u=>
    obtain ⟨v,H',os,bare,un,hok',r',q⟩:=h
    have q':v= .bl true:=q
    subst q'
    obtain rfl:u=Value.bool true:=r'
    refine ⟨rfl,OldK.of_keep λb o e=> ?_,os,bare⟩
    cases q:H b with
    | none=>exact un.keep b o e q (by intro z;exact absurd (show b∈([]:List Addr) from z) (by simp)) (by simp)
    | some u=>
     rcases hO b with z | ⟨ob,xs,z⟩
     ·rw [q] at z;cases z
     ·have z2:=un.frzs b ob _ z
      obtain ⟨e1,_⟩:=hok b _ z
      obtain ⟨e2,_⟩:=hok' b _ z2
      rw [e] at e1;cases e1
      exact e2
 cases hk:K.lookup a with
 | some o=>
  have e:=KX a o hk
  rw [ha] at e
  cases e
  refine core (λ_=>none) (λ_=> .inl rfl) (.inr ⟨_,vs.toArray,_,hk,rfl,rfl,rfl,by rw [qaA,lenV];exact hl,by simpa using rv⟩) (λb u z=>by have z':(none:Option HO)=some u:=z;cases z') (λb z=>absurd rfl z) λz=>absurd rfl z
 | none=>
  refine core (λb=>if b=a then some (.frz {cls:= .type "list",data:= .seq vs.toArray} (.lst (ns.map V.int))) else none) (λb=> ?_) (.inl (.inr ⟨{cls:= .type "list",data:= .seq vs.toArray},qa4 rfl⟩)) (λb u z=> ?_) (λb z=> ?_) λ_=>hk
  ·by_cases hb:b=a
   ·exact .inr ⟨_,_,qa4 hb⟩
   ·exact .inl (qa5 hb)
  ·by_cases hb:b=a
   ·have z':=(qa4 hb).symm.trans z
    cases z'
    subst hb
    exact ⟨ha,by rw [qaH];exact hl,vs,_,rv,ha⟩
   ·have z':=(qa5 hb).symm.trans z
    cases z'
  ·by_cases hb:b=a
   ·exact hb
   ·exact absurd (qa5 hb) z
theorem zpk {l:W.OpenLaw} {n k:Nat} {q:Program} {loose:List Str} {XP:(Str->Option Value)->Heap->Prop} {YP:World->Heap->Prop} {d:DefRec} {K:Params->W.Frag} {CX:World->CXT} {sp:World->Sp} {x:Str}
  (hn:l.most=some n) (hn2:n<=sizeLine) (hdf:d.params.defaults=[]) (hr:zfN k callerA)
  (hY: ∀ (w:World) (h:Heap),YP w h->(K w.params).In h)
  (F: ∀ (w:World) (mg:Str->Option Value) (fa:Addr) (h:Heap),(K w.params).In h->h.Ns mainGlobals mg->mg d.name=some (.ref fa)->
    ∃ fd:FuncData,(∀ (s:Shared) (u:Value),BindsTo s fd ⟨[u],[]⟩ [(x,u)])/\
      ∀ base:Heap,(K w.params).In base->base.Ns mainGlobals mg->zbP l.prog w (K w.params) mg base (CX w) k fa fd [x] (sp w))
  (hsp: ∀ (w:World) (H:Hp) (a:Addr) (ns:List Int),ns.length<=n->ztW H->SqL (K w.params) H a (ns.map V.int)->sp w [.ref a] H (λv _=>v= .bl true) λ_ _ _=>False)
  (hCX: ∀ (w:World) (H:Hp) (s:Shared) (e:Value) (s':Shared),CX w [] H s (λ_ _ _=>False) e s'->False):
  W.WalkO q loose XP YP l.row.toRowW d [] (λf vs=>PySem.call f vs):=by
 refine Att.zhV hn hdf λw s₀ s₁ mg mb fa o pm cd doc a vs ns G Y ho hd hcd hmg hobj hints hlen hg=> ?_
 have KX:=hY w _ Y
 obtain ⟨fd,hb,hF⟩:=F w mg fa _ KX G.T.g hmg
 exact znz KX G.T.g G.T.b G.T.builtins G.T.nolimit hg hobj hints (qaS hlen hn2) hr hF hb (λH hO hS=>hsp w H a ns hlen hO hS) λH e s'=>hCX w H s₁ e s'
def zeH (s:Stmt):Arguments:=match s with
 | .FunctionDef _ a _ _ _ _ _ _ _ _=>a
 | _=>{posonlyargs:=[],args:=[],vararg:=none,kwonlyargs:=[],kw_defaults:=[],kwarg:=none,defaults:=[]}
def zdA (s:Stmt):List Stmt:=match s with
 | .FunctionDef _ _ b _ _ _ _ _ _ _=>b
 | _=>[]
def zaf (s:Stmt):Scope:=match s with
 | .FunctionDef _ _ _ _ _ _ sc _ _ _=>sc
 | _=>{kind:= .function,names:=[],isGenerator:=false,isCoroutine:=false}
abbrev CX0:CXT:=λ_ _ _ _ _ _=>False
abbrev E0:XK:=λ_ _ _=>False
theorem zu5 {X:Cx}:zlv CX0 X E0:=λ_ _ _ _ _ _ _ h=>h.elim
structure Fun (K:W.Frag) (x qual:Str) (st:Stmt) (f:Addr) (fd:FuncData):Prop where
 ex: ∃ (oc:Value) (od:Option Addr) (kV doc pm:Value) (an:Option Addr) (cdv ct:Value) (osl:Array (Option Value)),
  fd=W.fnOf x qual (zeH st) (zdA st) (zaf st) .none kV doc pm an cdv ct/\K.lookup f=some ⟨oc,od,.func fd,osl⟩/\W.codeIn K cdv qual=true
 kp:W.keepIn K (.ref f)=true
section
variable {P:Program} {w:World} {K:W.Frag} {mg:Str->Option Value} {base:Heap}
theorem Fun.ok {x qual:Str} {st:Stmt} {f:Addr} {fd:FuncData} {N ps:List Str} {k:Nat} {sp:Sp} (F:Fun K x qual st f fd) (S:zau N ps (zaf st)) (len: ∀ vs H Q E,sp vs H Q E->vs.length=ps.length)
  (hbody: ∀ (cdv:Value) (A:Around) (outer:List Env) (s:Shared) (H:Hp) (vs:List V) (Q:VK) (E:XK),zfN k (A.deeper (envOfC qual (zaf st) s.heap.objs.size f cdv))->sp vs H Q E->
    ∃ t,PSs (zqa CX0 P w K mg base N qual (zaf st) f cdv A outer s H E).nox (zdA st) t/\t {nx:=λ_ H'=>Q .non H',rt:=Q} (zfU N vs) H):zbP P w K mg base CX0 (k+1) f fd ps sp:=by
 obtain ⟨oc,od,kV,doc,pm,an,cdv,ct,osl,rfl,lk,hcd⟩:=F.ex
 refine zuA lk hcd S len λA outer s H vs Q E hr hsp=> ?_
 obtain ⟨t,h,q⟩:=hbody cdv A outer s H vs Q E hr hsp
 exact ⟨t,h.nox,q⟩
theorem Fun.binds {x qual:Str} {st:Stmt} {f:Addr} {fd:FuncData} {ps:List Str} (F:Fun K x qual st f fd)
  (h: ∀ (kV doc pm:Value) (an:Option Addr) (cdv ct:Value) (us:List Value),us.length=ps.length->bindArgs (W.fnOf x qual (zeH st) (zdA st) (zaf st) .none kV doc pm an cdv ct) ⟨us,[]⟩=pure (ps.zip us)):zaS K fd ps []:=by
 obtain ⟨oc,od,kV,doc,pm,an,cdv,ct,osl,rfl,lk,hcd⟩:=F.ex
 exact .all (h kV doc pm an cdv ct)
theorem zaA {x qual:Str} {st:Stmt} {f:Addr} {oc:Value} {od an:Option Addr} {osl:Array (Option Value)} {kV doc pm cdv ct:Value} (l:K.lookup f=some ⟨oc,od,.func (W.fnOf x qual (zeH st) (zdA st) (zaf st) .none kV doc pm an cdv ct),osl⟩)
  (c:W.codeIn K cdv qual=true) (k:W.keepIn K (.ref f)=true):Fun K x qual st f (W.fnOf x qual (zeH st) (zdA st) (zaf st) .none kV doc pm an cdv ct):=⟨⟨oc,od,kV,doc,pm,an,cdv,ct,osl,rfl,l,c⟩,k⟩
end
section
variable {X:Cx}
theorem pv (i:Nat) {x:Str} {pos:Pos} (hN:X.N[i]? = some x:=by rfl) (hv:Vis X.env.scope x:=by first | exact Or.inl rfl | exact Or.inr (Or.inl rfl) | exact Or.inr (Or.inr rfl)) (hd:(x==("__debug__":Str))=false:=by decide)
  (hcd:(x==("__classdict__":Str))=false:=by decide):PE X (.Name x pos) (zvr i):=zov hN hv hd hcd
end
theorem zoD {A B:Prop} (h:B):if false=true then A else B:=by
 rw [qa5 Bool.false_ne_true]
 exact h
theorem zn7 {A B:Prop} (h:A):if true=true then A else B:=by
 rw [qa4 rfl]
 exact h
def zbO (cells:List (Str×Addr)):List (Str×NameKind)->List (Str×Addr)->List (Str×Addr)
 | [],acc=>acc
 | (n,k)::r,acc=>if k== .free then zbO cells r ((n,(cells.lookup n).getD 0)::acc) else zbO cells r acc
theorem zea {scope:Scope} {env:Env} (h: ∀ x∈scope.names,x.2= .free-> ∃ c,env.cells.lookup x.1=some c):closureFor scope env=pure (zbO env.cells scope.names []):=by
 simp only [closureFor]
 generalize hn:scope.names=names at h
 clear hn
 generalize hacc:([]:List (Str×Addr))=acc
 clear hacc
 have key: ∀ (names:List (Str×NameKind)) (acc:List (Str×Addr)),(∀ x∈names,x.2= .free-> ∃ c,env.cells.lookup x.1=some c)->
   (forIn (m:=Sem) names acc λ(x:Str×NameKind) (r:List (Str×Addr))=>(match x with
     | (name,kind)=>if (kind==NameKind.free)=true then do
         let a<-cellOf env name
         pure (ForInStep.yield ((name,a)::r))
       else pure (ForInStep.yield r)))=pure (zbO env.cells names acc):=by
  intro names
  induction names with
  | nil=>intro acc _;rfl
  | cons x r ih=>
   intro acc h
   obtain ⟨n,k⟩:=x
   rw [forIn_cons]
   unfold zbO
   by_cases hk:(k==NameKind.free)=true
   ·simp only [hk,if_true]
    obtain ⟨c,hc⟩:=h (n,k) qau (by simpa using hk)
    have e:cellOf env n=pure c:=by unfold cellOf;rw [show env.cells.lookup n=some c from hc]
    rw [e,show (env.cells.lookup n).getD 0=c by rw [show env.cells.lookup n=some c from hc];rfl]
    exact ih _ λy hy=>h y (qan _ hy)
   ·simp only [hk,if_false]
    exact ih _ λy hy=>h y (qan _ hy)
 have k:=key names acc h
 refine Eq.trans (congrArg (λ(z:Sem (List (Str×Addr)))=>z>>=λr=>pure r) k) ?_
 rfl
theorem zeC {cells:List (Str×Addr)}: ∀ {names:List (Str×NameKind)} {acc:List (Str×Addr)} {n:Str} {c:Addr},(n,c)∈zbO cells names acc->
  (n,c)∈acc\/((n,NameKind.free)∈names/\c=(cells.lookup n).getD 0)
 | [],_,_,_,h=> .inl h
 | (y,k)::r,acc,n,c,h=>by
  unfold zbO at h
  by_cases hk:(k==NameKind.free)=true
  ·rw [qa4 hk] at h
   have ek:k= .free:=by simpa using hk
   subst ek
   rcases zeC h with h | ⟨h1,h2⟩
   ·rcases qaP.mp h with e | h
    ·cases e
     exact .inr ⟨qau,rfl⟩
    ·exact .inl h
   ·exact .inr ⟨qan _ h1,h2⟩
  ·rw [qa5 hk] at h
   rcases zeC h with h | ⟨h1,h2⟩
   ·exact .inl h
   ·exact .inr ⟨qan _ h1,h2⟩
theorem zd5 {cells:List (Str×Addr)} {x:Str} {c:Addr} (hc:cells.lookup x=some c): ∀ (names:List (Str×NameKind)) (acc:List (Str×Addr)),((x,NameKind.free)∈names\/acc.lookup x=some c)->(zbO cells names acc).lookup x=some c
 | [],acc,h=>h.elim (λz=>nomatch z) id
 | (y,k)::r,acc,h=>by
  unfold zbO
  by_cases hk:(k==NameKind.free)=true
  ·rw [qa4 hk]
   refine zd5 hc r _ ?_
   by_cases hy:x=y
   ·subst hy
    exact .inr (by rw [lookup_cons,beq_self_eq_true,hc];rfl)
   ·rcases h with h | h
    ·rcases qaP.mp h with e | h
     ·cases e;exact absurd rfl hy
     ·exact .inl h
    ·refine .inr ?_
     rw [lookup_cons,show (x==y)=false by simpa using hy]
     exact h
  ·rw [qa5 hk]
   refine zd5 hc r _ ?_
   rcases h with h | h
   ·rcases qaP.mp h with e | h
    ·cases e;exact absurd rfl hk
    ·exact .inl h
   ·exact .inr h
theorem zc9: ∀ {names:List (Str×NameKind)} {n:Nat} {acc:List (Str×Addr)} {x:Str} {c:Addr},(x,c)∈cellsFrom n names acc->(x,c)∈acc\/(n<=c/\(x,NameKind.cell)∈names)
 | [],_,_,_,_,h=> .inl h
 | (y,k)::r,n,acc,x,c,h=>by
  unfold cellsFrom at h
  by_cases hk:(k==NameKind.cell)=true
  ·rw [qa4 hk] at h
   have ek:k= .cell:=by simpa using hk
   subst ek
   rcases zc9 h with h | ⟨h,h'⟩
   ·rcases qaP.mp h with e | h
    ·cases e;exact .inr ⟨qaV _,qau⟩
    ·exact .inl h
   ·exact .inr ⟨Nat.le_of_succ_le h,qan _ h'⟩
  ·rw [qa5 hk] at h
   rcases zc9 h with h | ⟨h,h'⟩
   ·exact .inl h
   ·exact .inr ⟨h,qan _ h'⟩
theorem zcA {x:Str} {c:Addr}: ∀ (names:List (Str×NameKind)) (n:Nat) (acc:List (Str×Addr)),(x,NameKind.cell)∉names->acc.lookup x=some c->(cellsFrom n names acc).lookup x=some c
 | [],_,_,_,h=>h
 | (y,k)::r,n,acc,hn,h=>by
  unfold cellsFrom
  by_cases hk:(k==NameKind.cell)=true
  ·rw [qa4 hk]
   have ek:k= .cell:=by simpa using hk
   subst ek
   refine zcA r _ _ (λz=>hn (qan _ z)) ?_
   have hy:x≠y:=λe=>hn (by rw [e];exact qau)
   rw [lookup_cons,show (x==y)=false by simpa using hy]
   exact h
  ·rw [qa5 hk]
   exact zcA r _ _ (λz=>hn (qan _ z)) h
theorem zcx: ∀ (names:List (Str×NameKind)) (n:Nat) (acc:List (Str×Addr)),(∀ x c,(x,c)∈acc->c<n)->(acc.Pairwise λx y=>x.2≠y.2)->(cellsFrom n names acc).Pairwise λx y=>x.2≠y.2
 | [],_,_,_,h=>h
 | (y,k)::r,n,acc,hlt,h=>by
  unfold cellsFrom
  by_cases hk:(k==NameKind.cell)=true
  ·rw [qa4 hk]
   refine zcx r (n+1) _ (λx c hm=> ?_) (qay.mpr ⟨λz hz e=> ?_,h⟩)
   ·rcases qaP.mp hm with e | hm
    ·cases e;exact Nat.lt_succ_self _
    ·exact lt_succ_of_lt (hlt x c hm)
   ·have:=hlt z.1 z.2 hz
    have e':n=z.2:=e
    exact qaN _ (e'▸this)
  ·rw [qa5 hk]
   exact zcx r n acc hlt h
def zp8 (env:Env) (scope:Scope) (C:Addr):Env:=
 {scope:=relabel scope env,locals:=C,globals:=env.globals,cells:=cellsFrom (C+1) scope.names (zbO env.cells scope.names []),qual:=env.qual,func:=none,code:=env.code,frame:=env.frame,builtins:=env.builtins}
section
variable {M:Model} {A:Around} {E:Value->Shared->Prop} {s:Shared}
theorem zfQ {scope:Scope} {env:Env} {cl:List (Str×Addr)} {Q:Env->Shared->Prop}
  (hQ: ∀ h',(∀ b o,s.heap.get? b=some o->h'.get? b=some o)->h'.Ns s.heap.objs.size (λ_=>none)->(∀ x c,(x,NameKind.cell)∈scope.names->(x,c)∈cellsFrom (s.heap.objs.size+1) scope.names cl->(x,c)∉cl->h'.IsCell c none)->
    Q {scope,locals:=s.heap.objs.size,globals:=env.globals,cells:=cellsFrom (s.heap.objs.size+1) scope.names cl,qual:=env.qual,func:=none,code:=env.code,frame:=env.frame,builtins:=env.builtins} {s with heap:=h'}):
  wpAny M A (newFunctionEnv scope env.globals cl [] env.qual none .none (some env)) Q E s:=by
 simp only [newFunctionEnv,Option.isSome_some,if_true]
 refine qaW (wpAny_alloc ?_)
 refine qaW (wpAny_layCells _ (λname kind cells=>by cases hkc:kind==NameKind.cell<;>simp [hkc]) _ _ _ _ ?_)
 simp only [forIn_nil]
 refine qaW (qaX (qaX ?_))
 rw [show ({s with heap:=s.heap.push {cls:= .type "dict",data:= .dict #[]}}:Shared).heap.objs.size=s.heap.objs.size+1 from qaL ..]
 have key: ∀ (names:List (Str×NameKind)) (h:Heap) (acc:List (Str×Addr)) (x:Str) (c:Addr),(x,c)∈cellsFrom h.objs.size names acc->(x,c)∉acc->(pushCells h names).IsCell c none:=by
  intro names
  induction names with
  | nil=>intro h acc x c hm hn;exact absurd hm hn
  | cons y r ih=>
   intro h acc x c hm hn
   obtain ⟨n,k⟩:=y
   unfold cellsFrom at hm
   unfold pushCells
   by_cases hk:(k==NameKind.cell)=true
   ·rw [qa4 hk] at hm ⊢
    by_cases hin:(x,c)∈((n,h.objs.size)::acc)
    ·rcases qaP.mp hin with e | e
     ·cases e
      exact ⟨_,pushCells_keeps _ _ _ _ (qar _ rfl),rfl⟩
     ·exact absurd e hn
    ·refine ih (h.push {cls:= .type "cell",data:= .cell none}) ((n,h.objs.size)::acc) x c ?_ hin
     rw [qaL]
     exact hm
   ·rw [qa5 hk] at hm ⊢
    exact ih h acc x c hm hn
 refine hQ _ (λb o e=>pushCells_keeps _ _ b o (qag _ e)) ((Heap.Ns.new s.heap (.type "dict")).keeps (pushCells_keeps _ _)) λx c _ hm hn=> ?_
 refine key scope.names _ cl x c ?_ hn
 rw [qaL]
 exact hm
end
section
variable {prog:Program} {w:World} {A:Around} {E:Value->Shared->Prop} {R:Result->Shared->Prop} {s:Shared}
theorem zg9 {elt target iter:Expr} {ifs:List Expr} {scope:Scope} {pos:Pos} {it acc:Value} {env:Env} (I:Nat->Shared->Prop)
  (turn: ∀ n s,I n s->wpAny (model prog w) A (pyNext it) (λr s₁=>match r with
    | none=>R (.ok .next) s₁
    | some v=>wpAny (model prog w) A (letOwnedTupleGo target it v) (λ_ s₁'=>wpAny (model prog w) A (assign target env v) (λ_ s₂=>
        wpAny (model prog w) A (forIn ifs true λc r=>if r=true then do let ok<-isTrue c env (eval c env);pure (ForInStep.yield ok) else pure (ForInStep.yield r)) (λok s₃=>
          if ok=true then wpAny (model prog w) A (eval elt env) (λx s₄=>
            wpAny (model prog w) A (call (.builtin "list.append") [acc,x]) (λ_ s₅=> ∃ m,m<n/\I m s₅) (λ_ _=>False) s₄) (λ_ _=>False) s₃
          else ∃ m,m<n/\I m s₃) (λ_ _=>False) s₂) (λ_ _=>False) s₁') (λ_ _=>False) s₁) (λ_ _=>False) s)
  (n:Nat) (h:I n s):
  codeAny (model prog w) A (.compLoop (.ListComp elt [⟨target,iter,ifs,0⟩] scope pos) 0 it acc env) R s:=by
 refine codeAny_loop rfl I (λn s hI=> ?_) n h
 show wpAny _ A ((compTurn (.ListComp elt [⟨target,iter,ifs,0⟩] scope pos) 0 it acc env).onRaise (λx=>do noteFrame x env;theTreesLotGoes x)) _ _ s
 refine wpAny_noted ?_
 rw [compTurn_list]
 refine qaW (wpAny_standAt (qaW (qaZ (turn n s hI) (λr s₁ h₁=> ?_) λ_ _ h'=>h'.elim)))
 cases r with
 | none=>exact qaX h₁
 | some v=>
  refine qaW (qaZ h₁ (λ_ s₁' h₁'=> ?_) λ_ _ h'=>h'.elim)
  refine qaW (qaZ h₁' (λ_ s₂ h₂=>qaW (qaZ h₂ (λok s₃ h₃=> ?_) λ_ _ h'=>h'.elim)) λ_ _ h'=>h'.elim)
  cases ok with
  | false=>exact qaX ⟨rfl,h₃⟩
  | true=>
   exact qaW (qaW (qaZ h₃ (λx s₄ h₄=>qaW (qaZ h₄ (λ_ s₅ h₅=>qaX (qaX ⟨rfl,h₅⟩)) λ_ _ h'=>h'.elim)) λ_ _ h'=>h'.elim))
end
abbrev cxB (X:Cx) (scope:Scope) (N:List Str) (s:Shared) (H:Hp) (fp:List Addr):Cx:=
 {prog:=X.prog,w:=X.w,K:=X.K,mg:=X.mg,base:=X.base,A:=X.A,N:=N,s₀:=s,H₀:=H,env:=zp8 X.env scope s.heap.objs.size,outer:=X.stack,stack:=X.stack,ex:=fp,
   fn:=λx=>scope.names.lookup x==some .cell,calm:=X.calm,pn:=[],xe:=λ_ _=>False}
def zoi (Xn:List (Str×NameKind)) (XN:List Str) (names:List (Str×NameKind)) (N:List Str) (src:List (Option Nat)):Bool:=
 decide N.Nodup && decide (names.map (·.1)).Nodup && (src.length==N.length) &&
 names.all (λx=>x.2 != .local || names.lookup x.1==some .local) &&
 names.all (λx=>x.2 != .cell || names.lookup x.1==some .cell) &&
 names.all (λx=>x.2 != .free || Xn.lookup x.1==some .cell || Xn.lookup x.1==some .free) &&
 (N.zip src).all (λp=>match p.2 with
   | none=>true
   | some i=>XN[i]? == some p.1 && names.lookup p.1==some .free)
structure BOk (X:Cx) (scope:Scope) (N:List Str) (src:List (Option Nat)):Prop where
 kind:scope.kind= .function
 nd:N.Nodup
 keys:(scope.names.map (·.1)).Nodup
 len:src.length=N.length
 locs: ∀ x∈scope.names,x.2= .local->scope.names.lookup x.1=some .local
 cels: ∀ x∈scope.names,x.2= .cell->scope.names.lookup x.1=some .cell
 free: ∀ x∈scope.names,x.2= .free->X.env.kindOf x.1=some .cell\/X.env.kindOf x.1=some .free
 src: ∀ (k i:Nat) (x:Str),src[k]? = some (some i)->N[k]? = some x->X.N[i]? = some x/\scope.names.lookup x=some .free
theorem BOk.of {X:Cx} {scope:Scope} {N:List Str} {src:List (Option Nat)} {Xn:List (Str×NameKind)} {XN:List Str} (hk:scope.kind= .function) (hX:X.env.scope.names=Xn) (hN:X.N=XN)
  (h:zoi Xn XN scope.names N src=true):BOk X scope N src:=by
 unfold zoi at h
 simp only [qaG,qaD,all_eq_true,beq_iff_eq] at h
 obtain ⟨⟨⟨⟨⟨⟨h1,h2⟩,h3⟩,h4⟩,h4'⟩,h5⟩,h6⟩:=h
 refine ⟨hk,h1,h2,h3,λx hx e=> ?_,λx hx e=> ?_,λx hx e=> ?_,λk i x e1 e2=> ?_⟩
 ·have:=h4 x hx
  rw [e] at this
  simpa using this
 ·have:=h4' x hx
  rw [e] at this
  simpa using this
 ·have:=h5 x hx
  rw [e] at this
  unfold Env.kindOf
  rw [hX]
  simpa using this
 ·have hm:(x,some i)∈N.zip src:=by
   refine List.mem_iff_getElem?.mpr ⟨k,?_⟩
   rw [List.getElem?_zip_eq_some]
   exact ⟨e2,e1⟩
  have:=h6 _ hm
  dsimp only at this
  simp only [qaG,beq_iff_eq] at this
  rw [hN]
  exact this
def bStart (src:List (Option Nat)) (σ:St):St:=src.map λo=>o.bind λi=>(σ[i]?).join
theorem zfY {scope:Scope} {env:Env} {x:Str}:(relabel scope env).names.lookup x=(scope.names.lookup x).map λk=>if (k== .free && env.scope.kind== .function && env.kindOf x==some .cell) then .cell else k:=by
 show List.lookup x (scope.names.map _)=_
 induction scope.names with
 | nil=>rfl
 | cons y r ih=>
  obtain ⟨n,k⟩:=y
  rw [qaM]
  dsimp only
  by_cases hx:x=n
  ·subst hx
   by_cases hc:(k==NameKind.free && env.scope.kind== .function && env.kindOf x==some .cell)=true
   ·rw [qa4 hc,lookup_cons,lookup_cons,beq_self_eq_true]
    dsimp only [Option.map]
    rw [qa4 hc]
   ·rw [qa5 hc,lookup_cons,lookup_cons,beq_self_eq_true]
    dsimp only [Option.map]
    rw [qa5 hc]
  ·have hb:(x==n)=false:=by simpa using hx
   by_cases hc:(k==NameKind.free && env.scope.kind== .function && env.kindOf n==some .cell)=true
   ·rw [qa4 hc,lookup_cons,lookup_cons,hb]
    exact ih
   ·rw [qa5 hc,lookup_cons,lookup_cons,hb]
    exact ih
section
variable {X:Cx} {pins:List (Addr×Obj)} {σ:St} {H:Hp} {s:Shared} {scope:Scope} {N:List Str} {src:List (Option Nat)} {fp:List Addr}
theorem zpP (I:Inv X pins σ H s) (B:BOk X scope N src) {x:Str} {c:Addr} (h:(x,c)∈zbO X.env.cells scope.names []):X.env.cells.lookup x=some c/\(x,NameKind.free)∈scope.names:=by
 rcases zeC h with z | ⟨z,e⟩
 ·exact nomatch z
 ·obtain ⟨c',hc⟩:=I.ok.has x (B.free _ z rfl)
  rw [hc] at e
  exact ⟨by rw [hc,e];rfl,z⟩
theorem zg3 {l:List (Str×NameKind)} (h:(l.map (·.1)).Nodup) {x:Str} {j k:NameKind} (a:(x,j)∈l) (b:(x,k)∈l):j=k:=by
 induction l with
 | nil=>exact nomatch a
 | cons y r ih=>
  obtain ⟨h1,h2⟩:=nodup_cons.mp (show (y.1::r.map (·.1)).Nodup from h)
  rcases qaP.mp a with e | a<;>rcases qaP.mp b with e' | b
  ·rw [<- e] at e';cases e';rfl
  ·exact absurd (qaU.mpr ⟨_,b,by rw [<- e]⟩) h1
  ·exact absurd (qaU.mpr ⟨_,a,by rw [<- e']⟩) h1
  ·exact ih h2 a b
theorem zeI (I:Inv X pins σ H s): ∀ (names:List (Str×NameKind)) (acc:List (Str×Addr)),(∀ x∈names,x.2= .free-> ∃ c,X.env.cells.lookup x.1=some c)->(names.map (·.1)).Nodup->(∀ x c,(x,c)∈acc->X.env.cells.lookup x=some c/\x∉names.map (·.1))->
  (acc.Pairwise λx y=>x.2≠y.2)->(zbO X.env.cells names acc).Pairwise λx y=>x.2≠y.2
 | [],_,_,_,_,h=>h
 | (n,k)::r,acc,hf,nd,ha,h=>by
  unfold zbO
  obtain ⟨h1,h2⟩:=nodup_cons.mp (show (n::r.map (·.1)).Nodup from nd)
  by_cases hk:(k==NameKind.free)=true
  ·rw [qa4 hk]
   obtain ⟨c,hc⟩:=hf (n,k) qau (by simpa using hk)
   have hc:X.env.cells.lookup n=some c:=hc
   rw [show (X.env.cells.lookup n).getD 0=c by rw [hc];rfl]
   refine zeI I r _ (λx hx=>hf x (qan _ hx)) h2 (λx c' hm=> ?_) (qay.mpr ⟨λy hy e=> ?_,h⟩)
   ·rcases qaP.mp hm with e | hm
    ·cases e;exact ⟨hc,h1⟩
    ·exact ⟨(ha x c' hm).1,λz=>(ha x c' hm).2 (qan _ z)⟩
   ·obtain ⟨q1,q2⟩:=ha y.1 y.2 hy
    have e':c=y.2:=e
    rw [<- e'] at q1
    have:=I.ok.inj _ _ _ hc q1
    exact q2 (by rw [<- this];exact qau)
  ·rw [qa5 hk]
   exact zeI I r acc (λx hx=>hf x (qan _ hx)) h2 (λx c' hm=>⟨(ha x c' hm).1,λz=>(ha x c' hm).2 (qan _ z)⟩) h
theorem zlE (I:Inv X pins σ H s) (B:BOk X scope N src) (hf: ∀ b∈fp,zgx X pins H b) (hfo: ∀ b∈fp, ∃ o,s.heap.get? b=some o) {h':Heap} (hk: ∀ b o,s.heap.get? b=some o->h'.get? b=some o) (hns:h'.Ns s.heap.objs.size (λ_=>none))
  (hce: ∀ x c,(x,NameKind.cell)∈scope.names->(x,c)∈cellsFrom (s.heap.objs.size+1) scope.names (zbO X.env.cells scope.names [])->(x,c)∉zbO X.env.cells scope.names []->h'.IsCell c none):
  Inv (cxB X scope N s H fp) [] (bStart src σ) H {s with heap:=h'}:=by
 have cin: ∀ {x:Str} {c:Addr},(x,c)∈zbO X.env.cells scope.names []->X.env.cells.lookup x=some c/\(x,NameKind.free)∈scope.names:=λh=>zpP I B h
 have old: ∀ {x:Str} {c:Addr},X.env.cells.lookup x=some c->c<s.heap.objs.size:=λ{x c} h=>(let ⟨_,q⟩:=I.cell x c h;q.lt)
 have all: ∀ {x:Str} {c:Addr},(x,c)∈cellsFrom (s.heap.objs.size+1) scope.names (zbO X.env.cells scope.names [])->(X.env.cells.lookup x=some c/\(x,NameKind.free)∈scope.names)\/(s.heap.objs.size<c/\(x,NameKind.cell)∈scope.names):=λ{x c} h=>by
  rcases zc9 h with z | ⟨z,z'⟩
  ·exact .inl (cin z)
  ·exact .inr ⟨z,z'⟩
 have lk: ∀ {x:Str} {c:Addr},(zp8 X.env scope s.heap.objs.size).cells.lookup x=some c->(x,c)∈cellsFrom (s.heap.objs.size+1) scope.names (zbO X.env.cells scope.names []):=λh=>PySem.mem_of_lookup h
 have hasF: ∀ x∈scope.names,x.2= .free-> ∃ c,X.env.cells.lookup x.1=some c:=λx hx e=>I.ok.has x.1 (B.free x hx e)
 have ap:(cellsFrom (s.heap.objs.size+1) scope.names (zbO X.env.cells scope.names [])).Pairwise λx y=>x.2≠y.2:=
  zcx _ _ _ (λx c hm=>lt_succ_of_lt (old (cin hm).1)) (zeI I scope.names [] hasF B.keys (λ_ _ z=>nomatch z) .nil)
 have outer: ∀ {x:Str} {c:Addr},(x,NameKind.free)∈scope.names->X.env.cells.lookup x=some c->(zp8 X.env scope s.heap.objs.size).cells.lookup x=some c:=λ{x c} h1 h2=>
  zcA _ _ _ (λz=>nomatch zg3 B.keys h1 z) (zd5 h2 scope.names [] (.inl h1))
 have kinds: ∀ x,(zp8 X.env scope s.heap.objs.size).kindOf x=(scope.names.lookup x).map λk=>if (k== .free && X.env.scope.kind== .function && X.env.kindOf x==some .cell) then .cell else k:=λx=>zfY
 have ckind: ∀ x,((zp8 X.env scope s.heap.objs.size).kindOf x=some .cell\/(zp8 X.env scope s.heap.objs.size).kindOf x=some .free)->scope.names.lookup x=some .cell\/scope.names.lookup x=some .free:=λx h=>by
  rw [kinds x] at h
  cases e:scope.names.lookup x with
  | none=>rw [e] at h;simp at h
  | some k=>
   rw [e] at h
   cases k<;>simp at h ⊢
 refine ⟨⟨I.ok.mod,B.kind,I.ok.glob,I.ok.blt,qaV _,λx y c h1 h2=>name_of_addr ap (lk h1) (lk h2),λx hx=> ?_,λx c hfn hx=> ?_,I.ok.hd,I.handA,I.ok.frames,.inl rfl,λb hb=> ?_,I.bs,qaS I.ok.bsz I.sz,λb o e hb=> ?_,λb hb hb'=> ?_,I.stack,I.stkFree⟩,
   rfl,I.bare,Un.kept hk,⟨_,hns,λi x v h1 h2 h3=> ?_⟩,λx c h=> ?_,I.hok.fresh (qaV _),λx c h=> ?_,λp hp=>absurd (show p∈([]:List (Addr×Obj)) from hp) (by simp),I.hok.kept hk,?_⟩
 ·-- has
  rcases ckind x hx with h | h
  ·exact Option.isSome_iff_exists.mp (W.cellsFrom_some scope.names _ _ (.inl h))
  ·have hm:=PySem.mem_of_lookup h
   obtain ⟨c,hc⟩:=hasF _ hm rfl
   exact ⟨c,outer hm hc⟩
 ·-- cab
  have hfn:scope.names.lookup x=some .cell:=by simpa using hfn
  rcases all (lk hx) with ⟨_,z⟩ | ⟨z,_⟩
  ·exact absurd (zg3 B.keys z (PySem.mem_of_lookup hfn)) (by decide)
  ·exact le_of_lt z
 ·-- exf
  obtain ⟨o,ho⟩:=hfo b hb
  refine ⟨qaR (qaQ ho),λx c hx z=> ?_⟩
  rcases all (lk hx) with ⟨q,_⟩ | ⟨q,_⟩
  ·exact (hf b hb).2.2.2.2.1 x c q z
  ·have:=qaQ ho
   rw [<- z] at this
   exact qaN _ (lt_trans q this)
 ·-- noex
  rcases (hf b hb).2.2.2.1 with z | z
  ·exact I.ok.noex b o e z
  ·exact qaN _ (qaw (qaw (qaQ e) I.ok.bsz) z)
 ·-- exfs
  rcases qaP.mp (I.stkSub b hb') with z | z
  ·exact (hf b hb).2.1 z
  ·exact (hf b hb).2.2.1 z
 ·-- loc
  unfold bStart at h2
  rw [List.getElem?_map] at h2
  cases e:src[i]? with
  | none=>rw [e] at h2;cases h2
  | some o=>
   rw [e] at h2
   cases o with
   | none=>cases h2
   | some j=>
    have h2:(σ[j]?).join=some v:=by simpa using h2
    have e3:σ[j]? = some (some v):=by
     cases q:σ[j]? with
     | none=>rw [q] at h2;cases h2
     | some z=>rw [q] at h2;simp at h2;rw [h2]
    obtain ⟨b1,b2⟩:=B.src i j x e h1
    have hm:=PySem.mem_of_lookup b2
    obtain ⟨m,hn,hl⟩:=I.loc
    have hfr:=B.free _ hm rfl
    obtain ⟨u,r,l⟩:=hl j x v b1 e3 (.inr hfr)
    rcases l with ⟨k,_⟩ | ⟨k,c,hc,q⟩
    ·rcases hfr with z | z<;>(have z':=k.symm.trans z;cases z')
    ·refine ⟨u,r,.inr ⟨?_,c,outer hm hc,q.keeps hk⟩⟩
     rw [kinds x,b2]
     dsimp only [Option.map]
     split
     ·exact .inl rfl
     ·exact .inr rfl
 ·-- cell
  rcases all (lk h) with ⟨q,_⟩ | ⟨q,q'⟩
  ·obtain ⟨v,z⟩:=I.cell x c q
   exact ⟨v,z.keeps hk⟩
  ·exact ⟨none,hce x c q' (lk h) λz=>absurd (lt_trans q (old (cin z).1)) (qaN _)⟩
 ·-- freeC
  rcases all (lk h) with ⟨q,_⟩ | ⟨q,q'⟩
  ·exact I.freeC x c q
  ·exact I.hok.fresh (le_of_lt q)
 ·unfold bStart
  rw [qaH]
  exact B.len
end
def PCs (X:Cx) (ifs:List Expr) (t:TT):Prop:=
 ∀ (pins:List (Addr×Obj)) (s:Shared) (σ:St) (H:Hp) (Q:Bool->Hp->Prop),Inv X pins σ H s->t σ H Q->
  wpAny (model X.prog X.w) X.A (forIn ifs true λc r=>if r=true then do let ok<-isTrue c X.env (eval c X.env);pure (ForInStep.yield ok) else pure (ForInStep.yield r)) (TP X pins σ Q) X.xe s
def zvK:TT:=λ_ H Q=>Q true H
theorem zpq {X:Cx}:PCs X [] zvK:=λpins s σ H Q I h=>wpAny_tests_nil ⟨H,I,h⟩
theorem zqk {X:Cx} {c:Expr} {t:TT} (h:PT X c t):PCs X [c] t:=λpins s σ H Q I hw=>wpAny_tests_one (h pins s σ H Q I hw)
def ztI (J:It) (g:TG) (tc:TT) (te:TE) (σ0:St) (H1:Hp) (D:Addr) (Q:Hp->Prop):Prop:=
 ∃ W:Nat->Nat->St->Hp->Prop,(∃ m,W 0 m σ0 (upd H1 D (.lst [])))/\ ∀ i m σ' H',W i m σ' H'->
  (J.stop i H'/\Q H')\/(J.go i H'/\ ∃ Nn:St->Hp->Prop,(∀ σ2 H2,Nn σ2 H2-> ∃ m',m'<m/\W (i+1) m' σ2 H2)/\ ∀ x H2,J.yld i H' x H2->g x σ' H2 λσ2 H3=>tc σ2 H3 λb H4=>
    if b=true then te σ2 H4 λy H5=> ∃ xs,H5 D=some (.lst xs)/\xs.length<sizeLine/\Nn σ2 (upd H5 D (.lst (xs++[y]))) else Nn σ2 H4)
section
variable {X:Cx} {scope:Scope} {N:List Str} {src:List (Option Nat)} {tg iter elt:Expr} {ifs:List Expr} {pos:Pos}
theorem ziO {pins:List (Addr×Obj)} {σ:St} {H:Hp} {s₂:Shared} {it:Addr} {fp:List Addr} {tn:Nat->Heap->Prop} {J:It} {g:TG} {tc:TT} {te:TE} {Q:Addr->Hp->Prop} {E:Value->Shared->Prop} {RR:Value->Addr->Result->Shared->Prop}
  (B:BOk X scope N src)
  (hg: ∀ s H fp,PG (cxB X scope N s H fp) tg g) (ht: ∀ s H fp,PCs (cxB X scope N s H fp) ifs tc) (he: ∀ s H fp,PE (cxB X scope N s H fp) elt te)
  (I2:Inv X pins σ H s₂) (T:zmx X.prog X.w X.K tg J fp it tn) (st2:tn 0 s₂.heap) (f2: ∀ b∈fp,zgx X pins H b) (hw: ∀ D,H D=none->ztI J g tc te (bStart src σ) H D (Q D))
  (hRR: ∀ D C H' s' m,Inv X pins σ H' s'->s'.heap.Ns C m->s₂.heap.objs.size<=C->C<s'.heap.objs.size->H' C=none->Q D H'->RR (.ref D) C (.ok .next) s'):
  wpAny (model X.prog X.w) X.A (newList []) (λacc s₃=>wpAny (model X.prog X.w) X.A (newFunctionEnv scope X.env.globals (zbO X.env.cells scope.names []) [] X.env.qual none .none (some X.env)) (λcenv s₄=>
    codeAny (model X.prog X.w) X.A (.compStart (.ListComp elt [⟨tg,iter,ifs,0⟩] scope pos) 0 (.ref it) acc {cenv with scope:=relabel scope X.env}) (RR acc cenv.locals) s₄) E s₃) E s₂:=by
 refine qaC (zfQ λh₁ hk₁ hns₁ hce₁=> ?_)
 dsimp only at hk₁ hns₁ hce₁ ⊢
 have hfresh:H s₂.heap.objs.size=none:=I2.hok.fresh (qaV _)
 have I3:Inv X pins σ (upd H s₂.heap.objs.size (.lst [])) {s₂ with heap:=s₂.heap.push {cls:= .type "list",dict:=none,data:= .seq ([]:List Value).toArray}}:=by
  have:=I2.lnew (its:=[]) (ys:=[]) (t':=s₂.toks) .nil (zero_le _)
  exact this
 obtain ⟨W,⟨m0,w0⟩,turn⟩:=hw _ hfresh
 generalize hD:s₂.heap.objs.size=D at*
 generalize hs3:({s₂ with heap:=s₂.heap.push {cls:= .type "list",dict:=none,data:= .seq ([]:List Value).toArray}}:Shared)=s₃ at*
 have hh3:s₂.heap.push {cls:= .type "list",dict:=none,data:= .seq ([]:List Value).toArray}=s₃.heap:=by rw [<- hs3]
 rw [hh3] at hk₁ hns₁ hce₁ ⊢
 have push3: ∀ b o,s₂.heap.get? b=some o->s₃.heap.get? b=some o:=λb o e=>by rw [<- hs3];exact qag _ e
 have sz3:s₃.heap.objs.size=D+1:=by rw [<- hs3, <-hD];exact qaL ..
 have fpo: ∀ b∈fp, ∃ o,s₂.heap.get? b=some o/\ ∀ v,o.data≠ .cell v:=T.obj _ _ st2
 have fpD: ∀ b∈fp,b≠D:=λb hb z=>by
  obtain ⟨o,e,_⟩:=fpo b hb
  have:=qaQ e
  rw [z, <-hD] at this
  exact qaN _ this
 have f3: ∀ b∈fp,zgx X pins (upd H D (.lst [])) b:=λb hb=>⟨by rw [zaN (fpD b hb)];exact (f2 b hb).1,(f2 b hb).2⟩
 have I4:Inv (cxB X scope N s₃ (upd H D (.lst [])) fp) [] (bStart src σ) (upd H D (.lst [])) {s₃ with heap:=h₁}:=
  zlE I3 B f3 (λb hb=>let ⟨o,e,_⟩:=fpo b hb;⟨o,push3 b o e⟩) hk₁ hns₁ hce₁
 have fB: ∀ {H':Hp},(∀ b∈fp,H' b=none)-> ∀ b∈fp,zgx (cxB X scope N s₃ (upd H D (.lst [])) fp) [] H' b:=λ{H'} hn b hb=>
  ⟨hn b hb,(I4.ok.exf b hb).1,I4.ok.exfs b hb,.inl hb,λx c e=>(I4.ok.exf b hb).2 x c e,λp hp=>absurd (show p∈([]:List (Addr×Obj)) from hp) (by simp)⟩
 have stat4: ∀ s',s'=({s₃ with heap:=h₁}:Shared)->codeAny (model X.prog X.w) X.A (.compLoop (.ListComp elt [⟨tg,iter,ifs,0⟩] scope pos) 0 (.ref it) (.ref D) (zp8 X.env scope s₃.heap.objs.size)) (RR (.ref D) s₃.heap.objs.size) s':=by
  intro s' es
  refine zg9 (λn s'=> ∃ i σ' H',Inv (cxB X scope N s₃ (upd H D (.lst [])) fp) [] σ' H' s'/\tn i s'.heap/\(∀ b∈fp,H' b=none)/\W i n σ' H') ?_ m0 ⟨0,_,_,by rw [es];exact I4,by rw [es];exact T.keep _ _ _ st2 λb hb o e=>hk₁ b o (push3 b o e),λb hb=>(f3 b hb).1,w0⟩
  rintro n s5 ⟨i,σ5,H5,I5,st5,fr5,w5⟩
  rcases turn i n σ5 H5 w5 with ⟨stop,qn⟩ | ⟨go,Nn,hN,step⟩
  ·refine thn (T.done (cxB X scope N s₃ (upd H D (.lst [])) fp) rfl rfl rfl i [] s5 σ5 H5 _ I5 (fB fr5) st5 stop) λr s6 ⟨hr,I6⟩=> ?_
   subst hr
   obtain ⟨m,hnC,_⟩:=I6.loc
   have un:=I6.base
   have u2:Un (frs X.stack) fp H H5 s₂.heap s6.heap:=by
    refine Un.trans ?_ un
    have:=Un.laid (fs:=frs X.stack) (ex:=fp) (H:=H) (h:=s₂.heap) (h':=s₃.heap) (a:=D) (o:= .lst []) push3 (Nat.le_of_eq hD) hfresh
    exact this
   refine hRR D _ H5 s6 m (I2.call' (ch:=fp) (by rw [I6.os, <-hs3]) u2 I6.hok I6.bare λb hb=> ?_) hnC (by rw [sz3];exact le_succ _) hnC.lt I6.free qn
   obtain ⟨q0,q1,q2,q3,q4,q5⟩:=f2 b hb
   exact ⟨q3,q1,q4,q5⟩
  ·refine thn (T.item (cxB X scope N s₃ (upd H D (.lst [])) fp) rfl rfl rfl i [] s5 σ5 H5 _ I5 (fB fr5) st5 go) λr s6 ⟨u,hr,h6⟩=> ?_
   subst hr
   refine thn h6 λ_ s7 ⟨x,H7,I7,r7,y7,st7,fr7⟩=> ?_
   have I7':=I7.pinned (fB fr7) (T.obj _ _ st7)
   refine thn (hg _ _ _ _ s7 σ5 H7 x u _ I7' r7 (step x H7 y7)) λ_ s8 ⟨σ8,H8,I8,q8⟩=> ?_
   refine thn (ht _ _ _ _ s8 σ8 H8 _ I8 q8) λok s9 ⟨H9,I9,q9⟩=> ?_
   have again: ∀ {σ7:St} {Hz:Hp} {sz:Shared},Inv (cxB X scope N s₃ (upd H D (.lst [])) fp) ([]++zhy fp s7.heap) σ7 Hz sz->Nn σ7 Hz-> ∃ m,m<n/\ ∃ i σ' H',Inv (cxB X scope N s₃ (upd H D (.lst [])) fp) [] σ' H' sz/\tn i sz.heap/\(∀ b∈fp,H' b=none)/\W i m σ' H':=λ{σz Hz sz} Iz nz=>by
    obtain ⟨m',hm,wz⟩:=hN _ _ nz
    refine ⟨m',hm,i+1,_,_,Iz.unpinned,T.keep _ _ _ st7 λb hb o e=>(Iz.pin (b,o) (qak _ (qak _ (zdE hb e)))).1,λb hb=> ?_,wz⟩
    obtain ⟨o,e,d⟩:=T.obj _ _ st7 b hb
    exact (Iz.pin (b,o) (qak _ (qak _ (zdE hb e)))).2.1
   cases ok with
   | false=>
    rw [qa5 (by decide)] at q9
    rw [qa5 (by decide)]
    exact again I9 q9
   | true=>
    rw [qa4 rfl] at q9
    rw [qa4 rfl]
    refine thn (he _ _ _ _ s9 σ8 H9 _ I9 q9) λy s10 ⟨yv,H10,I10,ry,xs,e10,z10,q10⟩=> ?_
    refine thn (zho (X:=cxB X scope N s₃ (upd H D (.lst [])) fp) _ s10 σ8 H10 (.ref D) [yv] (.ref D) [y] (λ_ Hf=>Nn σ8 Hf) I10 rfl (.cons ry .nil) ⟨D,xs,yv,rfl,rfl,e10,z10,q10⟩) λ_ s11 ⟨_,H11,I11,_,q11⟩=> ?_
    exact again I11 q11
 exact codeAny_compStart_list (stat4 _ (by rw [<- hs3])) (T.self _ 0 _ _ _ (T.keep _ _ _ st2 λb hb o e=>hk₁ b o (push3 b o e)) (stat4 _ (by rw [<- hs3])))
def zmG (wi:TI) (g:TG) (tc:TT) (te:TE) (src:List (Option Nat)):TE:=λσ H Q=>wi σ H λJ H1=> ∀ D,H1 D=none->ztI J g tc te (bStart src σ) H1 D λH'=>Q (.ref D) H'
theorem Inv.letGo {pins:List (Addr×Obj)} {σ:St} {H:Hp} {s:Shared} {C:Addr} {m:Str->Option Value} {h':Heap} (I:Inv X pins σ H s) (hn:s.heap.Ns C m) (hn':H C=none) (hC:X.s₀.heap.objs.size<=C) (hL:C≠X.env.locals) (hp: ∀ p∈X.pn++pins,p.1≠C) (hs:Heap.SameBut C s.heap h'):Inv X pins σ H {s with heap:=h'}:=by
 refine I.turned (t':=s.toks) (it:=C) (λb o hb e=>(hs.2 b hb).trans e) hn' hL (.inr hC) (λx c e z=> ?_) hp
 obtain ⟨v,o,ho,hd⟩:=I.cell x c e
 obtain ⟨o',es,ep,ho',hd',_⟩:=hn
 rw [z,ho'] at ho
 cases ho
 rw [hd'] at hd
 cases hd
theorem zkO {wi:TI} {g:TG} {tc:TT} {te:TE} (B:BOk X scope N src) (hi:PI X tg iter wi)
  (hg: ∀ s H fp,PG (cxB X scope N s H fp) tg g) (ht: ∀ s H fp,PCs (cxB X scope N s H fp) ifs tc) (he: ∀ s H fp,PE (cxB X scope N s H fp) elt te)
  (hs: ∀ x,foldedSetIterable iter X.env x=pure x:=by intro _;rfl):PE X (.ListComp elt [⟨tg,iter,ifs,0⟩] scope pos) (zmG wi g tc te src):=by
 intro pins s σ H Q I h
 rw [eval_ListComp]
 refine wpAny_comprehension_free (use:=none) rfl hs (zea λx hx e=>I.ok.has x.1 (B.free x hx e)) B.kind B.locs ?_
 refine thn (hi pins s σ H _ I h) λv s1 h1=>thn h1 λitv s2 h2=> ?_
 obtain ⟨it,fp,tn,J,H2,e,I2,T,st2,f2,hw⟩:=h2
 subst e
 refine ziO (RR:=λacc C=>compPost (model X.prog X.w) X.A X.xe none (EP X pins σ Q) acc C) (Q:=λD H'=>Q (.ref D) H') B hg ht he I2 T st2 f2 hw ?_
 intro D C H' s' m I' hn hC hCs hf q
 refine ⟨m,hn,λh' hs'=>⟨.ref D,H',I'.letGo hn hf (qaS I2.sz hC) (λz=> ?_) (λp hp z=> ?_) hs',rfl,q⟩⟩
 ·exact qaN _ (qaw (z▸I2.lt) hC)
 ·have:=qaQ (I2.pin p hp).1
  rw [z] at this
  exact qaN _ (qaw this hC)
theorem zf5 {wi:TI} {g:TG} {tc:TT} {te:TE} {i:Nat} {y:Str} {py spos:Pos} (B:BOk X scope N src) (hi:PI X tg iter wi)
  (hg: ∀ s H fp,PG (cxB X scope N s H fp) tg g) (ht: ∀ s H fp,PCs (cxB X scope N s H fp) ifs tc) (he: ∀ s H fp,PE (cxB X scope N s H fp) elt te)
  (hN:X.N.Nodup) (hy:X.N[i]? = some y) (hx:Loc X.env.scope y) (hsw:swapsWith (.ListComp elt [⟨tg,iter,ifs,0⟩] scope pos) (some (.Name y py)) spos.line X.env=pure true)
  (hf:X.fn y=true\/X.env.scope.names.lookup y=some .local:=by first | exact .inl rfl | exact .inr rfl | assumption)
  (hs: ∀ x,foldedSetIterable iter X.env x=pure x:=by intro _;rfl):PS X (.Assign [.Name y py] (.ListComp elt [⟨tg,iter,ifs,0⟩] scope pos) spos) (zuZ (zmG wi g tc te src) (zoT i)):=by
 intro pins s σ H D0 I h
 rw [exec_Assign_Name_used _ _ _ _ hsw]
 refine qaW (wpAny_standAt (qaW ?_))
 show wpAny _ X.A (do let _<-comprehension (.ListComp elt [⟨tg,iter,ifs,0⟩] scope pos) scope X.env _ (newList []) false (eval iter X.env) (some (assign (.Name y py) X.env))) _ _ s
 refine qaW (qaZ (wpAny_comprehension_free (use:=some (assign (.Name y py) X.env)) (Q:=λ_ s'=>SP X pins D0 .next s') rfl hs (zea λx hx e=>I.ok.has x.1 (B.free x hx e)) B.kind B.locs ?_)
   (λ_ s' hq=>qaX (qaX hq)) λ_ _ e=>e)
 refine thn (hi pins s σ H _ I h) λv s1 h1=>thn h1 λitv s2 h2=> ?_
 obtain ⟨it,fp,tn,J,H2,e,I2,T,st2,f2,hw⟩:=h2
 subst e
 refine ziO (RR:=λacc C=>compPost (model X.prog X.w) X.A X.xe (some (assign (.Name y py) X.env)) (λ_ s'=>SP X pins D0 .next s') acc C) (Q:=λD H'=>D0.nx (σ.set i (some (.ref D))) H') B hg ht he I2 T st2 f2 hw ?_
 intro D C H' s' m I' hn hC hCs hf' q
 show wpAny _ X.A (assign (.Name y py) X.env (.ref D)) _ _ _
 have hCL:C≠X.env.locals:=λz=>qaN _ (qaw (z▸I2.lt) hC)
 have hCp: ∀ p∈X.pn++pins,p.1≠C:=λp hp z=>by
  have:=qaQ (I2.pin p hp).1
  rw [z] at this
  exact qaN _ (qaw this hC)
 have hCc: ∀ x c,X.env.cells.lookup x=some c->c≠C:=λx c e z=>by
  obtain ⟨v,hv⟩:=I2.cell x c e
  exact qaN _ (qaw (z▸hv.lt) hC)
 obtain ⟨oC,es,ep,hoC,hdC,hrest⟩:=hn
 have hCfs:C∉X.fs:=I2.nofs hC
 have Ip:Inv X (pins++[(C,oC)]) σ H' s':=I'.pins_of λp hp=>by
  rcases qaK.mp hp with z | z
  ·exact I'.pin p (qak _ z)
  ·obtain rfl:p=(C,oC):=by simpa using z
   exact ⟨hoC,hf',hCL,hCfs,λv z=>by have z':=hdC.symm.trans z;cases z'⟩
 refine wpAny_assign_Name (zek Ip hN hy hx (v:= .ref D) rfl (λs3 I3=> ?_) hf)
 have hC3:=(I3.pin (C,oC) (by simp)).1
 refine ⟨m,⟨oC,es,ep,hC3,hdC,hrest⟩,λh' hs'=> ?_⟩
 exact ⟨_,H',(I3.unpinned).letGo ⟨oC,es,ep,hC3,hdC,hrest⟩ hf' (qaS I2.sz hC) hCL hCp hs',q⟩
end
end L2
namespace L3
open L2
inductive D where
 | non | bl (b:Bool) | int (i:Int) | str (x:Str) | tup (xs:List D) | lst (xs:List D) | cel (n:Nat) | set (xs:List Int) | dct | fn (a:Addr) | scr (xs:List D) | exn (c:String)
inductive C where
 | lst (xs:List D) | dic (kvs:List (Int×D)) | dit (ks:List (List Int)) | ins (c:String) (fs:List (Str×D)) | dead
abbrev Hh:=List C
structure Io where
 c:List (Option Addr)
 x:List Addr
def Io.Has (ι:Io) (a:Addr):Prop:=some a∈ι.c\/a∈ι.x
inductive R (α:Type) where
 | ok (a:α) (h:Hh) | exc (c:String) (h:Hh) | bad
def M (α:Type):=Hh->R α
@[inline] def M.bind {α β:Type} (m:M α) (f:α->M β):M β:=λh=>match m h with
 | .ok a h'=>f a h'
 | .exc c h'=> .exc c h'
 | .bad=> .bad
@[inline] def M.pure {α:Type} (a:α):M α:=λh=> .ok a h
noncomputable instance:Monad M where
 pure:=M.pure
 bind:=M.bind
noncomputable def M.bad {α:Type}:M α:=λ_=> .bad
def KL (K:W.Frag) (a:Addr) (xs:List V):Prop:=SqL K (λ_=>none) a xs
mutual
noncomputable def Rel (K:W.Frag) (ι:Io) (H:Hp):D->V->Prop
 | .non,v=>v= .non
 | .bl b,v=>v= .bl b
 | .int i,v=>v= .int i
 | .str x,v=>v= .str x
 | .tup ds,v=> ∃ a vs,v= .ref a/\(H a=some (.tup vs)/\ ¬ι.Has a)/\zaw K ι H ds vs
 | .lst ds,v=> ∃ a vs,v= .ref a/\(H a=some (.lst vs)/\ ¬ι.Has a)/\zaw K ι H ds vs
 | .scr ds,v=> ∃ a vs,v= .ref a/\((Rd H a (.lst vs)/\ ¬ι.Has a)\/KL K a vs)/\zaw K ι H ds vs
 | .cel n,v=> ∃ a,v= .ref a/\(ι.c[n]? = some (some a)\/ι.c[n]? = some none)
 | .set xs,v=> ∃ a,v= .ref a/\H a=some (.set (λk=>xs.any (· == k)) xs.length)/\ ¬ι.Has a
 | .dct,v=> ∃ a,v= .ref a/\H a=some (.dK [])/\ ¬ι.Has a
 | .fn a,v=>v= .ref a
 | .exn c,v=> ∃ a o C head vs,v= .ref a/\(H a=some (.frz o (.own 0))/\ ¬ι.Has a)/\W.nsIn K mainGlobals (c:Str)=some (some (.ref C))/\o.cls= .ref C/\o.dict=none/\o.data= .fields vs/\vs[2]? = some .none/\vs[1]? = some head
noncomputable def zaw (K:W.Frag) (ι:Io) (H:Hp):List D->List V->Prop
 | [],vs=>vs=[]
 | d::ds,vs=> ∃ v r,vs=v::r/\Rel K ι H d v/\zaw K ι H ds r
end
structure zb1 (ι:Io) (H:Hp) (ι':Io) (H':Hp):Prop where
 old: ∀ (n:Nat) (o:Option Addr),ι.c[n]? = some o->ι'.c[n]? = some o\/ι'.c[n]? = some none
 new: ∀ a,some a∈ι'.c->some a∈ι.c\/H a=none
 hid:ι'.x=ι.x
 hidk: ∀ a∈ι.x,H' a=H a
 keep: ∀ b o,H b=some o-> ¬ι.Has b->H' b=some o
theorem zb1.refl (ι:Io) (H:Hp):zb1 ι H ι H:=⟨λ_ _ h=> .inl h,λ_ h=> .inl h,rfl,λ_ _=>rfl,λ_ _ h _=>h⟩
theorem zb1.nin {ι ι':Io} {H H':Hp} (s:zb1 ι H ι' H') {a:Addr} {o:HO} (h:H a=some o) (n: ¬ι.Has a): ¬ι'.Has a:=λz=>by
 rcases z with z | z
 ·rcases s.new a z with z | z
  ·exact n (.inl z)
  ·rw [h] at z;cases z
 ·rw [s.hid] at z;exact n (.inr z)
theorem zb1.trans {ι ι1 ι2:Io} {H H1 H2:Hp} (s:zb1 ι H ι1 H1) (t:zb1 ι1 H1 ι2 H2):zb1 ι H ι2 H2 where
 old:=λn o h=>by
  rcases s.old n o h with h | h
  ·exact t.old n o h
  ·rcases t.old n _ h with h | h<;>exact .inr h
 new:=λa h=>by
  rcases t.new a h with h | h
  ·exact s.new a h
  ·by_cases z:some a∈ι.c
   ·exact .inl z
   ·refine .inr ?_
    cases q:H a with
    | none=>rfl
    | some o=>
     by_cases z':a∈ι.x
     ·rw [s.hidk a z',q] at h;cases h
     ·rw [s.keep a o q (λw=>w.elim z z')] at h;cases h
 hid:=t.hid.trans s.hid
 hidk:=λa h=>(t.hidk a (by rw [s.hid];exact h)).trans (s.hidk a h)
 keep:=λb o h n=>t.keep b o (s.keep b o h n) (s.nin h n)
structure Pass (ι:Io) (H:Hp) (ι':Io) (H':Hp):Prop where
 old: ∀ (n:Nat) (o:Option Addr),ι.c[n]? = some o->ι'.c[n]? = some o\/ι'.c[n]? = some none
 keep: ∀ b o,H b=some o-> ¬ι.Has b->H' b=some o/\ ¬ι'.Has b
theorem zb1.pass {ι ι':Io} {H H':Hp} (s:zb1 ι H ι' H'):Pass ι H ι' H':=⟨s.old,λb o h n=>⟨s.keep b o h n,s.nin h n⟩⟩
theorem Pass.rd {ι ι':Io} {H H':Hp} (s:Pass ι H ι' H') {a:Addr} {u:HO} (h:Rd H a u) (n: ¬ι.Has a):Rd H' a u/\ ¬ι'.Has a:=by
 rcases h with h | ⟨o,h⟩
 ·exact ⟨.inl (s.keep _ _ h n).1,(s.keep _ _ h n).2⟩
 ·exact ⟨.inr ⟨o,(s.keep _ _ h n).1⟩,(s.keep _ _ h n).2⟩
section
variable {K:W.Frag} {ι ι':Io} {H H':Hp}
mutual
theorem Rel.pass (s:Pass ι H ι' H'): ∀ {d:D} {v:V},Rel K ι H d v->Rel K ι' H' d v
 | .non,_,h=>by simpa [Rel] using h
 | .bl _,_,h=>by simpa [Rel] using h
 | .int _,_,h=>by simpa [Rel] using h
 | .str _,_,h=>by simpa [Rel] using h
 | .tup ds,v,h=>by
  simp only [Rel] at h ⊢
  obtain ⟨a,vs,e,h1,h2⟩:=h
  exact ⟨a,vs,e,s.keep _ _ h1.1 h1.2,zaw.pass s h2⟩
 | .lst ds,v,h=>by
  simp only [Rel] at h ⊢
  obtain ⟨a,vs,e,h1,h2⟩:=h
  exact ⟨a,vs,e,s.keep _ _ h1.1 h1.2,zaw.pass s h2⟩
 | .scr ds,v,h=>by
  simp only [Rel] at h ⊢
  obtain ⟨a,vs,e,h1,h2⟩:=h
  exact ⟨a,vs,e,h1.imp (λz=>s.rd z.1 z.2) id,zaw.pass s h2⟩
 | .cel n,v,h=>by
  simp only [Rel] at h ⊢
  obtain ⟨a,e,h⟩:=h
  refine ⟨a,e,?_⟩
  rcases h with h | h
  ·exact s.old n _ h
  ·rcases s.old n _ h with h | h<;>exact .inr h
 | .set xs,v,h=>by
  simp only [Rel] at h ⊢
  obtain ⟨a,e,h,n⟩:=h
  exact ⟨a,e,(s.keep _ _ h n).1,(s.keep _ _ h n).2⟩
 | .dct,v,h=>by
  simp only [Rel] at h ⊢
  obtain ⟨a,e,h,n⟩:=h
  exact ⟨a,e,(s.keep _ _ h n).1,(s.keep _ _ h n).2⟩
 | .fn _,_,h=>by simpa [Rel] using h
 | .exn _,_,h=>by
  simp only [Rel] at h ⊢
  obtain ⟨a,o,C,head,vs,e,h1,h2⟩:=h
  exact ⟨a,o,C,head,vs,e,s.keep _ _ h1.1 h1.2,h2⟩
theorem zaw.pass (s:Pass ι H ι' H'): ∀ {ds:List D} {vs:List V},zaw K ι H ds vs->zaw K ι' H' ds vs
 | [],_,h=>by simpa [zaw] using h
 | d::ds,_,h=>by
  simp only [zaw] at h ⊢
  obtain ⟨v,r,e,h1,h2⟩:=h
  exact ⟨v,r,e,Rel.pass s h1,zaw.pass s h2⟩
end
theorem Rel.step (s:zb1 ι H ι' H') {d:D} {v:V} (h:Rel K ι H d v):Rel K ι' H' d v:=h.pass s.pass
theorem zaw.step (s:zb1 ι H ι' H') {ds:List D} {vs:List V} (h:zaw K ι H ds vs):zaw K ι' H' ds vs:=h.pass s.pass
theorem zaw.nil:zaw K ι H [] []:=by simp [zaw]
theorem zaw.cons {d:D} {ds:List D} {v:V} {vs:List V} (h:Rel K ι H d v) (t:zaw K ι H ds vs):zaw K ι H (d::ds) (v::vs):=by simp only [zaw];exact ⟨v,vs,rfl,h,t⟩
theorem zaw.length: ∀ {ds:List D} {vs:List V},zaw K ι H ds vs->ds.length=vs.length
 | [],_,h=>by simp only [zaw] at h;subst h;rfl
 | d::ds,_,h=>by
  simp only [zaw] at h
  obtain ⟨v,r,rfl,_,h⟩:=h
  simp [zaw.length h]
theorem zaw.get: ∀ {ds:List D} {vs:List V} {i:Nat} {d:D},zaw K ι H ds vs->ds[i]? = some d-> ∃ v,vs[i]? = some v/\Rel K ι H d v
 | [],_,_,_,_,e=>by simp at e
 | d::ds,_,i,x,h,e=>by
  simp only [zaw] at h
  obtain ⟨v,r,rfl,h1,h2⟩:=h
  cases i with
  | zero=>simp at e;subst e;exact ⟨v,rfl,h1⟩
  | succ i=>simp at e;simpa using zaw.get h2 e
theorem zaw.getV: ∀ {ds:List D} {vs:List V} {i:Nat} {v:V},zaw K ι H ds vs->vs[i]? = some v-> ∃ d,ds[i]? = some d/\Rel K ι H d v
 | [],_,_,_,h,e=>by simp only [zaw] at h;subst h;simp at e
 | d::ds,_,i,x,h,e=>by
  simp only [zaw] at h
  obtain ⟨v,r,rfl,h1,h2⟩:=h
  cases i with
  | zero=>simp at e;subst e;exact ⟨d,rfl,h1⟩
  | succ i=>simp at e;simpa using zaw.getV h2 e
theorem zaw.append: ∀ {ds es:List D} {vs ws:List V},zaw K ι H ds vs->zaw K ι H es ws->zaw K ι H (ds++es) (vs++ws)
 | [],_,_,_,h,t=>by simp only [zaw] at h;subst h;exact t
 | d::ds,es,_,ws,h,t=>by
  simp only [zaw] at h
  obtain ⟨v,r,rfl,h1,h2⟩:=h
  exact zaw.cons h1 (zaw.append h2 t)
theorem zaw.set {d:D} {v:V} (hd:Rel K ι H d v): ∀ {ds:List D} {vs:List V} (i:Nat),zaw K ι H ds vs->zaw K ι H (ds.set i d) (vs.set i v)
 | [],_,_,h=>by simp only [zaw] at h;subst h;exact zaw.nil
 | x::ds,_,i,h=>by
  simp only [zaw] at h
  obtain ⟨w,r,rfl,h1,h2⟩:=h
  cases i with
  | zero=>exact zaw.cons hd h2
  | succ i=>exact zaw.cons h1 (zaw.set hd i h2)
theorem zc1: ∀ {is:List Int} {vs:List V},zaw K ι H (is.map D.int) vs↔vs=is.map V.int
 | [],vs=>by simp [zaw]
 | i::is,vs=>by
  simp only [qaM,zaw]
  constructor
  ·rintro ⟨v,r,rfl,h1,h2⟩
   simp only [Rel] at h1
   rw [h1,zc1.mp h2]
  ·rintro rfl
   exact ⟨_,_,rfl,by simp [Rel],zc1.mpr rfl⟩
def CO (K:W.Frag) (ι:Io) (H:Hp):C->HO->Prop
 | .lst ds,o=> ∃ vs,o= .lst vs/\zaw K ι H ds vs
 | .dic kvs,o=> ∃ vs,o= .dK vs/\Paired (λ(p:Int×D) (q:Key×V)=>q.1= .inl p.1/\Rel K ι H p.2 q.2) kvs vs
 | .dit ks,o=>o= .dT (ks.map λk=>(k.map Sum.inl,V.bl true))
 | .ins c fs,o=> ∃ C dx vs,o= .ins C dx vs/\W.nsIn K mainGlobals (c:Str)=some (some (.ref C))/\Paired (λ(p:Str×D) (q:Str×V)=>q.1=p.1/\Rel K ι H p.2 q.2) fs vs
 | .dead,_=>False
theorem CO.pass {c:C} {o:HO} (s:Pass ι H ι' H') (h:CO K ι H c o):CO K ι' H' c o:=by
 cases c with
 | lst ds=>obtain ⟨vs,e,r⟩:=h;exact ⟨vs,e,r.pass s⟩
 | dic kvs=>
  obtain ⟨vs,e,r⟩:=h
  refine ⟨vs,e,?_⟩
  clear e
  induction r with
  | nil=>exact .nil
  | cons a t ih=>exact .cons ⟨a.1,a.2.pass s⟩ ih
 | dit ks=>exact h
 | ins c fs=>
  obtain ⟨C,dx,vs,e,hc,r⟩:=h
  refine ⟨C,dx,vs,e,hc,?_⟩
  clear e
  induction r with
  | nil=>exact .nil
  | cons a t ih=>exact .cons ⟨a.1,a.2.pass s⟩ ih
 | dead=>exact h
structure zbo (K:W.Frag) (ι:Io) (H:Hp) (h:Hh):Prop where
 len:h.length=ι.c.length
 inj: ∀ (m n:Nat) (a:Addr),ι.c[m]? = some (some a)->ι.c[n]? = some (some a)->m=n
 at_: ∀ (n:Nat) (a:Addr) (c:C),ι.c[n]? = some (some a)->h[n]? = some c-> ∃ o,H a=some o/\CO K ι H c o
 dead: ∀ (n:Nat),ι.c[n]? = some none->h[n]? = some .dead
 hidt: ∀ a∈ι.x,(∃ vs,H a=some (.lst vs))/\some a∉ι.c
abbrev Sd:=List (Option D)
def zc4 (K:W.Frag) (ι:Io) (H:Hp) (sd:Sd) (σ:L2.St):Prop:=sd.length=σ.length/\ ∀ (i:Nat) (d:D),sd[i]? = some (some d)-> ∃ v,σ[i]? = some (some v)/\Rel K ι H d v
theorem zc4.pass {sd:Sd} {σ:L2.St} (s:Pass ι H ι' H') (h:zc4 K ι H sd σ):zc4 K ι' H' sd σ:=⟨h.1,λi d e=>let ⟨v,h1,h2⟩:=h.2 i d e;⟨v,h1,h2.pass s⟩⟩
theorem zc4.step {sd:Sd} {σ:L2.St} (s:zb1 ι H ι' H') (h:zc4 K ι H sd σ):zc4 K ι' H' sd σ:=⟨h.1,λi d e=>let ⟨v,h1,h2⟩:=h.2 i d e;⟨v,h1,h2.step s⟩⟩
theorem zc4.set {sd:Sd} {σ:L2.St} {d:D} {v:V} (h:zc4 K ι H sd σ) (r:Rel K ι H d v) (i:Nat):zc4 K ι H (sd.set i (some d)) (σ.set i (some v)):=by
 refine ⟨by rw [qaI,qaI];exact h.1,λj d' e=> ?_⟩
 by_cases hij:i=j
 ·subst hij
  by_cases hl:i<sd.length
  ·rw [qai hl] at e
   cases e
   exact ⟨v,by rw [qai (by rw [<- h.1];exact hl)],r⟩
  ·rw [List.getElem?_eq_none (by rw [qaI];omega)] at e
   cases e
 ·rw [qao hij] at e ⊢
  exact h.2 j d' e
end
abbrev St:=L2.St
abbrev XE:=String->Hp->Prop
def Fin {α:Type} (K:W.Frag) (E:XE) (ι:Io) (H:Hp) (r:R α) (P:α->Io->Hp->Prop):Prop:=match r with
 | .ok a h'=> ∀ ι' H',zb1 ι H ι' H'->zbo K ι' H' h'->P a ι' H'
 | .exc c h'=> ∀ ι' H',zb1 ι H ι' H'->zbo K ι' H' h'->E c H'
 | .bad=>False
section
variable {α β:Type} {K:W.Frag} {E:XE} {ι ι':Io} {H H':Hp}
theorem Fin.step {r:R α} {P:α->Io->Hp->Prop} (s:zb1 ι H ι' H') (h:Fin K E ι H r P):Fin K E ι' H' r P:=by
 cases r with
 | ok a h'=>exact λι2 H2 t hr=>h ι2 H2 (s.trans t) hr
 | exc c h'=>exact λι2 H2 t hr=>h ι2 H2 (s.trans t) hr
 | bad=>exact h
theorem Fin.bind {m:M α} {f:α->M β} {h:Hh} {P:β->Io->Hp->Prop} {P':α->Io->Hp->Prop} (q:Fin K E ι H ((m>>=f) h) P)
  (k: ∀ a h' ι' H',m h= .ok a h'->zb1 ι H ι' H'->zbo K ι' H' h'->Fin K E ι' H' (f a h') P->P' a ι' H'):Fin K E ι H (m h) P':=by
 have q':Fin K E ι H (M.bind m f h) P:=q
 unfold M.bind at q'
 cases e:m h with
 | ok a h'=>
  rw [e] at q'
  intro ι' H' s hr
  exact k a h' ι' H' e s hr (Fin.step s q')
 | exc c h'=>rw [e] at q';exact q'
 | bad=>rw [e] at q';exact q'
theorem Fin.out {a:α} {h:Hh} {P:α->Io->Hp->Prop} (hr:zbo K ι H h) (q:Fin K E ι H ((pure a:M α) h) P):P a ι H:=q ι H (zb1.refl _ _) hr
end
def zhP (K:W.Frag) (E:XE) (f:Sd->M D):TE:=λσ H Q=> ∃ ι h sd,zc4 K ι H sd σ/\zbo K ι H h/\Fin K E ι H (f sd h) λd ι' H'=> ∀ v,Rel K ι' H' d v->Q v H'
def zfZ (K:W.Frag) (E:XE) (f:Sd->M Bool):TT:=λσ H Q=> ∃ ι h sd,zc4 K ι H sd σ/\zbo K ι H h/\Fin K E ι H (f sd h) λb ι' H'=>Q b H'
def zvh (K:W.Frag) (E:XE) (f:Sd->M (List D)):TA:=λσ H Q=> ∃ ι h sd,zc4 K ι H sd σ/\zbo K ι H h/\Fin K E ι H (f sd h) λds ι' H'=> ∀ vs,zaw K ι' H' ds vs->Q vs H'
abbrev SE (X:Cx) (E:XE) (e:Expr) (f:Sd->M D):Prop:=PE X e (zhP X.K E f)
abbrev ST (X:Cx) (E:XE) (e:Expr) (f:Sd->M Bool):Prop:=PT X e (zfZ X.K E f)
abbrev SA (X:Cx) (E:XE) (es:List Expr) (f:Sd->M (List D)):Prop:=PA X es (zvh X.K E f)
def zdI (K:W.Frag) (E:XE) (F:D->D->M D):R2:=λx y H Q=> ∃ ι h d1 d2,Rel K ι H d1 x/\Rel K ι H d2 y/\zbo K ι H h/\Fin K E ι H (F d1 d2 h) λd ι' H'=> ∀ v,Rel K ι' H' d v->Q v H'
def zjt (K:W.Frag) (E:XE) (F:List D->M D):List V->Hp->VK->Prop:=λxs H Q=> ∃ ι h ds,zaw K ι H ds xs/\zbo K ι H h/\Fin K E ι H (F ds h) λd ι' H'=> ∀ v,Rel K ι' H' d v->Q v H'
theorem PE.imp {X:Cx} {e:Expr} {t t':TE} (h:PE X e t) (m: ∀ σ H Q,t' σ H Q->t σ H Q):PE X e t':=λpins s σ H Q I q=>h pins s σ H Q I (m _ _ _ q)
theorem PT.imp {X:Cx} {e:Expr} {t t':TT} (h:PT X e t) (m: ∀ σ H Q,t' σ H Q->t σ H Q):PT X e t':=λpins s σ H Q I q=>h pins s σ H Q I (m _ _ _ q)
theorem PA.imp {X:Cx} {e:List Expr} {t t':TA} (h:PA X e t) (m: ∀ σ H Q,t' σ H Q->t σ H Q):PA X e t':=λpos pins s σ H Q I q=>h pos pins s σ H Q I (m _ _ _ q)
theorem OpR.imp {X:Cx} {f:Value->Value->Sem Value} {r r':R2} (h:OpR X f r) (m: ∀ x y H Q,r' x y H Q->r x y H Q):OpR X f r':=λpins s σ H x y v u Q I rx ry q=>h pins s σ H x y v u Q I rx ry (m _ _ _ _ q)
theorem zba.imp {X:Cx} {f:Value} {r r':List V->Hp->VK->Prop} (h:zba X f r) (m: ∀ xs H Q,r' xs H Q->r xs H Q):zba X f r':=by
 intro pins s σ H xs us Q I rx q
 exact h pins s σ H xs us Q I rx (m _ _ _ q)
theorem IxR.imp {X:Cx} {r r':R2} (h:IxR X r) (m: ∀ x y H Q,r' x y H Q->r x y H Q):IxR X r':=by
 intro value slice pins s σ H x y v u Q I rx ry q hs
 exact h value slice pins s σ H x y v u Q I rx ry (m _ _ _ _ q) hs
theorem PI.imp {X:Cx} {tg iter:Expr} {t t':TI} (h:PI X tg iter t) (m: ∀ σ H Q,t' σ H Q->t σ H Q):PI X tg iter t':=λpins s σ H Q I q=>h pins s σ H Q I (m _ _ _ q)
theorem PG.imp {X:Cx} {tg:Expr} {t t':TG} (h:PG X tg t) (m: ∀ v σ H Q,t' v σ H Q->t v σ H Q):PG X tg t':=λpins s σ H v u Q I r q=>h pins s σ H v u Q I r (m _ _ _ _ q)
theorem PS.imp {X:Cx} {st:Stmt} {t t':TS} (h:PS X st t) (m: ∀ D σ H,t' D σ H->t D σ H):PS X st t':=λpins s σ H D I q=>h pins s σ H D I (m _ _ _ q)
theorem PSs.imp {X:Cx} {st:List Stmt} {t t':TS} (h:PSs X st t) (m: ∀ D σ H,t' D σ H->t D σ H):PSs X st t':=λpins s σ H D I q=>h pins s σ H D I (m _ _ _ q)
section
variable {X:Cx} {E:XE} {a b e:Expr} {es:List Expr} {pos:Pos} {fa fb:Sd->M D}
theorem te2 {K:W.Frag} {F:D->D->M D} {r:R2} (hr: ∀ x y H Q,zdI K E F x y H Q->r x y H Q) (σ:St) (H:Hp) (Q:VK) (q:zhP K E (λsd=>do let x<-fa sd;let y<-fb sd;F x y) σ H Q):tOp r (zhP K E fa) (zhP K E fb) σ H Q:=by
 obtain ⟨ι,h,sd,L,hh,q⟩:=q
 refine ⟨ι,h,sd,L,hh,Fin.bind q λd1 h1 ι1 H1 e1 s1 hr1 q1 v r1=> ?_⟩
 refine ⟨ι1,h1,sd,L.step s1,hr1,Fin.bind q1 λd2 h2 ι2 H2 e2 s2 hr2 q2 w r2=> ?_⟩
 exact hr _ _ _ _ ⟨ι2,h2,d1,d2,r1.step s2,r2,hr2,q2⟩
theorem zu9 {op:Operator} {F:D->D->M D} (ho:OpR X (binaryOp op) (zdI X.K E F)) (ha:SE X E a fa) (hb:SE X E b fb):SE X E (.BinOp a op b pos) (λsd=>do let x<-fa sd;let y<-fb sd;F x y):=
 PE.imp (ztU ho ha hb) (te2 λ_ _ _ _ q=>q)
theorem ztz {op:CmpOp} {F:D->D->M D} (ho:OpR X (compareOp op) (zdI X.K E F)) (ha:SE X E a fa) (hb:SE X E b fb) (hm:behindInMarks op b=false):SE X E (.Compare a [op] [b] pos) (λsd=>do let x<-fa sd;let y<-fb sd;F x y):=
 PE.imp (zpr ho ha hb hm) (te2 λ_ _ _ _ q=>q)
theorem zt9 {F:D->D->M D} (ho:IxR X (zdI X.K E F)) (ha:SE X E a fa) (hb:SE X E b fb) (hs:ziA b):SE X E (.Subscript a b pos) (λsd=>do let x<-fa sd;let y<-fb sd;F x y):=
 PE.imp (zt1 ho ha hb hs) (te2 λ_ _ _ _ q=>q)
def zdw:D->M Bool
 | .bl b=>pure b
 | _=>M.bad
theorem zfA {K:W.Frag} {f:Sd->M D} (σ:St) (H:Hp) (Q:Bool->Hp->Prop) (q:zfZ K E (λsd=>do let x<-f sd;zdw x) σ H Q):(zhP K E f) σ H λx H1=> ∃ c,x= .bl c/\Q c H1:=by
 obtain ⟨ι,h,sd,L,hh,q⟩:=q
 refine ⟨ι,h,sd,L,hh,Fin.bind q λd1 h1 ι1 H1 e1 s1 hr1 q2 v r1=> ?_⟩
 cases d1 with
 | bl b=>simp only [Rel] at r1;exact ⟨b,r1,Fin.out hr1 q2⟩
 | _=>exact qa0 q2
theorem zsY {op:CmpOp} {F:D->D->M D} (ho:OpR X (compareOp op) (zdI X.K E F)) (ha:SE X E a fa) (hb:SE X E b fb) (hm:behindInMarks op b=false):
  ST X E (.Compare a [op] [b] pos) (λsd=>do let z<-(do let x<-fa sd;let y<-fb sd;F x y);zdw z):=by
 refine PT.imp (zpC ho ha hb hm) λσ H Q q=> ?_
 have q1:=zfA (f:=λsd=>do let x<-fa sd;let y<-fb sd;F x y) σ H Q q
 exact te2 (λ_ _ _ _ q=>q) σ H _ q1
theorem zsz {f:Sd->M D} (h:SE X E e f) (he: ∀ whole,isTrue e X.env whole=(do let v<-whole;standAt e.pos;holding [v] (truthy v)):=by intro _;rfl):ST X E e (λsd=>do let x<-f sd;zdw x):=
 PT.imp (zrq h he) λσ H Q q=>zfA σ H Q q
theorem zqZ {t:Sd->M Bool} (ha:ST X E a t):ST X E (.UnaryOp .Not a pos) (λsd=>do let c<-t sd;pure (!c)):=by
 refine PT.imp (zrg ha) λσ H Q ⟨ι,h,sd,L,hh,q⟩=>⟨ι,h,sd,L,hh,Fin.bind q λc h1 ι1 H1 e1 s1 hr1 q1=> ?_⟩
 exact Fin.out hr1 q1
theorem zo6 {t:Sd->M Bool} (ha:ST X E a t):PW X (.BoolOp .And [a] pos) (zfZ X.K E t):=pw_and1 ha
theorem zrf {t:Sd->M Bool} (ha:ST X E a t):PW X (.BoolOp .Or [a] pos) (zfZ X.K E t):=pw_or1 ha
theorem PW.imp {t t':TT} (h:PW X e t) (m: ∀ σ H Q,t' σ H Q->t σ H Q):PW X e t':=λwhole pins s σ H Q I q=>h whole pins s σ H Q I (m _ _ _ q)
theorem zrY {zbz:List Expr} {t u:Sd->M Bool} (ha:ST X E a t) (hb:PW X (.BoolOp .And (b::zbz) pos) (zfZ X.K E u)):PW X (.BoolOp .And (a::b::zbz) pos) (zfZ X.K E λsd=>do let c<-t sd;if c=true then u sd else pure false):=by
 refine PW.imp (pw_and ha hb) λσ H Q ⟨ι,h,sd,L,hh,q⟩=>⟨ι,h,sd,L,hh,Fin.bind q λc h1 ι1 H1 e1 s1 hr1 q1=> ?_⟩
 cases c with
 | true=>exact zn7 ⟨ι1,h1,sd,L.step s1,hr1,q1⟩
 | false=>exact zoD (Fin.out hr1 q1)
theorem zuM {zbz:List Expr} {t u:Sd->M Bool} (ha:ST X E a t) (hb:PW X (.BoolOp .Or (b::zbz) pos) (zfZ X.K E u)):PW X (.BoolOp .Or (a::b::zbz) pos) (zfZ X.K E λsd=>do let c<-t sd;if c=true then pure true else u sd):=by
 refine PW.imp (pw_or ha hb) λσ H Q ⟨ι,h,sd,L,hh,q⟩=>⟨ι,h,sd,L,hh,Fin.bind q λc h1 ι1 H1 e1 s1 hr1 q1=> ?_⟩
 cases c with
 | false=>exact zoD ⟨ι1,h1,sd,L.step s1,hr1,q1⟩
 | true=>exact zn7 (Fin.out hr1 q1)
theorem zpI {op:BoolOp} {vs:List Expr} {t:Sd->M Bool} (h:PW X (.BoolOp op vs pos) (zfZ X.K E t)):ST X E (.BoolOp op vs pos) t:=h.pt
theorem ztj {op:BoolOp} (h:SE X E a fa):SE X E (.BoolOp op [a] pos) fa:=zsP h
theorem zq2 {zbz:List Expr} (ha:SE X E a fa) (hb:SE X E (.BoolOp .And (b::zbz) pos) fb):SE X E (.BoolOp .And (a::b::zbz) pos) (λsd=>do let c<-(do let x<-fa sd;zdw x);if c=true then fb sd else pure (.bl false)):=by
 refine PE.imp (zsx ha hb) λσ H Q ⟨ι,h,sd,L,hh,q⟩=> ?_
 have q1:=zfA (K:=X.K) (E:=E) (f:=fa) σ H (λc H1=>if c=true then zhP X.K E fb σ H1 Q else Q (.bl false) H1) ⟨ι,h,sd,L,hh,Fin.bind q λc h1 ι1 H1 e1 s1 hr1 q1=> ?_⟩
 ·exact q1
 ·cases c with
  | true=>exact zn7 ⟨ι1,h1,sd,L.step s1,hr1,q1⟩
  | false=>exact zoD (Fin.out hr1 q1 _ (by simp [Rel]))
theorem zu4 {zbz:List Expr} (ha:SE X E a fa) (hb:SE X E (.BoolOp .Or (b::zbz) pos) fb):SE X E (.BoolOp .Or (a::b::zbz) pos) (λsd=>do let c<-(do let x<-fa sd;zdw x);if c=true then pure (.bl true) else fb sd):=by
 refine PE.imp (zub ha hb) λσ H Q ⟨ι,h,sd,L,hh,q⟩=> ?_
 have q1:=zfA (K:=X.K) (E:=E) (f:=fa) σ H (λc H1=>if c=true then Q (.bl true) H1 else zhP X.K E fb σ H1 Q) ⟨ι,h,sd,L,hh,Fin.bind q λc h1 ι1 H1 e1 s1 hr1 q1=> ?_⟩
 ·exact q1
 ·cases c with
  | false=>exact zoD ⟨ι1,h1,sd,L.step s1,hr1,q1⟩
  | true=>exact zn7 (Fin.out hr1 q1 _ (by simp [Rel]))
theorem zsf (ha:SE X E a fa):SE X E (.UnaryOp .Not a pos) (λsd=>do let c<-(do let x<-fa sd;zdw x);pure (.bl (!c))):=by
 refine PE.imp (zrc ha) λσ H Q ⟨ι,h,sd,L,hh,q⟩=> ?_
 have q1:=zfA (K:=X.K) (E:=E) (f:=fa) σ H (λc H1=>Q (.bl (!c)) H1) ⟨ι,h,sd,L,hh,Fin.bind q λc h1 ι1 H1 e1 s1 hr1 q1=> ?_⟩
 ·exact q1
 ·exact Fin.out hr1 q1 _ (by simp [Rel])
theorem zmv {c:Expr} {t:Sd->M Bool} (hc:ST X E c t) (ha:SE X E a fa) (hb:SE X E b fb):SE X E (.IfExp c a b pos) (λsd=>do let c<-t sd;if c=true then fa sd else fb sd):=by
 refine PE.imp (znh hc ha hb) λσ H Q ⟨ι,h,sd,L,hh,q⟩=>⟨ι,h,sd,L,hh,Fin.bind q λc h1 ι1 H1 e1 s1 hr1 q1=> ?_⟩
 cases c with
 | true=>exact zn7 ⟨ι1,h1,sd,L.step s1,hr1,q1⟩
 | false=>exact zoD ⟨ι1,h1,sd,L.step s1,hr1,q1⟩
def zae (i:Nat):Sd->M D:=λsd=>match sd[i]? with
 | some (some d)=>pure d
 | _=>M.bad
theorem zrF (i:Nat) {x:Str} (hN:X.N[i]? = some x) (hv:Vis X.env.scope x) (hd:(x==("__debug__":Str))=false:=by decide) (hcd:(x==("__classdict__":Str))=false:=by decide):SE X E (.Name x pos) (zae i):=by
 refine PE.imp (zov hN hv hd hcd) λσ H Q ⟨ι,h,sd,L,hh,q⟩=> ?_
 unfold zae at q
 cases e:sd[i]? with
 | none=>rw [e] at q;exact qa0 q
 | some o=>
  rw [e] at q
  cases o with
  | none=>exact qa0 q
  | some d=>
   obtain ⟨v,e1,r⟩:=L.2 i d e
   exact ⟨v,e1,Fin.out hh q v r⟩
theorem zgR {K:W.Frag} {d:D} {v:V} (r: ∀ ι H,Rel K ι H d v) (σ:St) (H:Hp) (Q:VK) (q:zhP K E (λ_=>pure d) σ H Q):tC v σ H Q:=by
 obtain ⟨ι,h,sd,L,hh,q⟩:=q
 exact Fin.out hh q v (r _ _)
theorem zsc {i:Int} {j:Nat}:SE X E (.Constant (.int i) j pos) (λ_=>pure (.int i)):=PE.imp zrS (zgR λ_ _=>by simp [Rel])
theorem zu6 {i:Bool} {j:Nat}:SE X E (.Constant (.bool i) j pos) (λ_=>pure (.bl i)):=PE.imp ztX (zgR λ_ _=>by simp [Rel])
theorem zsK {j:Nat}:SE X E (.Constant .none j pos) (λ_=>pure .non):=PE.imp zs9 (zgR λ_ _=>by simp [Rel])
theorem zqW:SA X E [] (λ_=>pure []):=PA.imp zds λσ H Q ⟨ι,h,sd,L,hh,q⟩=>Fin.out hh q [] zaw.nil
theorem zpQ {fs:Sd->M (List D)} (ha:SE X E e fa) (hr:SA X E es fs) (hs:starEach (e::es) X.env=(false,eval e X.env)::starEach es X.env:=by rfl):SA X E (e::es) (λsd=>do let x<-fa sd;let r<-fs sd;pure (x::r)):=by
 refine PA.imp (zco ha hr hs) λσ H Q ⟨ι,h,sd,L,hh,q⟩=>⟨ι,h,sd,L,hh,Fin.bind q λd h1 ι1 H1 e1 s1 hr1 q1 v rv=> ?_⟩
 refine ⟨ι1,h1,sd,L.step s1,hr1,Fin.bind q1 λds h2 ι2 H2 e2 s2 hr2 q2 vs rvs=> ?_⟩
 exact Fin.out hr2 q2 _ (zaw.cons (rv.step s2) rvs)
end
theorem zbo.nin {K:W.Frag} {ι:Io} {H:Hp} {h:Hh} (hr:zbo K ι H h) {p:Addr} (hp:H p=none): ¬ι.Has p:=λz=>by
 rcases z with z | z
 ·obtain ⟨n,hn⟩:=List.mem_iff_getElem?.mp z
  have hl:n<h.length:=by rw [hr.len];exact (qac.mp hn).1
  obtain ⟨o,e,_⟩:=hr.at_ n p h[n] hn (by simp [hl])
  rw [hp] at e
  cases e
 ·obtain ⟨⟨o,e⟩,_⟩:=hr.hidt p z
  rw [hp] at e
  cases e
theorem zbo.laidS {K:W.Frag} {ι:Io} {H:Hp} {h:Hh} (hr:zbo K ι H h) {p:Addr} {o:HO} (hp:H p=none):zb1 ι H ι (upd H p o):=
 ⟨λ_ _ h=> .inl h,λ_ h=> .inl h,rfl,λa ha=>zaN λz=>hr.nin hp (.inr (z▸ha)),λb o' h _=>by rw [zaN (za9 h hp)];exact h⟩
theorem zbo.laid {K:W.Frag} {ι:Io} {H:Hp} {h:Hh} {p:Addr} {o:HO} (hr:zbo K ι H h) (hp:H p=none):zbo K ι (upd H p o) h:=
 ⟨hr.len,hr.inj,λn a c hn hc=>by
   obtain ⟨o',e2,e3⟩:=hr.at_ n a c hn hc
   exact ⟨o',by rw [zaN (za9 e2 hp)];exact e2,e3.pass (hr.laidS hp).pass⟩,hr.dead,λa ha=>⟨by rw [zaN (show a≠p from λz=>hr.nin hp (.inr (z▸ha)))];exact (hr.hidt a ha).1,(hr.hidt a ha).2⟩⟩
noncomputable def fits (n:Nat):M Unit:=if n<=sizeLine then pure () else M.bad
theorem Fin.fits {α:Type} {K:W.Frag} {E:XE} {ι:Io} {H:Hp} {n:Nat} {f:M α} {h:Hh} {P:α->Io->Hp->Prop} (q:Fin K E ι H ((do L3.fits n;f) h) P):n<=sizeLine/\Fin K E ι H (f h) P:=by
 have q':Fin K E ι H (M.bind (L3.fits n) (λ_=>f) h) P:=q
 unfold M.bind L3.fits at q'
 by_cases hn:n<=sizeLine
 ·rw [qa4 hn] at q'
  exact ⟨hn,q'⟩
 ·rw [qa5 hn] at q'
  exact qa0 q'
section
variable {X:Cx} {E:XE} {es:List Expr} {pos:Pos} {fs:Sd->M (List D)}
theorem ztN {K:W.Frag} {ι:Io} {H:Hp} {h:Hh} {ds:List D} {vs:List V} {Q:VK} (hr:zbo K ι H h) (rl:zaw K ι H ds vs) (q:Fin K E ι H ((pure (.tup ds):M D) h) λd ι' H'=> ∀ v,Rel K ι' H' d v->Q v H') {p:Addr} (hp:H p=none):Q (.ref p) (upd H p (.tup vs)):=
 q ι _ (hr.laidS hp) (hr.laid hp) _ (by
   simp only [Rel]
   exact ⟨p,vs,rfl,⟨za4,hr.nin hp⟩,rl.step (hr.laidS hp)⟩)
theorem ztp {K:W.Frag} {ι:Io} {H:Hp} {h:Hh} {ds:List D} {vs:List V} {Q:VK} (hr:zbo K ι H h) (rl:zaw K ι H ds vs) (q:Fin K E ι H ((pure (.lst ds):M D) h) λd ι' H'=> ∀ v,Rel K ι' H' d v->Q v H') {p:Addr} (hp:H p=none):Q (.ref p) (upd H p (.lst vs)):=
 q ι _ (hr.laidS hp) (hr.laid hp) _ (by
   simp only [Rel]
   exact ⟨p,vs,rfl,⟨za4,hr.nin hp⟩,rl.step (hr.laidS hp)⟩)
noncomputable def zbq (ds:List D):M D:=λh=> .ok (.cel h.length) (h++[.lst ds])
theorem zru {K:W.Frag} {ι:Io} {H:Hp} {h:Hh} {c0:C} {o0:HO} {Q:VK} (hr:zbo K ι H h) (co:CO K ι H c0 o0) (q:Fin K E ι H (.ok (.cel h.length) (h++[c0])) λd ι' H'=> ∀ v,Rel K ι' H' d v->Q v H') {p:Addr} (hp:H p=none):Q (.ref p) (upd H p o0):=by
 have hlen:=hr.len
 have nh:=hr.nin hp
 have st:zb1 ι H ⟨ι.c++[some p],ι.x⟩ (upd H p o0):=by
  refine ⟨λn o h=> .inl ?_,λa h=> ?_,rfl,λa ha=>zaN λz=>nh (.inr (z▸ha)),λb o' h _=>by rw [zaN (za9 h hp)];exact h⟩
  ·show (ι.c++[some p])[n]? = _
   rw [qad (qac.mp h).1];exact h
  ·rcases qaK.mp h with h | h
   ·exact .inl h
   ·simp at h;subst h;exact .inr hp
 have at_: ∀ (n:Nat) (a:Addr),(ι.c++[some p])[n]? = some (some a)->(ι.c[n]? = some (some a))\/(n=ι.c.length/\a=p):=λn a h=>by
  by_cases hl:n<ι.c.length
  ·rw [qad hl] at h;exact .inl h
  ·rw [qaa ⋯] at h
   have:n - ι.c.length=0:=by
    cases z:n - ι.c.length with
    | zero=>rfl
    | succ k=>rw [z] at h;simp at h
   rw [this] at h
   simp at h
   exact .inr ⟨⋯,h.symm⟩
 refine q _ _ st ⟨?_,λm n a h1 h2=> ?_,λn a c h1 h2=> ?_,λn h1=> ?_,λa ha=>⟨?_,λz=> ?_⟩⟩ _ ?_
 ·show (h++[c0]).length=(ι.c++[some p]).length
  rw [qav,qav,hlen];rfl
 ·rcases at_ m a h1 with z1 | ⟨z1,z1'⟩<;>rcases at_ n a h2 with z2 | ⟨z2,z2'⟩
  ·exact hr.inj m n a z1 z2
  ·subst z2';exact absurd (.inl (List.mem_of_getElem? z1)) nh
  ·subst z1';exact absurd (.inl (List.mem_of_getElem? z2)) nh
  ·rw [z1,z2]
 ·rcases at_ n a h1 with z1 | ⟨z1,z1'⟩
  ·rw [qad (by rw [hlen];exact (qac.mp z1).1)] at h2
   obtain ⟨o',e2,e3⟩:=hr.at_ n a c z1 h2
   exact ⟨o',by rw [zaN (za9 e2 hp)];exact e2,e3.pass st.pass⟩
  ·subst z1 z1'
   rw [<- hlen,qaa (qaV _)] at h2
   simp at h2
   subst h2
   exact ⟨o0,za4,co.pass st.pass⟩
 ·have h1:(ι.c++[some p])[n]? = some none:=h1
  by_cases hl:n<ι.c.length
  ·rw [qad hl] at h1
   rw [qad (by rw [hlen];exact hl)]
   exact hr.dead n h1
  ·rw [qaa ⋯] at h1
   cases z:n - ι.c.length with
   | zero=>rw [z] at h1;simp at h1
   | succ k=>rw [z] at h1;simp at h1
 ·rw [zaN (show a≠p from λz=>nh (.inr (z▸ha)))]
  exact (hr.hidt a ha).1
 ·rcases qaK.mp z with z | z
  ·exact (hr.hidt a ha).2 z
  ·simp at z;subst z;exact nh (.inr ha)
 ·simp only [Rel]
  refine ⟨p,rfl,.inl ?_⟩
  show (ι.c++[some p])[h.length]? = _
  rw [hlen,qaa (qaV _)]
  simp
theorem zvj {K:W.Frag} {ι:Io} {H:Hp} {h:Hh} {ds:List D} {vs:List V} {Q:VK} (hr:zbo K ι H h) (rl:zaw K ι H ds vs) (q:Fin K E ι H (zbq ds h) λd ι' H'=> ∀ v,Rel K ι' H' d v->Q v H') {p:Addr} (hp:H p=none):Q (.ref p) (upd H p (.lst vs)):=
 zru hr (c0:= .lst ds) ⟨vs,rfl,rl⟩ q hp
theorem zrU {x1} (h:SA X E es fs):SE X E (.Tuple es x1 pos) (λsd=>do let ds<-fs sd;fits ds.length;pure (.tup ds)):=by
 refine PE.imp (zri h) λσ H Q ⟨ι,h,sd,L,hh,q⟩=>⟨ι,h,sd,L,hh,Fin.bind q λds h1 ι1 H1 e1 s1 hr1 q1 vs rvs=> ?_⟩
 obtain ⟨z,q2⟩:=Fin.fits q1
 exact ⟨by rw [<- rvs.length];exact z,λp hp=>ztN hr1 rvs q2 hp⟩
theorem zrz (h:SA X E es fs):SE X E (.List es pos) (λsd=>do let ds<-fs sd;fits ds.length;pure (.lst ds)):=by
 refine PE.imp (zoe h) λσ H Q ⟨ι,h,sd,L,hh,q⟩=>⟨ι,h,sd,L,hh,Fin.bind q λds h1 ι1 H1 e1 s1 hr1 q1 vs rvs=> ?_⟩
 obtain ⟨z,q2⟩:=Fin.fits q1
 exact ⟨by rw [<- rvs.length];exact z,λp hp=>ztp hr1 rvs q2 hp⟩
theorem zql (h:SA X E es fs):SE X E (.List es pos) (λsd=>do let ds<-fs sd;fits ds.length;zbq ds):=by
 refine PE.imp (zoe h) λσ H Q ⟨ι,h,sd,L,hh,q⟩=>⟨ι,h,sd,L,hh,Fin.bind q λds h1 ι1 H1 e1 s1 hr1 q1 vs rvs=> ?_⟩
 obtain ⟨z,q2⟩:=Fin.fits q1
 exact ⟨by rw [<- rvs.length];exact z,λp hp=>zvj hr1 rvs q2 hp⟩
end
inductive Out where
 | nx (sd:Sd) | rt (d:D) | bk (sd:Sd) | ct (sd:Sd)
def zgZ (K:W.Frag) (D0:zqO):Out->Io->Hp->Prop
 | .nx sd',ι',H'=> ∀ σ',zc4 K ι' H' sd' σ'->D0.nx σ' H'
 | .rt d,ι',H'=> ∀ v,Rel K ι' H' d v->D0.rt v H'
 | .bk sd',ι',H'=> ∀ σ',zc4 K ι' H' sd' σ'->D0.bk σ' H'
 | .ct sd',ι',H'=> ∀ σ',zc4 K ι' H' sd' σ'->D0.ct σ' H'
def zvn (K:W.Frag) (E:XE) (G:Sd->M Out):TS:=λD0 σ H=> ∃ ι h sd,zc4 K ι H sd σ/\zbo K ι H h/\Fin K E ι H (G sd h) (zgZ K D0)
abbrev SS (X:Cx) (E:XE) (st:Stmt) (G:Sd->M Out):Prop:=PS X st (zvn X.K E G)
abbrev SSs (X:Cx) (E:XE) (st:List Stmt) (G:Sd->M Out):Prop:=PSs X st (zvn X.K E G)
def zfr (o:Out) (g:Sd->M Out):M Out:=match o with
 | .nx sd=>g sd
 | o=>pure o
section
variable {X:Cx} {E:XE} {pos:Pos}
theorem zso:SSs X E [] (λsd=>pure (.nx sd)):=PSs.imp zpD λD0 σ H ⟨ι,h,sd,L,hh,q⟩=>Fin.out hh q σ L
theorem zpU {st:Stmt} {zbz:List Stmt} {g g':Sd->M Out} (h1:SS X E st g) (h2:SSs X E zbz g'):SSs X E (st::zbz) (λsd=>do let o<-g sd;zfr o g'):=by
 refine PSs.imp (zmr h1 h2) λD0 σ H ⟨ι,h,sd,L,hh,q⟩=>⟨ι,h,sd,L,hh,Fin.bind q λo h1 ι1 H1 e1 s1 hr1 q1=> ?_⟩
 cases o with
 | nx sd'=>exact λσ' L'=>⟨ι1,h1,sd',L',hr1,q1⟩
 | rt d=>exact Fin.out (E:=E) (P:=zgZ X.K D0) hr1 q1
 | bk sd'=>exact Fin.out (E:=E) (P:=zgZ X.K D0) hr1 q1
 | ct sd'=>exact Fin.out (E:=E) (P:=zgZ X.K D0) hr1 q1
theorem zq4 {st:Stmt} {g:Sd->M Out} (h1:SS X E st g):SSs X E [st] g:=zqb h1
theorem ztt {e:Expr} {f:Sd->M D} (he:SE X E e f) (hs:swapsWith e none pos.line X.env=pure false:=by rfl):SS X E (.Expr e pos) (λsd=>do let _<-f sd;pure (.nx sd)):=by
 refine PS.imp (zp7 he hs) λD0 σ H ⟨ι,h,sd,L,hh,q⟩=>⟨ι,h,sd,L,hh,Fin.bind q λd h1 ι1 H1 e1 s1 hr1 q1 v rv=> ?_⟩
 exact Fin.out hr1 q1 σ (L.step s1)
theorem zun {e:Expr} {f:Sd->M D} (he:SE X E e f):SS X E (.Return (some e) pos) (λsd=>do let d<-f sd;pure (.rt d)):=by
 refine PS.imp (zsL he) λD0 σ H ⟨ι,h,sd,L,hh,q⟩=>⟨ι,h,sd,L,hh,Fin.bind q λd h1 ι1 H1 e1 s1 hr1 q1 v rv=> ?_⟩
 exact Fin.out hr1 q1 v rv
theorem zv2 {c:Expr} {a b:List Stmt} {t:Sd->M Bool} {g g':Sd->M Out} (hc:ST X E c t) (ha:SSs X E a g) (hb:SSs X E b g'):SS X E (.If c a b pos) (λsd=>do let c<-t sd;if c=true then g sd else g' sd):=by
 refine PS.imp (ztS hc ha hb) λD0 σ H ⟨ι,h,sd,L,hh,q⟩=>⟨ι,h,sd,L,hh,Fin.bind q λc h1 ι1 H1 e1 s1 hr1 q1=> ?_⟩
 cases c with
 | true=>exact zn7 ⟨ι1,h1,sd,L.step s1,hr1,q1⟩
 | false=>exact zoD ⟨ι1,h1,sd,L.step s1,hr1,q1⟩
def zq7 (K:W.Frag) (E:XE) (g:D->Sd->M Sd):TG:=λv σ H Q=> ∃ ι h sd d,zc4 K ι H sd σ/\zbo K ι H h/\Rel K ι H d v/\Fin K E ι H (g d sd h) λsd' ι' H'=> ∀ σ',zc4 K ι' H' sd' σ'->Q σ' H'
def zuq (K:W.Frag) (E:XE) (g:List D->Sd->M Sd):TGs:=λvs σ H Q=> ∃ ι h sd ds,zc4 K ι H sd σ/\zbo K ι H h/\zaw K ι H ds vs/\Fin K E ι H (g ds sd h) λsd' ι' H'=> ∀ σ',zc4 K ι' H' sd' σ'->Q σ' H'
abbrev SG (X:Cx) (E:XE) (tg:Expr) (g:D->Sd->M Sd):Prop:=PG X tg (zq7 X.K E g)
abbrev SGs (X:Cx) (E:XE) (tgs:List Expr) (g:List D->Sd->M Sd):Prop:=PGs X tgs (zuq X.K E g)
def zaC (i:Nat):D->Sd->M Sd:=λd sd=>pure (sd.set i (some d))
theorem zpT (i:Nat) {x:Str} (hN:X.N.Nodup) (hi:X.N[i]? = some x) (hx:Loc X.env.scope x) (hf:X.fn x=true\/X.env.scope.names.lookup x=some .local):SG X E (.Name x pos) (zaC i):=by
 refine PG.imp (zo4 hN hi hx hf) λv σ H Q ⟨ι,h,sd,d,L,hh,r,q⟩=> ?_
 exact Fin.out hh q _ (L.set r i)
theorem PGs.imp {tgs:List Expr} {t t':TGs} (h:PGs X tgs t) (m: ∀ v σ H Q,t' v σ H Q->t v σ H Q):PGs X tgs t':=λpins s σ H v u Q I r q=>h pins s σ H v u Q I r (m _ _ _ _ q)
def zbp:List D->Sd->M Sd:=λds sd=>match ds with | []=>pure sd | _=>M.bad
def zat (g:D->Sd->M Sd) (gs:List D->Sd->M Sd):List D->Sd->M Sd:=λds sd=>match ds with
 | []=>M.bad
 | d::r=>do let sd1<-g d sd;gs r sd1
theorem zqr:SGs X E [] zbp:=by
 refine PGs.imp zpf λv σ H Q ⟨ι,h,sd,ds,L,hh,r,q⟩=> ?_
 cases ds with
 | nil=>simp only [zaw] at r;exact ⟨r,Fin.out hh q _ L⟩
 | cons d r=>exact qa0 q
theorem zny {e:Expr} {es:List Expr} {g:D->Sd->M Sd} {gs:List D->Sd->M Sd} (h1:SG X E e g) (h2:SGs X E es gs)
  (hs:(assignEach (e::es) X.env).map (·.2)=assign e X.env::(assignEach es X.env).map (·.2):=by rfl):SGs X E (e::es) (zat g gs):=by
 refine PGs.imp (znt h1 h2 hs) λv σ H Q ⟨ι,h,sd,ds,L,hh,r,q⟩=> ?_
 cases ds with
 | nil=>exact qa0 q
 | cons d ds=>
  simp only [zaw] at r
  obtain ⟨v1,vr,rfl,r1,r2⟩:=r
  refine ⟨v1,vr,rfl,ι,h,sd,d,L,hh,r1,Fin.bind q λsd1 h1 ι1 H1 e1 s1 hr1 q1 σ1 L1=> ?_⟩
  exact ⟨ι1,h1,sd1,ds,L1,hr1,r2.step s1,q1⟩
def zbn (n:Nat) (gs:List D->Sd->M Sd):D->Sd->M Sd:=λd sd=>match d with
 | .tup ds=>if ds.length=n then gs ds sd else M.bad
 | _=>M.bad
theorem zdS {K:W.Frag} {ι:Io} {H:Hp} {ds:List D} {v:V} (h:Rel K ι H (.tup ds) v): ∃ a vs,v= .ref a/\SqT K H a vs/\zaw K ι H ds vs:=by
 simp only [Rel] at h
 obtain ⟨a,vs,e,h1,h2⟩:=h
 exact ⟨a,vs,e,.inl (.inl h1.1),h2⟩
theorem zkE {K:W.Frag} {ι:Io} {H:Hp} {ds:List D} {v:V} (h:Rel K ι H (.scr ds) v): ∃ a vs,v= .ref a/\SqL K H a vs/\zaw K ι H ds vs:=by
 simp only [Rel] at h
 obtain ⟨a,vs,e,h1,h2⟩:=h
 refine ⟨a,vs,e,?_,h2⟩
 rcases h1 with h1 | h1
 ·exact .inl h1.1
 ·rcases h1 with h1 | h1
  ·rcases h1 with h1 | ⟨o,h1⟩<;>cases h1
  ·exact .inr h1
theorem zff {K:W.Frag} {ι:Io} {H:Hp} {ds:List D} {v:V} (h:Rel K ι H (.lst ds) v): ∃ a vs,v= .ref a/\SqL K H a vs/\zaw K ι H ds vs:=by
 simp only [Rel] at h
 obtain ⟨a,vs,e,h1,h2⟩:=h
 exact ⟨a,vs,e,.inl (.inl h1.1),h2⟩
theorem ztk {es:List Expr} {k:Nat} {gs:List D->Sd->M Sd} {n:Nat} (hc:X.calm=true) (h:SGs X E es gs)
  (hn:(assignEach es X.env).length=n:=by rfl) (hst:(assignEach es X.env).findIdx? (·.1)=none:=by rfl):SG X E (.Tuple es k pos) (zbn n gs):=by
 refine PG.imp (zrM hc h hn hst) λv σ H Q ⟨ι,h,sd,d,L,hh,r,q⟩=> ?_
 cases d with
 | tup ds=>
  obtain ⟨a,vs,e,h1,h2⟩:=zdS r
  have q:Fin X.K E ι H ((if ds.length=n then gs ds sd else M.bad) h) _:=q
  by_cases hl:ds.length=n
  ·rw [qa4 hl] at q
   exact ⟨a,vs,e,h1,by rw [<- h2.length];exact hl,ι,h,sd,ds,L,hh,h2,q⟩
  ·rw [qa5 hl] at q
   exact qa0 q
 | _=>exact qa0 q
theorem zve {tg e:Expr} {f:Sd->M D} {g:D->Sd->M Sd} (he:SE X E e f) (hg:SG X E tg g) (hs:swapsWithSole [tg] e pos.line X.env=pure false:=by rfl) (hw:swappedStores [tg] e X.env=pure none:=by rfl)
  (h1:(assignEach [tg] X.env).map (·.2)=[assign tg X.env]:=by rfl):SS X E (.Assign [tg] e pos) (λsd=>do let d<-f sd;let sd'<-g d sd;pure (.nx sd')):=by
 refine PS.imp (zs6 he hg hs hw h1) λD0 σ H ⟨ι,h,sd,L,hh,q⟩=>⟨ι,h,sd,L,hh,Fin.bind q λd h1 ι1 H1 e1 s1 hr1 q1 v rv=> ?_⟩
 exact ⟨ι1,h1,sd,d,L.step s1,hr1,rv,Fin.bind q1 λsd' h2 ι2 H2 e2 s2 hr2 q2=>Fin.out hr2 q2⟩
theorem zur (i:Nat) {x:Str} {e:Expr} {f:Sd->M D} {pos':Pos} (hN:X.N.Nodup) (hi:X.N[i]? = some x) (hx:Loc X.env.scope x) (hf:X.fn x=true\/X.env.scope.names.lookup x=some .local) (he:SE X E e f) (hs:swapsWith e (some (.Name x pos')) pos.line X.env=pure false:=by rfl):
  SS X E (.Assign [.Name x pos'] e pos) (λsd=>do let d<-f sd;pure (.nx (sd.set i (some d)))):=by
 refine PS.imp (zr6 hN hi hx he hs hf) λD0 σ H ⟨ι,h,sd,L,hh,q⟩=>⟨ι,h,sd,L,hh,Fin.bind q λd h1 ι1 H1 e1 s1 hr1 q1 v rv=> ?_⟩
 exact Fin.out hr1 q1 _ ((L.step s1).set rv i)
theorem zuf {i j:Nat} {x y:Str} {a b:Expr} {fs:Sd->M (List D)} {px py pt:Pos} {kt k2 pt2} (hp:PS X (.Assign [.Tuple [.Name x px,.Name y py] kt pt] (.Tuple [a,b] k2 pt2) pos) (zvy i j (zvh X.K E fs))):
  SS X E (.Assign [.Tuple [.Name x px,.Name y py] kt pt] (.Tuple [a,b] k2 pt2) pos) (λsd=>do let ds<-fs sd;match ds with | [d,d']=>pure (.nx ((sd.set i (some d)).set j (some d'))) | _=>M.bad):=by
 refine PS.imp hp λD0 σ H ⟨ι,h,sd,L,hh,q⟩=>⟨ι,h,sd,L,hh,Fin.bind q λds h1 ι1 H1 e1 s1 hr1 q1 vs rv=> ?_⟩
 match ds,rv,q1 with
 | [d,d'],rv,q1=>
  simp only [zaw] at rv
  obtain ⟨v,r,rfl,r1,v',r',rfl,r2,rfl⟩:=rv
  exact ⟨v,v',rfl,Fin.out hr1 q1 _ (((L.step s1).set r1 i).set r2 j)⟩
 | [],_,q1=>exact qa0 q1
 | [_],_,q1=>exact qa0 q1
 | _::_::_::_,_,q1=>exact qa0 q1
def zqy (H H2:Hp):Prop:=H2=H\/ ∃ q vs,H q=none/\H2=upd H q (.tup vs)
theorem zqy.step {K:W.Frag} {ι:Io} {H H2:Hp} {h:Hh} (g:zqy H H2) (hr:zbo K ι H h):zb1 ι H ι H2/\zbo K ι H2 h:=by
 rcases g with e | ⟨q,vs,hq,e⟩
 ·subst e;exact ⟨zb1.refl _ _,hr⟩
 ·subst e;exact ⟨hr.laidS hq,hr.laid hq⟩
structure zmn (K:W.Frag) (ι:Io) (H:Hp) (J:It) (ds:List D):Prop where
 go: ∀ ι' H' (i:Nat),Pass ι H ι' H'->i<ds.length->J.go i H'
 yld: ∀ ι' H' h (i:Nat) x H2,Pass ι H ι' H'->zbo K ι' H' h->i<ds.length->J.yld i H' x H2->zqy H' H2/\ ∃ d,ds[i]? = some d/\Rel K ι' H2 d x
 stop: ∀ ι' H',Pass ι H ι' H'->J.stop ds.length H'
def zuy (K:W.Frag) (E:XE) (f:Sd->M (List D)):TI:=λσ H Q=> ∃ ι h sd,zc4 K ι H sd σ/\zbo K ι H h/\Fin K E ι H (f sd h) λds ι' H'=> ∀ J,zmn K ι' H' J ds->Q J H'
abbrev SI (X:Cx) (E:XE) (tg iter:Expr) (f:Sd->M (List D)):Prop:=PI X tg iter (zuy X.K E f)
def zdu:D->M (List D)
 | .tup ds=>pure ds
 | .lst ds=>pure ds
 | _=>M.bad
theorem znJ {K:W.Frag} {ι:Io} {H:Hp} {a:Addr} {vs:List V} {ds:List D} (h: ∀ ι' H',Pass ι H ι' H'->SqT K H' a vs) (rl:zaw K ι H ds vs):zmn K ι H (Itt K a) ds where
 go:=λι' H' i s hi=>⟨vs,vs[i]'(by rw [<- rl.length];exact hi),h ι' H' s,by simp⟩
 yld:=λι' H' _ i x H2 s _ hi ⟨e,y⟩=>by
  subst e
  have hx:=y vs (h ι' _ s)
  obtain ⟨d,e1,e2⟩:=rl.getV hx
  exact ⟨.inl rfl,d,e1,e2.pass s⟩
 stop:=λι' H' s=>⟨vs,h ι' H' s,by rw [rl.length];exact qaV _⟩
theorem zmI {K:W.Frag} {ι:Io} {H:Hp} {a:Addr} {vs:List V} {ds:List D} (h: ∀ ι' H',Pass ι H ι' H'->SqL K H' a vs) (rl:zaw K ι H ds vs):zmn K ι H (Itl K a) ds where
 go:=λι' H' i s hi=>⟨vs,vs[i]'(by rw [<- rl.length];exact hi),h ι' H' s,by simp⟩
 yld:=λι' H' _ i x H2 s _ hi ⟨e,y⟩=>by
  subst e
  have hx:=y vs (h ι' _ s)
  obtain ⟨d,e1,e2⟩:=rl.getV hx
  exact ⟨.inl rfl,d,e1,e2.pass s⟩
 stop:=λι' H' s=>⟨vs,h ι' H' s,by rw [rl.length];exact qaV _⟩
theorem Pass.refl (ι:Io) (H:Hp):Pass ι H ι H:=(zb1.refl ι H).pass
theorem zgC {K:W.Frag} {ι:Io} {H:Hp} {ds:List D} {v:V} (h:Rel K ι H (.tup ds) v): ∃ a vs,v= .ref a/\(∀ ι' H',Pass ι H ι' H'->SqT K H' a vs)/\zaw K ι H ds vs:=by
 simp only [Rel] at h
 obtain ⟨a,vs,e,h1,h2⟩:=h
 exact ⟨a,vs,e,λι' H' s=> .inl (.inl (s.keep _ _ h1.1 h1.2).1),h2⟩
theorem zgm {K:W.Frag} {ι:Io} {H:Hp} {ds:List D} {v:V} (h:Rel K ι H (.lst ds) v): ∃ a vs,v= .ref a/\(∀ ι' H',Pass ι H ι' H'->SqL K H' a vs)/\zaw K ι H ds vs:=by
 simp only [Rel] at h
 obtain ⟨a,vs,e,h1,h2⟩:=h
 exact ⟨a,vs,e,λι' H' s=> .inl (.inl (s.keep _ _ h1.1 h1.2).1),h2⟩
end
end L3
namespace L2
def zwc (K:W.Frag) (tl:TE):TI:=λσ H R=>tl σ H λx H1=> ∃ a,x= .ref a/\(((∃ xs,SqL K H1 a xs)/\R (Itl K a) H1)\/((∃ xs,SqT K H1 a xs)/\R (Itt K a) H1))
theorem zq8 {X:Cx} {tg:Expr} {l:Expr} {tl:TE} (hl:PE X l tl):PI X tg l (zwc X.K tl):=by
 intro pins s σ H R I h
 refine thn (hl pins s σ H _ I h) λv s1 ⟨x,H1,I1,r1,q1⟩=> ?_
 obtain ⟨a,e,⟨⟨xs,hq⟩,q⟩ | ⟨⟨xs,hq⟩,q⟩⟩:=q1
 ·subst e
  cases r1
  obtain ⟨its,rv,p,hz⟩:=I1.list hq
  refine wpAny_pyIter_list p.isList ?_
  refine ⟨s1.heap.objs.size,[s1.heap.objs.size],_,_,H1,rfl,I1.kept (t':=s1.toks) λb o e=>qag _ e,zlP a _,⟨_,qar _ rfl,rfl,rfl⟩,λb hb=> ?_,q⟩
  have e:b=s1.heap.objs.size:=by simpa using hb
  subst e
  exact I1.fpOk (qaV _) (I1.hok.fresh (qaV _))
 ·subst e
  cases r1
  obtain ⟨its,rv,p,hz⟩:=I1.tuple hq
  refine wpAny_pyIter_tuple (show s1.heap.IsTuple a its.toArray from p) ?_
  refine ⟨s1.heap.objs.size,[s1.heap.objs.size],_,_,H1,rfl,I1.kept (t':=s1.toks) λb o e=>qag _ e,zjD a _,⟨_,qar _ rfl,rfl,rfl⟩,λb hb=> ?_,q⟩
  have e:b=s1.heap.objs.size:=by simpa using hb
  subst e
  exact I1.fpOk (qaV _) (I1.hok.fresh (qaV _))
end L2
namespace L3
open L2
section
variable {X:Cx} {E:XE} {pos:Pos}
theorem zsp {tg e:Expr} {f:Sd->M D} (he:SE X E e f):SI X E tg e (λsd=>do let d<-f sd;zdu d):=by
 refine PI.imp (zq8 he) λσ H Q ⟨ι,h,sd,L,hh,q⟩=>⟨ι,h,sd,L,hh,Fin.bind q λd h1 ι1 H1 e1 s1 hr1 q1 v rv=> ?_⟩
 cases d with
 | lst ds=>
  obtain ⟨a,vs,e,h1',h2⟩:=zgm rv
  exact ⟨a,e,.inl ⟨⟨vs,h1' _ _ (Pass.refl _ _)⟩,Fin.out hr1 q1 _ (zmI h1' h2)⟩⟩
 | tup ds=>
  obtain ⟨a,vs,e,h1',h2⟩:=zgC rv
  exact ⟨a,e,.inr ⟨⟨vs,h1' _ _ (Pass.refl _ _)⟩,Fin.out hr1 q1 _ (znJ h1' h2)⟩⟩
 | _=>exact qa0 q1
noncomputable def zdp (lo:Int) (n:Nat):List D:=(List.range n).map λ(k:Nat)=>D.int (lo+(k:Int))
theorem zns {K:W.Frag} {ι:Io} {H:Hp} {lo:Int} {n:Nat}:zmn K ι H (Itr lo n) (zdp lo n) where
 go:=λι' H' i s hi=>by show i<n;simpa [zdp] using hi
 yld:=λι' H' _ i x H2 s _ hi ⟨e,y⟩=>by
  subst e y
  have hi:i<n:=by simpa [zdp] using hi
  refine ⟨.inl rfl,.int (lo+i),?_,by simp [Rel]⟩
  simp [zdp,hi]
 stop:=λι' H' s=>by
  show n<=(zdp lo n).length
  simp [zdp]
def zdd (j:Int):Bool:=decide (-(2^62)<=j) && decide (j<2^62)
def zir:List D->M (List D)
 | [.int j]=>if zdd j=true then pure (zdp 0 j.toNat) else M.bad
 | _=>M.bad
theorem zfJ {j:Int} (h:zdd j=true): -(2^62)<=j/\j<2^62:=by
 unfold zdd at h
 simpa using h
theorem zpO {tg a:Expr} {p:Pos} {fs:Sd->M (List D)} (hg:Gl X "range") (hm:X.mg "range"=none) (ha:SA X E [a] fs) (hs:starEach [a] X.env=[(false,eval a X.env)]:=by rfl):
  SI X E tg (.Call (.Name "range" p) [a] [] pos) (λsd=>do let ds<-fs sd;zir ds):=by
 refine PI.imp (zko hg hm ha hs) λσ H Q ⟨ι,h,sd,L,hh,q⟩=>⟨ι,h,sd,L,hh,Fin.bind q λds h1 ι1 H1 e1 s1 hr1 q1 vs rv=> ?_⟩
 match ds,rv,q1 with
 | [.int j],rv,q1=>
  simp only [zaw,Rel] at rv
  obtain ⟨v,r,rfl,rfl,rfl⟩:=rv
  have q1:Fin X.K E ι1 H1 ((if zdd j=true then (pure (zdp 0 j.toNat):M (List D)) else M.bad) h1) _:=q1
  by_cases hj:zdd j=true
  ·rw [qa4 hj] at q1
   exact ⟨j,rfl,(zfJ hj).1,(zfJ hj).2,Fin.out hr1 q1 _ zns⟩
  ·rw [qa5 hj] at q1
   exact qa0 q1
 | [],_,q1=>exact qa0 q1
 | .non::_,_,q1=>exact qa0 q1
 | .bl _::_,_,q1=>exact qa0 q1
 | .str _::_,_,q1=>exact qa0 q1
 | .tup _::_,_,q1=>exact qa0 q1
 | .lst _::_,_,q1=>exact qa0 q1
 | .cel _::_,_,q1=>exact qa0 q1
 | .set _::_,_,q1=>exact qa0 q1
 | .dct::_,_,q1=>exact qa0 q1
 | .fn _::_,_,q1=>exact qa0 q1
 | .scr _::_,_,q1=>exact qa0 q1
 | .exn _::_,_,q1=>exact qa0 q1
 | .int _::_::_,_,q1=>exact qa0 q1
noncomputable def za2 (body:D->Sd->M Out):List D->Sd->M Out
 | [],sd=>pure (.nx sd)
 | x::r,sd=>do
  let o<-body x sd
  match o with
  | .nx sd'=>za2 body r sd'
  | .ct sd'=>za2 body r sd'
  | .bk sd'=>pure (.nx sd')
  | .rt d=>pure (.rt d)
theorem zuD {tg iter:Expr} {body:List Stmt} {fi:Sd->M (List D)} {g:D->Sd->M Sd} {gb:Sd->M Out} (hc:X.calm=true) (hp:PassesOwn (model X.prog X.w) X.A X.env X.xe) (hi:SI X E tg iter fi) (hg:SG X E tg g) (hb:SSs X E body gb)
  (hs: ∀ x,foldedSetIterable iter X.env x=pure x:=by intro _;rfl):SS X E (.For tg iter body [] pos) (λsd=>do let ds<-fi sd;za2 (λx sd=>do let sd1<-g x sd;gb sd1) ds sd):=by
 refine PS.imp (zsB hp hc hi hg hb hs) λD0 σ H ⟨ι,h,sd,L,hh,q⟩=>⟨ι,h,sd,L,hh,Fin.bind q λds h1 ι1 H1 e1 s1 hr1 q1 J ok=> ?_⟩
 refine ⟨λi m σ' H'=>m=ds.length - i/\i<=ds.length/\ ∃ ι' h' sd',zb1 ι1 H1 ι' H'/\zc4 X.K ι' H' sd' σ'/\zbo X.K ι' H' h'/\Fin X.K E ι' H' (za2 (λx sd=>do let sd1<-g x sd;gb sd1) (ds.drop i) sd' h') (zgZ X.K D0),
   ⟨_,rfl,zero_le _,ι1,h1,sd,zb1.refl _ _,L.step s1,hr1,by simpa using q1⟩,?_⟩
 rintro i m σ2 H2 ⟨rfl,hi2,ι2,h2,sd2,s2,L2,hr2,q2⟩
 by_cases hlt:i<ds.length
 ·right
  refine ⟨ok.go ι2 H2 i s2.pass hlt,λσ' H'=>i+1<=ds.length/\ ∃ ι' h' sd',zb1 ι1 H1 ι' H'/\zc4 X.K ι' H' sd' σ'/\zbo X.K ι' H' h'/\Fin X.K E ι' H' (za2 (λx sd=>do let sd1<-g x sd;gb sd1) (ds.drop (i+1)) sd' h') (zgZ X.K D0),
    λσ' H' p=>⟨ds.length - (i+1),⋯,rfl,p.1,p.2⟩,λx H3 y=> ?_⟩
  obtain ⟨gr,d,ed,rd⟩:=ok.yld ι2 H2 h2 i x H3 s2.pass hr2 hlt y
  obtain ⟨s3,hr3⟩:=gr.step hr2
  have edr:ds.drop i=d::ds.drop (i+1):=by
   rw [qae hlt]
   rw [qaf hlt] at ed
   rw [Option.some.inj ed]
  rw [edr] at q2
  have q3:Fin X.K E ι2 H3 (za2 (λx sd=>do let sd1<-g x sd;gb sd1) (d::ds.drop (i+1)) sd2 h2) (zgZ X.K D0):=Fin.step s3 q2
  refine ⟨ι2,h2,sd2,d,L2.step s3,hr3,rd,?_⟩
  have q5:Fin X.K E ι2 H3 ((g d sd2>>=λsd1=>(gb sd1>>=λo=>(match o with
    | .nx sd'=>za2 (λx sd=>do let sd1<-g x sd;gb sd1) (ds.drop (i+1)) sd'
    | .ct sd'=>za2 (λx sd=>do let sd1<-g x sd;gb sd1) (ds.drop (i+1)) sd'
    | .bk sd'=>pure (.nx sd')
    | .rt d=>pure (.rt d):M Out))) h2) (zgZ X.K D0):=by
   have e:(za2 (λx sd=>do let sd1<-g x sd;gb sd1) (d::ds.drop (i+1)) sd2 h2)=((g d sd2>>=λsd1=>(gb sd1>>=λo=>(match o with
     | .nx sd'=>za2 (λx sd=>do let sd1<-g x sd;gb sd1) (ds.drop (i+1)) sd'
     | .ct sd'=>za2 (λx sd=>do let sd1<-g x sd;gb sd1) (ds.drop (i+1)) sd'
     | .bk sd'=>pure (.nx sd')
     | .rt d=>pure (.rt d):M Out))) h2):=by
    show M.bind (M.bind (g d sd2) gb) _ h2=M.bind (g d sd2) _ h2
    unfold M.bind
    cases g d sd2 h2<;>rfl
   rw [<- e]
   exact q3
  refine Fin.bind q5 λsd6 h6 ι6 H6 e6 s6 hr6 q6 σ6 L6=> ?_
  refine ⟨ι6,h6,sd6,L6,hr6,Fin.bind q6 λo h7 ι7 H7 e7 s7 hr7 q7=> ?_⟩
  have st7:zb1 ι1 H1 ι7 H7:=((s2.trans s3).trans s6).trans s7
  cases o with
  | nx sd'=>exact λσ' L'=>⟨hlt,ι7,h7,sd',st7,L',hr7,q7⟩
  | ct sd'=>exact λσ' L'=>⟨hlt,ι7,h7,sd',st7,L',hr7,q7⟩
  | bk sd'=>exact λσ' L'=>Fin.out (E:=E) (P:=zgZ X.K D0) hr7 q7 σ' L'
  | rt d=>exact λv rv=>Fin.out (E:=E) (P:=zgZ X.K D0) hr7 q7 v rv
 ·left
  have e:i=ds.length:=by omega
  subst e
  refine ⟨ok.stop ι2 H2 s2.pass,?_⟩
  rw [List.drop_length] at q2
  exact Fin.out (E:=E) (P:=zgZ X.K D0) hr2 q2 σ2 L2
noncomputable def zbk (f:D->M (Option D)):List D->M (List D)
 | []=>pure []
 | x::r=>do
  let o<-f x
  let ys<-zbk f r
  pure (match o with | some y=>y::ys | none=>ys)
def zaZ (g:D->Sd->M Sd) (tc:Sd->M Bool) (te:Sd->M D) (sd:Sd) (x:D):M (Option D):=do
 let sd1<-g x sd
 let c<-tc sd1
 if c=true then do
  let y<-te sd1
  pure (some y)
 else pure none
end
def Io.hide (ι:Io) (p:Addr):Io:=⟨ι.c,p::ι.x⟩
def Io.show (ι:Io):Io:=⟨ι.c,ι.x.tail⟩
theorem zmt {ι:Io} {a:Addr} (h:ι.show.Has a):ι.Has a:=h.imp id List.mem_of_mem_tail
section
variable {K:W.Frag} {ι ι':Io} {H H':Hp} {p:Addr} {o:HO} {h:Hh}
theorem zfl (hp:H p=none):Pass ι H (ι.hide p) (upd H p o):=⟨λ_ _ z=> .inl z,λb o' hb n=>⟨by rw [zaN (za9 hb hp)];exact hb,λz=>by
  rcases z with z | z
  · exact n (.inl z)
  · rcases qaP.mp z with z | z
    · rw [z,hp] at hb;cases hb
    · exact n (.inr z)⟩⟩
theorem zhD:Pass ι H ι.show H:=⟨λ_ _ z=> .inl z,λb o' hb n=>⟨hb,λz=>n (zmt z)⟩⟩
theorem zes (hp:p∈ι.x):Pass ι H ι (upd H p o):=⟨λ_ _ z=> .inl z,λb o' hb n=>⟨by rw [zaN (show b≠p from λz=>n (.inr (z▸hp)))];exact hb,n⟩⟩
theorem zbo.hide {ws:List V} (hr:zbo K ι H h) (hp:H p=none):zbo K (ι.hide p) (upd H p (.lst ws)) h:=
 ⟨hr.len,hr.inj,λn a c h1 h2=>by
   obtain ⟨o',e2,e3⟩:=hr.at_ n a c h1 h2
   exact ⟨o',by rw [zaN (za9 e2 hp)];exact e2,e3.pass (zfl hp)⟩,hr.dead,λa ha=>by
   rcases qaP.mp ha with z | z
   · subst z;exact ⟨⟨ws,za4⟩,λz=>hr.nin hp (.inl z)⟩
   · refine ⟨?_,(hr.hidt a z).2⟩
     rw [zaN (show a≠p from λw=>hr.nin hp (.inr (w▸z)))]
     exact (hr.hidt a z).1⟩
theorem zbo.hid {ws:List V} (hr:zbo K ι H h) (hp:p∈ι.x):zbo K ι (upd H p (.lst ws)) h:=
 ⟨hr.len,hr.inj,λn a c h1 h2=>by
   obtain ⟨o',e2,e3⟩:=hr.at_ n a c h1 h2
   have ne:a≠p:=λz=>(hr.hidt p hp).2 (z▸List.mem_of_getElem? h1)
   exact ⟨o',by rw [zaN ne];exact e2,e3.pass (zes hp)⟩,hr.dead,λa ha=>by
   refine ⟨?_,(hr.hidt a ha).2⟩
   by_cases z:a=p
   · subst z;exact ⟨ws,za4⟩
   · rw [zaN z];exact (hr.hidt a ha).1⟩
theorem zbo.show (hr:zbo K ι H h):zbo K ι.show H h:=
 ⟨hr.len,hr.inj,λn a c h1 h2=>by
   obtain ⟨o',e2,e3⟩:=hr.at_ n a c h1 h2
   exact ⟨o',e2,e3.pass zhD⟩,hr.dead,λa ha=>hr.hidt a (List.mem_of_mem_tail ha)⟩
theorem zhl {ι1 ι2:Io} {H1 H2:Hp} (hp:H p=none) (hpx:p∉ι.x) (hx:ι1.x=p::ι.x) (s:zb1 ι H ι1.show H1) (t:zb1 ι1 H1 ι2 H2):zb1 ι H ι2.show (upd H2 p o) where
 old:=λn q h=>by
  rcases s.old n q h with h | h
  ·exact t.old n q h
  ·rcases t.old n _ h with h | h<;>exact .inr h
 new:=λa h=>by
  rcases t.new a h with h | h
  ·exact s.new a h
  ·by_cases z:some a∈ι.c
   ·exact .inl z
   ·refine .inr ?_
    cases q:H a with
    | none=>rfl
    | some o=>
     by_cases z':a∈ι.x
     ·rw [s.hidk a z',q] at h;cases h
     ·rw [s.keep a o q (λw=>w.elim z z')] at h;cases h
 hid:=by
  show ι2.x.tail=ι.x
  rw [t.hid,hx]
  rfl
 hidk:=λa ha=>by
  have z:a≠p:=λz=>hpx (z▸ha)
  rw [zaN z,t.hidk a (by rw [hx];exact qan _ ha)]
  exact s.hidk a ha
 keep:=λb q hb n=>by
  have ne:b≠p:=za9 hb hp
  rw [zaN ne]
  refine t.keep b q (s.keep b q hb n) λz=> ?_
  rcases z with z | z
  ·rcases s.new b z with z | z
   ·exact n (.inl z)
   ·rw [hb] at z;cases z
  ·rw [hx] at z
   rcases qaP.mp z with z | z
   ·exact ne z
   ·exact n (.inr z)
theorem zb1.shown {ι2:Io} {H2:Hp} {r:List Addr} (hx:ι.x=p::r) (t:zb1 ι H ι2 H2):zb1 ι.show H ι2.show H2 where
 old:=t.old
 new:=t.new
 hid:=by show ι2.x.tail=ι.x.tail;rw [t.hid]
 hidk:=λa ha=>t.hidk a (List.mem_of_mem_tail ha)
 keep:=λb q hb n=>by
  by_cases z:b=p
  ·subst z
   rw [t.hidk b (by rw [hx];exact qau)]
   exact hb
  ·refine t.keep b q hb λw=> ?_
   rcases w with w | w
   ·exact n (.inl w)
   ·rw [hx] at w
    rcases qaP.mp w with w | w
    ·exact z w
    ·exact n (.inr (by show b∈ι.x.tail;rw [hx];exact w))
theorem Fin.bindB {α β:Type} {E:XE} {m:M α} {f:α->M β} {P:β->Io->Hp->Prop} {P':α->Io->Hp->Prop} {ιb:Io} {Hb:Hp} (q:Fin K E ιb Hb ((m>>=f) h) P)
  (conv: ∀ ι' H' h',zb1 ι H ι' H'->zbo K ι' H' h'-> ∃ ι'',zb1 ιb Hb ι'' H'/\zbo K ι'' H' h')
  (k: ∀ a h' ι' H',m h= .ok a h'->zb1 ι H ι' H'->zbo K ι' H' h'->Fin K E ιb Hb (f a h') P->P' a ι' H'):Fin K E ι H (m h) P':=by
 have q':Fin K E ιb Hb (M.bind m f h) P:=q
 unfold M.bind at q'
 cases e:m h with
 | ok a h'=>
  rw [e] at q'
  intro ι' H' s hr
  exact k a h' ι' H' e s hr q'
 | exc c h'=>
  rw [e] at q'
  intro ι' H' s hr
  obtain ⟨ι'',s2,hr2⟩:=conv ι' H' h' s hr
  exact q' _ _ s2 hr2
 | bad=>rw [e] at q';exact q'
end
instance:LawfulMonad M:=LawfulMonad.mk' M
 (id_map:=λx=>by
   funext h
   show M.bind x (λa=>M.pure (id a)) h=x h
   unfold M.bind M.pure
   cases x h<;>rfl)
 (pure_bind:=λx f=>rfl)
 (bind_assoc:=λx f g=>by
   funext h
   show M.bind (M.bind x f) g h=M.bind x (λa=>M.bind (f a) g) h
   unfold M.bind
   cases x h<;>rfl)
def zap (src:List (Option Nat)) (sd:Sd):Sd:=src.map λo=>o.bind λi=>(sd[i]?).join
theorem zc4.bStart {K:W.Frag} {ι:Io} {H:Hp} {sd:Sd} {σ:L2.St} {src:List (Option Nat)} (h:zc4 K ι H sd σ):zc4 K ι H (zap src sd) (bStart src σ):=by
 refine ⟨by unfold zap L2.bStart;rw [qaH,qaH],λi d e=> ?_⟩
 unfold zap at e
 unfold L2.bStart
 rw [List.getElem?_map] at e ⊢
 cases z:src[i]? with
 | none=>rw [z] at e;cases e
 | some o=>
  rw [z] at e
  cases o with
  | none=>cases e
  | some j=>
   have e:(sd[j]?).join=some d:=by simpa using e
   cases w:sd[j]? with
   | none=>rw [w] at e;cases e
   | some q=>
    rw [w] at e
    have e:q=some d:=by simpa using e
    subst e
    obtain ⟨v,h1,h2⟩:=h.2 j d w
    exact ⟨v,by simp [h1],h2⟩
def zaD (g:D->Sd->M Sd) (src:List (Option Nat)):Prop:= ∀ x sd h sd1 h1,sd.length=src.length->(∀ (i:Nat),src[i]? = some none->sd[i]? = some none)->g x sd h= .ok sd1 h1->sd1.length=sd.length/\ ∀ (i:Nat) d,src[i]? ≠ some none->sd[i]? = some (some d)->sd1[i]? = some (some d)
def zaT (g:List D->Sd->M Sd) (src:List (Option Nat)):Prop:= ∀ x sd h sd1 h1,g x sd h= .ok sd1 h1->sd1.length=sd.length/\ ∀ (i:Nat) d,src[i]? ≠ some none->sd[i]? = some (some d)->sd1[i]? = some (some d)
theorem zkX {i:Nat} {src:List (Option Nat)} (h:src[i]? = some none): ∀ x sd h sd1 h1,zaC i x sd h= .ok sd1 h1->sd1.length=sd.length/\ ∀ (j:Nat) d,src[j]? ≠ some none->sd[j]? = some (some d)->sd1[j]? = some (some d):=λx sd h0 sd1 h1 e=>by
 have e:R.ok (sd.set i (some x)) h0= .ok sd1 h1:=e
 cases e
 refine ⟨qaI,λj d hj e=> ?_⟩
 rw [qao (show i≠j from λz=>hj (z▸h))]
 exact e
theorem zaD.name {i:Nat} {src:List (Option Nat)} (h:src[i]? = some none):zaD (zaC i) src:=λx sd h0 sd1 h1 _ _ e=>zkX h x sd h0 sd1 h1 e
theorem zaT.nil {src:List (Option Nat)}:zaT zbp src:=λx sd h sd1 h1 e=>by
 cases x with
 | nil=>
  have e:R.ok sd h= .ok sd1 h1:=e
  cases e
  exact ⟨rfl,λ_ _ _ z=>z⟩
 | cons _ _=>cases (show R.bad=R.ok sd1 h1 from e)
theorem zaT.cons {i:Nat} {gs:List D->Sd->M Sd} {src:List (Option Nat)} (h:src[i]? = some none) (t:zaT gs src):zaT (zat (zaC i) gs) src:=λx sd h0 sd1 h1 e=>by
 cases x with
 | nil=>cases (show R.bad=R.ok sd1 h1 from e)
 | cons d r=>
  have e:gs r (sd.set i (some d)) h0= .ok sd1 h1:=e
  obtain ⟨e1,e2⟩:=t r _ h0 sd1 h1 e
  refine ⟨by rw [e1,qaI],λj d' hj z=>e2 j d' hj ?_⟩
  rw [qao (show i≠j from λz=>hj (z▸h))]
  exact z
theorem zaD.tup {n:Nat} {gs:List D->Sd->M Sd} {src:List (Option Nat)} (t:zaT gs src):zaD (zbn n gs) src:=λx sd h0 sd1 h1 _ _ e=>by
 cases x with
 | tup ds=>
  have e:(if ds.length=n then gs ds sd else M.bad) h0= .ok sd1 h1:=e
  by_cases hl:ds.length=n
  ·rw [qa4 hl] at e;exact t _ _ _ _ _ e
  ·rw [qa5 hl] at e;cases (show R.bad=R.ok sd1 h1 from e)
 | _=>cases (show R.bad=R.ok sd1 h1 from e)
section
variable {X:Cx} {E:XE} {scope:Scope} {N:List Str} {src:List (Option Nat)} {tg iter elt:Expr} {ifs:List Expr} {pos:Pos}
abbrev SCs (X:Cx) (E:XE) (ifs:List Expr) (t:Sd->M Bool):Prop:=PCs X ifs (zfZ X.K E t)
theorem zsu:SCs X E [] (λ_=>pure true):=λpins s σ H Q I ⟨ι,h,sd,L,hh,q⟩=>zpq pins s σ H Q I (Fin.out hh q)
theorem zs7 {c:Expr} {t:Sd->M Bool} (h:ST X E c t):SCs X E [c] t:=zqk h
theorem blk {K:W.Frag} {g:D->Sd->M Sd} {tc:Sd->M Bool} {te:Sd->M D} {J:It} {ds:List D} {ι:Io} {H:Hp} {h:Hh} {sd:Sd} {σ:L2.St} {Q:VK} {p:Addr} (hk:zaD g src) (L:zc4 K ι H sd σ) (hr:zbo K ι H h) (ok:zmn K ι H J ds) (hz:ds.length<=sizeLine)
  (q:Fin K E ι H ((do let ys<-zbk (zaZ g tc te (zap src sd)) ds;pure (D.lst ys)) h) λd ι' H'=> ∀ v,Rel K ι' H' d v->Q v H') (hp:H p=none):
  ztI J (zq7 K E g) (zfZ K E tc) (zhP K E te) (bStart src σ) H p λH'=>Q (.ref p) H':=by
 generalize hP:(λ(d:D) (ι':Io) (H':Hp)=> ∀ v,Rel K ι' H' d v->Q v H')=P at q
 generalize hf:zaZ g tc te (zap src sd)=f at q
 have hpx:p∉ι.x:=λz=>hr.nin hp (.inr z)
 have h0len:(zap src sd).length=src.length:=by unfold zap;rw [qaH]
 have h0non: ∀ (i:Nat),src[i]? = some none->(zap src sd)[i]? = some none:=λi e=>by unfold zap;rw [List.getElem?_map,e];rfl
 refine ⟨λi m σ' H'=>m=ds.length - i/\i<=ds.length/\ ∃ ι' h' done vs,ι'.x=p::ι.x/\zb1 ι H ι'.show H'/\zc4 K ι' H' (zap src sd) σ'/\zbo K ι' H' h'/\H' p=some (.lst vs)/\zaw K ι' H' done vs/\done.length<=i/\
     Fin K E ι H ((do let ys<-zbk f (ds.drop i);pure (D.lst (done++ys))) h') P,
   ⟨_,rfl,zero_le _,ι.hide p,h,[],[],rfl,?_,L.bStart.pass (zfl hp),hr.hide hp,za4,zaw.nil,qaV _,?_⟩,?_⟩
 ·have:=hr.laidS (o:= .lst []) hp
  exact ⟨this.old,this.new,this.hid,this.hidk,this.keep⟩
 ·simpa using q
 rintro i m σ2 H2 ⟨rfl,hi2,ι2,h2,done,vs,hx2,s2,L2,hr2,e2,rl2,dl2,q2⟩
 have ps2:Pass ι H ι2 H2:=⟨s2.old,λb o hb n=>⟨s2.keep b o hb n,λz=>by
   rcases z with z | z
   · exact s2.nin hb n (.inl z)
   · rw [hx2] at z
     rcases qaP.mp z with z | z
     · rw [z,hp] at hb;cases hb
     · exact n (.inr z)⟩⟩
 have hp2:p∈ι2.x:=by rw [hx2];exact qau
 have base: ∀ {ι':Io} {H':Hp},zb1 ι2 H2 ι' H'->zb1 ι H ι'.show H':=λt=>s2.trans (t.shown hx2)
 by_cases hlt:i<ds.length
 ·right
  refine ⟨ok.go ι2 H2 i ps2 hlt,λσ' H'=>i+1<=ds.length/\ ∃ ι' h' done vs,ι'.x=p::ι.x/\zb1 ι H ι'.show H'/\zc4 K ι' H' (zap src sd) σ'/\zbo K ι' H' h'/\H' p=some (.lst vs)/\zaw K ι' H' done vs/\done.length<=i+1/\
    Fin K E ι H ((do let ys<-zbk f (ds.drop (i+1));pure (D.lst (done++ys))) h') P,λσ' H' z=>⟨ds.length - (i+1),⋯,rfl,z.1,z.2⟩,λx H3 y=> ?_⟩
  obtain ⟨gr,d,ed,rd⟩:=ok.yld ι2 H2 h2 i x H3 ps2 hr2 hlt y
  obtain ⟨s3,hr3⟩:=gr.step hr2
  have edr:ds.drop i=d::ds.drop (i+1):=by
   rw [qae hlt]
   rw [qaf hlt] at ed
   rw [Option.some.inj ed]
  rw [edr] at q2
  have q3:=q2
  have st3:zb1 ι2 H2 ι2 H3:=s3
  have e3:H3 p=some (.lst vs):=by rw [s3.hidk p hp2];exact e2
  have eq1:(do let ys<-zbk f (d::ds.drop (i+1));pure (D.lst (done++ys)):M D)=(g d (zap src sd)>>=λsd1=>tc sd1>>=λc=>if c=true then (te sd1>>=λy=>zbk f (ds.drop (i+1))>>=λys=>pure (D.lst (done++[y]++ys))) else (zbk f (ds.drop (i+1))>>=λys=>pure (D.lst (done++ys)))):=by
   rw [zbk]
   rw [<- hf]
   simp only [zaZ,bind_assoc]
   refine congrArg _ (funext λsd1=> ?_)
   refine congrArg _ (funext λc=> ?_)
   cases c with
   | true=>simp only [if_true,bind_assoc,pure_bind,List.append_assoc,cons_append,nil_append]
   | false=>simp only [qax,if_false,pure_bind]
  rw [eq1] at q3
  refine ⟨ι2,h2,zap src sd,d,L2.step s3,hr3,rd,?_⟩
  refine Fin.bindB q3 (λι' H' h' s hr'=>⟨ι'.show,base (s3.trans s),hr'.show⟩) λsd4 h4 ι4 H4 e4 s4 hr4 q4 σ4 L4=> ?_
  have hx4:ι4.x=p::ι.x:=by rw [s4.hid];exact hx2
  obtain ⟨k1,k2⟩:=hk d _ h2 sd4 h4 h0len h0non e4
  refine ⟨ι4,h4,sd4,L4,hr4,Fin.bindB q4 (λι' H' h' s hr'=>⟨ι'.show,base ((s3.trans s4).trans s),hr'.show⟩) λc h5 ι5 H5 e5 s5 hr5 q5=> ?_⟩
  have hx5:ι5.x=p::ι.x:=by rw [s5.hid];exact hx4
  have sub: ∀ {ι':Io} {H':Hp},zc4 K ι' H' sd4 σ4->zc4 K ι' H' (zap src sd) σ4:=λ{ι' H'} z=>⟨by rw [<- k1];exact z.1,λj d' e=>z.2 j d' (k2 j d' (λw=>by rw [h0non j w] at e;cases e) e)⟩
  have st5:zb1 ι2 H2 ι5 H5:=(s3.trans s4).trans s5
  cases c with
  | false=>
   exact zoD ⟨hlt,ι5,h5,done,vs,hx5,base st5,sub (L4.step s5),hr5,by rw [st5.hidk p hp2];exact e2,rl2.step st5,Nat.le_succ_of_le dl2,q5⟩
  | true=>
   refine zn7 ⟨ι5,h5,sd4,L4.step s5,hr5,Fin.bindB q5 (λι' H' h' s hr'=>⟨ι'.show,base (st5.trans s),hr'.show⟩) λyd h6 ι6 H6 e6 s6 hr6 q6 y ry=> ?_⟩
   have st6:zb1 ι2 H2 ι6 H6:=st5.trans s6
   have hx6:ι6.x=p::ι.x:=by rw [s6.hid];exact hx5
   have hp6:p∈ι6.x:=by rw [hx6];exact qau
   have e6':H6 p=some (.lst vs):=by rw [st6.hidk p hp2];exact e2
   refine ⟨vs,e6',by rw [<- rl2.length];omega,hlt,ι6,h6,done++[yd],vs++[y],hx6,zhl hp hpx hx2 s2 st6,?_,hr6.hid hp6,za4,?_,?_,?_⟩
   ·exact ((sub (L4.step s5)).step s6).pass (zes hp6)
   ·exact ((rl2.step st6).append (zaw.cons ry zaw.nil)).pass (zes hp6)
   ·rw [qav,length_singleton];omega
   ·exact q6
 ·left
  have e:i=ds.length:=by omega
  subst e
  refine ⟨ok.stop ι2 H2 ps2,?_⟩
  rw [List.drop_length] at q2
  have q3:P (.lst done) ι2.show H2:=by
   have:Fin K E ι H ((pure (D.lst (done++[])):M D) h2) P:=q2
   rw [append_nil] at this
   exact this _ _ s2 hr2.show
  rw [<- hP] at q3
  refine q3 (.ref p) ?_
  simp only [Rel]
  refine ⟨p,vs,rfl,⟨e2,λz=> ?_⟩,rl2.pass zhD⟩
  rcases z with z | z
  ·exact (hr2.hidt p (by rw [hx2];exact qau)).2 z
  ·exact hpx (by have z:p∈ι2.x.tail:=z;rw [hx2] at z;exact z)
noncomputable def zaH (fi:Sd->M (List D)) (g:D->Sd->M Sd) (tc:Sd->M Bool) (te:Sd->M D) (src:List (Option Nat)):Sd->M D:=λsd=>do
 let ds<-fi sd
 fits ds.length
 let ys<-zbk (zaZ g tc te (zap src sd)) ds
 pure (D.lst ys)
theorem zk6 {K:W.Frag} {fi:Sd->M (List D)} {g:D->Sd->M Sd} {tc:Sd->M Bool} {te:Sd->M D} (hk:zaD g src) (σ:L2.St) (H:Hp) (Q:VK) (q:zhP K E (zaH fi g tc te src) σ H Q):
  zmG (zuy K E fi) (zq7 K E g) (zfZ K E tc) (zhP K E te) src σ H Q:=by
 obtain ⟨ι,h,sd,L,hh,q⟩:=q
 refine ⟨ι,h,sd,L,hh,Fin.bind q λds h1 ι1 H1 e1 s1 hr1 q1 J ok p hp=> ?_⟩
 obtain ⟨z,q2⟩:=Fin.fits q1
 exact blk hk (L.step s1) hr1 ok z q2 hp
theorem zqJ {fi:Sd->M (List D)} {g:D->Sd->M Sd} {tc:Sd->M Bool} {te:Sd->M D} (B:BOk X scope N src) (hk:zaD g src) (hi:SI X E tg iter fi)
  (hg: ∀ s H fp,SG (cxB X scope N s H fp) E tg g) (ht: ∀ s H fp,SCs (cxB X scope N s H fp) E ifs tc) (he: ∀ s H fp,SE (cxB X scope N s H fp) E elt te)
  (hs: ∀ x,foldedSetIterable iter X.env x=pure x:=by intro _;rfl):SE X E (.ListComp elt [⟨tg,iter,ifs,0⟩] scope pos) (zaH fi g tc te src):=
 PE.imp (zkO B hi hg ht he hs) (zk6 hk)
theorem zlp {fi:Sd->M (List D)} {g:D->Sd->M Sd} {tc:Sd->M Bool} {te:Sd->M D} (i:Nat) {y:Str} {py spos:Pos} (B:BOk X scope N src) (hk:zaD g src) (hi:SI X E tg iter fi)
  (hg: ∀ s H fp,SG (cxB X scope N s H fp) E tg g) (ht: ∀ s H fp,SCs (cxB X scope N s H fp) E ifs tc) (he: ∀ s H fp,SE (cxB X scope N s H fp) E elt te)
  (hN:X.N.Nodup) (hy:X.N[i]? = some y) (hx:Loc X.env.scope y) (hf:X.fn y=true\/X.env.scope.names.lookup y=some .local) (hsw:swapsWith (.ListComp elt [⟨tg,iter,ifs,0⟩] scope pos) (some (.Name y py)) spos.line X.env=pure true)
  (hs: ∀ x,foldedSetIterable iter X.env x=pure x:=by intro _;rfl):SS X E (.Assign [.Name y py] (.ListComp elt [⟨tg,iter,ifs,0⟩] scope pos) spos) (λsd=>do let d<-zaH fi g tc te src sd;pure (.nx (sd.set i (some d)))):=by
 refine PS.imp (zf5 B hi hg ht he hN hy hx hsw hf hs) λD0 σ H ⟨ι,h,sd,L,hh,q⟩=>zk6 hk σ H _ ⟨ι,h,sd,L,hh,Fin.bind q λd h1 ι1 H1 e1 s1 hr1 q1 v rv=> ?_⟩
 exact Fin.out (E:=E) (P:=zgZ X.K D0) hr1 q1 _ ((L.step s1).set rv i)
end
section
variable {K:W.Frag} {ι:Io} {H:Hp} {h:Hh} {n:Nat} {a:Addr}
theorem zfp {o:HO} (hn:ι.c[n]? = some (some a)):Pass ι H ι (upd H a o):=⟨λ_ _ z=> .inl z,λb o' hb nb=>⟨by rw [zaN (show b≠a from λz=>nb (.inl (z▸List.mem_of_getElem? hn)))];exact hb,nb⟩⟩
theorem zbo.cellS {o:HO} (hr:zbo K ι H h) (hn:ι.c[n]? = some (some a)):zb1 ι H ι (upd H a o):=
 ⟨λ_ _ z=> .inl z,λ_ z=> .inl z,rfl,λb hb=>zaN λz=>(hr.hidt b hb).2 (z▸List.mem_of_getElem? hn),λb o' hb nb=>((zfp hn).keep b o' hb nb).1⟩
theorem zbo.cellO {c':C} {o':HO} (hr:zbo K ι H h) (hn:ι.c[n]? = some (some a)) (co:CO K ι H c' o'):zbo K ι (upd H a o') (h.set n c'):=by
 refine ⟨by rw [qaI];exact hr.len,hr.inj,λm b c hm hc=> ?_,λm hm=> ?_,λb hb=>⟨?_,(hr.hidt b hb).2⟩⟩
 ·by_cases e:n=m
  ·subst e
   rw [hn] at hm
   cases hm
   rw [qai (by rw [hr.len];exact (qac.mp hn).1)] at hc
   cases hc
   exact ⟨o',za4,co.pass (zfp hn)⟩
  ·rw [qao e] at hc
   obtain ⟨o2,e2,e3⟩:=hr.at_ m b c hm hc
   have ne:b≠a:=λz=>by subst z;exact e (hr.inj n m b hn hm)
   exact ⟨o2,by rw [zaN ne];exact e2,e3.pass (zfp hn)⟩
 ·have e:n≠m:=λz=>by subst z;rw [hn] at hm;cases hm
  rw [qao e]
  exact hr.dead m hm
 ·rw [zaN (show b≠a from λz=>(hr.hidt b hb).2 (z▸List.mem_of_getElem? hn))]
  exact (hr.hidt b hb).1
theorem zbo.cell {ds':List D} {vs':List V} (hr:zbo K ι H h) (hn:ι.c[n]? = some (some a)) (rl:zaw K ι H ds' vs'):zbo K ι (upd H a (.lst vs')) (h.set n (.lst ds')):=hr.cellO hn ⟨vs',rfl,rl⟩
theorem zbo.read {ds:List D} {v:V} (hr:zbo K ι H h) (r:Rel K ι H (.cel n) v) (e:h[n]? = some (.lst ds)): ∃ a vs,v= .ref a/\ι.c[n]? = some (some a)/\H a=some (.lst vs)/\zaw K ι H ds vs:=by
 simp only [Rel] at r
 obtain ⟨a,e1,r | r⟩:=r
 ·obtain ⟨o,e3,vs,rfl,e4⟩:=hr.at_ n a _ r e
  exact ⟨a,vs,e1,r,e3,e4⟩
 ·rw [hr.dead n r] at e
  cases e
end
noncomputable def zaq (n:Nat):M (List D):=λh=>match h[n]? with
 | some (.lst ds)=> .ok ds h
 | _=> .bad
noncomputable def zbN (n:Nat) (ds:List D):M Unit:=λh=> .ok () (h.set n (.lst ds))
theorem zc8 {n:Nat} {h h':Hh} {ds:List D} (e:zaq n h= .ok ds h'):h'=h/\h[n]? = some (.lst ds):=by
 unfold zaq at e
 cases z:h[n]? with
 | none=>rw [z] at e;cases e
 | some c=>
  rw [z] at e
  cases c with
  | lst xs=>cases e;exact ⟨rfl,rfl⟩
  | dic _=>cases e
  | dit ks=>cases e
  | ins _ _=>cases e
  | dead=>cases e
noncomputable def ofO {α:Type}:Option α->M α
 | some a=>pure a
 | none=>M.bad
def dIx:D->D->M D:=λx y=>match x,y with
 | .tup ds,.int i=>ofO (atI ds i)
 | .lst ds,.int i=>ofO (atI ds i)
 | .scr ds,.int i=>ofO (atI ds i)
 | .cel n,.int i=>do let ds<-zaq n;ofO (atI ds i)
 | _,_=>M.bad
theorem zgE {K:W.Frag} {ι:Io} {H:Hp} {ds:List D} {vs:List V} {i:Int} {d:D} (rl:zaw K ι H ds vs) (e:atI ds i=some d): ∃ v,atI vs i=some v/\Rel K ι H d v:=by
 unfold atI at e ⊢
 rw [<- rl.length]
 cases z:ixN ds.length i with
 | none=>rw [z] at e;cases e
 | some j=>
  rw [z] at e
  have e:ds[j]? = some d:=e
  exact rl.get e
section
variable {X:Cx} {E:XE}
theorem Fin.ofO {α:Type} {K:W.Frag} {ι:Io} {H:Hp} {h:Hh} {o:Option α} {P:α->Io->Hp->Prop} (hr:zbo K ι H h) (q:Fin K E ι H (L3.ofO o h) P): ∃ a,o=some a/\P a ι H:=by
 cases o with
 | none=>exact qa0 q
 | some a=>exact ⟨a,rfl,Fin.out hr q⟩
theorem zv3:IxR X (zdI X.K E dIx):=by
 refine IxR.imp (zqe.or zrG) λx y H Q ⟨ι,h,d1,d2,r1,r2,hr,q⟩=> ?_
 cases d2 with
 | int i=>
  simp only [Rel] at r2
  cases d1 with
  | tup ds=>
   obtain ⟨a,vs,e,h1,h2⟩:=zdS r1
   obtain ⟨d,e1,q⟩:=Fin.ofO hr q
   obtain ⟨v,e2,rv⟩:=zgE h2 e1
   exact .inr ⟨a,vs,i,v,e,r2,h1,e2,q v rv⟩
  | lst ds=>
   obtain ⟨a,vs,e,h1,h2⟩:=zff r1
   obtain ⟨d,e1,q⟩:=Fin.ofO hr q
   obtain ⟨v,e2,rv⟩:=zgE h2 e1
   exact .inl ⟨a,vs,i,v,e,r2,h1,e2,q v rv⟩
  | scr ds=>
   obtain ⟨a,vs,e,h1,h2⟩:=zkE r1
   obtain ⟨d,e1,q⟩:=Fin.ofO hr q
   obtain ⟨v,e2,rv⟩:=zgE h2 e1
   exact .inl ⟨a,vs,i,v,e,r2,h1,e2,q v rv⟩
  | cel n=>
   have q:Fin X.K E ι H ((zaq n>>=λds=>L3.ofO (atI ds i)) h) _:=q
   have q':Fin X.K E ι H (M.bind (zaq n) (λds=>L3.ofO (atI ds i)) h) _:=q
   unfold M.bind at q'
   cases z:zaq n h with
   | bad=>rw [z] at q';exact qa0 q'
   | exc c h'=>unfold zaq at z;split at z<;>cases z
   | ok ds h'=>
    rw [z] at q'
    obtain ⟨rfl,z2⟩:=zc8 z
    obtain ⟨a,vs,e,hn,hH,rl⟩:=hr.read r1 z2
    obtain ⟨d,e1,q⟩:=Fin.ofO hr q'
    obtain ⟨v,e2,rv⟩:=zgE rl e1
    exact .inl ⟨a,vs,i,v,e,r2,SqL.of hH,e2,q v rv⟩
  | _=>exact qa0 q
 | _=>cases d1<;>exact qa0 q
def zkA (o i d:D):M Unit:=match o,i with
 | .cel n,.int k=>do
  let ds<-zaq n
  let j<-ofO (ixN ds.length k)
  zbN n (ds.set j d)
 | _,_=>M.bad
theorem zrk {o i:Expr} {pos:Pos} {fo fi:Sd->M D} (hp: ∀ {t:ztJ},zvd X t->PG X (.Subscript o i pos) (zvp (zhP X.K E fo) (zhP X.K E fi) t)):
  SG X E (.Subscript o i pos) (λd sd=>do let x<-fo sd;let y<-fi sd;zkA x y d;pure sd):=by
 refine PG.imp (hp zmU) λv σ H Q ⟨ι,h,sd,d,L,hr,rd,q⟩=>⟨ι,h,sd,L,hr,Fin.bind q λx h1 ι1 H1 e1 s1 hr1 q1 xv rx=> ?_⟩
 refine ⟨ι1,h1,sd,L.step s1,hr1,Fin.bind q1 λy h2 ι2 H2 e2 s2 hr2 q2 yv ry=> ?_⟩
 cases x with
 | cel n=>
  cases y with
  | int k=>
   have rx2:=rx.step s2
   have q3:Fin X.K E ι2 H2 ((zaq n>>=λds=>(ofO (ixN ds.length k)>>=λj=>zbN n (ds.set j d)>>=λ_=>pure sd)) h2) (λsd' ι' H'=> ∀ σ',zc4 X.K ι' H' sd' σ'->Q σ' H'):=by
    have e:(do zkA (.cel n) (.int k) d;pure sd:M Sd)=(zaq n>>=λds=>(ofO (ixN ds.length k)>>=λj=>zbN n (ds.set j d)>>=λ_=>pure sd)):=by
     show ((zaq n>>=λds=>(ofO (ixN ds.length k)>>=λj=>zbN n (ds.set j d)))>>=λ_=>pure sd)=_
     simp only [bind_assoc]
    rw [<- e]
    exact q2
   have q':Fin X.K E ι2 H2 (M.bind (zaq n) (λds=>(ofO (ixN ds.length k)>>=λj=>zbN n (ds.set j d)>>=λ_=>pure sd)) h2) _:=q3
   unfold M.bind at q'
   cases z:zaq n h2 with
   | bad=>rw [z] at q';exact qa0 q'
   | exc c h'=>unfold zaq at z;split at z<;>cases z
   | ok ds h'=>
    rw [z] at q'
    obtain ⟨rfl,z2⟩:=zc8 z
    obtain ⟨a,vs,e,hn,hH,rl⟩:=hr2.read rx2 z2
    simp only [Rel] at ry
    have q4:Fin X.K E ι2 H2 (M.bind (ofO (ixN ds.length k)) (λj=>zbN n (ds.set j d)>>=λ_=>pure sd) h') _:=q'
    unfold M.bind at q4
    cases z3:ixN ds.length k with
    | none=>rw [z3] at q4;exact qa0 q4
    | some j=>
     rw [z3] at q4
     have q5:Fin X.K E ι2 H2 (R.ok sd (h'.set n (.lst (ds.set j d)))) (λsd' ι' H'=> ∀ σ',zc4 X.K ι' H' sd' σ'->Q σ' H'):=q4
     refine ⟨a,vs,k,j,e,ry,hH,by rw [<- rl.length];exact z3,?_⟩
     have rd2:=(rd.step s1).step s2
     exact q5 ι2 _ (hr2.cellS hn) (hr2.cell hn (rl.set rd2 j)) σ (((L.step s1).step s2).step (hr2.cellS hn))
  | _=>exact qa0 q2
 | _=>cases y<;>exact qa0 q2
end
abbrev E0x:XE:=λ_ _=>False
def zbY (K:W.Frag) (n:Nat) (F:List D->M D):Sp:=λvs H Q _=>vs.length=n/\ ∃ ι h ds,zaw K ι H ds vs/\zbo K ι H h/\Fin K E0x ι H (F ds h) λd ι' H'=> ∀ v,Rel K ι' H' d v->Q v H'
def ziG (n:Nat) (ds:List D):Sd:=ds.map some++replicate (n - ds.length) none
def zcj:Out->M D
 | .nx _=>pure .non
 | .rt d=>pure d
 | _=>M.bad
def zcv (n:Nat) (G:Sd->M Out) (ds:List D):M D:=do let o<-G (ziG n ds);zcj o
theorem zjL {K:W.Frag} {ι:Io} {H:Hp} {ds:List D} {vs:List V} {N:List Str} (h:zaw K ι H ds vs):zc4 K ι H (ziG N.length ds) (L2.zfU N vs):=by
 have hl:=h.length
 unfold ziG L2.zfU
 refine ⟨by simp [hl],λi d e=> ?_⟩
 by_cases hi:i<ds.length
 ·rw [qad (by simpa using hi),List.getElem?_map] at e
  cases z:ds[i]? with
  | none=>rw [z] at e;cases e
  | some d'=>
   rw [z] at e
   cases e
   obtain ⟨v,h1,h2⟩:=h.get z
   exact ⟨v,by rw [qad (by rw [qaH, <-hl];exact hi),List.getElem?_map,h1];rfl,h2⟩
 ·rw [qaa (by simpa using hi),List.getElem?_replicate] at e
  split at e<;>cases e
section
variable {P:Program} {w:World} {K:W.Frag} {mg:Str->Option Value} {base:Heap}
theorem za1 {x qual:Str} {st:Stmt} {f:Addr} {fd:FuncData} {N ps:List Str} {k:Nat} {G:Sd->M Out} (F:Fun K x qual st f fd) (S:zau N ps (zaf st))
  (hb: ∀ (cdv:Value) (A:Around) (outer:List Env) (s:Shared) (H:Hp) (E:XK),zfN k (A.deeper (envOfC qual (zaf st) s.heap.objs.size f cdv))->SSs (zqa CX0 P w K mg base N qual (zaf st) f cdv A outer s H E).nox E0x (zdA st) G):
  zbP P w K mg base CX0 (k+1) f fd ps (zbY K ps.length (zcv N.length G)):=by
 refine F.ok S (λvs H Q E h=>h.1) λcdv A outer s H vs Q E hr ⟨hl,ι,h,ds,rl,hh,q⟩=>⟨_,hb cdv A outer s H E hr,ι,h,ziG N.length ds,zjL rl,hh,?_⟩
 refine Fin.bind q λo h1 ι1 H1 e1 s1 hr1 q1=> ?_
 cases o with
 | nx sd=>exact λσ' _=>Fin.out hr1 q1 _ (by simp [Rel])
 | rt d=>exact λv rv=>Fin.out hr1 q1 v rv
 | bk sd=>exact qa0 q1
 | ct sd=>exact qa0 q1
end
section
variable {X:Cx} {e:Expr} {es:List Expr} {pos p:Pos}
def zav (n:Nat) (F:List D->M D) (ds:List D):M D:=if ds.length=n then F ds else M.bad
theorem zqt {k:Nat} {f:Addr} {fd:FuncData} {ps:List Str} {n:Nat} {F:List D->M D} {fs:Sd->M (List D)} {x:Str} (G:zbP X.prog X.w X.K X.mg X.base CX0 k f fd ps (zbY X.K n F)) (hr:zfN k X.A) (hg:Gl X x) (hm:X.mg x=some (.ref f)) (hk:W.keepIn X.K (.ref f)=true) (hb:zaS X.K fd ps [])
  (ha:SA X E0x (e::es) fs) (hdb:(x==("__debug__":Str))=false:=by decide) (he:starEach (e::es) X.env=(false,eval e X.env)::starEach es X.env:=by rfl) (hpl:(backTo pos (starEach es X.env)).any (·.1)=false:=by rfl):
  SE X E0x (.Call (.Name x p) (e::es) [] pos) (λsd=>do let ds<-fs sd;zav n F ds):=by
 refine PE.imp (zpx G hr hg hm hk hb (dvs:=[]) .nil (E:=λ_ _ _=>False) zu5 ha hdb he hpl) λσ H Q ⟨ι,h,sd,L,hh,q⟩=>⟨ι,h,sd,L,hh,Fin.bind q λds h1 ι1 H1 e1 s1 hr1 q1 vs rv=> ?_⟩
 show zbY X.K n F (vs++[]) H1 Q _
 rw [append_nil]
 unfold zav at q1
 by_cases hl:ds.length=n
 ·rw [qa4 hl] at q1
  exact ⟨by rw [<- rv.length];exact hl,ι1,h1,ds,rv,hr1,q1⟩
 ·rw [qa5 hl] at q1
  exact qa0 q1
end
section
variable {X:Cx} {E:XE}
theorem Fin.guard {α:Type} {K:W.Frag} {ι:Io} {H:Hp} {h:Hh} {c:Prop} [Decidable c] {f:M α} {P:α->Io->Hp->Prop} (q:Fin K E ι H ((if c then f else M.bad) h) P):c/\Fin K E ι H (f h) P:=by
 by_cases hc:c
 ·rw [qa4 hc] at q;exact ⟨hc,q⟩
 ·rw [qa5 hc] at q;exact qa0 q
theorem zmW:OpR X (binaryOp .Add) (λx y H Q=> ∃ a b ys,x= .ref a/\y= .ref b/\SqT X.K H a []/\SqT X.K H b ys/\Q (.ref b) H):=by
 intro pins s σ H x y v u Q I rx ry h
 obtain ⟨a,b,ys,rfl,rfl,ha,hb,q⟩:=h
 cases rx
 cases ry
 obtain ⟨its,r1,p1,_⟩:=I.tuple ha
 obtain ⟨its2,r2,p2,_⟩:=I.tuple hb
 cases r1
 obtain ⟨⟨cls,dd,data,sl⟩,ho,hc,n,hd⟩:=id p1
 obtain ⟨⟨cls2,dd2,data2,sl2⟩,ho2,hc2,n2,hd2⟩:=id p2
 simp only at hc hd hc2 hd2
 subst hc hd hc2 hd2
 exact concat_meets ⟨_,ho,rfl⟩ ⟨_,ho2,rfl⟩ noFill_tuple_add seq_tuple_add PySem.F.slot_tuple_add PySem.F.entry_tuple_add (PySem.F.args_tuple_add_2 _ _)
   (tuple_addW0 a b _ _ n n2 dd dd2 sl sl2 (by simp)) ⟨ho,ho2,⟨.ref b,H,I,rfl,q⟩⟩
def zdV (x y:D):M D:=match x,y with
 | .int i,.int j=>pure (.int (i+j))
 | .tup xs,.tup ys=>do fits (xs.length+ys.length);pure (.tup (xs++ys))
 | .lst xs,.lst ys=>do fits (xs.length+ys.length);pure (.lst (xs++ys))
 | .str x,.str y=>do fits (x.length+y.length);pure (.str (x++y))
 | _,_=>M.bad
theorem zaW:OpR X (binaryOp .Add) (zdI X.K E zdV):=by
 refine OpR.imp (zsS.or (zmW.or (zqm.or (zqU.or zjE)))) λx y H Q ⟨ι,h,d1,d2,r1,r2,hr,q⟩=> ?_
 unfold zdV at q
 split at q
 ·simp only [Rel] at r1 r2
  exact .inl ⟨_,_,r1,r2,Fin.out hr q _ (by simp [Rel])⟩
 ·rename_i xs ys
  right
  obtain ⟨a,vs,e,h1,h2⟩:=zdS r1
  obtain ⟨b,ws,e',h1',h2'⟩:=zdS r2
  obtain ⟨z,q⟩:=Fin.fits q
  cases xs with
  | nil=>
   simp only [zaw] at h2
   subst h2
   exact .inl ⟨a,b,ws,e,e',h1,h1',Fin.out hr q _ (by rw [<- e'];exact r2)⟩
  | cons x0 xr=>
   refine .inr (.inl ⟨a,b,vs,ws,e,e',h1,h1',λz=> ?_,by rw [<- h2.length, <-h2'.length];exact z,λz=> ?_,λz p hp=>ztN hr (h2.append h2') q hp⟩)
   ·subst z
    have:=h2.length
    cases this
   ·subst z
    have:=h2'.length
    cases ys with
    | nil=>rw [append_nil] at q;exact Fin.out hr q _ (by rw [<- e];exact r1)
    | cons _ _=>cases this
 ·rename_i xs ys
  right;right;right;left
  simp only [Rel] at r1 r2
  obtain ⟨a,vs,e,h1,h2⟩:=r1
  obtain ⟨b,ws,e',h1',h2'⟩:=r2
  obtain ⟨z,q⟩:=Fin.fits q
  exact ⟨a,b,vs,ws,e,e',h1.1,h1'.1,by rw [<- h2.length, <-h2'.length];exact z,λp hp=>ztp hr (h2.append h2') q hp⟩
 ·simp only [Rel] at r1 r2
  obtain ⟨z,q⟩:=Fin.fits q
  exact .inr (.inr (.inr (.inr ⟨_,_,r1,r2,z,Fin.out hr q _ (by simp [Rel])⟩)))
 ·exact qa0 q
def dII (C:Int->Int->Bool) (g:Int->Int->D) (x y:D):M D:=match x,y with
 | .int i,.int j=>if C i j=true then pure (g i j) else M.bad
 | _,_=>M.bad
theorem zic {f:Value->Value->Sem Value} {C:Int->Int->Bool} {C':Int->Int->Prop} {g:Int->Int->V} {g':Int->Int->D} (ho:OpR X f (rI C' g)) (hc: ∀ i j,C i j=true->C' i j) (hg: ∀ i j ι H,Rel X.K ι H (g' i j) (g i j)):OpR X f (zdI X.K E (dII C g')):=by
 refine OpR.imp ho λx y H Q ⟨ι,h,d1,d2,r1,r2,hr,q⟩=> ?_
 unfold dII at q
 split at q
 ·simp only [Rel] at r1 r2
  obtain ⟨c,q⟩:=Fin.guard q
  exact ⟨_,_,r1,r2,hc _ _ c,Fin.out hr q _ (hg _ _ _ _)⟩
 ·exact qa0 q
theorem zg6 {f:Value->Value->Sem Value} {g:Int->Int->V} {g':Int->Int->D} (ho:OpR X f (rI0 g)) (hg: ∀ i j ι H,Rel X.K ι H (g' i j) (g i j)):OpR X f (zdI X.K E (dII (λ_ _=>true) g')):=by
 refine OpR.imp ho λx y H Q ⟨ι,h,d1,d2,r1,r2,hr,q⟩=> ?_
 unfold dII at q
 split at q
 ·simp only [Rel] at r1 r2
  obtain ⟨c,q⟩:=Fin.guard q
  exact ⟨_,_,r1,r2,Fin.out hr q _ (hg _ _ _ _)⟩
 ·exact qa0 q
def zoR:=dII (λ_ _=>true) λi j=> .int (i - j)
theorem zfw:OpR X (binaryOp .Sub) (zdI X.K E zoR):=zg6 zrd λ_ _ _ _=>by simp [Rel]
def zbA (i:Int):Bool:=decide (-(2^64)<i) && decide (i<2^64)
theorem zdg {i:Int} (h:zbA i=true): -(2^64)<i/\i<2^64:=by unfold zbA at h;simpa using h
theorem znI:OpR X (binaryOp .FloorDiv) (rI (λ_ j=>0<j/\j<2^64) λi j=> .int (i / j)):=opI λi j _ _ _ _ _ hc q=>by
 refine floordiv_int ⋯ (by rw [Int.fdiv_eq_ediv_of_nonneg _ ⋯];exact q) (.inl (PyProof.noPylong_of_log2 ?_))
 have h1:j.natAbs<2^64:=by omega
 have h0:j.natAbs≠0:=by omega
 exact lt_trans ((Nat.log2_lt h0).mpr h1) (by decide)
def znF:=dII (λ_ j=>decide (0<j) && decide (j<2^64)) λi j=> .int (i / j)
theorem ziQ:OpR X (binaryOp .FloorDiv) (zdI X.K E znF):=zic znI (λi j h=>by simpa using h) λ_ _ _ _=>by simp [Rel]
def zmY:=dII (λ_ j=>decide (0<j)) λi j=> .int (i % j)
theorem zd7:OpR X (binaryOp .Mod) (zdI X.K E zmY):=zic zsj (λi j h=>by simpa using h) λ_ _ _ _=>by simp [Rel]
def zqM (i j:Int):Bool:=decide (0<=j) && decide (j<=1000000) && decide (i.natAbs<2^64)
def ztH:=dII zqM λi j=> .int (i^j.toNat)
theorem zjz {i j:Int} (h:zqM i j=true):ztO i j:=by unfold zqM at h;simpa [ztO,and_assoc] using h
theorem zqI:OpR X (binaryOp .Pow) (zdI X.K E ztH):=zic zsA (λ_ _=>zjz) λ_ _ _ _=>by simp [Rel]
def zuG:=dII zqM λi j=> .int (i*2^j.toNat)
theorem zoP:OpR X (binaryOp .LShift) (zdI X.K E zuG):=zic zrH (λ_ _=>zjz) λ_ _ _ _=>by simp [Rel]
def zup:=dII (λ_ j=>decide (0<=j)) λi j=> .int (i / 2^j.toNat)
theorem zp4:OpR X (binaryOp .RShift) (zdI X.K E zup):=zic zsI (λi j h=>by simpa using h) λ_ _ _ _=>by simp [Rel]
def zuR:=dII (λ_ _=>true) λi j=> .int (Builtin.bitAnd i j)
theorem zqE:OpR X (binaryOp .BitAnd) (zdI X.K E zuR):=zg6 zsT λ_ _ _ _=>by simp [Rel]
def dLt:=dII (λ_ _=>true) λi j=> .bl (decide (i<j))
theorem zel:OpR X (compareOp .Lt) (zdI X.K E dLt):=zg6 zva λ_ _ _ _=>by simp [Rel]
def dGt:=dII (λ_ _=>true) λi j=> .bl (decide (j<i))
theorem zf9:OpR X (compareOp .Gt) (zdI X.K E dGt):=zg6 zu0 λ_ _ _ _=>by simp [Rel]
def dGe:=dII (λ_ _=>true) λi j=> .bl (decide (j<=i))
theorem zox:OpR X (compareOp .GtE) (zdI X.K E dGe):=zg6 zui λ_ _ _ _=>by simp [Rel]
def zm3:D->M D
 | .int i=>pure (.int (-i))
 | _=>M.bad
theorem zrK {a:Expr} {pos:Pos} {fa:Sd->M D} (ha:SE X E a fa):SE X E (.UnaryOp .USub a pos) (λsd=>do let x<-fa sd;zm3 x):=by
 refine PE.imp (zuP ztw ha) λσ H Q ⟨ι,h,sd,L,hh,q⟩=>⟨ι,h,sd,L,hh,Fin.bind q λd h1 ι1 H1 e1 s1 hr1 q1 v rv=> ?_⟩
 cases d with
 | int i=>simp only [Rel] at rv;exact ⟨i,rv,Fin.out hr1 q1 _ (by simp [Rel])⟩
 | _=>exact qa0 q1
mutual
noncomputable def pd:D->Option PyData
 | .non=>some .none
 | .bl b=>some (.bool b)
 | .int i=>some (.int i)
 | .str x=>some (.str x)
 | .tup xs=>(pdL xs).map .tuple
 | .lst xs=>(pdL xs).map .list
 | .scr xs=>(pdL xs).map .list
 | _=>none
noncomputable def pdL:List D->Option (List PyData)
 | []=>some []
 | x::xs=>match pd x,pdL xs with
  | some a,some r=>some (a::r)
  | _,_=>none
end
mutual
theorem zfj {pins:List (Addr×Obj)} {σ:L2.St} {H:Hp} {s:Shared} {ι:Io} (I:Inv X pins σ H s): ∀ {d:D} {v:V} {u:Value} {p:PyData},Rel X.K ι H d v->zcc v u->pd d=some p-> ∃ as,Reads s.heap u p as
 | .non,v,u,p,r,ru,e=>by simp only [Rel] at r;subst r;cases ru;cases e;exact ⟨_,.none⟩
 | .bl b,v,u,p,r,ru,e=>by simp only [Rel] at r;subst r;cases ru;cases e;exact ⟨_,.bool _⟩
 | .int i,v,u,p,r,ru,e=>by simp only [Rel] at r;subst r;obtain ⟨t,rfl⟩:=ru;cases e;exact ⟨_,.int _ _⟩
 | .str i,v,u,p,r,ru,e=>by simp only [Rel] at r;subst r;obtain ⟨t,rfl⟩:=ru;cases e;exact ⟨_,.str _ _⟩
 | .tup ds,v,u,p,r,ru,e=>by
  obtain ⟨a,vs,rfl,h1,h2⟩:=zdS r
  cases ru
  obtain ⟨its,rv,pl,_⟩:=I.tuple h1
  obtain ⟨o,ho,hc,n,hd⟩:=pl
  unfold pd at e
  cases z:pdL ds with
  | none=>rw [z] at e;cases e
  | some ps=>
   rw [z] at e;cases e
   obtain ⟨as,q⟩:=zhp I h2 rv z
   exact ⟨_,.tuple ho hc hd (by simpa using q)⟩
 | .lst ds,v,u,p,r,ru,e=>by
  obtain ⟨a,vs,rfl,h1,h2⟩:=zff r
  cases ru
  obtain ⟨its,rv,pl,_⟩:=I.list h1
  obtain ⟨o,ho,hc,n,hd⟩:=pl.isList
  unfold pd at e
  cases z:pdL ds with
  | none=>rw [z] at e;cases e
  | some ps=>
   rw [z] at e;cases e
   obtain ⟨as,q⟩:=zhp I h2 rv z
   exact ⟨_,.list ho hc hd (by simpa using q)⟩
 | .scr ds,v,u,p,r,ru,e=>by
  obtain ⟨a,vs,rfl,h1,h2⟩:=zkE r
  cases ru
  obtain ⟨its,rv,pl,_⟩:=I.list h1
  obtain ⟨o,ho,hc,n,hd⟩:=pl.isList
  unfold pd at e
  cases z:pdL ds with
  | none=>rw [z] at e;cases e
  | some ps=>
   rw [z] at e;cases e
   obtain ⟨as,q⟩:=zhp I h2 rv z
   exact ⟨_,.list ho hc hd (by simpa using q)⟩
 | .cel n,_,_,_,_,_,e=>by cases e
 | .set xs,_,_,_,_,_,e=>by cases e
 | .dct,_,_,_,_,_,e=>by cases e
 | .fn _,_,_,_,_,_,e=>by cases e
 | .exn _,_,_,_,_,_,e=>by cases e
theorem zhp {pins:List (Addr×Obj)} {σ:L2.St} {H:Hp} {s:Shared} {ι:Io} (I:Inv X pins σ H s): ∀ {ds:List D} {vs:List V} {us:List Value} {ps:List PyData},zaw X.K ι H ds vs->zby vs us->pdL ds=some ps-> ∃ as,ReadsAll s.heap us ps as
 | [],vs,us,ps,r,ru,e=>by simp only [zaw] at r;subst r;cases ru;cases e;exact ⟨_,.nil⟩
 | d::ds,vs,us,ps,r,ru,e=>by
  simp only [zaw] at r
  obtain ⟨v,vr,rfl,r1,r2⟩:=r
  cases ru with
  | cons ru1 ru2=>
   unfold pdL at e
   cases z:pd d with
   | none=>rw [z] at e;cases e
   | some a=>
    cases z2:pdL ds with
    | none=>rw [z,z2] at e;cases e
    | some b=>
     rw [z,z2] at e
     cases e
     obtain ⟨as,q1⟩:=zfj I r1 ru1 z
     obtain ⟨bs,q2⟩:=zhp I r2 ru2 z2
     exact ⟨_,.cons q1 q2⟩
end
def zgY (a b:PyData):Bool:=a.canLay0 && b.canLay0 && decide (min a.depth b.depth<=60)
noncomputable def zmk (neg:Bool) (x y:D):M D:=match pd x,pd y with
 | some a,some b=>if zgY a b=true then pure (.bl (if neg then !PyData.eqv a b else PyData.eqv a b)) else M.bad
 | _,_=>M.bad
def dEq:=zmk false
def dNe:=zmk true
theorem ze8 {a b:PyData} (h:zgY a b=true):a.canLay0=true/\b.canLay0=true/\min a.depth b.depth<=60:=by unfold zgY at h;simpa [and_assoc] using h
theorem ziC {K:W.Frag} {ι:Io} {H:Hp} {h:Hh} {neg:Bool} {x y:D} {P:D->Io->Hp->Prop} (q:Fin K E ι H (zmk neg x y h) P): ∃ a b,pd x=some a/\pd y=some b/\zgY a b=true/\Fin K E ι H ((pure (.bl (if neg then !PyData.eqv a b else PyData.eqv a b)):M D) h) P:=by
 unfold zmk at q
 cases e1:pd x with
 | none=>rw [e1] at q;exact qa0 q
 | some a=>
  cases e2:pd y with
  | none=>rw [e1,e2] at q;exact qa0 q
  | some b=>
   rw [e1,e2] at q
   obtain ⟨c,q⟩:=Fin.guard q
   exact ⟨a,b,rfl,rfl,c,q⟩
theorem zdQ (hu:X.A.units+60<cLine):OpR X (compareOp .Eq) (zdI X.K E dEq):=by
 intro pins s σ H x y v u Q I rx ry ⟨ι,h,d1,d2,r1,r2,hr,q⟩
 obtain ⟨a,b,e1,e2,c,q2⟩:=ziC q
 obtain ⟨c1,c2,c3⟩:=ze8 c
 obtain ⟨as,ra⟩:=zfj I r1 rx e1
 obtain ⟨bs,rb⟩:=zfj I r2 ry e2
 exact SeqAt.compareEq_reads ra rb c1 c2 ⋯ ⟨.bl _,H,I,rfl,Fin.out hr q2 (.bl _) (by simp [Rel])⟩
theorem zhm (hu:X.A.units+60<cLine):OpR X (compareOp .NotEq) (zdI X.K E dNe):=by
 intro pins s σ H x y v u Q I rx ry ⟨ι,h,d1,d2,r1,r2,hr,q⟩
 obtain ⟨a,b,e1,e2,c,q2⟩:=ziC q
 obtain ⟨c1,c2,c3⟩:=ze8 c
 obtain ⟨as,ra⟩:=zfj I r1 rx e1
 obtain ⟨bs,rb⟩:=zfj I r2 ry e2
 exact SeqAt.compareNe_reads ra rb c1 c2 ⋯ ⟨.bl _,H,I,rfl,Fin.out hr q2 (.bl _) (by simp [Rel])⟩
def znn (a:PyData) (xs:List PyData):Bool:=a.canLay0 && PyData.canLayAll0 xs && decide (min (PyData.depthAll xs) a.depth<=50)
theorem zja {a:PyData} {xs:List PyData} (h:znn a xs=true):a.canLay0=true/\PyData.canLayAll0 xs=true/\min (PyData.depthAll xs) a.depth<=50:=by unfold znn at h;simpa [and_assoc] using h
def zoK (neg:Bool) (x c:D):M D:=match pd x,c with
 | some a,.tup ds=>match pdL ds with
  | some xs=>if znn a xs=true then pure (.bl (if neg then !xs.any (λy=>PyData.eqv y a) else xs.any λy=>PyData.eqv y a)) else M.bad
  | none=>M.bad
 | some a,.lst ds=>match pdL ds with
  | some xs=>if znn a xs=true then pure (.bl (if neg then !xs.any (λy=>PyData.eqv y a) else xs.any λy=>PyData.eqv y a)) else M.bad
  | none=>M.bad
 | _,_=>M.bad
def dIn:=zoK false
def zl0:=zoK true
theorem zjl {K:W.Frag} {ι:Io} {H:Hp} {h:Hh} {neg:Bool} {x c:D} {P:D->Io->Hp->Prop} (q:Fin K E ι H (zoK neg x c h) P): ∃ a ds xs,pd x=some a/\pdL ds=some xs/\(c= .tup ds\/c= .lst ds)/\znn a xs=true/\
  Fin K E ι H ((pure (.bl (if neg then !xs.any (λy=>PyData.eqv y a) else xs.any λy=>PyData.eqv y a)):M D) h) P:=by
 unfold zoK at q
 cases e1:pd x with
 | none=>rw [e1] at q;exact qa0 q
 | some a=>
  rw [e1] at q
  cases c with
  | tup ds=>
   dsimp only at q
   cases e2:pdL ds with
   | none=>rw [e2] at q;exact qa0 q
   | some xs=>
    rw [e2] at q
    obtain ⟨c,q⟩:=Fin.guard q
    exact ⟨a,ds,xs,rfl,e2,.inl rfl,c,q⟩
  | lst ds=>
   dsimp only at q
   cases e2:pdL ds with
   | none=>rw [e2] at q;exact qa0 q
   | some xs=>
    rw [e2] at q
    obtain ⟨c,q⟩:=Fin.guard q
    exact ⟨a,ds,xs,rfl,e2,.inr rfl,c,q⟩
  | _=>exact qa0 q
theorem zfB (hu:X.A.units+60<cLine):OpR X (compareOp .In) (zdI X.K E dIn):=by
 intro pins s σ H x y v u Q I rx ry ⟨ι,h,d1,d2,r1,r2,hr,q⟩
 obtain ⟨a,ds,xs,e1,e2,ec,c,q2⟩:=zjl q
 obtain ⟨c1,c2,c3⟩:=zja c
 obtain ⟨as,ra⟩:=zfj I r1 rx e1
 rcases ec with rfl | rfl
 ·obtain ⟨bs,rb⟩:=zfj I r2 ry (p:= .tuple xs) (by unfold pd;rw [e2];rfl)
  exact SeqAt.in_tuple_reads rb ra c2 c1 ⋯ ⟨.bl _,H,I,rfl,Fin.out hr q2 (.bl _) (by simp [Rel])⟩
 ·obtain ⟨bs,rb⟩:=zfj I r2 ry (p:= .list xs) (by unfold pd;rw [e2];rfl)
  exact SeqAt.in_list_reads rb ra c2 c1 ⋯ ⟨.bl _,H,I,rfl,Fin.out hr q2 (.bl _) (by simp [Rel])⟩
theorem zk1 (hu:X.A.units+60<cLine):OpR X (compareOp .NotIn) (zdI X.K E zl0):=by
 intro pins s σ H x y v u Q I rx ry ⟨ι,h,d1,d2,r1,r2,hr,q⟩
 obtain ⟨a,ds,xs,e1,e2,ec,c,q2⟩:=zjl q
 obtain ⟨c1,c2,c3⟩:=zja c
 obtain ⟨as,ra⟩:=zfj I r1 rx e1
 rcases ec with rfl | rfl
 ·obtain ⟨bs,rb⟩:=zfj I r2 ry (p:= .tuple xs) (by unfold pd;rw [e2];rfl)
  exact SeqAt.notIn_tuple_reads rb ra c2 c1 ⋯ ⟨.bl _,H,I,rfl,Fin.out hr q2 (.bl _) (by simp [Rel])⟩
 ·obtain ⟨bs,rb⟩:=zfj I r2 ry (p:= .list xs) (by unfold pd;rw [e2];rfl)
  exact SeqAt.notIn_list_reads rb ra c2 c1 ⋯ ⟨.bl _,H,I,rfl,Fin.out hr q2 (.bl _) (by simp [Rel])⟩
end
end L3
namespace HT
open L2
section
variable {prog:Program} {w:World} {A:Around} {E:Value->Shared->Prop} {s:Shared}
end
end HT
namespace L2
section
variable {X:Cx} {e:Expr} {te:TE} {pos p2:Pos}
theorem zeW:fillsNumberSlot (.type "tuple") "mul"=pure false:=
 PySem.fillsNumberSlot_seq (id:="tuple.__mul__") (r:=some (.builtin "tuple.__rmul__")) F.slot_tuple_mul.lookup ⋯ F.slot_tuple_rmul.lookup ⋯
theorem zhO:seqRepeat? (.type "tuple")=pure (some (.builtin "tuple.__mul__")):=by
 unfold seqRepeat?
 rw [PySem.seqSlot_of (T:="tuple") (name:="__mul__") (id:="tuple.__mul__") F.slot_tuple_mul.lookup ⋯,PySem.seqSlot_of (T:="tuple") (name:="__rmul__") (id:="tuple.__rmul__") F.slot_tuple_rmul.lookup ⋯]
 rfl
theorem zfT (k:Int) (t:Tok) (l:Addr) (items:Array Value) (n:Nat) (dd:Option Addr) (sl:Array (Option Value)):
  Meets (Builtin.«int.__rmul__» ⟨[.int k t,.ref l],[]⟩) (λ_ R s=>s.heap.get? l=some {cls:= .type "tuple",dict:=dd,data:= .seq items n,slots:=sl}/\R (.ok (.ret Value.notImplemented)) s):=
 .of_wp λprog w A R s h=>by obtain ⟨hp,g,d,tk,os⟩:=s;obtain ⟨hl,h⟩:=h;wp_walk;exact ⟨_,rfl,h⟩
theorem zkd (k:Int) (t:Tok) (l:Addr) (items:Array Value) (n:Nat) (dd:Option Addr) (sl:Array (Option Value)) (hne:items.isEmpty=false) (hk:2<=k) (hk2:k<1000) (hz:items.size*k.toNat<=sizeLine):
  Meets (Builtin.«tuple.__mul__» ⟨[.ref l,.int k t],[]⟩) (λ_ R s=>s.heap.get? l=some {cls:= .type "tuple",dict:=dd,data:= .seq items n,slots:=sl}/\
    R (.ok (.ret (.ref s.heap.objs.size))) {s with heap:=s.heap.push {cls:= .type "tuple",data:= .seq ((replicate k.toNat items).foldl (· ++ ·) #[])}}):=
 .of_wp λprog w A R s h=>by
  obtain ⟨hp,g,d,tk,os⟩:=s;obtain ⟨hl,h⟩:=h
  unfold Builtin.«tuple.__mul__» 
  wp_walk
  have hk63: ¬(decide (k< -2^63) || decide (k>=2^63))=true:=by
   rw [Bool.or_eq_true,qaD,qaD]
   omega
  rw [qa5 hk63]
  dsimp only
  have ht:IsTup hp l items:=⟨_,hl,rfl,_,rfl⟩
  refine qaW (tupleItemsOf_ ht ?_)
  have h1: ¬(items.isEmpty || k==1)=true:=by
   rw [hne,Bool.false_or,beq_iff_eq]
   omega
  rw [qa5 h1]
  have h2: ¬(decide (k<=0) || items.isEmpty)=true:=by
   rw [hne,Bool.or_false,qaD]
   omega
  rw [qa5 h2]
  have hk0:((k.toNat:Nat):Int)=k:=Int.toNat_of_nonneg ⋯
  have hm:((items.size:Nat):Int)*k=((items.size*k.toNat:Nat):Int):=by rw [natCast_mul,hk0]
  have hsl:(sizeLine:Nat)=16777216:=by decide
  have h3: ¬((items.size:Int)*k>(2^63 - 1) / 8):=by
   rw [hm]
   omega
  rw [qa5 h3]
  have h4: ¬Builtin.Tuple.tupleTooMany ((items.size:Int)*k)=true:=by
   unfold Builtin.Tuple.tupleTooMany
   rw [hm,qaD]
   omega
  rw [qa5 h4]
  have hsz:sizeOk (.seq (List.foldl (λx1 x2=>x1++x2) #[] (replicate k.toNat items))):=by
   show (List.foldl (λx1 x2=>x1++x2) #[] (replicate k.toNat items)).size<=sizeLine
   have e: ∀ (m:Nat) (acc:Array Value),(List.foldl (λx1 x2=>x1++x2) acc (replicate m items)).size=acc.size+m*items.size:=by
    intro m
    induction m with
    | zero=>intro acc;simp
    | succ m ih=>intro acc;rw [replicate_succ,foldl_cons,ih,Array.size_append,Nat.succ_mul];omega
   rw [e,Nat.mul_comm]
   simpa using hz
  exact qaW (m:=Builtin.Tuple.tupleExact _) (qaC (qaX ⟨_,rfl,h⟩) hsz)
theorem zpd:OpR X (binaryOp .Mult) (λx y H Q=> ∃ a k xs,x= .ref a/\y= .int k/\SqT X.K H a xs/\xs≠[]/\2<=k/\k<1000/\xs.length*k.toNat<=sizeLine/\ ∀ p,H p=none->Q (.ref p) (upd H p (.tup (replicate k.toNat xs).flatten))):=by
 intro pins s σ H x y v u Q I rx ry h
 obtain ⟨a,k,xs,rfl,rfl,hx,hne,h1,h2,hz,q⟩:=h
 cases rx
 obtain ⟨t,rfl⟩:=ry
 obtain ⟨its,r,ht,_⟩:=I.tuple hx
 have hl:=r.length
 obtain ⟨⟨cls,dd,data,sl⟩,ho,hc,n,hd⟩:=id ht
 simp only at hc hd
 subst hc hd
 have hemp:its.toArray.isEmpty=false:=by
  cases its with
  | nil=>cases r;exact absurd rfl hne
  | cons _ _=>simp
 refine wpAny_binaryOp_repeat_ref (T:="tuple") (U:="int") (by decide) ⟨_,ho,rfl⟩ (λs'=>typeIs_int s' k t) zeW F.fills_int_mul F.slot_int_rmul zhO F.slot_int_index.lookup
  (call_meets F.slot_int_rmul (typeIs_int s k t) F.entry_int_rmul (F.args_int_rmul_2 _ _) (zfT k t a its.toArray n dd sl)
    ⟨ho,rfl,⟨_,ho,rfl⟩,call_meets F.slot_tuple_mul ⟨_,ho,rfl⟩ F.entry_tuple_mul (F.args_tuple_mul_2 _ _) (zkd k t a its.toArray n dd sl hemp h1 h2 (by rw [qaA, <-hl];exact hz)) ⟨ho,?_⟩⟩)
 have hnew:List.foldl (λx1 x2=>x1++x2) #[] (replicate k.toNat its.toArray)=(replicate k.toNat its).flatten.toArray:=by
  have:=zfo its k.toNat []
  rw [nil_append] at this
  exact this
 rw [hnew]
 refine ⟨.ref _,_,I.laid (t':=s.toks) (o:= .tup (replicate k.toNat xs).flatten) (λb ob q=>qag _ q) (qaV _) ?_,rfl,q _ (I.hok.fresh (qaV _))⟩
 exact ⟨by rw [zk2,Nat.mul_comm];exact hz,_,r.rep k.toNat,zjV.new _ _⟩
end
end L2
namespace LT
abbrev Up (xs:Array Nat):Prop:=xs.toList.Pairwise (· < ·)
theorem Up.lt {xs:Array Nat} (h:Up xs) {i j:Nat} {a b:Nat} (hi:xs[i]? = some a) (hj:xs[j]? = some b) (hij:i<j):a<b:=by
 have hi':xs.toList[i]? = some a:=by simpa using hi
 have hj':xs.toList[j]? = some b:=by simpa using hj
 obtain ⟨h1,e1⟩:=qac.mp hi'
 obtain ⟨h2,e2⟩:=qac.mp hj'
 have:=List.pairwise_iff_getElem.mp h i j h1 h2 hij
 rw [e1,e2] at this
 exact this
theorem zgG {xs:Array Nat} (h:Up xs) (j:Nat): ∀ (fuel lo hi:Nat),hi - lo<=fuel->lo<=hi->hi<=xs.size->(∀ i a,i<lo->xs[i]? = some a->a<j)->(∀ i a,hi<=i->xs[i]? = some a->j<=a)->
  let r:=SetTable.below.go xs j fuel lo hi
  r<=xs.size/\(∀ i a,i<r->xs[i]? = some a->a<j)/\(∀ i a,r<=i->xs[i]? = some a->j<=a)
 | 0,lo,hi,hf,hl,hs,h1,h2=>by
  have e:lo=hi:=by omega
  subst e
  exact ⟨hs,h1,h2⟩
 | fuel+1,lo,hi,hf,hl,hs,h1,h2=>by
  unfold SetTable.below.go
  by_cases hlt:lo<hi
  ·rw [qa4 hlt]
   have hm:(lo+hi) / 2<xs.size:=by omega
   have em:xs[(lo+hi) / 2]? = some xs[(lo+hi) / 2]:=by simp [hm]
   have eg:xs.getD ((lo+hi) / 2) j=xs[(lo+hi) / 2]:=by simp [Array.getD,hm]
   dsimp only
   by_cases hc:xs.getD ((lo+hi) / 2) j<j
   ·rw [qa4 hc]
    refine zgG h j fuel _ hi ⋯ ⋯ hs (λi a hi' e=> ?_) h2
    rw [eg] at hc
    by_cases z:i=(lo+hi) / 2
    ·subst z;rw [em] at e;cases e;exact hc
    ·exact lt_trans (h.lt e em ⋯) hc
   ·rw [qa5 hc]
    refine zgG h j fuel lo _ ⋯ ⋯ ⋯ h1 λi a hi' e=> ?_
    rw [eg] at hc
    by_cases z:i=(lo+hi) / 2
    ·subst z;rw [em] at e;cases e;omega
    ·have:=h.lt em e ⋯
     omega
  ·rw [qa5 hlt]
   have e:lo=hi:=by omega
   subst e
   exact ⟨hs,h1,h2⟩
theorem zgF {xs:Array Nat} (h:Up xs) (j:Nat):SetTable.below xs j<=xs.size/\(∀ i a,i<SetTable.below xs j->xs[i]? = some a->a<j)/\(∀ i a,SetTable.below xs j<=i->xs[i]? = some a->j<=a):=
 zgG h j xs.size 0 xs.size ⋯ (zero_le _) (qaV _) (λ_ _ z=>absurd z (Nat.not_lt_zero _)) λi a z e=>by
  have:=(qab.mp e).1
  omega
theorem zf1 {xs:Array Nat} (h:Up xs) {k a:Nat} (e:xs[k]? = some a):SetTable.below xs (a+1)=k+1:=by
 obtain ⟨h1,h2,h3⟩:=zgF h (a+1)
 by_cases c:SetTable.below xs (a+1)<=k
 ·have:=h3 k a c e
  omega
 ·by_cases c2:k+1<SetTable.below xs (a+1)
  ·have hl:k+1<xs.size:=by omega
   have e2:xs[k+1]? = some xs[k+1]:=by simp [hl]
   have a1:=h2 (k+1) _ c2 e2
   have a2:=h.lt e e2 ⋯
   omega
  ·omega
theorem zf4 {xs:Array Nat} (h:Up xs):SetTable.below xs 0=0:=by
 obtain ⟨h1,h2,h3⟩:=zgF h 0
 by_cases c:SetTable.below xs 0=0
 ·exact c
 ·have hl:0<xs.size:=by omega
  exact absurd (h2 0 _ ⋯ (show xs[0]? = some xs[0] by simp [hl])) (Nat.not_lt_zero _)
theorem zl3 {xs:Array Nat} (h:Up xs) {j:Nat} (hn:xs[SetTable.below xs j]? ≠ some j):Up (SetTable.insertAt xs (SetTable.below xs j) j):=by
 obtain ⟨h1,h2,h3⟩:=zgF h j
 show (SetTable.insertAt xs (SetTable.below xs j) j).toList.Pairwise (· < ·)
 rw [SetTable.toList_insertAt]
 rw [List.pairwise_append]
 have hsplit:xs.toList.take (SetTable.below xs j)++xs.toList.drop (SetTable.below xs j)=xs.toList:=List.take_append_drop ..
 have hp:(xs.toList.take (SetTable.below xs j)++xs.toList.drop (SetTable.below xs j)).Pairwise (· < ·):=by rw [hsplit];exact h
 obtain ⟨p1,p2,p3⟩:=List.pairwise_append.mp hp
 have tk: ∀ a∈xs.toList.take (SetTable.below xs j),a<j:=λa ha=>by
  obtain ⟨i,hi⟩:=List.mem_iff_getElem?.mp ha
  rw [List.getElem?_take] at hi
  split at hi
  ·rename_i hlt
   exact h2 i a hlt (by simpa using hi)
  ·cases hi
 have dr: ∀ a∈xs.toList.drop (SetTable.below xs j),j<a:=λa ha=>by
  obtain ⟨i,hi⟩:=List.mem_iff_getElem?.mp ha
  rw [List.getElem?_drop] at hi
  have hi':xs[SetTable.below xs j+i]? = some a:=by simpa using hi
  have a1:=h3 _ a ⋯ hi'
  rcases Nat.lt_or_eq_of_le a1 with z | z
  ·exact z
  ·subst z
   exfalso
   cases i with
   | zero=>exact hn hi'
   | succ i=>
    have hl:=(qab.mp hi').1
    have e0:xs[SetTable.below xs j]? = some xs[SetTable.below xs j]:=by
     have:SetTable.below xs j<xs.size:=by omega
     simp [this]
    have b1:=h3 _ _ (qaV _) e0
    have b2:=h.lt e0 hi' ⋯
    omega
 refine ⟨p1,qay.mpr ⟨dr,p2⟩,λa ha b hb=> ?_⟩
 rcases qaP.mp hb with z | z
 ·rw [z];exact tk a ha
 ·exact p3 a ha b z
structure ziy (t:SetTable) (led:Bool):Prop where
 up:Up t.place
 nod:t.dummies= #[]
 led:t.led=led
theorem ziU {j:Nat}:SetTable.has #[] j=false:=by
 unfold SetTable.has
 simp
theorem zkP {t:SetTable} {led:Bool} (g:ziy t led) {j:Nat} (h:t.slot j= .empty):t.place[SetTable.below t.place j]? ≠ some j:=λe=>by
 unfold SetTable.slot at h
 dsimp only at h
 rw [e] at h
 simp at h
theorem zjk {t:SetTable} {led:Bool} (g:ziy t led) (f:Nat->Int) (h:Int): ∀ (fuel:Nat) (p:SetTable.Probe) (j:Nat) (d:Option Nat),p.dummy=none->SetTable.probe.go t f h fuel p=some (.empty j d)->t.slot j= .empty/\d=none
 | 0,_,_,_,_,e=>by cases e
 | fuel+1,p,j,d,hp,e=>by
  unfold SetTable.probe.go at e
  have adv: ∀ q:SetTable.Probe,q.dummy=none->(t.advance q).dummy=none:=λq hq=>by
   unfold SetTable.advance
   split<;>exact hq
  split at e
  ·rename_i hs
   cases e
   exact ⟨hs,hp⟩
  ·rename_i hs
   exfalso
   unfold SetTable.slot at hs
   dsimp only at hs
   rw [g.nod,ziU] at hs
   split at hs<;>simp at hs
  ·split at e
   ·cases e
   ·exact zjk g f h fuel _ j d (adv p hp) e
theorem zgQ {t:SetTable} {led:Bool} (g:ziy t led) {h:Int} {j:Nat} {b:Bool} (e:t.freeSlot h=some (j,b)):t.place[SetTable.below t.place j]? ≠ some j:=by
 unfold SetTable.freeSlot at e
 split at e
 ·rename_i j' d' hpr
  obtain ⟨h1,h2⟩:=zjk g _ _ _ _ _ _ rfl hpr
  subst h2
  cases e
  exact zkP g h1
 ·cases e
theorem znN (n:Nat):Up (Array.range n):=by
 show (Array.range n).toList.Pairwise (· < ·)
 rw [Array.toList_range]
 exact pairwise_lt_range
theorem zcL {t:SetTable} {led:Bool} (g:ziy t led) (n:Nat):ziy (t.standIn n) led:=⟨znN n,rfl,g.led⟩
theorem ziz {t:SetTable} {led:Bool} (g:ziy t led) (es:Array (Int×Value)) (h:Int) (x:Value):ziy (layNew t es h x).2.1 led:=by
 unfold layNew
 split
 ·rename_i slot wasDummy e
  have g2:ziy (t.put slot).1 led:=by
   refine ⟨zl3 g.up (zgQ g e),?_,g.led⟩
   show (if SetTable.has t.dummies slot then _ else t.dummies)= #[]
   rw [g.nod,ziU]
   rfl
  show ziy ((t.put slot).1.orStandIn _) led
  unfold SetTable.orStandIn
  split
  ·exact g2
  ·exact zcL g2 _
 ·exact zcL g _
theorem zky {mask finger moves:Nat} {led plain:Bool} {hs:Array Int} {t:SetTable} {o:Array Nat} (e:SetTable.laid mask finger moves led plain hs=some (t,o)):ziy t led:=by
 unfold SetTable.laid at e
 cases z:SetTable.layClean mask hs with
 | none=>rw [z] at e;cases e
 | some owner=>
  rw [z] at e
  have e:some (({mask,place:=(((List.range (mask+1)).filterMap λj=>(owner.getD j none).map (j, ·)).map (·.1)).toArray,dummies:= #[],finger,led,moves,plain}:SetTable),_)=some (t,o):=e
  cases e
  refine ⟨?_,rfl,rfl⟩
  show (((List.range (mask+1)).filterMap λj=>(owner.getD j none).map (j, ·)).map (·.1)).toArray.toList.Pairwise (· < ·)
  rw [List.toList_toArray,List.map_filterMap]
  have sub:List.Sublist ((List.range (mask+1)).filterMap λj=>((owner.getD j none).map (j, ·)).map (·.1)) (List.range (mask+1)):=by
   generalize List.range (mask+1)=l
   induction l with
   | nil=>exact .slnil
   | cons a r ih=>
    rw [qat]
    cases q:owner.getD a none with
    | none=>exact ih.cons a
    | some v=>exact ih.cons₂ a
  exact pairwise_lt_range.sublist sub
theorem zgz {t:SetTable} {led:Bool} (g:ziy t led) (es:Array (Int×Value)) (wanted:Nat):ziy (relayAll t es wanted).2.1 led:=by
 unfold relayAll
 split
 ·rename_i t' order e
  have g2:ziy t' t.led:=zky e
  rw [g.led] at g2
  dsimp only
  split
  ·exact g2
  ·exact zcL g _
 ·exact zcL g _
def zdc (w:World):Bool:= !w.params.followText "set-order"
def zgX (prog:Program) (w:World) (h:Heap) (a:Addr) (S:Int->Bool) (n:Nat):Prop:=
 ∃ ob es ep tb,(h.get? a=some ob/\ob.ExactSet/\ob.data= .set es ep tb)/\ElemsOf (intKind prog w) es.toList/\(∀ k,S k=true↔ ∃ e∈es.toList,(intKind prog w).is k e.2=true)/\
  (es.size<scanBound/\tb.fits es.size=true/\es.size=n)/\ziy tb (zdc w)
theorem zgX.move {prog:Program} {w:World} {h h':Heap} {a:Addr} {S S':Int->Bool} {n n':Nat} (g:zgX prog w h a S n) (k: ∀ ob,h.get? a=some ob->h'.get? a=some ob) (e: ∀ k,S k=S' k) (en:n=n'):zgX prog w h' a S' n':=by
 obtain ⟨ob,es,ep,tb,⟨h1,h2,h3⟩,h4,h5,⟨h6,h7,h8⟩,h9⟩:=g
 exact ⟨ob,es,ep,tb,⟨k ob h1,h2,h3⟩,h4,λz=>by rw [<- e z];exact h5 z,⟨h6,h7,h8.trans en⟩,h9⟩
section
variable {prog:Program} {w:World} {A:Around} {E:Value->Shared->Prop} {s:Shared}
theorem stored {a:Addr} {ob:Obj} {es es':Array (Int×Value)} {ep:Nat} {tb tb':SetTable} {S:Int->Bool} {R:Unit->Shared->Prop} (ho:s.heap.get? a=some ob) (hx:ob.ExactSet) (hd:ob.data= .set es ep tb)
  (hE:ElemsOf (intKind prog w) es'.toList) (hS: ∀ k,S k=true↔ ∃ e∈es'.toList,(intKind prog w).is k e.2=true) (hb:es'.size<scanBound) (hf:tb'.fits es'.size=true) (hg:ziy tb' (zdc w))
  (q: ∀ h',Heap.SameBut a s.heap h'->h'.get? a=some {ob with data:= .set es' (ep+1) tb'}->zgX prog w h' a S es'.size->R () {s with heap:=h'}):wpAny (model prog w) A (storeSet a es' tb') R E s:=by
 have put:=putSet_of es' tb' hd
 have at1:(s.heap.update a (Obj.putSet es' tb')).get? a=some {ob with data:= .set es' (ep+1) tb'}:=by
  have z:=qal (Obj.putSet es' tb') ho (by rw [put];rfl)
  rwa [put] at z
 exact wpAny_storeSet_of ho hd (q _ (Heap.SameBut.update ..) at1 ⟨_,es',ep+1,tb',⟨at1,hx,rfl⟩,hE,hS,⟨hb,hf,rfl⟩,hg⟩) (fits_of_scanBound hb)
theorem zvH {a:Addr} {S:Int->Bool} {n:Nat} {k:Int} {t:Tok} {Q:Bool->Shared->Prop} (g:zgX prog w s.heap a S n) (room:n+1<scanBound)
  (q: ∀ h' b,Heap.SameBut a s.heap h'->zgX prog w h' a (λz=>S z || decide (z=k)) (if S k then n else n+1)->Q b {s with heap:=h'}):
  wpAny (model prog w) A (setAddHashed a (.int k t) ((intKind prog w).hash k)) Q E s:=by
 have kis:(intKind prog w).is k (.int k t)=true:=intKind_is _ _ _ _
 obtain ⟨ob,es,ep,tb,⟨h1,h2,h3⟩,h4,h5,⟨h6,h7,h8⟩,h9⟩:=g
 have scn:(Value.int k t).scannable=true:=rfl
 unfold setAddHashed setAddHashedIn
 refine qaO (qaW (wpAny_setState_of h1 h3 h7 ?_))
 dsimp only
 rw [qa4 (byScan_of scn h6 h4)]
 refine qaW ?_
 unfold setAddByScan
 refine qaW (wpAny_rule (qaW (wpAny_setScan_of kis h1 h3 h7 h4 ?_)))
 cases fi:List.findIdx? (λe=>(intKind prog w).is k e.2) es.toList with
 | some j=>
  obtain ⟨lj,pj,_⟩:=List.findIdx?_eq_some_iff_getElem.mp fi
  have inS:S k=true:=(h5 k).mpr ⟨_,getElem_mem lj,pj⟩
  refine qaX (qaX ?_)
  have z:=q s.heap false (Heap.SameBut.refl ..) ⟨ob,es,ep,tb,⟨h1,h2,h3⟩,h4,λy=> ?_,⟨h6,h7,by rw [inS];exact h8⟩,h9⟩
  ·exact z
  ·rw [<- h5 y,Bool.or_eq_true,qaD]
   exact ⟨λc=>c.elim id λc=>by rw [c];exact inS,.inl⟩
 | none=>
  have noS:S k=false:=by
   rw [<- Bool.not_eq_true,h5 k]
   rintro ⟨e,he,pe⟩
   have:=List.findIdx?_eq_none_iff.mp fi e he
   rw [pe] at this
   cases this
  have L1:=layNew_perm tb es ((intKind prog w).hash k) (.int k t)
  have L2:=layNew_fits tb es ((intKind prog w).hash k) (.int k t)
  have L3:=ziz h9 es ((intKind prog w).hash k) (.int k t)
  generalize hl:layNew tb es ((intKind prog w).hash k) (.int k t)=ln at L1 L2 L3 ⊢
  obtain ⟨es1,tb1,wd,gv⟩:=ln
  dsimp only at L1 L2 L3 ⊢
  rw [Array.toList_push] at L1
  have E1:ElemsOf (intKind prog w) es1.toList:=(h4.push kis scn).perm L1
  have M1: ∀ y,(S y || decide (y=k))=true↔ ∃ e∈es1.toList,(intKind prog w).is y e.2=true:=mem_push_iff kis h5 L1
  have Z1:es1.size=n+1:=by
   have z:=L1.length_eq
   rw [qav,qas,qas] at z
   rw [z,h8];rfl
  have B1:es1.size<scanBound:=by rw [Z1];exact room
  have quiet: ∀ (b:Bool) (s1:Shared) (R:Unit->Shared->Prop),R () s1->wpAny (model prog w) A (match b with | true=>rule "set.scan.the-table-gave-way" | false=>pure ()) R E s1:=λb s1 R z=>by
   cases b
   ·exact qaX z
   ·exact wpAny_rule z
  have fin: ∀ (s1:Shared) (h':Heap),s1={s with heap:=h'}->Heap.SameBut a s.heap h'->zgX prog w h' a (λy=>S y || decide (y=k)) es1.size->Q true s1:=λs1 h' e1 sb gg=>by
   subst e1
   have z:=q h' true sb
   rw [noS] at z
   exact z (by rw [Z1] at gg;exact gg)
  refine qaW (quiet _ _ _ ?_)
  have tail: ∀ (gw:Bool->Sem Unit),(∀ (b:Bool) (s1:Shared) (R:Unit->Shared->Prop),R () s1->wpAny (model prog w) A (gw b) R E s1)->wpAny (model prog w) A (do
      storeSet a es1 tb1
      if (!wd && tb1.tooFull)=true then do
        gw (relayAll tb1 es1 (SetTable.grown es1.size)).2.2
        storeSet a (relayAll tb1 es1 (SetTable.grown es1.size)).1 (relayAll tb1 es1 (SetTable.grown es1.size)).2.1
        pure (some true)
      else pure (some true)) (λr s'=>wpAny (model prog w) A (match r with | some b=>pure b | none=>setAddHashedIn a (.int k t) ((intKind prog w).hash k) 99999) Q E s') E s:=by
   intro gw hgw
   refine qaW (stored h1 h2 h3 E1 M1 B1 L2 L3 λh' sb at1 gg=> ?_)
   by_cases full:(!wd && tb1.tooFull)=true
   ·rw [qa4 full]
    have P2:=relayAll_perm tb1 es1 (SetTable.grown es1.size)
    have F2:=relayAll_fits tb1 es1 (SetTable.grown es1.size)
    have G2:=zgz L3 es1 (SetTable.grown es1.size)
    generalize relayAll tb1 es1 (SetTable.grown es1.size)=rl at P2 F2 G2 ⊢
    obtain ⟨es2,tb2,gv2⟩:=rl
    dsimp only at P2 F2 G2 ⊢
    have Z2:es2.size=es1.size:=by
     have z:=P2.length_eq
     rwa [qas,qas] at z
    refine qaW (hgw _ _ _ (qaW (stored (s:={s with heap:=h'}) (S:=λy=>S y || decide (y=k)) at1 h2 rfl (E1.perm P2) (λy=>(M1 y).trans ?_) (by rw [Z2];exact B1) F2 G2 λh'' sb2 _ gg2=> ?_)))
    ·exact ⟨λ⟨e,he,pe⟩=>⟨e,P2.mem_iff.mpr he,pe⟩,λ⟨e,he,pe⟩=>⟨e,P2.mem_iff.mp he,pe⟩⟩
    ·exact qaX (qaX (fin _ h'' rfl (sb.trans sb2) (by rw [Z2] at gg2;exact gg2)))
   ·rw [qa5 full]
    exact qaX (qaX (fin _ h' rfl sb gg))
  split
  ·rw [hashByValue_scannable 8 scn]
   refine qaW (qaX ?_)
   exact tail _ λb s1 R z=>by cases b<;>first | exact qaX z | exact wpAny_rule z
  ·refine qaW (qaX ?_)
   exact tail _ λb s1 R z=>by cases b<;>first | exact qaX z | exact wpAny_rule z
end
section
variable {prog:Program} {w:World} {A:Around} {R:Result->Shared->Prop} {it:Addr} {fp wr:List Addr} {G:Array GenState->Array GenState->Prop} {n:Nat} {P:Nat->Value->Prop} {St:Nat->Shared->Prop}
theorem zvl (W:WalksS prog w A.in1 it fp wr G n P St) (a:Addr) (ha:a∉fp) (val:Nat->Int) (hval: ∀ i v,P i v-> ∃ t,v= .int (val i) t) (room:n+1<scanBound):
  ∀ (left i:Nat) (s:Shared),n - i=left->i<=n->St i s->zgX prog w s.heap a (λz=>(firstMet val i).any (· == z)) (firstMet val i).length->
   (∀ s',Moved (a::wr) G s s'->zgX prog w s'.heap a (λz=>(firstMet val n).any (· == z)) (firstMet val n).length->R (.ok (.ret .none)) s')->
   codeAny (model prog w) A (.builtin "set.update.loop" ⟨[.ref a,.ref it],[]⟩) R s:=by
 have awr:a∉wr:=λz=>ha (W.sub _ z)
 have more: ∀ b∈wr,b∈a::wr:=λb z=> .tail _ z
 intro left
 induction left with
 | zero=>
  intro i s hleft hin st g q
  obtain rfl:i=n:=by omega
  refine codeAny_builtin F.entry_set_update_loop ?_
  rw [qap F.plain_set_update_loop _]
  show wpAny _ _ (pyNext (.ref it)>>=_) _ _ _
  refine qaW (W.done s _ _ st λs' mv=> ?_)
  exact qaX (q s' (mv.mono more) (g.move (λob e=>mv.heap a ob awr e) (λ_=>rfl) rfl))
 | succ left ih=>
  intro i s hleft hin st g q
  have hi:i<n:=by omega
  refine codeAny_builtin F.entry_set_update_loop ?_
  rw [qap F.plain_set_update_loop _]
  show wpAny _ _ (pyNext (.ref it)>>=_) _ _ _
  refine qaW (W.item i s _ _ hi st λv s1 pv st1 mv=> ?_)
  obtain ⟨t,rfl⟩:=hval i v pv
  have g1:zgX prog w s1.heap a (λz=>(firstMet val i).any (· == z)) (firstMet val i).length:=g.move (λob e=>mv.heap a ob awr e) (λ_=>rfl) rfl
  show wpAny _ _ (holding [Value.int (val i) t] (setAdd a (.int (val i) t))>>=_) _ _ _
  refine qaW (qaO ?_)
  unfold setAdd
  refine qaO (qaW ((intKind prog w).pyHash (k:=val i) (intKind_is _ _ _ _) ?_))
  have few:=firstMet_length_le val i
  refine zvH (s:={s1 with toks:=s1.toks+1}) g1 ⋯ λh2 b sb g2=> ?_
  have g3:zgX prog w h2 a (λz=>(firstMet val (i+1)).any (· == z)) (firstMet val (i+1)).length:=
   g2.move (λ_ e=>e) (λz=>by rw [firstMet_succ,step_any]) (by rw [firstMet_succ,step_length])
  have off: ∀ b,b≠a->h2.get? b=s1.heap.get? b:=λb hb=>sb.2 b hb
  refine qaX ⟨plainId_quiet F.plain_set_update_loop _,ih (i+1) _ ⋯ hi (W.frame _ s1 _ _ st1 (le_succ _) λb hb ob e=> ?_) g3 λs3 mv3 g4=> ?_⟩
  ·rw [off b λz=>ha (z▸hb)]
   exact e
  ·refine q s3 (.trans W.gtrans ((mv.mono more).then_heap (le_succ _) λb ob hb e=> ?_) mv3) g4
   rw [off b λz=>hb (z▸ .head _)]
   exact e
end
section
variable {prog:Program} {w:World} {A:Around} {E:Value->Shared->Prop} {s:Shared}
theorem zn3 (h:Heap):zgX prog w (h.push {cls:= .type "set",dict:=none,data:= .set #[] 0 (.fresh 0 0 (zdc w))}) h.objs.size (λ_=>false) 0:=
 ⟨_, #[],0,_,⟨qar _ rfl,⟨rfl,rfl,rfl⟩,rfl⟩,λe he=>by simp at he,λk=>by simp,⟨by decide,rfl,rfl⟩,⟨List.Pairwise.nil,rfl,rfl⟩⟩
theorem zvT (x:Value) {Q:Value->Shared->Prop} (q:Q (.ref s.heap.objs.size) {s with heap:=s.heap.push {cls:= .type "set",dict:=none,data:= .set #[] 0 (.fresh 0 0 (zdc w))}}):
  codeAny (model prog w) A (.call (.builtin "set.__new__") ⟨[.type "set",x],[]⟩) (wants Q E) s:=by
 refine codeAny_of_tree ?_
 show wpAny _ _ (do checkBuiltinCall "set.__new__" ⟨[.type "set",x],[]⟩;again (.builtin "set.__new__" ⟨[.type "set",x],[]⟩)) _ _ _
 refine qaW (wpAny_of_eq (F.newCall_set_1 x) (qaX ⟨plainId_quiet F.plain_set_new _,codeAny_builtin F.entry_set_new ?_⟩))
 rw [qap F.plain_set_new _]
 unfold Builtin.«set.__new__» Builtin.Frozenset.newClass
 have self:=sub_set_self
 obtain ⟨hp,gs,dr,tk,os⟩:=s
 dsimp only
 wp_walk
 refine wpAny_askSetting (qaX ?_)
 dsimp only
 simp only [newObj]
 exact qaW (wpAny_alloc (qaX (qaX q)))
theorem zvq {l:Addr} {T:String} {items:Array Value} {ns:List Int} {Q:Value->Shared->Prop} (hh:A.handled=none) (hT:(T="list"/\s.heap.IsList l items)\/(T="tuple"/\s.heap.IsTuple l items)) (hi:IntsAre items.toList ns) (room:items.size+1<scanBound)
  (q: ∀ (h':Heap) (tk:Nat),zgX prog w h' s.heap.objs.size (λz=>(firstMet (λi=>ns.getD i 0) items.size).any (· == z)) (firstMet (λi=>ns.getD i 0) items.size).length->(∀ b ob,s.heap.get? b=some ob->h'.get? b=some ob)->
    Q (.ref s.heap.objs.size) {s with heap:=h',toks:=tk}):wpAny (model prog w) A (call (.type "set") [.ref l]) Q E s:=by
 obtain ⟨c,tl,hmro⟩:=F.called_set.mro
 have hmade:=F.called_set.made
 have hsub:=F.called_set.sub
 refine wpAny_call (codeAny_of_tree ?_)
 show wpAny _ _ (callAny (.type "set") _) _ _ _
 refine qaX ⟨Code.quiet_builtin _ ⋯,codeAny_builtin F.entry_type_call ?_⟩
 rw [Around.under_plain (weight_type_call_type "set" [.ref l] []) rfl]
 have hnt:=F.called_set.notType
 have hcc:=F.called_set.canCreate
 have htc:=F.typeCall_set_1 (.ref l)
 repeat' (first | assumption | wp_step)
 refine codeAny_mono (zvT (.ref l) (E:=E) (Q:=λv s1=>v= .ref s.heap.objs.size/\s1={s with heap:=s.heap.push {cls:= .type "set",dict:=none,data:= .set #[] 0 (.fresh 0 0 (zdc w))}}) ⟨rfl,rfl⟩) λr s1 hr=> ?_
 cases r with
 | error e=>exact hr
 | ok fl=>
  cases fl with
  | ret v=>
   obtain ⟨rfl,rfl⟩:=hr
   have laid:(s.heap.push {cls:= .type "set",dict:=none,data:= .set #[] 0 (.fresh 0 0 (zdc w))}).get? s.heap.objs.size=some {cls:= .type "set",dict:=none,data:= .set #[] 0 (.fresh 0 0 (zdc w))}:=qar _ rfl
   have isSet:Shared.TypeIs {s with heap:=s.heap.push {cls:= .type "set",dict:=none,data:= .set #[] 0 (.fresh 0 0 (zdc w))}} (.ref s.heap.objs.size) "set":=⟨_,laid,rfl⟩
   have hli:=F.called_set.init.lookup
   have hbi:=F.called_set.init.bind (.ref s.heap.objs.size)
   repeat' (first | assumption | wp_step)
   refine codeAny_mono (codeAny_call_builtin (R:=wants (λz s2=>z= .none/\ ∃ h' tk,s2={s with heap:=h',toks:=tk}/\
       zgX prog w h' s.heap.objs.size (λz=>(firstMet (λi=>ns.getD i 0) items.size).any (· == z)) (firstMet (λi=>ns.getD i 0) items.size).length/\(∀ b ob,s.heap.get? b=some ob->h'.get? b=some ob)) E) F.called_set.init.plain F.entry_set_init (check_set_init_1 isSet ?_)) λr2 s2 hr2=> ?_
   ·have keepL: ∀ ob,s.heap.get? l=some ob->(s.heap.push {cls:= .type "set",dict:=none,data:= .set #[] 0 (.fresh 0 0 (zdc w))}).get? l=some ob:=λob e=>qag _ e
    have hval: ∀ (i:Nat) (v:Value),items[i]? = some v-> ∃ t,v= .int ((λi=>ns.getD i 0) i) t:=λi v hv=>IntsAre.int_at hi i v (by rw [Array.getElem?_toList];exact hv)
    have hh3:A.in1.in1.in1.handled=none:=by simp [hh]
    have done1: ∀ (l0:Addr) (h0:Heap) (s':Shared),l0=s.heap.objs.size->Moved [l0,(s.heap.push {cls:= .type "set",dict:=none,data:= .set #[] 0 (.fresh 0 0 (zdc w))}).objs.size] (λa b=>b=a) {s with heap:=h0} s'->(∀ b ob,s.heap.get? b=some ob->h0.get? b=some ob)->
      (∀ b ob,s.heap.get? b=some ob->s'.heap.get? b=some ob)/\s'={s with heap:=s'.heap,toks:=s'.toks}:=λl0 h0 s' e0 mv k0=>by
     refine ⟨λb ob e=>mv.heap b ob (λz=> ?_) (k0 b ob e),?_⟩
     ·have lt:=qaQ e
      rw [qaL,e0] at z
      simp only [qaP,qaF,or_false] at z
      rcases z with z | z
      ·exact qaN _ (z▸lt)
      ·exact qaN _ (Nat.lt_of_succ_lt (z▸lt))
     ·obtain ⟨h',g',d',tk',os'⟩:=s'
      have eg:g'=s.gens:=mv.gens
      have ed:d'=s.drawn:=mv.drawn
      have eo:os'=s.os:=mv.os
      subst eg ed eo
      rfl
    unfold Builtin.«set.__init__» noKeywords Builtin.Frozenset.updateFrom
    generalize hPI:pyIter=PI
    rcases hT with ⟨rfl,hl⟩ | ⟨rfl,hl⟩
    ·obtain ⟨⟨ocl,odi,oda,osl⟩,hol,hcl,nl,hdl⟩:=hl
     simp only at hcl hdl
     subst hcl hdl
     have hol':=keepL _ hol
     have f1:=F.sub_list_set
     have f2:=F.sub_list_frozenset
     have f3:(Value.type "list"==Value.type "dict")=false:=by decide
     wp_walk
     subst hPI
     have hl1:(s.heap.push {cls:= .type "set",dict:=none,data:= .set #[] 0 (.fresh 0 0 (zdc w))}).IsList l items:=⟨_,hol',rfl,nl,rfl⟩
     refine wpAny_pyIter_list hl1 ?_
     refine qaW (wpAny_runValue ?_)
     have ltl:l<s.heap.objs.size:=qaQ hol
     have szp:(s.heap.push {cls:= .type "set",dict:=none,data:= .set #[] 0 (.fresh 0 0 (zdc w))}).objs.size=s.heap.objs.size+1:=qaL ..
     have ne1:l≠(s.heap.push {cls:= .type "set",dict:=none,data:= .set #[] 0 (.fresh 0 0 (zdc w))}).objs.size:=by rw [szp];exact qaR (lt_succ_of_lt ltl)
     have ne2:s.heap.objs.size∉[(s.heap.push {cls:= .type "set",dict:=none,data:= .set #[] 0 (.fresh 0 0 (zdc w))}).objs.size,l]:=by
      rw [szp]
      simp only [qaP,qaF,or_false]
      rintro (z | z)
      ·exact Nat.succ_ne_self _ z.symm
      ·exact qaN _ (z▸ltl)
     refine zvl ((Walks.list hh3 _ l ne1 items).toS) s.heap.objs.size ne2 (λi=>ns.getD i 0) hval room _ 0 _ rfl (zero_le _) ⟨⟨_,qar _ rfl,rfl,rfl⟩,hl1.push _⟩ ?g0 λs' mv gg=> ?_
     case g0=>exact (zn3 s.heap).move (λob e=>qag _ e) (λ_=>rfl) rfl
     obtain ⟨k1,k2⟩:=done1 _ _ s' rfl mv λb ob e=>qag _ (qag _ e)
     exact qaX (qaX ⟨rfl,s'.heap,s'.toks,k2,gg,k1⟩)
    ·obtain ⟨⟨ocl,odi,oda,osl⟩,hol,hcl,nl,hdl⟩:=hl
     simp only at hcl hdl
     subst hcl hdl
     have hol':=keepL _ hol
     have f1:=F.sub_tuple_set
     have f2:=F.sub_tuple_frozenset
     have f3:(Value.type "tuple"==Value.type "dict")=false:=by decide
     wp_walk
     subst hPI
     have hl1:(s.heap.push {cls:= .type "set",dict:=none,data:= .set #[] 0 (.fresh 0 0 (zdc w))}).IsTuple l items:=⟨_,hol',rfl,nl,rfl⟩
     refine wpAny_pyIter_tuple hl1 ?_
     refine qaW (wpAny_runValue ?_)
     have ltl:l<s.heap.objs.size:=qaQ hol
     have szp:(s.heap.push {cls:= .type "set",dict:=none,data:= .set #[] 0 (.fresh 0 0 (zdc w))}).objs.size=s.heap.objs.size+1:=qaL ..
     have ne1:l≠(s.heap.push {cls:= .type "set",dict:=none,data:= .set #[] 0 (.fresh 0 0 (zdc w))}).objs.size:=by rw [szp];exact qaR (lt_succ_of_lt ltl)
     have ne2:s.heap.objs.size∉[(s.heap.push {cls:= .type "set",dict:=none,data:= .set #[] 0 (.fresh 0 0 (zdc w))}).objs.size,l]:=by
      rw [szp]
      simp only [qaP,qaF,or_false]
      rintro (z | z)
      ·exact Nat.succ_ne_self _ z.symm
      ·exact qaN _ (z▸ltl)
     refine zvl ((Walks.tuple hh3 _ l ne1 items).toS) s.heap.objs.size ne2 (λi=>ns.getD i 0) hval room _ 0 _ rfl (zero_le _) ⟨⟨_,qar _ rfl,rfl,rfl⟩,⟨_,qag _ hol',rfl,nl,rfl⟩⟩ ?g0 λs' mv gg=> ?_
     case g0=>exact (zn3 s.heap).move (λob e=>qag _ e) (λ_=>rfl) rfl
     obtain ⟨k1,k2⟩:=done1 _ _ s' rfl mv λb ob e=>qag _ (qag _ e)
     exact qaX (qaX ⟨rfl,s'.heap,s'.toks,k2,gg,k1⟩)
   ·cases r2 with
    | error e=>exact hr2
    | ok fl2=>
     cases fl2 with
     | ret z=>
      obtain ⟨rfl,h',tk,rfl,gg,k1⟩:=hr2
      repeat' (first | assumption | wp_step)
      exact q _ _ gg k1
     | _=>exact hr2.elim
  | _=>exact hr.elim
end
theorem za0:Slot "set_iterator" "__next__" "set_iterator.__next__":= .of (owner:="set_iterator") (n:="__next__") (by rw [typeLookup_type,builtinLookup_eq_fast];kernel_rfl) ⋯ ⋯ ⋯ (by first | exact .inl ⋯ | exact .inr ⋯) (by rw [isSubtype_type];kernel_rfl)
theorem zeu:Slot "set_iterator" "__iter__" "set_iterator.__iter__":= .of (owner:="set_iterator") (n:="__iter__") (by rw [typeLookup_type,builtinLookup_eq_fast];kernel_rfl) ⋯ ⋯ ⋯ (by first | exact .inl ⋯ | exact .inr ⋯) (by rw [isSubtype_type];kernel_rfl)
theorem zcQ:entryFor table "set_iterator.__next__"=some Builtin.«set_iterator.__next__» := entryFor_of_tree (by kernel_rfl)
theorem zfP:entryFor table "set_iterator.__iter__"=some Builtin.«dict_keyiterator.__iter__» := entryFor_alias (id':="dict_keyiterator.__iter__") (by kernel_rfl) rfl ⋯ (by kernel_rfl)
theorem zdb (a:Value):argsOk "set_iterator.__next__" ⟨[a],[]⟩:=by unfold argsOk;kernel_rfl
theorem zgH (a:Value):argsOk "set_iterator.__iter__" ⟨[a],[]⟩:=by unfold argsOk;kernel_rfl
theorem zfS:entryFor table "set.__iter__"=some Builtin.«frozenset.__iter__» := entryFor_alias (id':="frozenset.__iter__") (by kernel_rfl) rfl ⋯ (by kernel_rfl)
def SIt (h:Heap) (it a:Addr) (first:Value) (i n ep:Nat):Prop:=h.get? it=some {cls:= .type "set_iterator",dict:=none,data:= .fields #[first,.int i 0,.ref a,.int n 0,.int ep 0],slots:= #[]}
structure ziE (h:Heap) (a:Addr) (es:Array (Int×Value)) (ep:Nat) (tb:SetTable):Prop where
 at_: ∃ ob,h.get? a=some ob/\ob.ExactSet/\ob.data= .set es ep tb
 fits:tb.fits es.size=true
section
variable {prog:Program} {w:World} {A:Around} {E:Value->Shared->Prop} {s:Shared}
theorem zmc {it a:Addr} {first:Value} {i n ep:Nat} {es:Array (Int×Value)} {tb:SetTable} {Q:Option Value->Shared->Prop} (hI:SIt s.heap it a first i n ep) (hS:ziE s.heap a es ep tb) (hn:es.size=n) (slot:Nat) (hf:first= .int slot 0)
  (q:wpAny (model prog w) A.in1 (do
    match<-setNext a slot i ep with
    | some (x,next)=>
      setField (.ref it) 0 (rawInt next)
      setField (.ref it) 1 (rawInt ((i:Int)+1))
      ret x
    | none=>setField (.ref it) 2 .none;raiseNew (<- newExc (.type "StopIteration") [])) (λf s'=> ∃ v,f= .done (.ret v)/\Q (some v) s') (λe s'=>wpAny (model prog w) A (do if<-isInstance e (.type "StopIteration") then pure none else throw e) Q E s') s):
  wpAny (model prog w) A (pyNext (.ref it)) Q E s:=by
 obtain ⟨ob,ho,hx,hd⟩:=hS.at_
 subst hf
 have tI:s.TypeIs (.ref it) "set_iterator":=⟨_,hI,rfl⟩
 unfold pyNext
 refine qaW (wpAny_attempt (wpAny_callSpecial?_slot (name:=Str.ofString "__next__") tI za0 (wpAny_call_entry za0 tI zcQ ?_ (zdb _))))
 unfold Builtin.«set_iterator.__next__»
 refine qaW (m:=slotArgs "__next__" 0 _) (qaX ?_)
 refine qaW (m:=fieldsOf (.ref it)) ?_
 unfold fieldsOf
 refine qaW (wpAny_load hI (qaX ?_))
 refine qaW (wpAny_setEntries_of ho hd hS.fits ?_)
 have same: ¬(((es.size:Nat):Int) != (n:Int))=true:=by rw [hn];simp
 rw [qa5 same]
 exact qaZ q (λf s' ⟨v,e,z⟩=>⟨v,e,qaX z⟩) λe s' z=>z
theorem zlT {it:Addr} {r:Shared->Prop} {Q:Option Value->Shared->Prop} (hh:A.handled=none) (q: ∀ h',(∀ b ob,s.heap.get? b=some ob->h'.get? b=some ob)->Q none {s with heap:=h'}):
  wpAny (model prog w) A.in1 (do raiseNew (<- newExc (.type "StopIteration") []):Sem PySem.Fin) (λf s'=> ∃ v,f= .done (.ret v)/\Q (some v) s') (λe s'=>wpAny (model prog w) A (do if<-isInstance e (.type "StopIteration") then pure none else throw e) Q E s') s:=by
 refine qaW ?_
 simp only [newExc,newTuple]
 refine qaW (qaC ?_ (by size_fits))
 refine qaW (m:=firstArgMember _ _) (wpAny_of_eq (a:=Value.none) (by first | rfl | (simp only [firstArgMember];rfl)) ?_)
 refine qaC ?_ (by size_fits)
 simp only [raiseNew]
 refine qaW (wpAny_handled ?_)
 rw [show A.in1.handled=none from hh]
 refine qaW (qaX (wpAny_throw ?_))
 refine qaW (wpAny_isInstance (T:="StopIteration") (b:=true) ⟨_,qar _ rfl,rfl⟩ isSubtype_stop ?_)
 exact qaX (q _ λb ob e=>qag _ (qag _ e))
theorem zgj {es:Array (Int×Value)} {tb:SetTable} (hf:tb.fits es.size=true):tb.place.size=es.size:=by
 unfold SetTable.fits at hf
 simp only [qaG,beq_iff_eq] at hf
 exact hf.1
theorem zee {a:Addr} {ep i slot:Nat} {es:Array (Int×Value)} {tb:SetTable} {R:Option (Value×Nat)->Shared->Prop} (hS:ziE s.heap a es ep tb) (led:tb.led=true) (bt:w.params.followText "set-order"=false) (pl:(!tb.plain && decide (es.size>1))=false)
  (q:R (match es[SetTable.below tb.place slot]?, tb.place[SetTable.below tb.place slot]? with | some (_,x),some j=>some (x,j+1) | _,_=>none) s):wpAny (model prog w) A (setNext a slot i ep) R E s:=by
 obtain ⟨ob,ho,hx,hd⟩:=hS.at_
 unfold setNext
 refine qaW (wpAny_setState_of ho hd hS.fits ?_)
 dsimp only
 unfold setsByText
 refine qaW (qaW (wpAny_askSetting (qaX ?_)))
 dsimp only
 rw [show (model prog w).w.params.followText "set-order"=false from bt]
 simp only [qax,if_false]
 show wpAny _ _ (if (!tb.plain && decide (es.size>1))=true then _ else _) _ _ _
 rw [qa5 (by rw [pl];exact Bool.false_ne_true)]
 refine qaW ?_
 show wpAny _ _ (if (!tb.led && !es.isEmpty)=true then _ else _) _ _ _
 rw [qa5 (by rw [led];exact Bool.false_ne_true)]
 exact qaX (qaX q)
theorem zeQ {a:Addr} {ep i slot:Nat} {es:Array (Int×Value)} {tb:SetTable} {R:Option (Value×Nat)->Shared->Prop} (hS:ziE s.heap a es ep tb) (bt:w.params.followText "set-order"=true)
  (q:R (((pickOrder (w.params.setOrder a ep) es)[i]?).map λe=>(e.2,slot)) s):wpAny (model prog w) A (setNext a slot i ep) R E s:=by
 obtain ⟨ob,ho,hx,hd⟩:=hS.at_
 unfold setNext
 refine qaW (wpAny_setState_of ho hd hS.fits ?_)
 dsimp only
 unfold setsByText
 refine qaW (qaW (wpAny_askSetting (qaX ?_)))
 dsimp only
 rw [show (model prog w).w.params.followText "set-order"=true from bt]
 simp only [if_true]
 rw [qa5 (by simp)]
 refine qaW ?_
 unfold setWalk
 refine qaW (wpAny_setState_of ho hd hS.fits ?_)
 dsimp only
 unfold setsByText
 refine qaW (qaW (wpAny_askSetting (qaX ?_)))
 dsimp only
 rw [show (model prog w).w.params.followText "set-order"=true from bt]
 simp only [if_true]
 refine qaW (wpAny_askSetting (qaX (qaX q)))
theorem zme {it a:Addr} {n ep i slot nx:Nat} {x:Value} {es:Array (Int×Value)} {tb:SetTable} {Q:Option Value->Shared->Prop} (hI:SIt s.heap it a (.int slot 0) i n ep) (hS:ziE s.heap a es ep tb) (hn:es.size=n)
  (st: ∀ (R:Option (Value×Nat)->Shared->Prop) (E':Value->Shared->Prop),R (some (x,nx)) s->wpAny (model prog w) A.in1 (setNext a slot i ep) R E' s)
  (q: ∀ h',SIt h' it a (.int nx 0) (i+1) n ep->Heap.SameBut it s.heap h'->Q (some x) {s with heap:=h'}):wpAny (model prog w) A (pyNext (.ref it)) Q E s:=by
 refine zmc hI hS hn slot rfl (qaW (st _ _ ?_))
 dsimp only
 refine qaW (wpAny_setField_rec hI (by simp) λh1 a1 sb1=> ?_)
 refine qaW (wpAny_setField_rec (s:={s with heap:=h1}) a1 (by simp) λh2 a2 sb2=> ?_)
 refine qaX ⟨x,rfl,q h2 ?_ (sb1.trans sb2)⟩
 unfold SIt
 rw [a2]
 simp [rawInt]
theorem zoE {it a:Addr} {n ep i slot:Nat} {es:Array (Int×Value)} {tb:SetTable} {Q:Option Value->Shared->Prop} (hh:A.handled=none) (hI:SIt s.heap it a (.int slot 0) i n ep) (hS:ziE s.heap a es ep tb) (hn:es.size=n)
  (st: ∀ (R:Option (Value×Nat)->Shared->Prop) (E':Value->Shared->Prop),R none s->wpAny (model prog w) A.in1 (setNext a slot i ep) R E' s)
  (q: ∀ h',(∀ b ob,b≠it->s.heap.get? b=some ob->h'.get? b=some ob)->Q none {s with heap:=h'}):wpAny (model prog w) A (pyNext (.ref it)) Q E s:=by
 refine zmc hI hS hn slot rfl (qaW (st _ _ ?_))
 dsimp only
 refine qaW (wpAny_setField_rec hI (by simp) λh1 a1 sb1=> ?_)
 exact zlT (r:=λ_=>True) (it:=it) (s:={s with heap:=h1}) hh λh' k=>q h' λb ob hb e=>k b ob ((sb1.2 b hb).trans e)
end
theorem zdF {α:Type}: ∀ {l:List α} {i:Nat} {x:α},l[i]? = some x->List.Perm l (x::l.eraseIdx i)
 | [],_,_,e=>by simp at e
 | a::r,0,x,e=>by simp at e;subst e;exact .rfl
 | a::r,i+1,x,e=>by
  have e:r[i]? = some x:=by simpa using e
  exact ((zdF e).cons a).trans (.swap x a _)
theorem zeR {α:Type} {l:List α} {i:Nat} {x:α} (e:l[i]? = some x):(l.eraseIdx i).length+1=l.length:=by
 have:=(zdF e).length_eq
 rw [qaE] at this
 exact this.symm
theorem zhG {α:Type} (nx:Nat->Nat): ∀ (fuel k:Nat) (left:List α) (out:Array α),left.length=fuel->List.Perm (pickOrder.go nx fuel k left out).toList (out.toList++left)
 | 0,k,left,out,h=>by
  have:left=[]:=List.length_eq_zero_iff.mp h
  subst this
  simp [pickOrder.go]
 | fuel+1,k,left,out,h=>by
  unfold pickOrder.go
  have hl:nx k % left.length<left.length:=mod_lt _ ⋯
  have e:left[nx k % left.length]? = some left[nx k % left.length]:=by simp [hl]
  rw [e]
  dsimp only
  have hz:=zeR e
  refine (zhG nx fuel (k+1) _ _ ⋯).trans ?_
  rw [Array.toList_push,List.append_assoc]
  exact List.Perm.append_left _ (zdF e).symm
theorem zcW {α:Type} (nx:Nat->Nat) (xs:Array α):List.Perm (pickOrder nx xs).toList xs.toList:=by
 have:=zhG nx xs.size 0 xs.toList #[] (by simp)
 simpa [pickOrder] using this
section
variable {prog:Program} {w:World} {A:Around} {E:Value->Shared->Prop} {s:Shared}
theorem zj8 {src:Source} {n:Nat} {Q:Nat->Shared->Prop} (hn:n≠0) (q: ∀ k d,k<n->Q k {s with drawn:=d}):wpAny (model prog w) A (choose src n) Q E s:=λΓ p hΓ=>⟨hn,q _ _ (mod_lt _ (pos_of_ne_zero hn))⟩
theorem zeO {α:Type}: ∀ (fuel:Nat) (xs:List α) (s:Shared) (Q:List α->Shared->Prop),xs.length<=fuel->(∀ ys d,List.Perm ys xs->Q ys {s with drawn:=d})->wpAny (model prog w) A (drawOrder fuel xs) Q E s
 | 0,xs,s,Q,h,q=>by
  have:xs=[]:=List.length_eq_zero_iff.mp ⋯
  subst this
  unfold drawOrder
  exact qaX (q [] s.drawn .rfl)
 | fuel+1,[],s,Q,h,q=>by
  unfold drawOrder
  exact qaX (q [] s.drawn .rfl)
 | fuel+1,x::r,s,Q,h,q=>by
  unfold drawOrder
  refine qaW (zj8 (by simp) λk d hk=> ?_)
  have e:(x::r)[k]? = some (x::r)[k]:=by simp [hk]
  rw [e]
  dsimp only
  have hz:=zeR e
  refine qaW (zeO fuel ((x::r).eraseIdx k) {s with drawn:=d} _ ⋯ λys d' p=>qaX ?_)
  exact q _ d' ((p.cons _).trans (zdF e).symm)
theorem zjN {it a tp:Addr} {n ep i p:Nat} {x:Value} {es:Array (Int×Value)} {tb:SetTable} {ps:Array Value} {Q:Option Value->Shared->Prop} (hI:SIt s.heap it a (.ref tp) i n ep) (hS:ziE s.heap a es ep tb) (hn:es.size=n)
  (hT:s.heap.get? tp=some {cls:= .type "tuple",data:= .seq ps}) (hp:ps[i]? = some (.int (p:Nat) 0)) (he:(es[p]?).map (·.2)=some x)
  (q: ∀ h',SIt h' it a (.ref tp) (i+1) n ep->Heap.SameBut it s.heap h'->Q (some x) {s with heap:=h'}):wpAny (model prog w) A (pyNext (.ref it)) Q E s:=by
 obtain ⟨ob,ho,hx,hd⟩:=hS.at_
 have tI:s.TypeIs (.ref it) "set_iterator":=⟨_,hI,rfl⟩
 unfold pyNext
 refine qaW (wpAny_attempt (wpAny_callSpecial?_slot (name:=Str.ofString "__next__") tI za0 (wpAny_call_entry za0 tI zcQ ?_ (zdb _))))
 unfold Builtin.«set_iterator.__next__»
 refine qaW (m:=slotArgs "__next__" 0 _) (qaX ?_)
 refine qaW (m:=fieldsOf (.ref it)) ?_
 unfold fieldsOf
 refine qaW (wpAny_load hI (qaX ?_))
 refine qaW (wpAny_setEntries_of ho hd hS.fits ?_)
 have same: ¬(((es.size:Nat):Int) != (n:Int))=true:=by rw [hn];simp
 rw [qa5 same]
 refine qaW (m:=seqItems? (.ref tp)) ?_
 unfold seqItems?
 refine qaW (wpAny_load hT (qaX ?_))
 dsimp only
 rw [show ((i:Nat):Int).toNat=i from qaB i,hp]
 dsimp only
 refine qaW (m:=setNextDrawn a _ _) ?_
 unfold setNextDrawn
 refine qaW (wpAny_setState_of ho hd hS.fits ?_)
 dsimp only
 rw [show ((ep:Nat):Int).toNat=ep from qaB ep,show ((p:Nat):Int).toNat=p from qaB p,qa5 (by simp)]
 cases ee:es[p]? with
 | none=>rw [ee] at he;cases he
 | some e=>
  rw [ee] at he
  cases he
  dsimp only
  refine qaX ?_
  refine qaW (wpAny_setField_rec hI (by simp) λh2 a2 sb2=> ?_)
  refine qaX ⟨_,rfl,qaX (q h2 ?_ sb2)⟩
  unfold SIt
  rw [a2]
  simp [rawInt]
theorem zkB {it a tp:Addr} {n ep i:Nat} {es:Array (Int×Value)} {tb:SetTable} {ps:Array Value} {Q:Option Value->Shared->Prop} (hh:A.handled=none) (hI:SIt s.heap it a (.ref tp) i n ep) (hS:ziE s.heap a es ep tb) (hn:es.size=n)
  (hT:s.heap.get? tp=some {cls:= .type "tuple",data:= .seq ps}) (hp:ps[i]? = none)
  (q: ∀ h',(∀ b ob,b≠it->s.heap.get? b=some ob->h'.get? b=some ob)->Q none {s with heap:=h'}):wpAny (model prog w) A (pyNext (.ref it)) Q E s:=by
 obtain ⟨ob,ho,hx,hd⟩:=hS.at_
 have tI:s.TypeIs (.ref it) "set_iterator":=⟨_,hI,rfl⟩
 unfold pyNext
 refine qaW (wpAny_attempt (wpAny_callSpecial?_slot (name:=Str.ofString "__next__") tI za0 (wpAny_call_entry za0 tI zcQ ?_ (zdb _))))
 unfold Builtin.«set_iterator.__next__»
 refine qaW (m:=slotArgs "__next__" 0 _) (qaX ?_)
 refine qaW (m:=fieldsOf (.ref it)) ?_
 unfold fieldsOf
 refine qaW (wpAny_load hI (qaX ?_))
 refine qaW (wpAny_setEntries_of ho hd hS.fits ?_)
 have same: ¬(((es.size:Nat):Int) != (n:Int))=true:=by rw [hn];simp
 rw [qa5 same]
 refine qaW (m:=seqItems? (.ref tp)) ?_
 unfold seqItems?
 refine qaW (wpAny_load hT (qaX ?_))
 dsimp only
 rw [show ((i:Nat):Int).toNat=i from qaB i,hp]
 dsimp only
 refine qaW (wpAny_setField_rec hI (by simp) λh1 a1 sb1=> ?_)
 refine qaW (wpAny_setField_rec (s:={s with heap:=h1}) a1 (by simp) λh2 a2 sb2=> ?_)
 refine qaZ (zlT (Q:=Q) (E:=E) (r:=λ_=>True) (it:=it) (s:={s with heap:=h2}) hh λh' k=>q h' λb ob hb e=>k b ob ((sb2.2 b hb).trans ((sb1.2 b hb).trans e))) (λf s' ⟨v,e,z⟩=>⟨v,e,qaX z⟩) λe s' z=>z
theorem zfF {it a:Addr} {first:Value} {i n ep:Nat} {Q:Value->Shared->Prop} (hI:SIt s.heap it a first i n ep) (q:Q (.ref it) s):wpAny (model prog w) A (pyIter (.ref it)) Q E s:=by
 have tI:s.TypeIs (.ref it) "set_iterator":=⟨_,hI,rfl⟩
 refine wpAny_pyIter_slot tI zeu (wpAny_call_entry zeu tI zfP ?_ (zgH _))
 show wpAny _ _ (ret (.ref it)) _ _ _
 exact qaX ⟨_,rfl,"set_iterator",_,tI,za0.lookup,q⟩
theorem ziE.keep {h h':Heap} {a:Addr} {es:Array (Int×Value)} {ep:Nat} {tb:SetTable} (x:ziE h a es ep tb) (k: ∀ ob,h.get? a=some ob->h'.get? a=some ob):ziE h' a es ep tb:=
 ⟨let ⟨ob,h1,h2⟩:=x.at_;⟨ob,k ob h1,h2⟩,x.fits⟩
def zhL (tb:SetTable):Nat->Nat
 | 0=>0
 | i+1=>tb.place.getD i 0+1
theorem zjH (hh:A.handled=none) {it a:Addr} {ep:Nat} {es:Array (Int×Value)} {tb:SetTable} (hne:a≠it) (up:Up tb.place) (led:tb.led=true) (bt:w.params.followText "set-order"=false) (pl:(!tb.plain && decide (es.size>1))=false) (hf:tb.fits es.size=true):
  Walks prog w A it [it,a] [it] es.size (λi v=> ∃ e,es.toList[i]? = some e/\v=e.2) (λi h=>SIt h it a (.int (zhL tb i:Nat) 0) i es.size ep/\ziE h a es ep tb) where
 sub:=λb hb=>by simp at hb;simp [hb]
 frame:=λi h h' st k=>⟨k it (by simp) _ st.1,st.2.keep λob e=>k a (by simp) ob e⟩
 item:=λi s Q E hi st q=>by
  have pz:=zgj hf
  have hi2:i<tb.place.size:=by omega
  have bl:SetTable.below tb.place (zhL tb i)=i:=by
   cases i with
   | zero=>exact zf4 up
   | succ i=>
    have hi3:i<tb.place.size:=by omega
    have e:tb.place[i]? = some (tb.place.getD i 0):=by simp [hi3,Array.getD]
    exact zf1 up e
  have ep':tb.place.getD i 0=tb.place[i]:=by simp [hi2,Array.getD]
  refine zme (nx:=zhL tb (i+1)) (x:=es[i].2) st.1 st.2 rfl (λR E' r=>zee st.2 led bt pl ?_) λh' a1 sb=> ?_
  ·rw [bl]
   have e1:es[i]? = some es[i]:=by simp [hi]
   have e2:tb.place[i]? = some tb.place[i]:=by simp [hi2]
   rw [e1,e2]
   show R (some (es[i].2,tb.place[i]+1)) s
   have e3:zhL tb (i+1)=tb.place[i]+1:=by show tb.place.getD i 0+1=_;rw [ep']
   rw [<- e3]
   exact r
  ·exact q _ h' s.toks ⟨es[i],by simp [hi],rfl⟩ ⟨a1,st.2.keep λob e=>(sb.2 a hne).trans e⟩ λb ob hb e=>(sb.2 b λz=>hb (by simp [z])).trans e
 done:=λs Q E st q=>by
  have pz:=zgj hf
  have bl:SetTable.below tb.place (zhL tb es.size)=es.size:=by
   cases hz:es.size with
   | zero=>exact zf4 up
   | succ i=>
    have hi3:i<tb.place.size:=by omega
    have e:tb.place[i]? = some (tb.place.getD i 0):=by simp [hi3,Array.getD]
    exact zf1 up e
  refine zoE hh st.1 st.2 rfl (λR E' r=>zee st.2 led bt pl ?_) λh' k=>q h' s.toks λb ob hb e=>k b ob (λz=>hb (by simp [z])) e
  rw [bl]
  have e1:es[es.size]? = none:=by simp
  rw [e1]
  exact r
 self:=λi s Q E st q=>zfF st.1 q
theorem zkD (hh:A.handled=none) {it a:Addr} {ep:Nat} {es:Array (Int×Value)} {tb:SetTable} (hne:a≠it) (bt:w.params.followText "set-order"=true) (hf:tb.fits es.size=true):
  Walks prog w A it [it,a] [it] es.size (λi v=> ∃ e,(pickOrder (w.params.setOrder a ep) es).toList[i]? = some e/\v=e.2) (λi h=>SIt h it a (.int (0:Nat) 0) i es.size ep/\ziE h a es ep tb) where
 sub:=λb hb=>by simp at hb;simp [hb]
 frame:=λi h h' st k=>⟨k it (by simp) _ st.1,st.2.keep λob e=>k a (by simp) ob e⟩
 item:=λi s Q E hi st q=>by
  have pz:(pickOrder (w.params.setOrder a ep) es).size=es.size:=by
   have:=(zcW (w.params.setOrder a ep) es).length_eq
   simpa using this
  have hi2:i<(pickOrder (w.params.setOrder a ep) es).size:=by omega
  refine zme (nx:=0) (x:=(pickOrder (w.params.setOrder a ep) es)[i].2) st.1 st.2 rfl (λR E' r=>zeQ st.2 bt ?_) λh' a1 sb=> ?_
  ·have e1:(pickOrder (w.params.setOrder a ep) es)[i]? = some (pickOrder (w.params.setOrder a ep) es)[i]:=by simp [hi2]
   rw [e1]
   exact r
  ·exact q _ h' s.toks ⟨(pickOrder (w.params.setOrder a ep) es)[i],by simp [hi2],rfl⟩ ⟨a1,st.2.keep λob e=>(sb.2 a hne).trans e⟩ λb ob hb e=>(sb.2 b λz=>hb (by simp [z])).trans e
 done:=λs Q E st q=>by
  have pz:(pickOrder (w.params.setOrder a ep) es).size=es.size:=by
   have:=(zcW (w.params.setOrder a ep) es).length_eq
   simpa using this
  refine zoE hh st.1 st.2 rfl (λR E' r=>zeQ st.2 bt ?_) λh' k=>q h' s.toks λb ob hb e=>k b ob (λz=>hb (by simp [z])) e
  have e1:(pickOrder (w.params.setOrder a ep) es)[es.size]? = none:=by simp [pz]
  rw [e1]
  exact r
 self:=λi s Q E st q=>zfF st.1 q
theorem zj3 (hh:A.handled=none) {it a tp:Addr} {ep:Nat} {es:Array (Int×Value)} {tb:SetTable} {ys:List Nat} (hne:a≠it) (hne2:tp≠it) (hp:List.Perm ys (List.range es.size)):
  Walks prog w A it [it,a,tp] [it] es.size (λi v=> ∃ e,(ys.filterMap (es[·]?))[i]? = some e/\v=e.2) (λi h=>SIt h it a (.ref tp) i es.size ep/\ziE h a es ep tb/\h.get? tp=some {cls:= .type "tuple",data:= .seq (ys.map λ(i:Nat)=>rawInt i).toArray}) where
 sub:=λb hb=>by simp at hb;simp [hb]
 frame:=λi h h' st k=>⟨k it (by simp) _ st.1,st.2.1.keep λob e=>k a (by simp) ob e,k tp (by simp) _ st.2.2⟩
 item:=λi s Q E hi st q=>by
  have hl:ys.length=es.size:=by simpa using hp.length_eq
  have hi2:i<ys.length:=by omega
  have lt: ∀ y∈ys,y<es.size:=λy hy=>by simpa using hp.mem_iff.mp hy
  have lti:=lt _ (getElem_mem hi2)
  have fm: ∀ (zs:List Nat),(∀ y∈zs,y<es.size)-> ∀ (j:Nat) (y:Nat),zs[j]? = some y->(zs.filterMap (es[·]?))[j]? = es[y]? := by
   intro zs
   induction zs with
   | nil=>intro _ j y e;simp at e
   | cons z r ih=>
    intro hz j y e
    have lz:=hz z (.head _)
    rw [List.filterMap_cons_some (b:=es[z]) (by simp [lz])]
    cases j with
    | zero=>simp at e;subst e;simp [lz]
    | succ j=>simpa using ih (λy hy=>hz y (.tail _ hy)) j y (by simpa using e)
  refine zjN (p:=ys[i]) (x:=es[ys[i]].2) st.1 st.2.1 rfl st.2.2 (by simp [hi2,rawInt]) (by simp [lti]) λh' a1 sb=> ?_
  refine q _ h' s.toks ⟨es[ys[i]],?_,rfl⟩ ⟨a1,st.2.1.keep λob e=>(sb.2 a hne).trans e,(sb.2 tp hne2).trans st.2.2⟩ λb ob hb e=>(sb.2 b λz=>hb (by simp [z])).trans e
  rw [fm ys lt i ys[i] (by simp [hi2])]
  simp [lti]
 done:=λs Q E st q=>by
  have hl:ys.length=es.size:=by simpa using hp.length_eq
  exact zkB hh st.1 st.2.1 rfl st.2.2 (by simp [hl]) λh' k=>q h' s.toks λb ob hb e=>k b ob (λz=>hb (by simp [z])) e
 self:=λi s Q E st q=>zfF st.1 q
end
section
variable {prog:Program} {w:World} {A:Around} {E:Value->Shared->Prop} {s:Shared}
structure zqK (prog:Program) (w:World) (a it:Addr) (es:Array (Int×Value)) (ord:List (Int×Value)) (fp:List Addr) (St:Nat->Heap->Prop):Prop where
 walks: ∀ A:Around,A.handled=none->Walks prog w A it fp [it] es.size (λi v=> ∃ e,ord[i]? = some e/\v=e.2) St
 perm:List.Perm ord es.toList
 mem:it∈fp
theorem zt6 {a:Addr} {S:Int->Bool} {n:Nat} {Q:Value->Shared->Prop} (g:zgX prog w s.heap a S n)
  (q: ∀ it es ep tb ord fp St h' d,(∃ ob,s.heap.get? a=some ob/\ob.ExactSet/\ob.data= .set es ep tb)->zqK prog w a it es ord fp St->St 0 h'->s.heap.objs.size<=it->(∀ b ob,s.heap.get? b=some ob->h'.get? b=some ob)->(∀ b∈fp,b=a\/s.heap.objs.size<=b)->es.size<scanBound->
    Q (.ref it) {s with heap:=h',drawn:=d}):wpAny (model prog w) A (pyIter (.ref a)) Q E s:=by
 obtain ⟨ob,es,ep,tb,⟨h1,h2,h3⟩,h4,h5,⟨h6,h7,h8⟩,h9⟩:=g
 have tS:s.TypeIs (.ref a) "set":=⟨ob,h1,h2.1⟩
 have lta:a<s.heap.objs.size:=qaQ h1
 refine wpAny_pyIter_slot tS F.slot_set_iter (wpAny_call_entry F.slot_set_iter tS zfS ?_ (F.args_set_iter_1 _))
 unfold Builtin.«frozenset.__iter__»
 refine qaW (m:=Builtin.Frozenset.slot0 "__iter__" _) (qaX ?_)
 refine qaW (m:=Builtin.Frozenset.sizeOf a) ?_
 unfold Builtin.Frozenset.sizeOf
 refine qaW (wpAny_setEntries_of h1 h3 h7 (qaX ?_))
 refine qaW (m:=setDrawn a) ?_
 unfold setDrawn
 refine qaW (wpAny_setState_of h1 h3 h7 ?_)
 dsimp only
 unfold setsByText
 refine qaW (qaW (wpAny_askSetting (qaX (qaX ?_))))
 dsimp only
 have sobj: ∀ {h':Heap},(∀ b ob,s.heap.get? b=some ob->h'.get? b=some ob)->ziE h' a es ep tb:=λk=>⟨⟨ob,k _ _ h1,h2,h3⟩,h7⟩
 by_cases dr:(!(model prog w).w.params.followText "set-order" && (!tb.plain && decide (es.size>1)))=true
 ·show wpAny _ _ (if (!(model prog w).w.params.followText "set-order" && (!tb.plain && decide (es.size>1)))=true then _ else _) _ _ _
  rw [qa4 dr]
  refine qaW (zeO es.size (List.range es.size) s _ (by simp) λys d hp=> ?_)
  have hl:ys.length=es.size:=by simpa using hp.length_eq
  have small:es.size<=sizeLine:=fits_of_scanBound h6
  refine qaW ?_
  unfold newTuple
  refine qaC ?_ (by show (ys.map λ(i:Nat)=>rawInt i).toArray.size<=sizeLine;simp [hl];exact small)
  unfold setEpoch
  refine qaW (qaW (wpAny_setState_of (s:={s with heap:=_,drawn:=d}) (qag _ h1) h3 h7 (qaX ?_)))
  dsimp only
  refine qaW (qaC (qaX ⟨_,rfl,"set_iterator",_,⟨_,qar _ rfl,rfl⟩,za0.lookup,?_⟩))
  have z1:(s.heap.push {cls:= .type "tuple",dict:=none,data:= .seq (ys.map λ(i:Nat)=>rawInt i).toArray}).objs.size=s.heap.objs.size+1:=qaL ..
  have kp: ∀ (o2:Obj) b ob,s.heap.get? b=some ob->((s.heap.push {cls:= .type "tuple",dict:=none,data:= .seq (ys.map λ(i:Nat)=>rawInt i).toArray}).push o2).get? b=some ob:=λo2 b ob e=>qag _ (qag _ e)
  refine q _ es ep tb (ys.filterMap (es[·]?)) [(s.heap.push {cls:= .type "tuple",dict:=none,data:= .seq (ys.map λ(i:Nat)=>rawInt i).toArray}).objs.size,a,s.heap.objs.size] _ _ d ⟨ob,h1,h2,h3⟩ ⟨λA' hA=>zj3 (tb:=tb) (ep:=ep) hA ?_ ?_ hp,?_,.head _⟩ ⟨?_,sobj (kp _),?_⟩ ?_ (kp _) (λb hb=> ?_) h6
  ·rw [z1];exact qaR (lt_succ_of_lt lta)
  ·rw [z1];exact qaR (Nat.lt_succ_self _)
  ·refine (hp.filterMap _).trans ?_
   rw [filterMap_getElem?_range]
  ·exact qar _ rfl
  ·exact qag _ (qar _ rfl)
  ·rw [z1];exact le_succ _
  ·simp only [qaP,qaF,or_false] at hb
   rcases hb with z | z | z
   ·right;rw [z,z1];exact le_succ _
   ·exact .inl z
   ·right;rw [z];exact qaV _
 ·show wpAny _ _ (if (!(model prog w).w.params.followText "set-order" && (!tb.plain && decide (es.size>1)))=true then _ else _) _ _ _
  rw [qa5 dr]
  refine qaW (qaX ?_)
  unfold setEpoch
  refine qaW (qaW (wpAny_setState_of h1 h3 h7 (qaX ?_)))
  dsimp only
  refine qaW (qaC (qaX ⟨_,rfl,"set_iterator",_,⟨_,qar _ rfl,rfl⟩,za0.lookup,?_⟩))
  have kp: ∀ (o2:Obj) b ob,s.heap.get? b=some ob->(s.heap.push o2).get? b=some ob:=λo2 b ob e=>qag _ e
  have fpl: ∀ b∈[s.heap.objs.size,a],b=a\/s.heap.objs.size<=b:=λb hb=>by
   simp only [qaP,qaF,or_false] at hb
   rcases hb with z | z
   ·right;rw [z];exact qaV _
   ·exact .inl z
  cases bt:w.params.followText "set-order" with
  | true=>
   exact q _ es ep tb _ [s.heap.objs.size,a] _ _ s.drawn ⟨ob,h1,h2,h3⟩ ⟨λA' hA=>zkD (tb:=tb) (ep:=ep) hA (qaR lta) bt h7,zcW _ _,.head _⟩ ⟨qar _ rfl,sobj (kp _)⟩ (qaV _) (kp _) fpl h6
  | false=>
   have pl:(!tb.plain && decide (es.size>1))=false:=by
    rw [show (model prog w).w.params.followText "set-order"=false from bt] at dr
    simpa using dr
   have led:tb.led=true:=by
    rw [h9.led]
    unfold zdc
    rw [bt]
    rfl
   exact q _ es ep tb _ [s.heap.objs.size,a] _ _ s.drawn ⟨ob,h1,h2,h3⟩ ⟨λA' hA=>zjH (tb:=tb) (ep:=ep) hA (qaR lta) h9.up led bt pl h7,.rfl,.head _⟩ ⟨qar _ rfl,sobj (kp _)⟩ (qaV _) (kp _) fpl h6
theorem zng {a:Addr} {S:Int->Bool} {n:Nat} {Q:List Value->Shared->Prop} (hh:A.handled=none) (g:zgX prog w s.heap a S n)
  (q: ∀ vs s' es ep tb,(∃ ob,s.heap.get? a=some ob/\ob.ExactSet/\ob.data= .set es ep tb)->List.Perm vs (es.toList.map (·.2))->(∀ b ob,s.heap.get? b=some ob->s'.heap.get? b=some ob)->s'.gens=s.gens->s'.os=s.os->Q vs s'):wpAny (model prog w) A (collect (.ref a)) Q E s:=by
 have tS: ∀ {h':Heap} {s':Shared},s'.heap=h'->(∀ b ob,s.heap.get? b=some ob->h'.get? b=some ob)->s'.TypeIs (.ref a) "set":=λ{h' s'} e k=>by
  obtain ⟨ob,es,ep,tb,⟨h1,h2,h3⟩,_⟩:=g
  exact ⟨ob,by rw [e];exact k _ _ h1,h2.1⟩
 have lta:a<s.heap.objs.size:=by
  obtain ⟨ob,es,ep,tb,⟨h1,h2,h3⟩,_⟩:=g
  exact qaQ h1
 unfold collect
 refine qaW (wpAny_runValue (codeAny_builtin F.entry_proto_collect ?_))
 rw [qap F.plain_proto_collect _]
 show wpAny _ _ (newList []>>=λl=>again (.builtin "list.__iadd__" ⟨[l,.ref a],[]⟩)) _ _ _
 refine qaW (qaC (qaX ⟨plainId_quiet F.plain_list_iadd _,codeAny_builtin F.entry_list_iadd ?_⟩))
 rw [qap F.plain_list_iadd _]
 show wpAny _ _ (Builtin.List.listExtendWith (.ref s.heap.objs.size) (.ref a) (.ref s.heap.objs.size)) _ _ _
 unfold Builtin.List.listExtendWith
 have k1: ∀ b ob,s.heap.get? b=some ob->(s.heap.push {cls:= .type "list",data:= .seq ([]:List Value).toArray}).get? b=some ob:=λb ob e=>qag _ e
 refine qaW (wpAny_typeOf (tS rfl k1) ?_)
 have nsame:Builtin.List.listSameRef (.ref s.heap.objs.size) (.ref a)=false:=by
  simp only [Builtin.List.listSameRef,beq_eq_false_iff_ne]
  exact λz=>qaN _ (z▸lta)
 have nl:(Value.type "set"==Value.type "list")=false:=by decide
 have nt:(Value.type "set"==Value.type "tuple")=false:=by decide
 simp only [nsame,nl,nt,Bool.or_false,qax,if_false]
 refine qaW (zt6 (g.move (λob e=>k1 _ _ e) (λ_=>rfl) rfl) λit es ep tb ord fp St h2 d hob W st0 lit k2 fpl few=> ?_)
 refine qaW (qaO ?_)
 unfold Builtin.List.listLengthHint
 have k12: ∀ b ob,s.heap.get? b=some ob->h2.get? b=some ob:=λb ob e=>k2 b ob (k1 b ob e)
 refine qaW (wpAny_specialOf (tS rfl k12) F.slot_set_len.lookup ?_)
 have sp:splitId "set.__len__"=some ("set","__len__"):=by decide +kernel
 dsimp only
 rw [sp]
 dsimp only
 refine qaW (wpAny_isInstance (tS rfl k12) sub_set_self ?_)
 rw [qa5 (by decide)]
 rw [qa4 ⋯]
 refine qaW (wpAny_typeOf (tS rfl k12) (qaX ?_))
 rw [qa4 ⋯]
 refine qaW (wpAny_rule ?_)
 have l2:h2.get? s.heap.objs.size=some {cls:= .type "list",data:= .seq ([]:List Value).toArray}:=k2 _ _ (qar _ rfl)
 refine qaW ?_
 unfold Builtin.List.listTouch
 show wpAny _ _ (updateSeq s.heap.objs.size (·.push .none)>>=λ_=>updateSeq s.heap.objs.size (·.pop)) _ _ _
 refine qaW (wpAny_updateSeq l2 rfl ?_)
 have l3:=qal (Obj.mapSeq (·.push Value.none)) l2 rfl
 refine wpAny_updateSeq l3 rfl ?_
 have l4:=qal (Obj.mapSeq (·.pop)) l3 rfl
 have oth: ∀ b ob,b≠s.heap.objs.size->h2.get? b=some ob->((h2.update s.heap.objs.size (Obj.mapSeq (·.push Value.none))).update s.heap.objs.size (Obj.mapSeq (·.pop))).get? b=some ob:=λb ob hb e=>
  (qah _ _ (Ne.symm hb)).trans ((qah _ _ (Ne.symm hb)).trans e)
 have nfp:s.heap.objs.size∉fp:=λz=>by
  rcases fpl _ z with z | z
  ·exact qaN _ (z▸lta)
  ·rw [show ({s with heap:=s.heap.push {cls:= .type "list",data:= .seq ([]:List Value).toArray}}:Shared).heap.objs.size=s.heap.objs.size+1 from qaL ..] at z
   exact qaN _ z
 have fin: ∀ (s':Shared) (vs:Array Value) (c:Nat),(∀ b ob,s.heap.get? b=some ob->s'.heap.get? b=some ob)->s'.gens=s.gens->s'.os=s.os->s'.heap.get? s.heap.objs.size=some {cls:= .type "list",dict:=none,data:= .seq vs c,slots:= #[]}->ItemsOf (λi v=> ∃ e,ord[i]? = some e/\v=e.2) vs es.size->
   wpAny (model prog w) A (load s.heap.objs.size>>=λo=>match o.data with | .seq xs _=>pure xs.toList | _=>unsupported "internal:collect") Q E s':=λs' vs c k g1 g2 e it1=>by
  refine qaW (wpAny_load e (qaX (q vs.toList s' es ep tb ?_ ?_ k g1 g2)))
  ·obtain ⟨ob,o1,o2⟩:=hob
   obtain ⟨ob',es',ep',tb',⟨p1,p2,p3⟩,_⟩:=g
   have:=k1 _ _ p1
   rw [o1] at this
   cases this
   exact ⟨ob,p1,o2⟩
  ·have hl:ord.length=es.size:=by simpa using W.perm.length_eq
   have e2:vs.toList=ord.map (·.2):=by
    apply List.ext_getElem?
    intro i
    by_cases hi:i<es.size
    ·have hv0:i<vs.size:=by rw [it1.1];exact hi
     have hv:vs[i]? = some vs[i]:=by simp [hv0]
     obtain ⟨e,e1,e2⟩:=it1.2 i _ hv
     rw [List.getElem?_map,e1,Array.getElem?_toList,hv,e2]
     rfl
    ·rw [List.getElem?_eq_none (by simp [it1.1];omega),List.getElem?_eq_none (by simp [hl];omega)]
   rw [e2]
   exact W.perm.map _
 have Wk:=(W.walks A.in1 hh).toS
 refine qaX ⟨plainId_quiet F.plain_extend_loop _,codeAny_extend_loopS Wk ?_ _ nfp _ es.size 0 _ _ _ rfl (zero_le _) ?_ l4 (ItemsOf.nil _) λs' vs c mv e it1=> ?_⟩
 ·exact fits_of_scanBound few
 ·exact (W.walks A.in1 hh).frame 0 h2 _ st0 λb hb ob e=>oth b ob (λz=>nfp (z▸hb)) e
 ·refine fin s' vs c (λb ob e'=>mv.heap b ob ?_ (oth b ob ?_ (k12 b ob e'))) mv.gens mv.os e it1
  ·intro z
   rcases qaP.mp z with z | z
   ·exact qaN _ (z▸qaQ e')
   ·simp only [qaP,qaF,or_false] at z
    have:=qaQ e'
    rw [z] at this
    exact qaN _ (qaw this (qaS (by rw [qaL];exact le_succ _) lit))
  ·exact λz=>qaN _ (z▸qaQ e')
end
def zod (x:Int):List Int->List Int
 | []=>[x]
 | y::r=>if x<=y then x::y::r else y::zod x r
def zb2:List Int->List Int
 | []=>[]
 | x::r=>zod x (zb2 r)
theorem zfG (x:Int): ∀ l:List Int,List.Perm (zod x l) (x::l)
 | []=> .rfl
 | y::r=>by
  unfold zod
  split
  ·exact .rfl
  ·exact ((zfG x r).cons y).trans (.swap x y r)
theorem znD {x z:Int} {l:List Int}:z∈zod x l↔z=x\/z∈l:=by rw [(zfG x l).mem_iff,qaP]
theorem zlR (x:Int): ∀ l:List Int,l.Pairwise (· <= ·)->(zod x l).Pairwise (· <= ·)
 | [],_=>by unfold zod;simp
 | y::r,h=>by
  obtain ⟨h1,h2⟩:=qay.mp h
  unfold zod
  split
  ·rename_i hxy
   refine qay.mpr ⟨λz hz=> ?_,h⟩
   rcases qaP.mp hz with e | hz
   ·rw [e];exact hxy
   ·exact Int.le_trans hxy (h1 z hz)
  ·rename_i hxy
   refine qay.mpr ⟨λz hz=> ?_,zlR x r h2⟩
   rcases znD.mp hz with e | hz
   ·rw [e];omega
   ·exact h1 z hz
theorem zaF: ∀ l:List Int,List.Perm (zb2 l) l
 | []=> .rfl
 | x::r=>(zfG x _).trans ((zaF r).cons x)
theorem zdH: ∀ l:List Int,(zb2 l).Pairwise (· <= ·)
 | []=> .nil
 | x::r=>zlR x _ (zdH r)
theorem ze2 {a b:List Int} (hp:a.Perm b) (h:a.Pairwise (· <= ·)):a=zb2 b:=W.ksm_same (hp.trans (zaF b).symm) h (zdH b)
def zdO (ns:List Int):List Int:=zb2 (ns.foldl step_dedup [])
theorem zkj (ns:List Int): ∀ (acc:List Int) (k:Int),(ns.foldl step_dedup acc).any (· == k)=(acc.any (· == k) || ns.any (· == k)):=by
 induction ns with
 | nil=>intro acc k;simp
 | cons x r ih=>
  intro acc k
  rw [foldl_cons,ih,step_any]
  simp only [any_cons]
  have:(x==k)=decide (k=x):=by
   by_cases h:k=x
   ·subst h;simp
   ·have h': ¬x=k:=λe=>h e.symm
    simp [h,h']
  rw [this,Bool.or_assoc]
theorem zlb {ns:List Int} {k:Int}:k∈ns.foldl step_dedup []↔k∈ns:=by
 have:=zkj ns [] k
 simp only [List.any_nil,Bool.false_or] at this
 have e: ∀ l:List Int,k∈l↔(l.any λx=>x==k)=true:=λl=>by
  rw [any_eq_true]
  constructor
  ·exact λh=>⟨k,h,by simp⟩
  ·rintro ⟨x,h,c⟩
   have c:x=k:=by simpa using c
   rw [<- c]
   exact h
 rw [e,e,this]
theorem zfu (ns:List Int): ∀ acc:List Int,acc.Nodup->(ns.foldl step_dedup acc).Nodup:=by
 induction ns with
 | nil=>intro acc h;exact h
 | cons x r ih=>
  intro acc h
  refine ih _ ?_
  unfold step_dedup
  split
  ·exact h
  ·rename_i hx
   rw [nodup_append]
   refine ⟨h,by simp,λa ha b hb=> ?_⟩
   simp only [mem_singleton] at hb
   subst hb
   intro e
   subst e
   exact hx (any_eq_true.mpr ⟨a,ha,by simp⟩)
theorem zb8 {ns:List Int} {k:Int}:k∈zdO ns↔k∈ns:=by unfold zdO;rw [(zaF _).mem_iff,zlb]
theorem zdB (ns:List Int):(zdO ns).Pairwise (· < ·):=by
 have h1:=zdH (ns.foldl step_dedup [])
 have h2:(zdO ns).Nodup:=(zaF _).nodup_iff.mpr (zfu ns [] List.nodup_nil)
 exact (List.Pairwise.and h1 h2).imp λ⟨a,b⟩=>by omega
theorem zfE (ns:List Int):firstMet (λi=>ns.getD i 0) ns.length=ns.foldl step_dedup []:=by
 unfold firstMet
 congr 1
 apply List.ext_getElem?
 intro i
 by_cases hi:i<ns.length
 ·simp [hi,List.getD]
 ·rw [List.getElem?_eq_none (by simp;omega),List.getElem?_eq_none ⋯]
theorem zfa: ∀ {fm ms:List Int},fm.Nodup->(∀ k,k∈fm->k∈ms)->ms.length<=fm.length->List.Perm ms fm
 | [],ms,_,_,h=>by
  have:ms=[]:=List.length_eq_zero_iff.mp (by simpa using h)
  subst this
  exact .rfl
 | x::r,ms,nd,hm,h=>by
  obtain ⟨n1,n2⟩:=nodup_cons.mp nd
  have hx:=hm x (.head _)
  have p:=List.perm_cons_erase hx
  have hl:=p.length_eq
  rw [qaE] at hl h
  refine p.trans ((zfa n2 (λk hk=> ?_) ⋯).cons x)
  have hne:k≠x:=λe=>n1 (e▸hk)
  rcases qaP.mp (p.mem_iff.mp (hm k (.tail _ hk))) with e | e
  ·exact absurd e hne
  ·exact e
section
variable {prog:Program} {w:World} {A:Around} {E:Value->Shared->Prop} {s:Shared}
theorem zhv {l l':List Value} {ns:List Int} (p:List.Perm l l') (h:IntsAre l' ns): ∃ ms,IntsAre l ms/\List.Perm ms ns:=by
 induction p generalizing ns with
 | nil=>exact ⟨ns,h,.rfl⟩
 | cons x _ ih=>
  cases h with
  | cons n t h=>
   obtain ⟨ms,h1,h2⟩:=ih h
   exact ⟨n::ms,.cons n t h1,h2.cons n⟩
 | swap x y l=>
  cases h with
  | cons n t h=>
   cases h with
   | cons n' t' h=>exact ⟨n'::n::_,.cons n' t' (.cons n t h),.swap _ _ _⟩
 | trans _ _ ih1 ih2=>
  obtain ⟨ms,h1,h2⟩:=ih2 h
  obtain ⟨ms',h3,h4⟩:=ih1 h1
  exact ⟨ms',h3,h4.trans h2⟩
theorem zgd: ∀ {es:List (Int×Value)},ElemsOf (intKind prog w) es-> ∃ ms,IntsAre (es.map (·.2)) ms/\ ∀ k,k∈ms↔ ∃ e∈es,(intKind prog w).is k e.2=true
 | [],_=>⟨[],.nil,λk=>by simp⟩
 | e::r,h=>by
  obtain ⟨ms,h1,h2⟩:=zgd (ElemsOf.tail h)
  obtain ⟨⟨k,hk,_⟩,_⟩:=ElemsOf.head h
  obtain ⟨t,ht⟩:=Value.isInt_shape (k:=k) (v:=e.2) hk
  refine ⟨k::ms,by rw [qaM,ht];exact .cons k t h1,λz=> ?_⟩
  rw [qaP,h2 z]
  constructor
  ·rintro (c | ⟨e',c1,c2⟩)
   ·exact ⟨e,.head _,by rw [c];exact hk⟩
   ·exact ⟨e',.tail _ c1,c2⟩
  ·rintro ⟨e',c1,c2⟩
   rcases qaP.mp c1 with c | c
   ·subst c;exact .inl ((intKind prog w).inj _ _ _ c2 hk)
   ·exact .inr ⟨e',c,c2⟩
theorem zfH {x:Value} {Q:Value->Shared->Prop} (hc: ∀ E':Value->Shared->Prop,wpAny (model prog w) A.in1 (collect x) (λvs s1=> ∃ ns,IntsAre vs ns/\vs.length<64/\ ∀ out e h',IntsAre out (zb2 ns)->(∀ b ob,s1.heap.get? b=some ob->h'.get? b=some ob)->
      h'.get? s1.heap.objs.size=some (seqObj "list" out.toArray e)->Q (.ref s1.heap.objs.size) {s1 with heap:=h'}) E' s):wpAny (model prog w) A (call (.builtin "sorted") [x]) Q E s:=by
 refine Calls.call_function_entry kind_sorted plain_sorted entry_sorted (args_sorted1 _) ?_
 unfold Builtin.«sorted»
 refine qaW (m:=checkCount "sorted" 1 1 _) (qaX ?_)
 refine qaW (m:=collect x) (qaZ (hc _) (λvs s1 ⟨ns,hI,h64,q⟩=> ?_) λ_ _ z=>z)
 have small:vs.length<=sizeLine:=qaS (le_of_lt h64) (by decide)
 refine qaW (wpAny_newList ?_ small)
 have at0:(s1.heap.push {cls:= .type "list",data:= .seq vs.toArray}).get? s1.heap.objs.size=some (seqObj "list" vs.toArray 0):=qar _ rfl
 refine qaW (qaO (wpAny_call_entry slot_list_sort ⟨_,at0,rfl⟩ entry_list_sort (list_sort_tree (s:={s1 with heap:=s1.heap.push {cls:= .type "list",data:= .seq vs.toArray}}) at0 hI h64 λout ns' a1 a2 a3=>⟨_,rfl,?_⟩) (args_list_sort _)))
 obtain ⟨e,he⟩:=sortedHeap_at (out:=out) at0
 refine qaX ⟨_,rfl,q out.toList e _ ?_ (λb ob eb=> ?_) (by simpa using he)⟩
 ·rw [<- ze2 a2 a3];exact a1
 ·have lt:=qaQ eb
  rw [sortedHeap_old (qaR lt) (by rw [qaL];exact lt_succ_of_lt lt)]
  exact qag _ eb
theorem zh7 {l:Addr} {vs:List Value} {Q:List Value->Shared->Prop} (hl:s.heap.IsTuple l vs.toArray) (small:vs.length<=sizeLine)
  (q: ∀ h',(∀ b ob,s.heap.get? b=some ob->h'.get? b=some ob)->Q vs {s with heap:=h'}):wpAny (model prog w) A (collect (.ref l)) Q E s:=by
 obtain ⟨ob,ho,hc,n,hd⟩:=id hl
 unfold collect
 refine qaW (wpAny_runValue (codeAny_builtin F.entry_proto_collect ?_))
 rw [qap F.plain_proto_collect _]
 show wpAny _ _ (newList []>>=λd=>again (.builtin "list.__iadd__" ⟨[d,.ref l],[]⟩)) _ _ _
 refine qaW (qaC (qaX ⟨plainId_quiet F.plain_list_iadd _,codeAny_builtin F.entry_list_iadd ?_⟩))
 rw [qap F.plain_list_iadd _]
 show wpAny _ _ (Builtin.List.listExtendWith (.ref s.heap.objs.size) (.ref l) (.ref s.heap.objs.size)) _ _ _
 unfold Builtin.List.listExtendWith
 have ho':(s.heap.push {cls:= .type "list",data:= .seq ([]:List Value).toArray}).get? l=some ob:=qag _ ho
 have d0:(s.heap.push {cls:= .type "list",data:= .seq ([]:List Value).toArray}).get? s.heap.objs.size=some (seqObj "list" #[] 0):=qar _ rfl
 refine qaW (wpAny_typeOf (T:="tuple") ⟨ob,ho',hc⟩ ?_)
 rw [qa4 (by simp)]
 refine qaW (listItems_at ho' hd ?_)
 refine qaW (listItems_at d0 rfl ?_)
 rw [qa5 (by simp)]
 refine qaW (listUpdate_at (xs:= #[]) (n:=0) d0 rfl ?_ (zero_le _) (by show (#[]++vs.toArray).size<=sizeLine+1;simp;omega))
 refine qaX ?_
 show wpAny _ _ (load s.heap.objs.size>>=λo=>match o.data with | .seq xs _=>pure xs.toList | _=>unsupported "internal:collect") _ _ _
 refine qaW (wpAny_load (get?_update_seq d0 _) ?_)
 have z:=q ((s.heap.push {cls:= .type "list",data:= .seq ([]:List Value).toArray}).update s.heap.objs.size (Obj.mapSeq λx=>x++vs.toArray)) λb ob e=>(qah _ _ (λz=>qaN _ (z▸qaQ e))).trans (qag _ e)
 show wpAny _ _ (pure ((#[]:Array Value)++vs.toArray).toList) _ _ _
 rw [show ((#[]:Array Value)++vs.toArray).toList=vs by simp]
 exact qaX z
end
end LT
namespace L2
open LT
section
variable {X:Cx}
def zl4 (P:Program) (w:World) (p:Addr) (ns:List Int):HO:= .ext λh=>zgX P w h p (λz=>(ns.foldl step_dedup []).any (· == z)) (ns.foldl step_dedup []).length
theorem zlr (ns:List Int):(ns.foldl step_dedup []).length<=ns.length:=by
 rw [<- zfE]
 exact firstMet_length_le _ _
theorem zma (hc:X.calm=true):zba X (.type "set") (λxs H Q=> ∃ (a:Addr) (ns:List Int),xs=[.ref a]/\(SqL X.K H a (ns.map V.int)\/SqT X.K H a (ns.map V.int))/\ns.length<4000/\ ∀ p,H p=none->Q (.ref p) (upd H p (zl4 X.prog X.w p ns))):=by
 intro pins s σ H xs us Q I r h
 obtain ⟨a,ns,rfl,hq,hl,q⟩:=h
 obtain ⟨u,rfl,rx⟩:=zeM r
 cases rx
 have fin: ∀ (items:Array Value),items.size=ns.length-> ∀ (h':Heap) (tk:Nat),zgX X.prog X.w h' s.heap.objs.size (λz=>(firstMet (λi=>ns.getD i 0) items.size).any (· == z)) (firstMet (λi=>ns.getD i 0) items.size).length->(∀ b ob,s.heap.get? b=some ob->h'.get? b=some ob)->
   EP X pins σ Q (.ref s.heap.objs.size) {s with heap:=h',toks:=tk}:=λitems hz h' tk g k=>by
  rw [hz,zfE] at g
  refine ⟨.ref s.heap.objs.size,_,I.laid (t':=tk) (o:=zl4 X.prog X.w s.heap.objs.size ns) k (qaV _) ⟨g,?_,λh1 h2 z e=>z.move e (λ_=>rfl) rfl⟩,rfl,q _ (I.hok.fresh (qaV _))⟩
  obtain ⟨ob,es,ep,tb,⟨h1,_⟩,_⟩:=g
  exact ⟨ob,h1⟩
 have room:ns.length+1<scanBound:=by
  have:scanBound=4096:=rfl
  omega
 rcases hq with hq | hq
 ·obtain ⟨its,r',pl,_⟩:=I.list hq
  have hz:its.toArray.size=ns.length:=by rw [qaA, <-r'.length,qaH]
  exact zvq (I.ok.hd hc) (.inl ⟨rfl,pl.isList⟩) (by simpa using zc0 r') (by rw [hz];exact room) λh' tk g k=>fin _ hz h' tk g k
 ·obtain ⟨its,r',pl,_⟩:=I.tuple hq
  have hz:its.toArray.size=ns.length:=by rw [qaA, <-r'.length,qaH]
  exact zvq (I.ok.hd hc) (.inr ⟨rfl,pl⟩) (by simpa using zc0 r') (by rw [hz];exact room) λh' tk g k=>fin _ hz h' tk g k
theorem Inv.grown {pins:List (Addr×Obj)} {σ:St} {H:Hp} {s s':Shared} (I:Inv X pins σ H s) (ho:s'.os=s.os) (hg:s'.gens=s.gens) (k: ∀ b ob,s.heap.get? b=some ob->s'.heap.get? b=some ob):Inv X pins σ H s':=
 I.call' (ch:=[]) ho (Un.kept k) (I.hok.kept k) (by rw [hg];exact I.bare) λb z=>nomatch z
theorem znL {out:List Value} {ms:List Int} (h:IntsAre out ms):zby (ms.map V.int) out:=zfK h
theorem zeS (hc:X.calm=true):zba X (.builtin "sorted") (λxs H Q=> ∃ (p:Addr) (ns:List Int),xs=[.ref p]/\((((ns.foldl step_dedup []).length<64/\H p=some (zl4 X.prog X.w p ns))/\ ∀ l,H l=none->Q (.ref l) (upd H l (.lst ((zdO ns).map V.int))))\/
    ((ns.length<64/\(SqL X.K H p (ns.map V.int)\/SqT X.K H p (ns.map V.int)))/\ ∀ l,H l=none->Q (.ref l) (upd H l (.lst ((zb2 ns).map V.int)))))):=by
 intro pins s σ H xs us Q I r h
 obtain ⟨p,ns,rfl,h⟩:=h
 obtain ⟨u,rfl,rx⟩:=zeM r
 cases rx
 have fin: ∀ (s1:Shared) (ms:List Int),ms.length<=64->(∀ b ob,s.heap.get? b=some ob->s1.heap.get? b=some ob)->s1.gens=s.gens->s1.os=s.os->(∀ l,H l=none->Q (.ref l) (upd H l (.lst ((zb2 ms).map V.int))))-> ∀ out e h',IntsAre out (zb2 ms)->(∀ b ob,s1.heap.get? b=some ob->h'.get? b=some ob)->
   h'.get? s1.heap.objs.size=some (seqObj "list" out.toArray e)->EP X pins σ Q (.ref s1.heap.objs.size) {s1 with heap:=h'}:=λs1 ms hm k g1 o1 q out e h' hi k2 e2=>by
  have I1:=I.grown o1 g1 k
  refine ⟨.ref s1.heap.objs.size,_,I1.laid (t':=s1.toks) (o:= .lst ((zb2 ms).map V.int)) k2 (qaV _) ⟨?_,out,e,znL hi,e2⟩,rfl,q _ (I1.hok.fresh (qaV _))⟩
  rw [qaH,(zaF ms).length_eq]
  exact qaS hm (by decide)
 rcases h with ⟨⟨hl,hs⟩,q⟩ | ⟨⟨hl,hq⟩,q⟩
 ·obtain ⟨g,_⟩:=(show zbW X.prog X.w H s.heap p (zl4 X.prog X.w p ns) from I.hok p _ hs)
  refine zfH λE'=>zng (show X.A.in1.handled=none from I.ok.hd hc) g λvs s1 es ep tb hob pv k g1 o1=> ?_
  obtain ⟨ob',es',ep',tb',⟨a1,a2,a3⟩,h4,h5,⟨h6,h7,h8⟩,h9⟩:=g
  obtain ⟨ob,b1,b2,b3⟩:=hob
  rw [a1] at b1
  cases b1
  rw [a3] at b3
  cases b3
  obtain ⟨ms,m1,m2⟩:=zgd h4
  obtain ⟨ms',m3,m4⟩:=zhv pv m1
  have len:ms.length=(ns.foldl step_dedup []).length:=by
   rw [<- m1.length,qaH,qas]
   exact h8
  have pm:List.Perm ms (ns.foldl step_dedup []):=zfa (zfu ns [] List.nodup_nil) (λz hz=>by
    rw [m2 z, <-h5 z]
    exact any_eq_true.mpr ⟨z,hz,by simp⟩) (Nat.le_of_eq len)
  have es1:zb2 ms'=zdO ns:=by
   unfold zdO
   exact ze2 ((zaF ms').trans (m4.trans pm)) (zdH ms')
  have lm:ms'.length<64:=by
   rw [m4.length_eq,len]
   exact hl
  refine ⟨ms',m3,by rw [m3.length];omega,λout e h' hi k2 e2=> ?_⟩
  exact fin s1 ms' ⋯ k g1 o1 (by rw [es1];exact q) out e h' hi k2 e2
 ·rcases hq with hq | hq
  ·obtain ⟨its,r',pl,hz⟩:=I.list hq
   have hi:=zc0 r'
   have lz:its.length=ns.length:=by rw [<- r'.length,qaH]
   refine zfH λE'=>collect_list pl.isList ?_ (by rw [lz, <-qaH (f:=V.int)];exact hz)
   refine ⟨ns,hi,⋯,λout e h' hi2 k2 e2=> ?_⟩
   refine fin {s with heap:=(s.heap.push (seqObj "list" #[] 0)).update s.heap.objs.size (Obj.mapSeq λx=>x++its.toArray)} ns ⋯ (λb ob eb=> ?_) rfl rfl q out e h' hi2 k2 e2
   exact (qah _ _ (λz=>qaN _ (z▸qaQ eb))).trans (qag _ eb)
  ·obtain ⟨its,r',pl,hz⟩:=I.tuple hq
   have hi:=zc0 r'
   have lz:its.length=ns.length:=by rw [<- r'.length,qaH]
   refine zfH λE'=>zh7 pl (by rw [lz, <-qaH (f:=V.int)];exact hz) λh1 k1=> ?_
   refine ⟨ns,hi,⋯,λout e h' hi2 k2 e2=> ?_⟩
   exact fin {s with heap:=h1} ns ⋯ k1 rfl rfl q out e h' hi2 k2 e2
theorem zmi (hc:X.calm=true):zba X (.builtin "all") (λxs H Q=> ∃ (a:Addr) (bs:List Bool),xs=[.ref a]/\SqL X.K H a (bs.map V.bl)/\Q (.bl (bs.all id)) H):=by
 intro pins s σ H xs us Q I r h
 obtain ⟨a,bs,rfl,hq,q⟩:=h
 obtain ⟨u,rfl,rx⟩:=zeM r
 cases rx
 obtain ⟨its,r',pl,hz⟩:=I.list hq
 have hlt:a<s.heap.objs.size:=by obtain ⟨_,e,_⟩:=pl.isList;exact qaQ e
 refine call_all_walk (wpAny_pyIter_list pl.isList ?_)
 refine ⟨s.heap.objs.size,[s.heap.objs.size,a],[s.heap.objs.size],its.toArray.size,_,_,λi=>(bs[i]?).getD true,rfl,Walks.list (A:=X.A.in1) (I.ok.hd hc) _ a (qaR hlt) its.toArray,⟨⟨_,qar _ rfl,rfl,rfl⟩,pl.isList.push _⟩,λi v s' Q' E' hP hQ=> ?_,λh' tk hk=> ?_⟩
 ·have hv:its[i]? = some v:=by simpa using hP
  obtain ⟨hi,_⟩:=qac.mp hv
  have hlen:bs.length=its.length:=by rw [<- r'.length,qaH]
  have hb:(bs.map V.bl)[i]? = some (V.bl bs[i]):=by simp [hlen,hi]
  obtain ⟨u',hu,ru⟩:=r'.get hb
  rw [hv] at hu
  cases hu
  cases ru
  have e:(bs[i]?).getD true=bs[i]:=by simp [hlen,hi]
  have hQ:Q' ((bs[i]?).getD true) s':=hQ
  rw [e] at hQ
  exact wpAny_truthy_bool hQ
 ·have e:((List.range its.toArray.size).all λi=>(bs[i]?).getD true)=bs.all id:=by
   have hlen:bs.length=its.length:=by rw [<- r'.length,qaH]
   rw [qaA, <-hlen]
   rw [Bool.eq_iff_iff,all_eq_true,all_eq_true]
   constructor
   ·intro h x hx
    obtain ⟨i,hi⟩:=List.mem_iff_getElem?.mp hx
    have hl:=(qac.mp hi).1
    have:=h i (by simpa using hl)
    rw [hi] at this
    exact this
   ·intro h i hi
    have hl:i<bs.length:=by simpa using hi
    have e1:bs[i]? = some bs[i]:=by simp [hl]
    rw [e1]
    exact h _ (getElem_mem hl)
  rw [e]
  refine ⟨.bl _,H,I.grown (s':={s with heap:=h',toks:=tk}) rfl rfl λb ob eb=>hk b ob (λz=> ?_) (qag _ eb),rfl,q⟩
  simp only [qaP,qaF,or_false] at z
  exact qaN _ (z▸qaQ eb)
theorem zkx (hc:X.calm=true):zba X (.builtin "sum") (λxs H Q=> ∃ (a:Addr) (ns:List Int),xs=[.ref a]/\SqL X.K H a (ns.map V.int)/\Q (.int ns.sum) H):=by
 intro pins s σ H xs us Q I r h
 obtain ⟨a,ns,rfl,hq,q⟩:=h
 obtain ⟨u,rfl,rx⟩:=zeM r
 cases rx
 obtain ⟨its,r',pl,hz⟩:=I.list hq
 have hi:=zc0 r'
 obtain ⟨ys,hy⟩:=hi.allInts.items
 have hl:s.heap.IsList a (intItems ys):=hy▸pl.isList
 refine sum_intListG (I.ok.hd hc) hl λh' tk t' hk=> ?_
 have e1:ns=ys.toList.map (·.1):=by
  rw [<- nums_intItems, <-hy]
  exact (show numsOf its.toArray.toList=ns from hi.numsOf).symm
 have e2:preSum (numAt ys) ys.size=ns.sum:=by rw [preSum_eq,List.take_of_length_le (by simp),e1]
 rw [e2]
 exact ⟨.int ns.sum,H,I.grown (s':={s with heap:=h',toks:=tk}) rfl rfl hk,⟨t',rfl⟩,q⟩
end
end L2
namespace L3
open L2 LT
section
variable {X:Cx} {E:XE} {e:Expr} {es:List Expr} {pos p:Pos} {fs:Sd->M (List D)} {x:Str}
theorem znv {id:String} {F:List D->M D} (hc:zba X (.builtin id) (zjt X.K E F)) (hg:Gl X x) (hm:X.mg x=none) (hv:bootBuiltins x=some (.builtin id)) (ha:SA X E (e::es) fs) (hn:x≠"__name__":=by decide) (hdb:(x==("__debug__":Str))=false:=by decide)
  (he:starEach (e::es) X.env=(false,eval e X.env)::starEach es X.env:=by rfl) (hpl:(backTo pos (starEach es X.env)).any (·.1)=false:=by rfl):SE X E (.Call (.Name x p) (e::es) [] pos) (λsd=>do let ds<-fs sd;F ds):=
 PE.imp (zgU hc hg hm hv ha hn hdb he hpl) λσ H Q ⟨ι,h,sd,L,hh,q⟩=>⟨ι,h,sd,L,hh,Fin.bind q λds h1 ι1 H1 e1 s1 hr1 q1 vs rv=>⟨ι1,h1,ds,rv,hr1,q1⟩⟩
theorem zlG {T:String} {F:List D->M D} (hc:zba X (.type T) (zjt X.K E F)) (hg:Gl X x) (hm:X.mg x=none) (hv:bootBuiltins x=some (.type T)) (ha:SA X E (e::es) fs) (hn:x≠"__name__":=by decide) (hdb:(x==("__debug__":Str))=false:=by decide)
  (he:starEach (e::es) X.env=(false,eval e X.env)::starEach es X.env:=by rfl) (hpl:(backTo pos (starEach es X.env)).any (·.1)=false:=by rfl):SE X E (.Call (.Name x p) (e::es) [] pos) (λsd=>do let ds<-fs sd;F ds):=
 PE.imp (zej hc hg hm hv ha hn hdb he hpl) λσ H Q ⟨ι,h,sd,L,hh,q⟩=>⟨ι,h,sd,L,hh,Fin.bind q λds h1 ι1 H1 e1 s1 hr1 q1 vs rv=>⟨ι1,h1,ds,rv,hr1,q1⟩⟩
noncomputable def zoJ:D->M (List D)
 | .tup ds=>pure ds
 | .lst ds=>pure ds
 | .scr ds=>pure ds
 | .cel n=>zaq n
 | _=>M.bad
theorem ze3 {K:W.Frag} {ι:Io} {H:Hp} {h:Hh} {d:D} {v:V} {α:Type} {f:List D->M α} {P:α->Io->Hp->Prop} (hr:zbo K ι H h) (r:Rel K ι H d v) (q:Fin K E ι H ((do let ds<-zoJ d;f ds) h) P):
  ∃ a vs ds,v= .ref a/\((SqL K H a vs/\ ∀ ts,d≠ .tup ts)\/(SqT K H a vs/\d= .tup ds))/\zaw K ι H ds vs/\Fin K E ι H (f ds h) P:=by
 cases d with
 | tup ds=>
  obtain ⟨a,vs,e,h1,h2⟩:=zdS r
  exact ⟨a,vs,ds,e,.inr ⟨h1,rfl⟩,h2,q⟩
 | lst ds=>
  obtain ⟨a,vs,e,h1,h2⟩:=zff r
  exact ⟨a,vs,ds,e,.inl ⟨h1,λ_ z=>by cases z⟩,h2,q⟩
 | scr ds=>
  obtain ⟨a,vs,e,h1,h2⟩:=zkE r
  exact ⟨a,vs,ds,e,.inl ⟨h1,λ_ z=>by cases z⟩,h2,q⟩
 | cel n=>
  have q':Fin K E ι H (M.bind (zaq n) f h) P:=q
  unfold M.bind at q'
  cases z:zaq n h with
  | bad=>rw [z] at q';exact qa0 q'
  | exc c h'=>unfold zaq at z;split at z<;>cases z
  | ok ds h'=>
   rw [z] at q'
   obtain ⟨rfl,z2⟩:=zc8 z
   obtain ⟨a,vs,e,hn,hH,rl⟩:=hr.read r z2
   exact ⟨a,vs,ds,e,.inl ⟨SqL.of hH,λ_ z=>by cases z⟩,rl,q'⟩
 | _=>exact qa0 q
theorem zpp {K:W.Frag} {H:Hp} {a:Addr} {vs:List V} {d:D} {ds:List D} (h:(SqL K H a vs/\ ∀ ts,d≠ .tup ts)\/(SqT K H a vs/\d= .tup ds)):SqL K H a vs\/SqT K H a vs:=h.imp And.left And.left
theorem zuu {K:W.Frag} {ι:Io} {H:Hp} {d:D} {xs:List V} (h:zaw K ι H [d] xs): ∃ v,xs=[v]/\Rel K ι H d v:=by
 simp only [zaw] at h
 obtain ⟨v,r,rfl,h1,rfl⟩:=h
 exact ⟨v,rfl,h1⟩
noncomputable def zoy {α:Type} (f:D->M α):List D->M α
 | [d]=>f d
 | _=>M.bad
theorem zdK {α:Type} {K:W.Frag} {ι:Io} {H:Hp} {h:Hh} {f:D->M α} {ds:List D} {xs:List V} {P:α->Io->Hp->Prop} (rl:zaw K ι H ds xs) (q:Fin K E ι H (zoy f ds h) P): ∃ d v,xs=[v]/\Rel K ι H d v/\Fin K E ι H (f d h) P:=by
 match ds,rl,q with
 | [d],rl,q=>
  obtain ⟨v,e,r⟩:=zuu rl
  exact ⟨d,v,e,r,q⟩
 | [],_,q=>exact qa0 q
 | _::_::_,_,q=>exact qa0 q
def zdG:List D->M D:=zoy λd=>do let ds<-zoJ d;pure (.int ds.length)
theorem zaI:zba X (.builtin "len") (zjt X.K E zdG):=by
 refine zba.imp zhb λxs H Q ⟨ι,h,ds,rl,hr,q⟩=> ?_
 obtain ⟨d,v,e,r,q⟩:=zdK rl q
 obtain ⟨a,vs,ds',e',hs,rl',q⟩:=ze3 hr r q
 exact ⟨a,vs,by rw [e,e'],zpp hs,Fin.out hr q _ (by rw [rl'.length];simp [Rel])⟩
def zbX:List D->M D:=zoy λd=>do let ds<-zoJ d;pure (.tup ds)
theorem zaU:zba X (.type "tuple") (zjt X.K E zbX):=by
 refine zba.imp zgt λxs H Q ⟨ι,h,ds,rl,hr,q⟩=> ?_
 obtain ⟨d,v,e,r,q⟩:=zdK rl q
 obtain ⟨a,vs,ds',e',hs,rl',q⟩:=ze3 hr r q
 refine ⟨a,vs,by rw [e,e'],?_⟩
 rcases hs with ⟨hs,_⟩ | ⟨hs,hd⟩
 ·exact .inl ⟨hs,λl hl=>ztN hr rl' q hl⟩
 ·exact .inr ⟨hs,Fin.out hr q _ (by rw [<- e', <-hd];exact r)⟩
def zu2:List D->M D:=zoy λd=>do let ds<-zoJ d;pure (.lst ds)
noncomputable def two2 (g:Int->Int->Int):List D->M D
 | [.int i,.int j]=>pure (.int (g i j))
 | _=>M.bad
theorem two2_inv {K:W.Frag} {ι:Io} {H:Hp} {h:Hh} {g:Int->Int->Int} {ds:List D} {xs:List V} {P:D->Io->Hp->Prop} (hr:zbo K ι H h) (rl:zaw K ι H ds xs) (q:Fin K E ι H (two2 g ds h) P): ∃ i j,xs=[.int i,.int j]/\P (.int (g i j)) ι H:=by
 unfold two2 at q
 split at q
 ·simp only [zaw,Rel] at rl
  obtain ⟨v,r,rfl,rfl,v',r',rfl,rfl,rfl⟩:=rl
  exact ⟨_,_,rfl,Fin.out hr q⟩
 ·exact qa0 q
def zqh:=two2 λi j=>if j>i then j else i
def zo3:=two2 λi j=>if j<i then j else i
theorem zj7 (hc:X.calm=true):zba X (.builtin "max") (zjt X.K E zqh):=by
 refine zba.imp (zkV hc) λxs H Q ⟨ι,h,ds,rl,hr,q⟩=> ?_
 obtain ⟨i,j,e,q⟩:=two2_inv hr rl q
 exact ⟨i,j,e,q _ (by simp [Rel])⟩
theorem zjK (hc:X.calm=true):zba X (.builtin "min") (zjt X.K E zo3):=by
 refine zba.imp (zk7 hc) λxs H Q ⟨ι,h,ds,rl,hr,q⟩=> ?_
 obtain ⟨i,j,e,q⟩:=two2_inv hr rl q
 exact ⟨i,j,e,q _ (by simp [Rel])⟩
noncomputable def znZ:List D->Option (List Bool)
 | []=>some []
 | .bl b::r=>(znZ r).map (b:: ·)
 | _=>none
noncomputable def zdY:List D->Option (List Int)
 | []=>some []
 | .int i::r=>(zdY r).map (i:: ·)
 | _=>none
theorem ziH {K:W.Frag} {ι:Io} {H:Hp}: ∀ {ds:List D} {vs:List V} {bs:List Bool},zaw K ι H ds vs->znZ ds=some bs->vs=bs.map V.bl
 | [],_,_,h,e=>by simp only [zaw] at h;subst h;cases e;rfl
 | d::ds,_,bs,h,e=>by
  simp only [zaw] at h
  obtain ⟨v,r,rfl,h1,h2⟩:=h
  cases d with
  | bl b=>
   unfold znZ at e
   cases z:znZ ds with
   | none=>rw [z] at e;cases e
   | some cs=>
    rw [z] at e
    cases e
    simp only [Rel] at h1
    rw [h1,ziH h2 z]
    rfl
  | _=>cases e
theorem zex {K:W.Frag} {ι:Io} {H:Hp}: ∀ {ds:List D} {vs:List V} {bs:List Int},zaw K ι H ds vs->zdY ds=some bs->vs=bs.map V.int
 | [],_,_,h,e=>by simp only [zaw] at h;subst h;cases e;rfl
 | d::ds,_,bs,h,e=>by
  simp only [zaw] at h
  obtain ⟨v,r,rfl,h1,h2⟩:=h
  cases d with
  | int b=>
   unfold zdY at e
   cases z:zdY ds with
   | none=>rw [z] at e;cases e
   | some cs=>
    rw [z] at e
    cases e
    simp only [Rel] at h1
    rw [h1,zex h2 z]
    rfl
  | _=>cases e
theorem Fin.ofOb {α β:Type} {K:W.Frag} {ι:Io} {H:Hp} {h:Hh} {o:Option α} {f:α->M β} {P:β->Io->Hp->Prop} (q:Fin K E ι H ((do let a<-L3.ofO o;f a) h) P): ∃ a,o=some a/\Fin K E ι H (f a h) P:=by
 cases o with
 | none=>exact qa0 q
 | some a=>exact ⟨a,rfl,q⟩
def zsU:List D->M D:=zoy λd=>match d with
 | .lst ds=>do let bs<-ofO (znZ ds);pure (.bl (bs.all id))
 | _=>M.bad
theorem zfh (hc:X.calm=true):zba X (.builtin "all") (zjt X.K E zsU):=by
 refine zba.imp (zmi hc) λxs H Q ⟨ι,h,ds,rl,hr,q⟩=> ?_
 obtain ⟨d,v,e,r,q⟩:=zdK rl q
 cases d with
 | lst ds=>
  obtain ⟨a,vs,e',h1,h2⟩:=zff r
  obtain ⟨bs,eb,q⟩:=Fin.ofOb q
  have:=ziH h2 eb
  subst this
  exact ⟨a,bs,by rw [e,e'],h1,Fin.out hr q _ (by simp [Rel])⟩
 | _=>exact qa0 q
def zum:List D->M D:=zoy λd=>match d with
 | .lst ds=>do let bs<-ofO (zdY ds);pure (.int bs.sum)
 | _=>M.bad
theorem zlu (hc:X.calm=true):zba X (.builtin "sum") (zjt X.K E zum):=by
 refine zba.imp (zkx hc) λxs H Q ⟨ι,h,ds,rl,hr,q⟩=> ?_
 obtain ⟨d,v,e,r,q⟩:=zdK rl q
 cases d with
 | lst ds=>
  obtain ⟨a,vs,e',h1,h2⟩:=zff r
  obtain ⟨bs,eb,q⟩:=Fin.ofOb q
  have:=zex h2 eb
  subst this
  exact ⟨a,bs,by rw [e,e'],h1,Fin.out hr q _ (by simp [Rel])⟩
 | _=>exact qa0 q
def zez:List D->M D:=zoy λd=>do
 let ds<-zoJ d
 let ns<-ofO (zdY ds)
 if ns.length<64 then pure (.lst ((zb2 ns).map D.int)) else M.bad
theorem zdC (hc:X.calm=true):zba X (.builtin "sorted") (zjt X.K E zez):=by
 refine zba.imp (zeS hc) λxs H Q ⟨ι,h,ds,rl,hr,q⟩=> ?_
 obtain ⟨d,v,e,r,q⟩:=zdK rl q
 obtain ⟨a,vs,ds',e',hs,rl',q⟩:=ze3 hr r q
 obtain ⟨ns,en,q⟩:=Fin.ofOb q
 have:=zex rl' en
 subst this
 obtain ⟨hl,q⟩:=Fin.guard q
 exact ⟨a,ns,by rw [e,e'],.inr ⟨⟨hl,zpp hs⟩,λl hl=>ztp hr (zc1.mpr rfl) q hl⟩⟩
def zct (d:D):M D:=do
 let ds<-zoJ d
 let ns<-ofO (zdY ds)
 if (ns.foldl step_dedup []).length<64/\ns.length<4000 then pure (.lst ((zdO ns).map D.int)) else M.bad
theorem zjZ {p1 p2 pos2:Pos} {f:Sd->M D} (hc:X.calm=true) (hg1:Gl X "sorted") (hm1:X.mg "sorted"=none) (hg2:Gl X "set") (hm2:X.mg "set"=none) (he:SE X E e f)
  (h1:starEach [.Call (.Name "set" p2) [e] [] pos2] X.env=[(false,eval (.Call (.Name "set" p2) [e] [] pos2) X.env)]:=by rfl) (h2:starEach [e] X.env=[(false,eval e X.env)]:=by rfl):
  SE X E (.Call (.Name "sorted" p1) [.Call (.Name "set" p2) [e] [] pos2] [] pos) (λsd=>do let d<-f sd;zct d):=by
 refine PE.imp (zgU (zeS hc) hg1 hm1 boot_sorted (zco (zej (zma hc) hg2 hm2 PyProof.Rows.boot_set (zco he zds h2) (he:=h2)) zds h1) (he:=h1)) λσ H Q ⟨ι,h,sd,L,hh,q⟩=>⟨ι,h,sd,L,hh,Fin.bind q λd h1 ι1 H1 e1 s1 hr1 q1 v rv=> ?_⟩
 obtain ⟨a,vs,ds',e',hs,rl',q2⟩:=ze3 hr1 rv q1
 obtain ⟨ns,en,q3⟩:=Fin.ofOb q2
 have:=zex rl' en
 subst this
 obtain ⟨hl,q4⟩:=Fin.guard q3
 refine ⟨a,ns,by rw [e'],zpp hs,hl.2,λp hp=> ?_⟩
 have hr2:zbo X.K ι1 (upd H1 p (zl4 X.prog X.w p ns)) h1:=hr1.laid hp
 exact ⟨p,ns,rfl,.inl ⟨⟨hl.1,za4⟩,λl hl'=>ztp hr2 (zc1.mpr rfl) (Fin.step (hr1.laidS hp) q4) hl'⟩⟩
end
def tyD:D->M String
 | .non=>pure "NoneType"
 | .bl _=>pure "bool"
 | .int _=>pure "int"
 | .str _=>pure "str"
 | .tup _=>pure "tuple"
 | .lst _=>pure "list"
 | .dct=>pure "dict"
 | .cel n=>do let _<-zaq n;pure "list"
 | _=>M.bad
def zkr:List String:=["NoneType","bool","int","str","tuple","list","dict"]
def isB (T t:String):Bool:=t==T || (t=="bool" && T=="int")
def zjT (T:String) (d:D):M D:=do let t<-tyD d;pure (.bl (isB T t))
def zjI (T:String):Prop:= ∀ (K:W.Frag), ∀ t∈zkr,W.kitOne K (.type t) (.type T)=some (isB T t)
def zvs (t T:String):Option Bool:=if ((Value.type t)==(Value.type T))=true then some true else if W.kitMeta T=true then (fastBuiltinMro t).map (·.contains (Value.type T)) else none
theorem zgA {T:String} (h:(zkr.all λt=>zvs t T==some (isB T t))=true):zjI T:=λK t ht=>by
 have:=all_eq_true.mp h t ht
 have e:W.kitOne K (.type t) (.type T)=zvs t T:=rfl
 rw [e]
 exact beq_iff_eq.mp this
theorem zpB:zjI "int":=zgA ⋯
theorem zm8:zjI "bool":=zgA ⋯
theorem zfm:zjI "tuple":=zgA ⋯
section
variable {X:Cx} {E:XE} {α:Type}
theorem zqi {K:W.Frag} {ι:Io} {H:Hp} {h:Hh} {d:D} {v:V} {f:String->M α} {P:α->Io->Hp->Prop} (hr:zbo K ι H h) (r:Rel K ι H d v) (q:Fin K E ι H ((do let t<-tyD d;f t) h) P):
  ∃ t,t∈zkr/\zjc K H v (.type t)/\Fin K E ι H (f t h) P:=by
 cases d with
 | non=>simp only [Rel] at r;subst r;exact ⟨_,by decide,.non,q⟩
 | bl b=>simp only [Rel] at r;subst r;exact ⟨_,by decide,.bl b,q⟩
 | int b=>simp only [Rel] at r;subst r;exact ⟨_,by decide,.int b,q⟩
 | str b=>simp only [Rel] at r;subst r;exact ⟨_,by decide,.str b,q⟩
 | tup ds=>
  simp only [Rel] at r
  obtain ⟨a,vs,e,h1,h2⟩:=r
  subst e
  exact ⟨_,by decide,.tup h1.1,q⟩
 | lst ds=>
  simp only [Rel] at r
  obtain ⟨a,vs,e,h1,h2⟩:=r
  subst e
  exact ⟨_,by decide,.lst h1.1,q⟩
 | dct=>
  simp only [Rel] at r
  obtain ⟨a,e,h1,h2⟩:=r
  subst e
  exact ⟨_,by decide,.dK h1,q⟩
 | cel n=>
  have q':Fin K E ι H (M.bind (zaq n) (λ_=>f "list") h) P:=by
   have e:(do let t<-tyD (.cel n);f t:M α)=(zaq n>>=λ_=>f "list"):=by
    show ((zaq n>>=λ_=>pure "list")>>=f)=_
    simp only [bind_assoc,pure_bind]
   rw [e] at q
   exact q
  unfold M.bind at q'
  cases z:zaq n h with
  | bad=>rw [z] at q';exact qa0 q'
  | exc c h'=>unfold zaq at z;split at z<;>cases z
  | ok ds h'=>
   rw [z] at q'
   obtain ⟨rfl,z2⟩:=zc8 z
   obtain ⟨a,vs,e,hn,hH,rl⟩:=hr.read r z2
   subst e
   exact ⟨_,by decide,.lst hH,q'⟩
 | _=>exact qa0 q
theorem zmu:zba X (.builtin "isinstance") (λxs H Q=> ∃ x t T b,xs=[x,.ty T]/\zjc X.K H x t/\W.kitOne X.K t (.type T)=some b/\Q (.bl b) H):=by
 intro pins s σ H xs us Q I r h
 obtain ⟨x,t,T,b,rfl,ty,e,q⟩:=h
 cases r with
 | cons r1 r2=>
  cases r2 with
  | cons r3 r4=>
   cases r4
   cases r3
   exact zkg I r1 ty e λtk=>⟨.bl b,H,I.tok tk,rfl,q⟩
theorem zts {a:Expr} {x:Str} {T:String} {p1 p2 pos:Pos} {fa:Sd->M D} (hk:zjI T) (hg:Gl X "isinstance") (hm:X.mg "isinstance"=none) (hgT:Gl X x) (hmT:X.mg x=none) (hvT:bootBuiltins x=some (.type T)) (ha:SE X E a fa)
  (hn:x≠"__name__":=by decide) (hd:(x==("__debug__":Str))=false:=by decide)
  (h1:starEach [a,.Name x p2] X.env=(false,eval a X.env)::starEach [.Name x p2] X.env:=by rfl) (h2:starEach [.Name x p2] X.env=[(false,eval (.Name x p2) X.env)]:=by rfl)
  (hpl:(backTo pos (starEach [.Name x p2] X.env)).any (·.1)=false:=by rfl):
  SE X E (.Call (.Name "isinstance" p1) [a,.Name x p2] [] pos) (λsd=>do let d<-fa sd;zjT T d):=by
 refine PE.imp (zgU zmu hg hm PyProof.Rows.boot_isinstance (zco ha (zco (zqd (v:= .ty T) hgT hmT hvT rfl hn hd) zds h2) h1) (he:=h1) (hpl:=hpl)) λσ H Q ⟨ι,h,sd,L,hh,q⟩=>⟨ι,h,sd,L,hh,Fin.bind q λd h1 ι1 H1 e1 s1 hr1 q1 v rv=> ?_⟩
 obtain ⟨t,ht,ty,q2⟩:=zqi hr1 rv q1
 exact ⟨v,.type t,T,isB T t,rfl,ty,hk X.K t ht,Fin.out hr1 q2 _ (by simp [Rel])⟩
noncomputable def zt5 (xs:List D) (lo hi:Option Int):List D:=(xs.drop (HT.sIx xs.length 0 lo)).take (HT.sIx xs.length xs.length hi - HT.sIx xs.length 0 lo)
def dSl (d:D) (lo hi:Option Int):M D:=match d with
 | .tup ds=>pure (.tup (zt5 ds lo hi))
 | .lst ds=>pure (.lst (zt5 ds lo hi))
 | _=>M.bad
def ztY:Sd->M (Option Int):=λ_=>pure none
def zpF:D->M (Option Int)
 | .int i=>pure (some i)
 | _=>M.bad
def ztT (f:Sd->M D):Sd->M (Option Int):=λsd=>do let d<-f sd;zpF d
def cSl (f:Sd->M D) (lo hi:Sd->M (Option Int)):Sd->M D:=λsd=>do let d<-f sd;let l<-lo sd;let u<-hi sd;dSl d l u
def zvD:D->M D
 | .tup ds=>pure (.tup ds.reverse)
 | _=>M.bad
def zj9 (x y:D):M D:=match x,y with
 | .int i,.int j=>if (zbA i || zbA j)=true then pure (.int (i*j)) else M.bad
 | .tup xs,.int k=>if xs≠[]/\2<=k/\k<1000/\xs.length*k.toNat<=sizeLine then pure (.tup (replicate k.toNat xs).flatten) else M.bad
 | _,_=>M.bad
theorem zaw.rep {K:W.Frag} {ι:Io} {H:Hp} {ds:List D} {vs:List V} (h:zaw K ι H ds vs): ∀ n,zaw K ι H (replicate n ds).flatten (replicate n vs).flatten
 | 0=>zaw.nil
 | n+1=>by
  rw [replicate_succ,replicate_succ,flatten_cons,flatten_cons]
  exact zaw.append h (zaw.rep h n)
theorem zd4:OpR X (binaryOp .Mult) (zdI X.K E zj9):=by
 refine OpR.imp (zrv.or zpd) λx y H Q ⟨ι,h,d1,d2,r1,r2,hr,q⟩=> ?_
 unfold zj9 at q
 split at q
 ·simp only [Rel] at r1 r2
  obtain ⟨c,q⟩:=Fin.guard q
  refine .inl ⟨_,_,r1,r2,?_,Fin.out hr q _ (by simp [Rel])⟩
  rcases (Bool.or_eq_true _ _).mp c with z | z
  ·exact .inl (zdg z)
  ·exact .inr (zdg z)
 ·simp only [Rel] at r2
  obtain ⟨a,vs,e,k1,k2⟩:=zdS r1
  obtain ⟨⟨c1,c2,c3,c4⟩,q⟩:=Fin.guard q
  refine .inr ⟨a,_,vs,e,r2,k1,λz=>c1 ?_,c2,c3,by rw [<- k2.length];exact c4,λp hp=>ztN hr (k2.rep _) q hp⟩
  subst z
  exact List.eq_nil_of_length_eq_zero k2.length
 ·exact qa0 q
mutual
noncomputable def pdH (h:Hh):D->Option PyData
 | .non=>some .none
 | .bl b=>some (.bool b)
 | .int i=>some (.int i)
 | .str x=>some (.str x)
 | .tup xs=>(zjM h xs).map .tuple
 | .lst xs=>(zjM h xs).map .list
 | .cel n=>match h[n]? with
  | some (.lst ds)=>(pdL ds).map .list
  | _=>none
 | _=>none
noncomputable def zjM (h:Hh):List D->Option (List PyData)
 | []=>some []
 | x::xs=>match pdH h x,zjM h xs with
  | some a,some r=>some (a::r)
  | _,_=>none
end
mutual
theorem zhr {pins:List (Addr×Obj)} {σ:L2.St} {H:Hp} {s:Shared} {ι:Io} {h:Hh} (I:Inv X pins σ H s) (hr:zbo X.K ι H h): ∀ {d:D} {v:V} {u:Value} {p:PyData},Rel X.K ι H d v->zcc v u->pdH h d=some p-> ∃ as,Reads s.heap u p as
 | .non,v,u,p,r,ru,e=>by simp only [Rel] at r;subst r;cases ru;simp only [pdH] at e;cases e;exact ⟨_,.none⟩
 | .bl b,v,u,p,r,ru,e=>by simp only [Rel] at r;subst r;cases ru;simp only [pdH] at e;cases e;exact ⟨_,.bool _⟩
 | .int i,v,u,p,r,ru,e=>by simp only [Rel] at r;subst r;obtain ⟨t,rfl⟩:=ru;simp only [pdH] at e;cases e;exact ⟨_,.int _ _⟩
 | .str i,v,u,p,r,ru,e=>by simp only [Rel] at r;subst r;obtain ⟨t,rfl⟩:=ru;simp only [pdH] at e;cases e;exact ⟨_,.str _ _⟩
 | .tup ds,v,u,p,r,ru,e=>by
  obtain ⟨a,vs,rfl,h1,h2⟩:=zdS r
  cases ru
  obtain ⟨its,rv,pl,_⟩:=I.tuple h1
  obtain ⟨o,ho,hc,n,hd⟩:=pl
  simp only [pdH] at e
  cases z:zjM h ds with
  | none=>rw [z] at e;cases e
  | some ps=>
   rw [z] at e;cases e
   obtain ⟨as,q⟩:=zh6 I hr h2 rv z
   exact ⟨_,.tuple ho hc hd (by simpa using q)⟩
 | .lst ds,v,u,p,r,ru,e=>by
  obtain ⟨a,vs,rfl,h1,h2⟩:=zff r
  cases ru
  obtain ⟨its,rv,pl,_⟩:=I.list h1
  obtain ⟨o,ho,hc,n,hd⟩:=pl.isList
  simp only [pdH] at e
  cases z:zjM h ds with
  | none=>rw [z] at e;cases e
  | some ps=>
   rw [z] at e;cases e
   obtain ⟨as,q⟩:=zh6 I hr h2 rv z
   exact ⟨_,.list ho hc hd (by simpa using q)⟩
 | .cel m,v,u,p,r,ru,e=>by
  simp only [pdH] at e
  cases z0:h[m]? with
  | none=>rw [z0] at e;cases e
  | some c=>
   rw [z0] at e
   cases c with
   | dit ks=>cases e
   | ins _ _=>cases e
   | dead=>cases e
   | dic _=>cases e
   | lst ds=>
    obtain ⟨a,vs,rfl,hn,hH,rl⟩:=hr.read r z0
    cases ru
    obtain ⟨its,rv,pl,_⟩:=I.list (SqL.of hH)
    obtain ⟨o,ho,hc,n,hd⟩:=pl.isList
    cases z:pdL ds with
    | none=>simp only [z] at e;cases e
    | some ps=>
     simp only [z] at e;cases e
     obtain ⟨as,q⟩:=zhp I rl rv z
     exact ⟨_,.list ho hc hd (by simpa using q)⟩
 | .scr ds,_,_,_,_,_,e=>by simp only [pdH] at e;cases e
 | .set xs,_,_,_,_,_,e=>by simp only [pdH] at e;cases e
 | .dct,_,_,_,_,_,e=>by simp only [pdH] at e;cases e
 | .fn _,_,_,_,_,_,e=>by simp only [pdH] at e;cases e
 | .exn _,_,_,_,_,_,e=>by simp only [pdH] at e;cases e
theorem zh6 {pins:List (Addr×Obj)} {σ:L2.St} {H:Hp} {s:Shared} {ι:Io} {h:Hh} (I:Inv X pins σ H s) (hr:zbo X.K ι H h): ∀ {ds:List D} {vs:List V} {us:List Value} {ps:List PyData},zaw X.K ι H ds vs->zby vs us->zjM h ds=some ps-> ∃ as,ReadsAll s.heap us ps as
 | [],vs,us,ps,r,ru,e=>by simp only [zaw] at r;subst r;cases ru;simp only [zjM] at e;cases e;exact ⟨_,.nil⟩
 | d::ds,vs,us,ps,r,ru,e=>by
  simp only [zaw] at r
  obtain ⟨v,vr,rfl,r1,r2⟩:=r
  cases ru with
  | cons ru1 ru2=>
   simp only [zjM] at e
   cases z:pdH h d with
   | none=>rw [z] at e;cases e
   | some a=>
    cases z2:zjM h ds with
    | none=>rw [z,z2] at e;cases e
    | some b=>
     rw [z,z2] at e
     cases e
     obtain ⟨as,q1⟩:=zhr I hr r1 ru1 z
     obtain ⟨bs,q2⟩:=zh6 I hr r2 ru2 z2
     exact ⟨_,.cons q1 q2⟩
end
noncomputable def zst (x y:D):M D:=λh=>match pdH h x,pdH h y with
 | some a,some b=>if zgY a b=true then .ok (.bl (PyData.eqv a b)) h else .bad
 | _,_=> .bad
theorem zq9 (hu:X.A.units+60<cLine):OpR X (compareOp .Eq) (zdI X.K E zst):=by
 intro pins s σ H x y v u Q I rx ry ⟨ι,h,d1,d2,r1,r2,hr,q⟩
 unfold zst at q
 cases e1:pdH h d1 with
 | none=>rw [e1] at q;exact qa0 q
 | some a=>
  cases e2:pdH h d2 with
  | none=>rw [e1,e2] at q;exact qa0 q
  | some b=>
   rw [e1,e2] at q
   dsimp only at q
   by_cases c:zgY a b=true
   ·rw [qa4 c] at q
    obtain ⟨c1,c2,c3⟩:=ze8 c
    obtain ⟨as,ra⟩:=zhr I hr r1 rx e1
    obtain ⟨bs,rb⟩:=zhr I hr r2 ry e2
    exact SeqAt.compareEq_reads ra rb c1 c2 ⋯ ⟨.bl _,H,I,rfl,q ι H (zb1.refl _ _) hr (.bl _) (by simp [Rel])⟩
   ·rw [qa5 c] at q
    exact qa0 q
end
abbrev FE:=Sd->M D
abbrev FT:=Sd->M Bool
abbrev FA:=Sd->M (List D)
abbrev FS:=Sd->M Out
def cOp (F:D->D->M D) (a b:FE):FE:=λsd=>do let x<-a sd;let y<-b sd;F x y
def cUn (F:D->M D) (a:FE):FE:=λsd=>do let x<-a sd;F x
def zaB (F:List D->M D) (a:FA):FE:=λsd=>do let ds<-a sd;F ds
def zdn (F:D->D->M D) (a b:FE):FT:=λsd=>do let z<-(do let x<-a sd;let y<-b sd;F x y);zdw z
def zfW (a:FE):FT:=λsd=>do let x<-a sd;zdw x
def zge (t:FT):FT:=λsd=>do let c<-t sd;pure (!c)
def zqg (t u:FT):FT:=λsd=>do let c<-t sd;if c=true then u sd else pure false
def tOr (t u:FT):FT:=λsd=>do let c<-t sd;if c=true then pure true else u sd
def zmF (a b:FE):FE:=λsd=>do let c<-(do let x<-a sd;zdw x);if c=true then b sd else pure (.bl false)
def cOr (a b:FE):FE:=λsd=>do let c<-(do let x<-a sd;zdw x);if c=true then pure (.bl true) else b sd
def zqL (a:FE):FE:=λsd=>do let c<-(do let x<-a sd;zdw x);pure (.bl (!c))
def cIf (t:FT) (a b:FE):FE:=λsd=>do let c<-t sd;if c=true then a sd else b sd
def cK (d:D):FE:=λ_=>pure d
def zar:FA:=λ_=>pure []
def zac (a:FE) (r:FA):FA:=λsd=>do let x<-a sd;let r<-r sd;pure (x::r)
def zd9 (fs:FA):FE:=λsd=>do let ds<-fs sd;fits ds.length;pure (.tup ds)
def zly (fs:FA):FE:=λsd=>do let ds<-fs sd;fits ds.length;pure (.lst ds)
def zhw (fs:FA):FE:=λsd=>do let ds<-fs sd;fits ds.length;zbq ds
def zeK:FS:=λsd=>pure (.nx sd)
def zas (g g':FS):FS:=λsd=>do let o<-g sd;zfr o g'
def zbs (i:Nat) (f:FE):FS:=λsd=>do let d<-f sd;pure (.nx (sd.set i (some d)))
def zbF (f:FE):FS:=λsd=>do let d<-f sd;pure (.rt d)
def sIf (t:FT) (g g':FS):FS:=λsd=>do let c<-t sd;if c=true then g sd else g' sd
def zhf (fi:FA) (g:D->Sd->M Sd) (gb:FS):FS:=λsd=>do let ds<-fi sd;za2 (λx sd=>do let sd1<-g x sd;gb sd1) ds sd
def zmj (f:FE) (g:D->Sd->M Sd):FS:=λsd=>do let d<-f sd;let sd'<-g d sd;pure (.nx sd')
def zhC (f:FE):FS:=λsd=>do let _<-f sd;pure (.nx sd)
def iSq (f:FE):FA:=λsd=>do let d<-f sd;zdu d
def zei (fs:FA):FA:=λsd=>do let ds<-fs sd;zir ds
def zjY (fo fi:FE):D->Sd->M Sd:=λd sd=>do let x<-fo sd;let y<-fi sd;zkA x y d;pure sd
section
variable {X:Cx} {E:XE} {a b e c:Expr} {es:List Expr} {pos p p1 p2:Pos} {fa fb f:FE} {fs:FA} {x:Str}
theorem zab (i:Nat) (hN:X.N[i]? = some x:=by rfl) (hv:Vis X.env.scope x:=by first | exact Or.inl rfl | exact Or.inr (Or.inl rfl) | exact Or.inr (Or.inr rfl)) (hd:(x==("__debug__":Str))=false:=by decide) (hcd:(x==("__classdict__":Str))=false:=by decide):SE X E (.Name x pos) (zae i):=zrF i hN hv hd hcd
theorem zah {i:Int} {j:Nat}:SE X E (.Constant (.int i) j pos) (cK (.int i)):=zsc
theorem zh8 {i:Bool} {j:Nat}:SE X E (.Constant (.bool i) j pos) (cK (.bl i)):=zu6
theorem zh4 {j:Nat}:SE X E (.Constant .none j pos) (cK .non):=zsK
theorem zbe {op:Operator} {F:D->D->M D} (ho:OpR X (binaryOp op) (zdI X.K E F)) (ha:SE X E a fa) (hb:SE X E b fb):SE X E (.BinOp a op b pos) (cOp F fa fb):=zu9 ho ha hb
theorem zeZ {op:CmpOp} {F:D->D->M D} (ho:OpR X (compareOp op) (zdI X.K E F)) (ha:SE X E a fa) (hb:SE X E b fb) (hm:behindInMarks op b=false:=by rfl):SE X E (.Compare a [op] [b] pos) (cOp F fa fb):=ztz ho ha hb hm
theorem zaX {op:CmpOp} {F:D->D->M D} (ho:OpR X (compareOp op) (zdI X.K E F)) (ha:SE X E a fa) (hb:SE X E b fb) (hm:behindInMarks op b=false:=by rfl):ST X E (.Compare a [op] [b] pos) (zdn F fa fb):=zsY ho ha hb hm
theorem zaQ (ha:SE X E a fa) (hb:SE X E b fb) (hs:ziA b:=by intro _ _;rfl):SE X E (.Subscript a b pos) (cOp dIx fa fb):=zt9 zv3 ha hb hs
theorem zjR (ha:SE X E a fa):SE X E (.UnaryOp .USub a pos) (cUn zm3 fa):=zrK ha
theorem znr (ha:SE X E a fa):SE X E (.UnaryOp .Not a pos) (zqL fa):=zsf ha
theorem zhn {op:BoolOp} (h:SE X E a fa):SE X E (.BoolOp op [a] pos) fa:=ztj h
theorem zie {zbz:List Expr} (ha:SE X E a fa) (hb:SE X E (.BoolOp .And (b::zbz) pos) fb):SE X E (.BoolOp .And (a::b::zbz) pos) (zmF fa fb):=zq2 ha hb
theorem zvV {zbz:List Expr} (ha:SE X E a fa) (hb:SE X E (.BoolOp .Or (b::zbz) pos) fb):SE X E (.BoolOp .Or (a::b::zbz) pos) (cOr fa fb):=zu4 ha hb
theorem zbU (h:SE X E e f) (he: ∀ whole,isTrue e X.env whole=(do let v<-whole;standAt e.pos;holding [v] (truthy v)):=by intro _;rfl):ST X E e (zfW f):=zsz h he
theorem zcr {t:FT} (ha:ST X E a t):ST X E (.UnaryOp .Not a pos) (zge t):=zqZ ha
theorem zid {t:FT} (ha:ST X E a t):PW X (.BoolOp .And [a] pos) (zfZ X.K E t):=zo6 ha
theorem zem {t:FT} (ha:ST X E a t):PW X (.BoolOp .Or [a] pos) (zfZ X.K E t):=zrf ha
theorem zkM {zbz:List Expr} {t u:FT} (ha:ST X E a t) (hb:PW X (.BoolOp .And (b::zbz) pos) (zfZ X.K E u)):PW X (.BoolOp .And (a::b::zbz) pos) (zfZ X.K E (zqg t u)):=zrY ha hb
theorem zfz {zbz:List Expr} {t u:FT} (ha:ST X E a t) (hb:PW X (.BoolOp .Or (b::zbz) pos) (zfZ X.K E u)):PW X (.BoolOp .Or (a::b::zbz) pos) (zfZ X.K E (tOr t u)):=zuM ha hb
theorem zck {op:BoolOp} {vs:List Expr} {t:FT} (h:PW X (.BoolOp op vs pos) (zfZ X.K E t)):ST X E (.BoolOp op vs pos) t:=zpI h
theorem zpH {t:FT} (hc:ST X E c t) (ha:SE X E a fa) (hb:SE X E b fb):SE X E (.IfExp c a b pos) (cIf t fa fb):=zmv hc ha hb
theorem zl6 {env:Env} (h: ∀ v p,e≠ .Starred v p):starEach (e::es) env=(false,eval e env)::starEach es env:=by
 cases e<;>first | rfl | exact absurd rfl (h _ _)
theorem zad:SA X E [] zar:=zqW
theorem zaa (ha:SE X E e fa) (hr:SA X E es fs) (hs:starEach (e::es) X.env=(false,eval e X.env)::starEach es X.env:=by exact zl6 (λ_ _ z=>nomatch z)):SA X E (e::es) (zac fa fs):=zpQ ha hr hs
theorem zbV {k} (h:SA X E es fs):SE X E (.Tuple es k pos) (zd9 fs):=zrU h
theorem zgy (h:SA X E es fs):SE X E (.List es pos) (zly fs):=zrz h
theorem zgg (h:SA X E es fs):SE X E (.List es pos) (zhw fs):=zql h
theorem zaK {id:String} {F:List D->M D} (hc:zba X (.builtin id) (zjt X.K E F)) (hv:bootBuiltins x=some (.builtin id)) (hm:X.mg x=none) (ha:SA X E (e::es) fs) (hg:Gl X x:=by rfl) (hn:x≠"__name__":=by decide) (hdb:(x==("__debug__":Str))=false:=by decide)
  (he:starEach (e::es) X.env=(false,eval e X.env)::starEach es X.env:=by rfl) (hpl:(backTo pos (starEach es X.env)).any (·.1)=false:=by rfl):SE X E (.Call (.Name x p) (e::es) [] pos) (zaB F fs):=znv hc hg hm hv ha hn hdb he hpl
theorem zbi {T:String} {F:List D->M D} (hc:zba X (.type T) (zjt X.K E F)) (hv:bootBuiltins x=some (.type T)) (hm:X.mg x=none) (ha:SA X E (e::es) fs) (hg:Gl X x:=by rfl) (hn:x≠"__name__":=by decide) (hdb:(x==("__debug__":Str))=false:=by decide)
  (he:starEach (e::es) X.env=(false,eval e X.env)::starEach es X.env:=by rfl) (hpl:(backTo pos (starEach es X.env)).any (·.1)=false:=by rfl):SE X E (.Call (.Name x p) (e::es) [] pos) (zaB F fs):=zlG hc hg hm hv ha hn hdb he hpl
theorem zkI {T:String} (hk:zjI T) (hvT:bootBuiltins x=some (.type T)) (hm:X.mg "isinstance"=none) (hmT:X.mg x=none) (ha:SE X E a fa) (hg:Gl X "isinstance":=by rfl) (hgT:Gl X x:=by rfl)
  (hn:x≠"__name__":=by decide) (hd:(x==("__debug__":Str))=false:=by decide)
  (h1:starEach [a,.Name x p2] X.env=(false,eval a X.env)::starEach [.Name x p2] X.env:=by rfl) (h2:starEach [.Name x p2] X.env=[(false,eval (.Name x p2) X.env)]:=by rfl)
  (hpl:(backTo pos (starEach [.Name x p2] X.env)).any (·.1)=false:=by rfl):SE X E (.Call (.Name "isinstance" p1) [a,.Name x p2] [] pos) (cUn (zjT T) fa):=zts hk hg hm hgT hmT hvT ha hn hd h1 h2 hpl
theorem zhN {pos2:Pos} (hc:X.calm=true) (hm1:X.mg "sorted"=none) (hm2:X.mg "set"=none) (he:SE X E e f) (hg1:Gl X "sorted":=by rfl) (hg2:Gl X "set":=by rfl)
  (h1:starEach [.Call (.Name "set" p2) [e] [] pos2] X.env=[(false,eval (.Call (.Name "set" p2) [e] [] pos2) X.env)]:=by rfl) (h2:starEach [e] X.env=[(false,eval e X.env)]:=by rfl):
  SE X E (.Call (.Name "sorted" p1) [.Call (.Name "set" p2) [e] [] pos2] [] pos) (cUn zct f):=zjZ hc hg1 hm1 hg2 hm2 he h1 h2
theorem zak {k:Nat} {g:Addr} {fd:FuncData} {ps:List Str} {n:Nat} {F:List D->M D} (G:zbP X.prog X.w X.K X.mg X.base CX0 k g fd ps (zbY X.K n F)) (hr:zfN k X.A) (hm:X.mg x=some (.ref g)) (hk:W.keepIn X.K (.ref g)=true) (hb:zaS X.K fd ps [])
  (ha:SA X E0x (e::es) fs) (hg:Gl X x:=by rfl) (hdb:(x==("__debug__":Str))=false:=by decide) (he:starEach (e::es) X.env=(false,eval e X.env)::starEach es X.env:=by rfl) (hpl:(backTo pos (starEach es X.env)).any (·.1)=false:=by rfl):
  SE X E0x (.Call (.Name x p) (e::es) [] pos) (zaB (zav n F) fs):=zqt G hr hg hm hk hb ha hdb he hpl
theorem zbm:SSs X E [] zeK:=zso
theorem zai {st:Stmt} {g:FS} (h1:SS X E st g):SSs X E [st] g:=zq4 h1
theorem zag {st:Stmt} {zbz:List Stmt} {g g':FS} (h1:SS X E st g) (h2:SSs X E zbz g'):SSs X E (st::zbz) (zas g g'):=zpU h1 h2
theorem zaM (he:SE X E e f):SS X E (.Return (some e) pos) (zbF f):=zun he
theorem zeV {ys ns:List Stmt} {t:FT} {g g':FS} (hc:ST X E c t) (ha:SSs X E ys g) (hb:SSs X E ns g'):SS X E (.If c ys ns pos) (sIf t g g'):=zv2 hc ha hb
theorem zgh (he:SE X E e f) (hs:swapsWith e none pos.line X.env=pure false:=by rfl):SS X E (.Expr e pos) (zhC f):=ztt he hs
theorem zaG (i:Nat) (hN:X.N.Nodup) (he:SE X E e f) (hi:X.N[i]? = some x:=by rfl) (hx:Loc X.env.scope x:=by first | exact Or.inl rfl | exact Or.inr rfl) (hf:X.fn x=true\/X.env.scope.names.lookup x=some .local:=by first | exact Or.inl rfl | exact Or.inr rfl)
  (hs:swapsWith e (some (.Name x p)) pos.line X.env=pure false:=by rfl):SS X E (.Assign [.Name x p] e pos) (zbs i f):=zur i hN hi hx hf he hs
theorem zgD {tg:Expr} {g:D->Sd->M Sd} (he:SE X E e f) (hg:SG X E tg g) (hs:swapsWithSole [tg] e pos.line X.env=pure false:=by rfl) (hw:swappedStores [tg] e X.env=pure none:=by rfl)
  (h1:(assignEach [tg] X.env).map (·.2)=[assign tg X.env]:=by rfl):SS X E (.Assign [tg] e pos) (zmj f g):=zve he hg hs hw h1
theorem zam (i:Nat) (hN:X.N.Nodup) (hi:X.N[i]? = some x:=by rfl) (hx:Loc X.env.scope x:=by first | exact Or.inl rfl | exact Or.inr rfl) (hf:X.fn x=true\/X.env.scope.names.lookup x=some .local:=by first | exact Or.inl rfl | exact Or.inr rfl):SG X E (.Name x pos) (zaC i):=zpT i hN hi hx hf
theorem zbK:SGs X E [] zbp:=zqr
theorem zaz {g:D->Sd->M Sd} {gs:List D->Sd->M Sd} (h1:SG X E e g) (h2:SGs X E es gs) (hs:(assignEach (e::es) X.env).map (·.2)=assign e X.env::(assignEach es X.env).map (·.2):=by rfl):SGs X E (e::es) (zat g gs):=zny h1 h2 hs
theorem zcE {k n:Nat} {gs:List D->Sd->M Sd} (hc:X.calm=true) (h:SGs X E es gs) (hn:(assignEach es X.env).length=n:=by rfl) (hst:(assignEach es X.env).findIdx? (·.1)=none:=by rfl):SG X E (.Tuple es k pos) (zbn n gs):=ztk hc h hn hst
theorem zjq (ho:SE X E a fa) (hi:SE X E b fb) (ha: ∀ v,assign (.Subscript a b pos) X.env v=(do
      let ov<-holding [v] (eval a X.env)
      let iv<-holding [v,ov] (eval b X.env)
      standAt pos
      holding [v,ov,iv] (setItem ov iv v)
      release [v,ov,iv] []):=by intro _;rfl):SG X E (.Subscript a b pos) (zjY fa fb):=zrk λhs=>zr3 ho hi hs ha
theorem zdo {tg:Expr} (he:SE X E e f):SI X E tg e (iSq f):=zsp he
theorem zda {tg:Expr} (hm:X.mg "range"=none) (ha:SA X E [a] fs) (hg:Gl X "range":=by rfl) (hs:starEach [a] X.env=[(false,eval a X.env)]:=by rfl):SI X E tg (.Call (.Name "range" p) [a] [] pos) (zei fs):=zpO hg hm ha hs
theorem zdZ {tg iter:Expr} {body:List Stmt} {fi:FA} {g:D->Sd->M Sd} {gb:FS} (hc:X.calm=true) (hp:PassesOwn (model X.prog X.w) X.A X.env X.xe) (hi:SI X E tg iter fi) (hg:SG X E tg g) (hb:SSs X E body gb)
  (hs: ∀ x,foldedSetIterable iter X.env x=pure x:=by intro _;rfl):SS X E (.For tg iter body [] pos) (zhf fi g gb):=zuD hc hp hi hg hb hs
theorem zbu:SCs X E [] (λ_=>pure true):=zsu
theorem zf8 {t:FT} (h:ST X E c t):SCs X E [c] t:=zs7 h
theorem zbt {scope:Scope} {N:List Str} {src:List (Option Nat)} {tg iter elt:Expr} {ifs:List Expr} {fi:FA} {g:D->Sd->M Sd} {tc:FT} {te:FE} (hc:X.calm=true) (B:BOk X scope N src) (hk:zaD g src) (hi:SI X E tg iter fi)
  (hg: ∀ s H fp,SG (cxB X scope N s H fp) E tg g) (ht: ∀ s H fp,SCs (cxB X scope N s H fp) E ifs tc) (he: ∀ s H fp,SE (cxB X scope N s H fp) E elt te)
  (hs: ∀ x,foldedSetIterable iter X.env x=pure x:=by intro _;rfl):SE X E (.ListComp elt [⟨tg,iter,ifs,0⟩] scope pos) (zaH fi g tc te src):=zqJ B hk hi hg ht he hs
theorem zet {scope:Scope} {N:List Str} {src:List (Option Nat)} {tg iter elt:Expr} {ifs:List Expr} {fi:FA} {g:D->Sd->M Sd} {tc:FT} {te:FE} (i:Nat) {y:Str} {py spos:Pos} (hc:X.calm=true) (hN:X.N.Nodup) (B:BOk X scope N src) (hk:zaD g src) (hi:SI X E tg iter fi)
  (hg: ∀ s H fp,SG (cxB X scope N s H fp) E tg g) (ht: ∀ s H fp,SCs (cxB X scope N s H fp) E ifs tc) (he: ∀ s H fp,SE (cxB X scope N s H fp) E elt te)
  (hy:X.N[i]? = some y:=by rfl) (hx:Loc X.env.scope y:=by first | exact Or.inl rfl | exact Or.inr rfl) (hf:X.fn y=true\/X.env.scope.names.lookup y=some .local:=by first | exact Or.inl rfl | exact Or.inr rfl) (hsw:swapsWith (.ListComp elt [⟨tg,iter,ifs,0⟩] scope pos) (some (.Name y py)) spos.line X.env=pure true:=by rfl)
  (hs: ∀ x,foldedSetIterable iter X.env x=pure x:=by intro _;rfl):SS X E (.Assign [.Name y py] (.ListComp elt [⟨tg,iter,ifs,0⟩] scope pos) spos) (zbs i (zaH fi g tc te src)):=zlp i B hk hi hg ht he hN hy hx hf hsw hs
end
theorem zbo.empty {K:W.Frag} {H:Hp}:zbo K ⟨[],[]⟩ H []:=⟨rfl,λm n a h=>by simp at h,λn a c h=>by simp at h,λn h=>by simp at h,λa h=>by cases h⟩
theorem zt4 {K:W.Frag} {F:List D->M D} {H:Hp} {a:Addr} {ns:List Int} (hS:SqL K H a (ns.map V.int)) (hm: ∃ h',F [.scr (ns.map D.int)] []= .ok (.bl true) h'):zbY K 1 F [.ref a] H (λv _=>v= .bl true) λ_ _ _=>False:=by
 obtain ⟨h',e⟩:=hm
 refine ⟨rfl,⟨[],[]⟩,[],[.scr (ns.map D.int)],zaw.cons ?_ zaw.nil,zbo.empty,?_⟩
 ·simp only [Rel]
  refine ⟨a,ns.map V.int,rfl,?_,zc1.mpr rfl⟩
  rcases hS with h | h
  ·exact .inl ⟨h,λz=>by rcases z with z | z<;>cases z⟩
  ·exact .inr (.inr h)
 ·rw [e]
  intro ι1 H1 s hr v rv
  simpa [Rel] using rv
section
variable {sd:Sd} {a b:FE} {fs:FA} {t u:FT} {g g':FS} {F:D->D->M D}
@[simp] theorem zcB:cOp F a b sd=(do let x<-a sd;let y<-b sd;F x y):=rfl
@[simp] theorem zm4 {F:D->M D}:cUn F a sd=(do let x<-a sd;F x):=rfl
@[simp] theorem zbx {F:List D->M D}:zaB F fs sd=(do let ds<-fs sd;F ds):=rfl
@[simp] theorem zev:zdn F a b sd=(do let z<-(do let x<-a sd;let y<-b sd;F x y);zdw z):=rfl
@[simp] theorem zji:zfW a sd=(do let x<-a sd;zdw x):=rfl
@[simp] theorem ziK:zge t sd=(do let c<-t sd;pure (!c)):=rfl
@[simp] theorem zoq:zqg t u sd=(do let c<-t sd;if c=true then u sd else pure false):=rfl
@[simp] theorem zqD:tOr t u sd=(do let c<-t sd;if c=true then pure true else u sd):=rfl
@[simp] theorem znU:zmF a b sd=(do let c<-(do let x<-a sd;zdw x);if c=true then b sd else pure (.bl false)):=rfl
@[simp] theorem zt7:cOr a b sd=(do let c<-(do let x<-a sd;zdw x);if c=true then pure (.bl true) else b sd):=rfl
@[simp] theorem zog:zqL a sd=(do let c<-(do let x<-a sd;zdw x);pure (.bl (!c))):=rfl
@[simp] theorem zus:cIf t a b sd=(do let c<-t sd;if c=true then a sd else b sd):=rfl
@[simp] theorem zeY {d:D}:cK d sd=pure d:=rfl
@[simp] theorem za3:zar sd=pure []:=rfl
@[simp] theorem zaO:zac a fs sd=(do let x<-a sd;let r<-fs sd;pure (x::r)):=rfl
@[simp] theorem zf2:zd9 fs sd=(do let ds<-fs sd;fits ds.length;pure (.tup ds)):=rfl
@[simp] theorem zi7:zly fs sd=(do let ds<-fs sd;fits ds.length;pure (.lst ds)):=rfl
@[simp] theorem zgO:zhw fs sd=(do let ds<-fs sd;fits ds.length;zbq ds):=rfl
@[simp] theorem zeU:zeK sd=pure (.nx sd):=rfl
@[simp] theorem za5:zas g g' sd=(do let o<-g sd;zfr o g'):=rfl
@[simp] theorem zcX {i:Nat}:zbs i a sd=(do let d<-a sd;pure (.nx (sd.set i (some d)))):=rfl
@[simp] theorem zc3:zbF a sd=(do let d<-a sd;pure (.rt d)):=rfl
@[simp] theorem zgp:sIf t g g' sd=(do let c<-t sd;if c=true then g sd else g' sd):=rfl
@[simp] theorem zg7 {fi:FA} {gt:D->Sd->M Sd}:zhf fi gt g sd=(do let ds<-fi sd;za2 (λx sd=>do let sd1<-gt x sd;g sd1) ds sd):=rfl
@[simp] theorem zjm {gt:D->Sd->M Sd}:zmj a gt sd=(do let d<-a sd;let sd'<-gt d sd;pure (.nx sd')):=rfl
@[simp] theorem ziq:zhC a sd=(do let _<-a sd;pure (.nx sd)):=rfl
@[simp] theorem zpm:iSq a sd=(do let d<-a sd;zdu d):=rfl
@[simp] theorem zhJ:zei fs sd=(do let ds<-fs sd;zir ds):=rfl
@[simp] theorem zgN {d:D}:zjY a b d sd=(do let x<-a sd;let y<-b sd;zkA x y d;pure sd):=rfl
@[simp] theorem zdl {i:Nat} {d:D}:zaC i d sd=pure (sd.set i (some d)):=rfl
@[simp] theorem zgn:zfr (.nx sd) g=g sd:=rfl
@[simp] theorem ztG {d:D}:zfr (.rt d) g=pure (.rt d):=rfl
@[simp] theorem zu8:zcj (.nx sd)=pure .non:=rfl
@[simp] theorem zgJ {d:D}:zcj (.rt d)=pure d:=rfl
@[simp] theorem zdk {c:Bool}:zdw (.bl c)=pure c:=rfl
@[simp] theorem zue {lo hi:Sd->M (Option Int)}:cSl a lo hi sd=(do let d<-a sd;let l<-lo sd;let u<-hi sd;dSl d l u):=rfl
@[simp] theorem zpo:ztY sd=pure none:=rfl
@[simp] theorem zqn:ztT a sd=(do let d<-a sd;zpF d):=rfl
@[simp] theorem zr0 {i:Int}:zpF (.int i)=pure (some i):=rfl
@[simp] theorem zvg {ds:List D} {lo hi:Option Int}:dSl (.tup ds) lo hi=pure (.tup (zt5 ds lo hi)):=rfl
@[simp] theorem zvf {ds:List D}:zvD (.tup ds)=pure (.tup ds.reverse):=rfl
@[simp] theorem zuJ {i:Int}:zm3 (.int i)=pure (.int (-i)):=rfl
@[simp] theorem zdX {i j:Int}:zdV (.int i) (.int j)=pure (.int (i+j)):=rfl
@[simp] theorem zoc {xs ys:List D}:zdV (.tup xs) (.tup ys)=(do fits (xs.length+ys.length);pure (.tup (xs++ys))):=rfl
@[simp] theorem zlD {xs ys:List D}:zdV (.lst xs) (.lst ys)=(do fits (xs.length+ys.length);pure (.lst (xs++ys))):=rfl
@[simp] theorem zoU {i j:Int}:zoR (.int i) (.int j)=pure (.int (i - j)):=rfl
@[simp] theorem zut {i j:Int}:zuR (.int i) (.int j)=pure (.int (Builtin.bitAnd i j)):=rfl
@[simp] theorem zmm {i j:Int}:dLt (.int i) (.int j)=pure (.bl (decide (i<j))):=rfl
@[simp] theorem zvw {i j:Int}:dGt (.int i) (.int j)=pure (.bl (decide (j<i))):=rfl
@[simp] theorem zvu {i j:Int}:dGe (.int i) (.int j)=pure (.bl (decide (j<=i))):=rfl
@[simp] theorem zr8 {ds:List D}:zdG [.tup ds]=pure (.int ds.length):=rfl
@[simp] theorem zlz {ds:List D}:zdG [.lst ds]=pure (.int ds.length):=rfl
@[simp] theorem zn2 {ds:List D}:zdG [.scr ds]=pure (.int ds.length):=rfl
@[simp] theorem zsN {ds:List D}:zbX [.tup ds]=pure (.tup ds):=rfl
@[simp] theorem zg5 {ds:List D}:zbX [.lst ds]=pure (.tup ds):=rfl
@[simp] theorem ztv {ds:List D}:zu2 [.tup ds]=pure (.lst ds):=rfl
@[simp] theorem zsn {ds:List D}:zdu (.tup ds)=pure ds:=rfl
@[simp] theorem ztu {ds:List D}:zdu (.lst ds)=pure ds:=rfl
@[simp] theorem zgM {F:List D->M D} {x:D}:zav 1 F [x]=F [x]:=rfl
@[simp] theorem zb0 {F:List D->M D} {x y:D}:zav 2 F [x,y]=F [x,y]:=rfl
@[simp] theorem zp2 {F:List D->M D} {x y z:D}:zav 3 F [x,y,z]=F [x,y,z]:=rfl
@[simp] theorem zdi {body:D->Sd->M Out}:za2 body [] sd=pure (.nx sd):=rfl
theorem zbB {body:D->Sd->M Out} {x:D} {r:List D}:za2 body (x::r) sd=(do let o<-body x sd;match o with | .nx sd'=>za2 body r sd' | .ct sd'=>za2 body r sd' | .bk sd'=>pure (.nx sd') | .rt d=>pure (.rt d)):=rfl
@[simp] theorem zkp {gs:List D->Sd->M Sd} {x y:D}:zbn 2 gs (.tup [x,y]) sd=gs [x,y] sd:=rfl
@[simp] theorem zlZ:zbp [] sd=pure sd:=rfl
@[simp] theorem zjb {gt:D->Sd->M Sd} {gs:List D->Sd->M Sd} {x:D} {r:List D}:zat gt gs (x::r) sd=(do let sd1<-gt x sd;gs r sd1):=rfl
@[simp] theorem zjg {n:Nat} {k:Int} {d:D}:zkA (.cel n) (.int k) d=(do let ds<-zaq n;let j<-ofO (ixN ds.length k);zbN n (ds.set j d)):=rfl
@[simp] theorem ztV {ds:List D} {i:Int}:dIx (.tup ds) (.int i)=ofO (atI ds i):=rfl
@[simp] theorem zfg {ds:List D} {i:Int}:dIx (.lst ds) (.int i)=ofO (atI ds i):=rfl
@[simp] theorem zuv {ds:List D} {i:Int}:dIx (.scr ds) (.int i)=ofO (atI ds i):=rfl
@[simp] theorem zhU {n:Nat} {i:Int}:dIx (.cel n) (.int i)=(do let ds<-zaq n;ofO (atI ds i)):=rfl
@[simp] theorem zfO {α:Type} {x:α}:ofO (some x)=pure x:=rfl
@[simp] theorem zkv {x:D} {r:List D}:atI (x::r) 0=some x:=by unfold atI ixN;simp
@[simp] theorem zrj {x y:D} {r:List D}:atI (x::y::r) 1=some y:=by
 have:=zfD (xs:=x::y::r) (j:=1) (v:=y) rfl
 simpa using this
end
theorem zaL {n:Nat} (h:n<=1000):fits n=pure ():=by
 unfold fits
 rw [qa4 (qaS h (by decide))]
theorem ziF {i j:Int} (h:(zbA i || zbA j)=true):zj9 (.int i) (.int j)=pure (.int (i*j)):=by
 show (if (zbA i || zbA j)=true then _ else _)=_
 rw [qa4 h]
theorem zje {i:Int} (h: -1000000000000000<i) (h':i<1000000000000000):zbA i=true:=by unfold zbA;simp;omega
theorem zhk {i j:Int} (h: -1000000000000000<i) (h':i<1000000000000000):zj9 (.int i) (.int j)=pure (.int (i*j)):=ziF (by rw [zje h h'];rfl)
theorem zow {i j:Int} (h: -1000000000000000<j) (h':j<1000000000000000):zj9 (.int i) (.int j)=pure (.int (i*j)):=ziF (by rw [zje h h'];simp)
theorem zdD {i j:Int} (h:0<j):zmY (.int i) (.int j)=pure (.int (i % j)):=by
 show (if (decide (0<j))=true then _ else _)=_
 rw [qa4 (by simpa using h)]
theorem zi2 {i j:Int} (h:0<j) (h':j<2^64):znF (.int i) (.int j)=pure (.int (i / j)):=by
 show (if (decide (0<j) && decide (j<2^64))=true then _ else _)=_
 rw [qa4 (by rw [qaG];exact ⟨by simpa using h,by simpa using h'⟩)]
theorem znm {i j:Int}:dEq (.int i) (.int j)=pure (.bl (i==j)):=by
 unfold dEq zmk
 simp only [pd]
 rw [qa4 (show zgY (.int i) (.int j)=true from rfl)]
 rfl
theorem zvO {i j:Int}:dNe (.int i) (.int j)=pure (.bl (!(i==j))):=by
 unfold dNe zmk
 simp only [pd]
 rw [qa4 (show zgY (.int i) (.int j)=true from rfl)]
 rfl
def wp {α:Type} (m:M α) (h:Hh) (P:α->Hh->Prop):Prop:= ∃ a h',m h= .ok a h'/\P a h'
section
variable {α β:Type} {h:Hh} {P P':α->Hh->Prop}
theorem zan {a:α}:wp (pure a:M α) h P↔P a h:=⟨λ⟨b,h',e,q⟩=>by cases (show R.ok a h=R.ok b h' from e);exact q,λq=>⟨a,h,rfl,q⟩⟩
theorem zal {m:M β} {f:β->M α}:wp (m>>=f) h P↔wp m h λb h'=>wp (f b) h' P:=by
 constructor
 ·rintro ⟨a,h',e,q⟩
  have e:M.bind m f h= .ok a h':=e
  unfold M.bind at e
  cases z:m h with
  | ok b h1=>rw [z] at e;exact ⟨b,h1,z,a,h',e,q⟩
  | exc c h1=>rw [z] at e;cases e
  | bad=>rw [z] at e;cases e
 ·rintro ⟨b,h1,e,a,h',e2,q⟩
  refine ⟨a,h',?_,q⟩
  show M.bind m f h=_
  unfold M.bind
  rw [e]
  exact e2
theorem zgl {m:M α} (q:wp m h P) (k: ∀ a h',P a h'->P' a h'):wp m h P':=by
 obtain ⟨a,h',e,q⟩:=q
 exact ⟨a,h',e,k _ _ q⟩
theorem zbd {n:Nat} {ds:List D} {P:List D->Hh->Prop} (e:h[n]? = some (.lst ds)):wp (zaq n) h P↔P ds h:=by
 unfold wp zaq
 rw [e]
 exact ⟨λ⟨b,h',e,q⟩=>by cases e;exact q,λq=>⟨_,_,rfl,q⟩⟩
theorem zen {n:Nat} {ds:List D} {P:Unit->Hh->Prop}:wp (zbN n ds) h P↔P () (h.set n (.lst ds)):=⟨λ⟨b,h',e,q⟩=>by cases (show R.ok () (h.set n (.lst ds))=R.ok b h' from e);exact q,λq=>⟨_,_,rfl,q⟩⟩
theorem ziZ {ds:List D} {P:D->Hh->Prop}:wp (zbq ds) h P↔P (.cel h.length) (h++[.lst ds]):=⟨λ⟨b,h',e,q⟩=>by cases (show R.ok (D.cel h.length) (h++[C.lst ds])=R.ok b h' from e);exact q,λq=>⟨_,_,rfl,q⟩⟩
end
theorem zeE {f:D->M (Option D)} {k:D->Option D}: ∀ {ds:List D},(∀ x∈ds,f x=pure (k x))->zbk f ds=pure (ds.filterMap k)
 | [],_=>rfl
 | x::r,hf=>by
  rw [zbk,hf x qau,zeE λy hy=>hf y (qan _ hy)]
  simp only [pure_bind]
  cases e:k x<;>simp [qat,e]
theorem zeB {fi:FA} {g:D->Sd->M Sd} {tc:FT} {te:FE} {src:List (Option Nat)} {sd:Sd} {ds:List D} {k:D->Option D} (hi:fi sd=pure ds) (hl:ds.length<=1000) (hf: ∀ x∈ds,zaZ g tc te (zap src sd) x=pure (k x)):zaH fi g tc te src sd=pure (.lst (ds.filterMap k)):=by
 unfold zaH
 rw [hi]
 simp only [pure_bind]
 rw [zaL hl]
 simp only [pure_bind]
 rw [zeE hf]
 simp only [pure_bind]
theorem zhq {fi:FA} {g:D->Sd->M Sd} {tc:FT} {te:FE} {src:List (Option Nat)} {sd:Sd} {ds:List D} {k:D->D} (hi:fi sd=pure ds) (hl:ds.length<=1000) (hf: ∀ x∈ds,zaZ g tc te (zap src sd) x=pure (some (k x))):zaH fi g tc te src sd=pure (.lst (ds.map k)):=by
 rw [zeB (k:=λx=>some (k x)) hi hl hf]
 simp
theorem ziX: ∀ bs:List Bool,znZ (bs.map D.bl)=some bs
 | []=>rfl
 | b::r=>by rw [qaM,znZ,ziX r];rfl
theorem zbT: ∀ bs:List Int,zdY (bs.map D.int)=some bs
 | []=>rfl
 | b::r=>by rw [qaM,zdY,zbT r];rfl
theorem zil (bs:List Bool):zsU [.lst (bs.map D.bl)]=pure (.bl (bs.all id)):=by
 show (do let bs<-ofO (znZ (bs.map D.bl));pure (.bl (bs.all id)):M D)=_
 rw [ziX]
 rfl
theorem zlh {d:D} {xs:List Int} (e:zoJ d=pure (xs.map D.int)) (h:(xs.foldl step_dedup []).length<64) (h2:xs.length<4000):zct d=pure (.lst ((zdO xs).map D.int)):=by
 unfold zct
 rw [e]
 show (do let ns<-ofO (zdY (xs.map D.int));if (ns.foldl step_dedup []).length<64/\ns.length<4000 then pure (.lst ((zdO ns).map D.int)) else M.bad:M D)=_
 rw [zbT]
 show (if (xs.foldl step_dedup []).length<64/\xs.length<4000 then (pure (.lst ((zdO xs).map D.int)):M D) else M.bad)=_
 rw [qa4 ⟨h,h2⟩]
theorem zhI {xs:List Int} (h:xs.length<64):zct (.lst (xs.map D.int))=pure (.lst ((zdO xs).map D.int)):=zlh rfl (lt_of_le_of_lt (zlr xs) h) ⋯
theorem zga {xs:List Int} (h:xs.length<64):zez [.tup (xs.map D.int)]=pure (.lst ((zb2 xs).map D.int)):=by
 show (do let ns<-ofO (zdY (xs.map D.int));if ns.length<64 then pure (.lst ((zb2 ns).map D.int)) else M.bad:M D)=_
 rw [zbT]
 show (if xs.length<64 then (pure (.lst ((zb2 xs).map D.int)):M D) else M.bad)=_
 rw [qa4 h]
def kn:D->Bool
 | .non | .bl _ | .int _ | .str _ | .tup _ | .lst _ | .dct=>true
 | _=>false
def isT:D->Bool
 | .tup _=>true
 | _=>false
def isI:D->Bool
 | .int _=>true
 | _=>false
theorem zl9 {d:D} (k:kn d=true):zjT "tuple" d=pure (.bl (isT d)):=by
 cases d<;>simp [kn] at k<;>simp [zjT,tyD,isB,isT]
theorem zpa {d:D} (k:kn d=true):zjT "int" d=pure (.bl (isI d || (match d with | .bl _=>true | _=>false))):=by
 cases d<;>simp [kn] at k<;>simp [zjT,tyD,isB,isI]
theorem zsb {d:D} (k:kn d=true):zjT "bool" d=pure (.bl (match d with | .bl _=>true | _=>false)):=by
 cases d<;>simp [kn] at k<;>simp [zjT,tyD,isB,isI]
mutual
noncomputable def zle:D->Bool
 | .non | .bl _ | .int _=>true
 | .str x=>PyData.strOk x
 | .tup ds=>decide (ds.length<64) && zia ds
 | .lst ds=>decide (ds.length<64) && zia ds
 | _=>false
noncomputable def zia:List D->Bool
 | []=>true
 | d::r=>zle d && zia r
end
mutual
theorem zqx: ∀ {d:D},zle d=true-> ∃ p,pd d=some p/\p.canLay0=true
 | .non,_=>⟨.none,rfl,rfl⟩
 | .bl b,_=>⟨.bool b,rfl,rfl⟩
 | .int i,_=>⟨.int i,rfl,rfl⟩
 | .str x,g=>⟨.str x,rfl,by simpa [zle,PyData.canLay0] using g⟩
 | .tup ds,g=>by
  have g2:zia ds=true:=by simp [zle] at g;exact g.2
  obtain ⟨ps,e,c⟩:=zgS g2
  exact ⟨.tuple ps,by unfold pd;rw [e];rfl,c⟩
 | .lst ds,g=>by
  have g2:zia ds=true:=by simp [zle] at g;exact g.2
  obtain ⟨ps,e,c⟩:=zgS g2
  exact ⟨.list ps,by unfold pd;rw [e];rfl,c⟩
 | .cel _,g=>by simp [zle] at g
 | .set _,g=>by simp [zle] at g
 | .dct,g=>by simp [zle] at g
 | .fn _,g=>by simp [zle] at g
 | .scr _,g=>by simp [zle] at g
 | .exn _,g=>by simp [zle] at g
theorem zgS: ∀ {ds:List D},zia ds=true-> ∃ ps,pdL ds=some ps/\PyData.canLayAll0 ps=true
 | [],_=>⟨[],rfl,rfl⟩
 | d::r,g=>by
  simp [zia] at g
  obtain ⟨p,e,c⟩:=zqx g.1
  obtain ⟨ps,e2,c2⟩:=zgS g.2
  exact ⟨p::ps,by unfold pdL;rw [e,e2],by simp [PyData.canLayAll0,c,c2]⟩
end
theorem zdL: ∀ xs:List Int,pdL (xs.map D.int)=some (xs.map PyData.int)
 | []=>rfl
 | x::r=>by rw [qaM,pdL,zdL r];rfl
theorem zbL: ∀ xs:List Int,PyData.canLayAll0 (xs.map PyData.int)=true
 | []=>rfl
 | x::r=>by simp [PyData.canLayAll0,PyData.canLay0,zbL r]
theorem zc6: ∀ xs:List Int,PyData.depthAll (xs.map PyData.int)=0
 | []=>rfl
 | x::r=>by simp [PyData.depthAll,PyData.depth,zc6 r]
theorem zgV: ∀ xs ys:List Int,PyData.eqvAll (xs.map PyData.int) (ys.map PyData.int)=(xs==ys)
 | [],[]=>rfl
 | [],_::_=>rfl
 | _::_,[]=>rfl
 | x::xs,y::ys=>by
  simp only [qaM,PyData.eqvAll,PyData.eqv,zgV xs ys]
  rfl
theorem zgT (k:Int): ∀ xs:List Int,((xs.map PyData.int).any λy=>PyData.eqv y (.int k))=xs.any (· == k)
 | []=>rfl
 | x::r=>by simp only [qaM,any_cons,zgT k r];rfl
theorem zbH (k:Int) (xs:List Int):dIn (.int k) (.tup (xs.map D.int))=pure (.bl (xs.any (· == k))):=by
 show zoK false (.int k) (.tup (xs.map D.int))=_
 unfold zoK
 simp only [pd]
 rw [zdL]
 have c:znn (.int k) (xs.map PyData.int)=true:=by
  unfold znn
  simp [PyData.canLay0,zbL,PyData.depth,zc6]
 simp only [c,if_true,zgT]
 rfl
end L3
namespace L2
open LT
section
variable {X:Cx}
end
end L2
namespace L3
open L2 LT
section
variable {X:Cx} {E:XE} {a b c o e:Expr} {pos apos cpos:Pos} {fa fb fc fo fe:FE}
def zcZ:D->M Unit
 | .cel n=>do let _<-zaq n;pure ()
 | _=>M.bad
def zde (x y:D):M D:=match x with
 | .cel n=>do
  let ds<-zaq n
  fits (ds.length+1)
  zbN n (ds++[y])
  pure .non
 | _=>M.bad
def zd0 (fo fe:FE):FE:=λsd=>do
 let x<-fo sd
 zcZ x
 let y<-fe sd
 zde x y
theorem zeA {α:Type} {K:W.Frag} {ι:Io} {H:Hp} {h:Hh} {n:Nat} {f:List D->M α} {P:α->Io->Hp->Prop} (q:Fin K E ι H ((zaq n>>=f) h) P): ∃ ds,h[n]? = some (.lst ds)/\Fin K E ι H (f ds h) P:=by
 have q':Fin K E ι H (M.bind (zaq n) f h) P:=q
 unfold M.bind at q'
 cases z:zaq n h with
 | bad=>rw [z] at q';exact qa0 q'
 | exc c h'=>unfold zaq at z;split at z<;>cases z
 | ok ds h'=>
  rw [z] at q'
  obtain ⟨rfl,z2⟩:=zc8 z
  exact ⟨ds,z2,q'⟩
theorem zgs (ho:SE X E o fo) (he:SE X E e fe)
  (hbase:attributeBase o "append" X.env (eval o X.env)=eval o X.env:=by rfl)
  (hfew:((backTo cpos (starEach [e] X.env)).all (λx=> !x.1) && (backToKw cpos (keywordEach [] X.env)).all (λx=>x.1.isSome)
    && decide (([e]:List Expr).length+([]:List Keyword).length+(if ([]:List Keyword).isEmpty then 0 else 1)<30))=true:=by rfl)
  (hline:(apos.endLine==cpos.line)=true:=by rfl) (hs:starEach [e] X.env=(false,eval e X.env)::starEach [] X.env:=by rfl) (hplain:(backTo cpos (starEach [] X.env)).any (·.1)=false:=by rfl):
  SE X E (.Call (.Attribute o "append" apos) [e] [] cpos) (zd0 fo fe):=by
 refine PE.imp (zmq PySem.F.plainAttrs_list PySem.F.slot_list_append PySem.F.type_list_append zho ho (zco he zds hs) hbase hfew hline hs hplain) λσ H Q ⟨ι,h,sd,L,hh,q⟩=>⟨ι,h,sd,L,hh,Fin.bind q λd h1 ι1 H1 e1 s1 hr1 q1 v rv=> ?_⟩
 cases d with
 | cel n=>
  have q2:Fin X.K E ι1 H1 ((zaq n>>=λ_=>fe sd>>=λy=>zde (.cel n) y) h1) (λd ι' H'=> ∀ v,Rel X.K ι' H' d v->Q v H'):=by
   have ee:(zcZ (.cel n)>>=λ_=>fe sd>>=λy=>zde (.cel n) y:M D)=(zaq n>>=λ_=>fe sd>>=λy=>zde (.cel n) y):=by
    show ((zaq n>>=λ_=>pure ())>>=λ_=>fe sd>>=λy=>zde (.cel n) y)=_
    simp only [bind_assoc,pure_bind]
   rw [<- ee]
   exact q1
  obtain ⟨ds,e2,q3⟩:=zeA q2
  obtain ⟨a,vs,rfl,hn,hH,rl⟩:=hr1.read rv e2
  refine ⟨.inl ⟨rfl,vs,SqL.of hH⟩,ι1,h1,sd,L.step s1,hr1,Fin.bind q3 λy h3 ι3 H3 e3 s3 hr3 q4 w rw'=> ?_⟩
  have rv3:=rv.step s3
  have q5:Fin X.K E ι3 H3 ((zaq n>>=λds=>fits (ds.length+1)>>=λ_=>zbN n (ds++[y])>>=λ_=>pure D.non) h3) (λd ι' H'=> ∀ v,Rel X.K ι' H' d v->Q v H'):=q4
  obtain ⟨ds3,e4,q6⟩:=zeA q5
  obtain ⟨a3,vs3,ea,hn3,hH3,rl3⟩:=hr3.read rv3 e4
  cases ea
  obtain ⟨z,q7⟩:=Fin.fits q6
  refine ⟨a,vs3,w,rfl,rfl,hH3,by rw [<- rl3.length];omega,?_⟩
  have q8:Fin X.K E ι3 H3 (R.ok D.non (h3.set n (.lst (ds3++[y])))) (λd ι' H'=> ∀ v,Rel X.K ι' H' d v->Q v H'):=q7
  exact q8 ι3 _ (hr3.cellS hn3) (hr3.cell hn3 (rl3.append (zaw.cons rw' zaw.nil))) _ (by simp [Rel])
 | _=>exact qa0 q1
end
end L3
namespace Att
open PySem.W PySem.Calls
end Att
namespace L2
end L2
namespace L3
open L2 LT
section
variable {X:Cx} {E:XE}
def zjJ (i j:Int):Bool:=decide (Builtin.Int.intBits i+Builtin.Int.intBits j<=2^26)
theorem zlJ {i j:Int} (h:zjJ i j=true):IntMulOk i j:=by
 unfold zjJ at h
 rw [qaD] at h
 unfold IntMulOk
 intro z
 rw [qaG] at z
 have z2:=z.2
 unfold Builtin.Int.intTooBig at z2
 have hb:bitsLine=2^27:=rfl
 rw [qaD,hb] at z2
 omega
theorem zpJ:OpR X (binaryOp .Mult) (rI (λi j=>IntMulOk i j) λi j=> .int (i*j)):=opI λ_ _ _ _ _ _ _ hc q=>mul_int q hc
def zcg:=dII (λi j=>zbA i || zbA j || zjJ i j) λi j=> .int (i*j)
theorem za6:OpR X (binaryOp .Mult) (zdI X.K E zcg):=zic (zpJ) (λi j h=>by
  rw [Bool.or_eq_true] at h
  rcases h with h | h
  · rcases (Bool.or_eq_true _ _).mp h with z | z
    · have:=zdg z
      exact IntMulOk.of_left (intBits_le_64 this.1 this.2)
    · have:=zdg z
      exact IntMulOk.of_right (intBits_le_64 this.1 this.2)
  · exact zlJ h) λ_ _ _ _=>by simp [Rel]
end
end L3
namespace PySem
open PySem.Sem (wp)
open PySem.AutoSeq1 (wpAny_loadPart')
section
variable {prog:Program} {w:World} {A:Around} {E:Value->Shared->Prop} {s:Shared}
end
end PySem
namespace L2
open LT
theorem zfv: ∀ (ns:List Int) (us:List Value),ns.length=us.length->(∀ (j:Nat) u,us[j]? = some u-> ∃ t,u=Value.int (ns.getD j 0) t)->zby (ns.map V.int) us
 | [],[],_,_=> .nil
 | [],_::_,h,_=>by cases h
 | _::_,[],h,_=>by cases h
 | n::ns,u::us,h,hg=>by
  refine .cons ?_ (zfv ns us (by simpa using h) λj w e=> ?_)
  ·obtain ⟨t,e⟩:=hg 0 u rfl
   exact ⟨t,by simpa using e⟩
  ·obtain ⟨t,e⟩:=hg (j+1) w (by simpa using e)
   exact ⟨t,by simpa using e⟩
section
variable {X:Cx}
theorem zhW:zba X (.type "range") (λxs H Q=> ∃ j:Int,xs=[.int j]/\ ∀ p,H p=none->Q (.ref p) (upd H p (.rng 0 j))):=by
 intro pins s σ H xs us Q I r h
 obtain ⟨j,rfl,q⟩:=h
 obtain ⟨u,rfl,rx⟩:=zeM r
 obtain ⟨t,rfl⟩:=rx
 refine call_range_1 ?_
 exact ⟨.ref s.heap.objs.size,_,I.laid (t':=s.toks+1+1) (o:= .rng 0 j) (λb ob q=>qag _ q) (qaV _) ⟨_,_,_,qar _ rfl⟩,rfl,q _ (I.hok.fresh (qaV _))⟩
theorem zno {j:Int} (h0:0<=j):Builtin.Range.rangeSize 0 j 1=(j.toNat:Int):=by
 unfold Builtin.Range.rangeSize
 rw [qa4 (by decide)]
 split
 ·rw [Int.ediv_one];omega
 ·omega
end
end L2
namespace L3
open L2 LT
section
variable {X:Cx} {E:XE} {e:Expr} {f:FE}
theorem znA {K:W.Frag} {ι:Io} {H:Hp} {n:Nat}:zaw K ι H (zdp 0 n) (((List.range n).map λ(k:Nat)=>(k:Int)).map V.int):=by
 have:zdp 0 n=((List.range n).map λ(k:Nat)=>(k:Int)).map D.int:=by unfold zdp;simp
 rw [this]
 exact zc1.mpr rfl
end
@[simp] theorem zaE {d:D} {r:Sd}:zae 0 (some d::r)=pure d:=rfl
@[simp] theorem zaR {n:Nat} {x:Option D} {r:Sd}:zae (n+1) (x::r)=zae n r:=rfl
def zcb (m:Int):Int->List D->Bool
 | _,[]=>true
 | l,.int i::r=>decide (l<=i) && decide (i<m) && zcb m (i+1) r
 | _,_::_=>false
theorem zbQ {m:Int}: ∀ {xs:List Int} {l:Int},zcb m l (xs.map D.int)=true↔xs.Pairwise (· < ·)/\ ∀ x∈xs,l<=x/\x<m
 | [],l=>by simp [zcb]
 | x::r,l=>by
  rw [qaM,zcb,qaG,qaG,zbQ (xs:=r) (l:=x+1),qay]
  simp only [qaD,qaP,forall_eq_or_imp]
  constructor
  ·rintro ⟨⟨h1,h2⟩,h3,h4⟩
   refine ⟨⟨λy hy=> ?_,h3⟩,⟨h1,h2⟩,λy hy=> ?_⟩
   ·have:=(h4 y hy).1;omega
   ·have:=h4 y hy;omega
  ·rintro ⟨⟨h1,h2⟩,⟨h3,h4⟩,h5⟩
   refine ⟨⟨h3,h4⟩,h2,λy hy=> ?_⟩
   have a1:=h1 y hy
   have a2:=h5 y hy
   omega
theorem zgk {m:Int}: ∀ {ts:List D} {l:Int},zcb m l ts=true->ts.all isI=true
 | [],_,_=>rfl
 | d::r,l,h=>by
  cases d<;>first
   | (simp [zcb] at h;done)
   | (rw [zcb,qaG] at h;rw [List.all_cons,zgk h.2];rfl)
theorem zib: ∀ {ts:List D},ts.all isI=true-> ∃ xs:List Int,ts=xs.map D.int
 | [],_=>⟨[],rfl⟩
 | d::r,h=>by
  rw [List.all_cons,qaG] at h
  obtain ⟨xs,e⟩:=zib h.2
  cases d<;>first
   | (simp [isI] at h;done)
   | (rename_i i;exact ⟨i::xs,by rw [e];rfl⟩)
theorem ze4 {m:Int}: ∀ {ts:List D} {l:Int},zcb m l ts=true->l<=m->(ts.length:Int)<=m - l
 | [],l,_,h=>by simp;omega
 | d::r,l,h,hl=>by
  cases d<;>first
   | (simp [zcb] at h;done)
   | (rename_i i
      rw [zcb,qaG,qaG,qaD,qaD] at h
      have:=ze4 h.2 ⋯
      simp
      omega)
def Bx (b:Nat) (h:Hh):Prop:= ∃ z:Int,h[b]? = some (.lst [.int z])
def Ext (b:Nat) (h h':Hh):Prop:=Bx b h'/\ ∀ (n:Nat) (c:C),n≠b->h[n]? = some c->h'[n]? = some c
theorem Ext.refl {b:Nat} {h:Hh} (q:Bx b h):Ext b h h:=⟨q,λ_ _ _ e=>e⟩
theorem Ext.trans {b:Nat} {h h1 h2:Hh} (p:Ext b h h1) (q:Ext b h1 h2):Ext b h h2:=⟨q.1,λn c hn e=>q.2 n c hn (p.2 n c hn e)⟩
theorem Bx.set {b:Nat} {h:Hh} {z:Int} (q:Bx b h):Ext b h (h.set b (.lst [.int z])):=by
 obtain ⟨y,e⟩:=q
 have hl:=(qac.mp e).1
 exact ⟨⟨z,qai hl⟩,λn c hn e=>by rw [qao (Ne.symm hn)];exact e⟩
theorem Bx.push {b:Nat} {h:Hh} {c:C} (q:Bx b h):Ext b h (h++[c]):=by
 obtain ⟨y,e⟩:=q
 have hl:=(qac.mp e).1
 refine ⟨⟨y,by rw [qad hl];exact e⟩,λn c' hn e=> ?_⟩
 rw [qad (qac.mp e).1]
 exact e
theorem zcw {j:Int} (h0:0<=j) (h:j<1000):zir [.int j]=pure (zdp 0 j.toNat):=by
 show (if zdd j=true then _ else _)=_
 rw [qa4 (by unfold zdd;simp;omega)]
theorem zgP {n:Nat} {d:D} (h:d∈zdp 0 n): ∃ i:Int,d= .int i/\0<=i/\i<n:=by
 unfold zdp at h
 obtain ⟨k,hk,e⟩:=qaU.mp h
 have:=mem_range.mp hk
 exact ⟨0+(k:Int),e.symm,⋯,⋯⟩
theorem zd3 {n:Nat}:(zdp 0 n).length=n:=by unfold zdp;simp
theorem zdJ (n:Nat):zdp 0 n=((List.range n).map λ(k:Nat)=>(k:Int)).map D.int:=by unfold zdp;simp
theorem zoz {α:Type} {c:Prop} [Decidable c] {a b:M α} {h:Hh} {P:α->Hh->Prop}:wp (if c then a else b) h P↔if c then wp a h P else wp b h P:=by split<;>exact Iff.rfl
theorem zpb {m:Int} (h0:0<=m) (h:m<=1000):zuG (.int 1) (.int m)=pure (.int (1*2^m.toNat)):=by
 show (if zqM 1 m=true then _ else _)=_
 rw [qa4 (by unfold zqM;simp;omega)]
theorem zpj {i m:Int} (h0:0<=m):zup (.int i) (.int m)=pure (.int (i / 2^m.toNat)):=by
 show (if decide (0<=m)=true then _ else _)=_
 rw [qa4 (by simpa using h0)]
theorem zoZ:ztH (.int 10) (.int 12)=pure (.int 1000000000000):=by
 unfold ztH dII
 simp only
 rw [qa4 (by decide)]
 rfl
theorem zpR (i:Int):Builtin.bitAnd i 1=i % 2:=by
 exact bitAnd_m1 i
theorem zeG {f:D->M (Option D)} {k:D->Option D} {h:Hh}: ∀ {ds:List D} {P:List D->Hh->Prop},(∀ x∈ds,wp (f x) h λo h'=>o=k x/\h'=h)->P (ds.filterMap k) h->wp (zbk f ds) h P
 | [],P,_,q=>by rw [zbk,zan];exact q
 | x::r,P,hf,q=>by
  rw [zbk,zal]
  refine zgl (hf x qau) ?_
  rintro o h' ⟨rfl,rfl⟩
  rw [zal]
  refine zeG (k:=k) (λy hy=>hf y (qan _ hy)) ?_
  rw [zan]
  cases e:k x with
  | none=>rw [qat,e] at q;exact q
  | some y=>rw [qat,e] at q;exact q
theorem zjW {fi:FA} {g:D->Sd->M Sd} {tc:FT} {te:FE} {src:List (Option Nat)} {sd:Sd} {ds:List D} {k:D->Option D} {h:Hh} {P:D->Hh->Prop} (hi:fi sd=pure ds) (hl:ds.length<=1000) (hf: ∀ x∈ds,wp (zaZ g tc te (zap src sd) x) h λo h'=>o=k x/\h'=h) (q:P (.lst (ds.filterMap k)) h):wp (zaH fi g tc te src sd) h P:=by
 unfold zaH
 rw [hi]
 simp only [pure_bind]
 rw [zaL hl]
 simp only [pure_bind]
 rw [zal]
 refine zeG hf ?_
 rw [zan]
 exact q
theorem zo5 {xs:List Int} {i:Int} (h:xs.Pairwise (· < ·)) (hi:i∉xs):(zb2 (xs++[i])).Pairwise (· < ·):=by
 have hn:(xs++[i]).Nodup:=by
  rw [nodup_append]
  refine ⟨h.imp λz=>by omega,by simp,λa ha b hb=> ?_⟩
  simp at hb
  subst hb
  exact λz=>hi (z▸ha)
 have hn2:(zb2 (xs++[i])).Nodup:=(zaF _).nodup_iff.mpr hn
 exact ((zdH (xs++[i])).and hn2).imp λ⟨a,b⟩=>by omega
end L3
namespace L2
open L3
structure HS (H H':Hp) (h:Heap):Prop where
 free: ∀ b o,h.get? b=some o->H b=none->H' b=none
 tups: ∀ b xs,H b=some (.tup xs)->H' b=some (.tup xs)
 frzs: ∀ b o u,H b=some (.frz o u)->H' b=some (.frz o u)
 tbls: ∀ b ps,H b=some (.tbl ps)-> ∃ more,H' b=some (.tbl (ps++more))
structure FlB (P:Program) (w:World) (l:List Env) (H:Hp) (h:Heap) (H':Hp) (B:Heap):Prop where
 old: ∀ b o,h.get? b=some o->b∉frs l-> ∃ o',B.get? b=some o'/\(H b=none->o'=o)
 trk: ∀ b u,H' b=some u-> ∃ o,B.get? b=some o
 ok:HOk P w H' B
structure Fl (P:Program) (w:World) (l:List Env) (H:Hp) (s:Shared) (a C:Addr) (fl:Value) (H':Hp) (s':Shared):Prop where
 os:s'.os=s.os
 bare:AllBare s'.gens
 base: ∃ B:Heap,Fly B l a (.ref C) fl s'.heap/\FlB P w l H s.heap H' B
 slot: ∀ b o,s.heap.get? b=some o->H b=none->b∈frs l-> ∃ sl,s'.heap.get? b=some {o with slots:=sl}
 hs:HS H H' s.heap
section
variable {P:Program} {w:World} {l:List Env} {H H':Hp} {s s':Shared} {a C:Addr} {fl:Value}
section
variable {M:Model} {A:Around} {E:Value->Shared->Prop} {env:Env} {outer:List Env} {L:Addr} {Q:Unit->Shared->Prop}
end
end
structure zvR (X:Cx):Prop where
 stk:X.stack=X.env::X.outer
 frm:X.env.frame=some X.env.locals
 ex:X.ex=[]
section
variable {X:Cx} {pins:List (Addr×Obj)} {σ:St} {H H':Hp} {s s':Shared} {a C:Addr} {M:Model} {E:Value->Shared->Prop} {Q:Unit->Shared->Prop}
end
def CXE (P:Program) (w:World):CXT:=λouter H s E e s'=> ∃ a C H',e= .ref a/\Fl P w outer H s a C .none H' s'/\E e (some C) H'
end L2
namespace L3
open L2
def zsH (K:W.Frag) (c:String) (C:Addr):Prop:=W.nsIn K mainGlobals (c:Str)=some (some (.ref C))
def zv0 (K:W.Frag) (E:XK):XE:=λc H'=> ∀ C v,zsH K c C->E v (some C) H'
section
variable {P:Program} {w:World} {K:W.Frag} {mg:Str->Option Value} {base:Heap} {N:List Str} {qual:Str} {scope:Scope} {f:Addr} {cd:Value} {A:Around} {outer:List Env} {s:Shared} {H:Hp} {E:XK}
end
noncomputable def noX {α:Type} (m:M α):M α:=λh=>match m h with
 | .exc _ _=> .bad
 | r=>r
def spE (K:W.Frag) (n:Nat) (F:List D->M D):Sp:=λvs H Q E=>vs.length=n/\ ∃ ι h ds,zaw K ι H ds vs/\zbo K ι H h/\Fin K (zv0 K E) ι H (F ds h) λd ι' H'=> ∀ v,Rel K ι' H' d v->Q v H'
section
variable {P:Program} {w:World} {K:W.Frag} {mg:Str->Option Value} {base:Heap}
end
section
variable {X:Cx} {E:XE} {e:Expr} {es:List Expr} {pos p:Pos}
end
end L3
namespace L2
open L3
structure ztP (k:Nat) (A:Around):Prop where
 dp:A.depth+3*k+5<recursionLimit
 un:A.units+16*k+200<cLine
structure FnH (P:Program) (w:World) (K:W.Frag) (mg:Str->Option Value) (base:Heap) (k:Nat) (f:Addr) (fd:FuncData) (ps:List Str) (sp:Sp):Prop where
 len: ∀ vs H Q E,sp vs H Q E->vs.length=ps.length
 run: ∀ (A:Around) (outer:List Env) (s:Shared) (H:Hp) (args:Args) (us:List Value) (vs:List V) (Q:VK),ztP k A->zq5 P w K mg base A outer s H->BindsTo s fd args (ps.zip us)->zby vs us->sp vs H Q E0->
  codeAny (model P w) A (.call (.ref f) args) (CR CX0 outer P w H s Q E0) s
section
variable {X:Cx} {pins:List (Addr×Obj)} {σ:St} {H H':Hp} {s s':Shared} {a:Addr} {o:Obj}
end
section
variable {X:Cx} {pins:List (Addr×Obj)} {σ:St} {H H':Hp} {s s':Shared} {a C CE:Addr} {ce en:Str} {pce pos:Pos} {b₀:Stmt} {suite:List Stmt} {j:Nat} {Q:Flow->Shared->Prop} {E:Value->Shared->Prop}
end
abbrev ztB:List Value:=[.type "ValueError",.type "Exception",.type "BaseException",.type "object"]
section
variable {X:Cx} {pins pins':List (Addr×Obj)} {σ:St} {H H':Hp} {s s':Shared} {xe:Value->Shared->Prop}
end
end L2
namespace L3
open L2
section
variable {X:Cx} {pins:List (Addr×Obj)} {σ:L2.St} {H:Hp} {s:Shared} {a C:Addr} {o:Obj} {vs:Array Value} {head:Value} {c:String} {gk en pe:Str} {p1 p2 p3:Pos} {j k:Nat} {fk:Addr} {fdk:FuncData} {Fk:List D->M D} {Qv:VK} {ι:Io} {h:Hh}
end
section
variable {X:Cx} {E:XE} {body:List Stmt} {ce en gk pe x:Str} {pce p1 p2 p3 p4 p5 hp pos:Pos} {CE fk:Addr} {fdk:FuncData} {Fk:List D->M D} {gb:FS} {j k i:Nat} {known:List String}
def ztd (c:String):FS:=λ_ h=> .exc c h
end
end L3
namespace L3
open PySem.W
section
variable {prog:Program} {w:World} {A:Around} {E:Value->Shared->Prop} {s:Shared} {K:Frag} {x D:Addr} {ox:Obj}
end
end L3
namespace L3
open L2
def kxb (K:W.Frag) (C:Addr):Bool:=(W.clsIn K C).isSome && W.findIn K (.ref C) "__getattribute__"==some (some (.builtin "BaseException.__getattribute__")) && W.findIn K (.ref C) "__getattr__"==some none && W.findIn K (.ref C) "__class__"==some (some (.builtin "object.__class__"))
 && W.specialIn K (.builtin "object.__class__") "__get__"==some (some (.builtin "getset_descriptor.__get__")) && W.takesIn K (.builtin "object.__class__")==some true && W.mroIn K C (.type "object")==some true && W.mroIn K C (.type "BaseException")==some true
structure zvB (K:W.Frag) (CE:Addr) (names:List String) (c:String) (C:Addr):Prop where
 exc:W.excIn K C ztB "ValueError.__new__"=true
 cov:W.exmOne K (.ref C) (.ref CE)=some true
 kx:kxb K C=true
 ve:W.kitOne K (.ref C) (.type "ValueError")=some true
 one: ∀ c'∈names, ∀ C',zsH K c' C'->W.kitOne K (.ref C) (.ref C')=some (c==c')
section
variable {X:Cx} {E:XE}
variable {a:Expr} {p1 p2 pos:Pos} {fa:FE} {CE CC:Addr} {names:List String}
end
end L3
namespace L3
section
variable {prog:Program} {w:World} {A:Around} {E:Value->Shared->Prop} {s:Shared}
end
end L3
namespace L2
open L3
section
variable {X:Cx}
theorem zjG:MtM X "list.extend" (λx vs H Q=> ∃ l b xs zs,x= .ref l/\vs=[.ref b]/\H l=some (.lst xs)/\SqT X.K H b zs/\xs.length+zs.length<=sizeLine/\Q .non (upd H l (.lst (xs++zs)))):=by
 intro pins s σ H x vs v us Q I rx rv h
 obtain ⟨l,b,xs,zs,rfl,rfl,hH,hB,hz,q⟩:=h
 cases rx
 obtain ⟨u,rfl,ru⟩:=zeM rv
 cases ru
 obtain ⟨z,its,n,r,hl,e⟩:=I.lstM hH
 obtain ⟨its2,r2,⟨ob,e2,c2,n2,d2⟩,z2⟩:=I.tuple hB
 have l2:=r2.length
 have hsz:its.toArray.size+its2.toArray.size<=sizeLine:=by rw [qaA,qaA];omega
 refine wpAny_call (codeAny_call_builtin F.slot_list_extend.plain F.entry_list_extend (F.slot_list_extend.check _ _ _ _ _ _ _ _ ⟨_,e,rfl⟩ (F.args_list_extend_2 _ _) ?_))
 unfold Builtin.«list.extend»
 refine qaW (qaX ?_)
 unfold Builtin.List.listExtendWith
 refine qaW (wpAny_typeOf ⟨ob,e2,c2⟩ ?_)
 have h1:(Builtin.List.listSameRef (.ref l) (.ref b) || Value.type "tuple"==Value.type "list" || Value.type "tuple"==Value.type "tuple")=true:=by simp
 simp only [h1,if_true]
 unfold Builtin.List.listItems
 refine qaW (qaW (wpAny_seqItems e2 d2 (qaX ?_)))
 refine qaW (qaW (wpAny_seqItems e rfl (qaX ?_)))
 rw [qa5 (by rw [ziD hsz,Bool.and_false];exact Bool.false_ne_true)]
 refine qaW (wpAny_updateSeq e rfl ?_ (by rw [qaA];omega))
 refine qaX ?_
 refine ⟨.non,_,I.lset (its':=its++its2) hH e (by simp) (r.append r2) ?_,rfl,q⟩
 rw [qav]
 omega
end
end L2
namespace L3
open L2
def zvL (f:FE):FE:=λsd=>noX (f sd)
def zwd (f:FS):FS:=λsd=>noX (f sd)
section
variable {X:Cx} {E:XE} {a e o:Expr} {es:List Expr} {pos p cpos apos:Pos} {f fo fe fa:FE} {fs:FA} {x:Str}
def zp5:List D->M D
 | [.int i]=>pure (.int i)
 | [.bl b]=>pure (.int (if b then 1 else 0))
 | _=>M.bad
theorem zjO:zba X (.type "int") (zjt X.K E zp5):=by
 refine zba.imp zlB λxs H Q ⟨ι,h,ds,rl,hr,q⟩=> ?_
 unfold zp5 at q
 split at q
 ·simp only [zaw,Rel] at rl
  obtain ⟨v,r,rfl,rfl,rfl⟩:=rl
  exact .inl ⟨_,rfl,Fin.out hr q _ (by simp [Rel])⟩
 ·simp only [zaw,Rel] at rl
  obtain ⟨v,r,rfl,rfl,rfl⟩:=rl
  exact .inr ⟨_,rfl,Fin.out hr q _ (by simp [Rel])⟩
 ·exact qa0 q
def zd6 (x y:D):M D:=match x,y with
 | .cel n,.tup zs=>do
  let ds<-zaq n
  fits (ds.length+zs.length)
  zbN n (ds++zs)
  pure .non
 | _,_=>M.bad
def zh1 (fo fe:FE):FE:=λsd=>do
 let x<-fo sd
 zcZ x
 let y<-fe sd
 zd6 x y
theorem zmR (ho:SE X E o fo) (he:SE X E e fe)
  (hbase:attributeBase o "extend" X.env (eval o X.env)=eval o X.env:=by rfl)
  (hfew:((backTo cpos (starEach [e] X.env)).all (λx=> !x.1) && (backToKw cpos (keywordEach [] X.env)).all (λx=>x.1.isSome)
    && decide (([e]:List Expr).length+([]:List Keyword).length+(if ([]:List Keyword).isEmpty then 0 else 1)<30))=true:=by rfl)
  (hline:(apos.endLine==cpos.line)=true:=by rfl) (hs:starEach [e] X.env=(false,eval e X.env)::starEach [] X.env:=by rfl) (hplain:(backTo cpos (starEach [] X.env)).any (·.1)=false:=by rfl):
  SE X E (.Call (.Attribute o "extend" apos) [e] [] cpos) (zh1 fo fe):=by
 refine PE.imp (zmq PySem.F.plainAttrs_list PySem.F.slot_list_extend PySem.F.type_list_extend zjG ho (zco he zds hs) hbase hfew hline hs hplain) λσ H Q ⟨ι,h,sd,L,hh,q⟩=>⟨ι,h,sd,L,hh,Fin.bind q λd h1 ι1 H1 e1 s1 hr1 q1 v rv=> ?_⟩
 cases d with
 | cel n=>
  have q2:Fin X.K E ι1 H1 ((zaq n>>=λ_=>fe sd>>=λy=>zd6 (.cel n) y) h1) (λd ι' H'=> ∀ v,Rel X.K ι' H' d v->Q v H'):=by
   have ee:(zcZ (.cel n)>>=λ_=>fe sd>>=λy=>zd6 (.cel n) y:M D)=(zaq n>>=λ_=>fe sd>>=λy=>zd6 (.cel n) y):=by
    show ((zaq n>>=λ_=>pure ())>>=λ_=>fe sd>>=λy=>zd6 (.cel n) y)=_
    simp only [bind_assoc,pure_bind]
   rw [<- ee]
   exact q1
  obtain ⟨ds,e2,q3⟩:=zeA q2
  obtain ⟨a,vs,rfl,hn,hH,rl⟩:=hr1.read rv e2
  refine ⟨.inl ⟨rfl,vs,SqL.of hH⟩,ι1,h1,sd,L.step s1,hr1,Fin.bind q3 λy h3 ι3 H3 e3 s3 hr3 q4 w rw'=> ?_⟩
  have rv3:=rv.step s3
  cases y with
  | tup zs=>
   have q5:Fin X.K E ι3 H3 ((zaq n>>=λds=>fits (ds.length+zs.length)>>=λ_=>zbN n (ds++zs)>>=λ_=>pure D.non) h3) (λd ι' H'=> ∀ v,Rel X.K ι' H' d v->Q v H'):=q4
   obtain ⟨ds3,e4,q6⟩:=zeA q5
   obtain ⟨a3,vs3,ea,hn3,hH3,rl3⟩:=hr3.read rv3 e4
   cases ea
   obtain ⟨b,ws,eb,hb,rlb⟩:=zdS rw'
   obtain ⟨z,q7⟩:=Fin.fits q6
   refine ⟨a,b,vs3,ws,rfl,by rw [eb],hH3,hb,by rw [<- rl3.length, <-rlb.length];exact z,?_⟩
   have q8:Fin X.K E ι3 H3 (R.ok D.non (h3.set n (.lst (ds3++zs)))) (λd ι' H'=> ∀ v,Rel X.K ι' H' d v->Q v H'):=q7
   exact q8 ι3 _ (hr3.cellS hn3) (hr3.cell hn3 (rl3.append rlb)) _ (by simp [Rel])
  | _=>exact qa0 q4
 | _=>exact qa0 q1
end
section
variable {P:Program} {w:World} {K:W.Frag} {mg:Str->Option Value} {base:Heap}
end
section
variable {X:Cx} {E:XE} {body:List Stmt} {ce en gk pe x:Str} {pce p1 p2 p3 p4 p5 hp pos:Pos} {CE fk:Addr} {fdk:FuncData} {Fk:List D->M D} {gb:FS} {k:Nat} {known:List String}
end
def zsM (Fs:List (List D->M D)) (i:D):M (List D->M D):=match i with
 | .int j=>(match ixN Fs.length j with
   | some m=>ofO Fs[m]?
   | none=>M.bad)
 | _=>M.bad
def ztQ (n:Nat) (Fs:List (List D->M D)) (fi:FE) (fs:FA):FE:=λsd=>do
 let i<-fi sd
 let F<-zsM Fs i
 let ds<-fs sd
 zav n F ds
structure Fns (X:Cx) (n:Nat) (addrs:List Addr) (Fs:List (List D->M D)):Prop where
 len:Fs.length=addrs.length
 ok: ∀ (m:Nat) (F:List D->M D) (a:Addr),Fs[m]? = some F->addrs[m]? = some a-> ∃ k fd ps,zbP X.prog X.w X.K X.mg X.base (CXE X.prog X.w) k a fd ps (spE X.K n F)/\zfN k X.A/\W.keepIn X.K (.ref a)=true/\zaS X.K fd ps []
section
variable {X:Cx} {E:XE} {e ix:Expr} {es fes:List Expr} {pos p q3 q4:Pos} {fi:FE} {fs:FA} {x:Str}
end
end L3
namespace L2
section
variable {X:Cx} {tg:Expr}
theorem zhK (hc:X.calm=true):zba X (.type "list") (λxs H Q=> ∃ (p:Addr) (j:Int),xs=[.ref p]/\H p=some (.rng 0 j)/\0<=j/\j<1000/\ ∀ l,H l=none->Q (.ref l) (upd H l (.lst (((List.range j.toNat).map λ(k:Nat)=>(k:Int)).map V.int)))):=by
 intro pins s σ H xs us Q I r h
 obtain ⟨p,j,rfl,hp,h0,h1,q⟩:=h
 obtain ⟨u,rfl,rx⟩:=zeM r
 cases rx
 obtain ⟨t,u',v,hr⟩:=(show zbW X.prog X.w H s.heap p (.rng 0 j) from I.hok p _ hp)
 refine call_list_range (I.ok.hd hc) hr (small_one ⋯ ⋯ ⋯ ⋯) (zno h0) ⋯ λh' tk acc c' hk hS hacc=> ?_
 have hl:acc.toList.length=j.toNat:=by rw [qas];exact hacc.1
 have I2:=I.laid (t':=tk) (h':=h') (a:=s.heap.objs.size) (o:= .lst (((List.range j.toNat).map λ(k:Nat)=>(k:Int)).map V.int)) hk (qaV _)
  (show zbW X.prog X.w _ h' _ (.lst _) from ⟨by rw [qaH,qaH,length_range];exact qaS (show j.toNat<=1000 by omega) (by decide),acc.toList,c',zfv _ _ (by rw [qaH,length_range,hl]) (λk w e=> ?_),by simpa using hS⟩)
 ·exact ⟨.ref s.heap.objs.size,_,I2,rfl,q _ (I.hok.fresh (qaV _))⟩
 ·have hk':k<j.toNat:=by rw [<- hl];exact (qac.mp e).1
  obtain ⟨t,et⟩:=hacc.2 k w (by simpa using e)
  refine ⟨t,?_⟩
  rw [et]
  simp [hk']
end
end L2
namespace L3
open L2
section
variable {X:Cx} {E:XE} {e o:Expr} {f fo fe:FE} {pos apos cpos:Pos}
noncomputable def zbJ (tc:FT) (gb:FS):Nat->FS
 | 0,_=>M.bad
 | n+1,sd=>do
  let b<-tc sd
  if b=true then
   let o<-gb sd
   match o with
   | .nx sd'=>zbJ tc gb n sd'
   | .ct sd'=>zbJ tc gb n sd'
   | .bk sd'=>pure (.nx sd')
   | .rt d=>pure (.rt d)
  else pure (.nx sd)
def zdT (n:Nat) (tc:FT) (gb:FS):FS:=zbJ tc gb n
theorem zfC {c:Expr} {body:List Stmt} {tc:FT} {gb:FS} (n:Nat) (hp:PassesOwn (model X.prog X.w) X.A X.env X.xe) (hc:ST X E c tc) (hb:SSs X E body gb):SS X E (.While c body [] pos) (zdT n tc gb):=by
 refine PS.imp (znu hp hc hb) λD0 σ H ⟨ι,h,sd,L,hh,q⟩=> ?_
 refine ⟨λm σ' H'=> ∃ ι' h' sd',zc4 X.K ι' H' sd' σ'/\zbo X.K ι' H' h'/\Fin X.K E ι' H' (zbJ tc gb m sd' h') (zgZ X.K D0),⟨n,ι,h,sd,L,hh,q⟩,?_⟩
 rintro m σ2 H2 ⟨ι2,h2,sd2,L2,hr2,q2⟩
 cases m with
 | zero=>exact qa0 q2
 | succ m=>
  refine ⟨ι2,h2,sd2,L2,hr2,Fin.bind q2 λb h3 ι3 H3 e3 s3 hr3 q3=> ?_⟩
  cases b with
  | true=>
   refine ⟨λσ' H'=> ∃ ι' h' sd',zc4 X.K ι' H' sd' σ'/\zbo X.K ι' H' h'/\Fin X.K E ι' H' (zbJ tc gb m sd' h') (zgZ X.K D0),λσ' H' p=>⟨m,⋯,p⟩,ι3,h3,sd2,L2.step s3,hr3,Fin.bind q3 λo h7 ι7 H7 e7 s7 hr7 q7=> ?_⟩
   cases o with
   | nx sd'=>exact λσ' L'=>⟨ι7,h7,sd',L',hr7,q7⟩
   | ct sd'=>exact λσ' L'=>⟨ι7,h7,sd',L',hr7,q7⟩
   | bk sd'=>exact λσ' L'=>Fin.out (E:=E) (P:=zgZ X.K D0) hr7 q7 σ' L'
   | rt d=>exact λv rv=>Fin.out (E:=E) (P:=zgZ X.K D0) hr7 q7 v rv
  | false=>exact Fin.out (E:=E) (P:=zgZ X.K D0) hr3 q3 σ2 (L2.step s3)
def zfn:D->M D
 | .int j=>if 0<=j/\j<1000 then zbq (zdp 0 j.toNat) else M.bad
 | _=>M.bad
theorem zjA {p1 p2 pos pos2:Pos} (hc:X.calm=true) (hm1:X.mg "list"=none) (hm2:X.mg "range"=none) (he:SE X E e f) (hg1:Gl X "list":=by rfl) (hg2:Gl X "range":=by rfl)
  (h1:starEach [.Call (.Name "range" p2) [e] [] pos2] X.env=[(false,eval (.Call (.Name "range" p2) [e] [] pos2) X.env)]:=by rfl) (h2:starEach [e] X.env=[(false,eval e X.env)]:=by rfl):
  SE X E (.Call (.Name "list" p1) [.Call (.Name "range" p2) [e] [] pos2] [] pos) (cUn zfn f):=by
 refine PE.imp (zej (zhK hc) hg1 hm1 PyProof.Rows.boot_list (zco (zej zhW hg2 hm2 boot_range (zco he zds h2) (he:=h2)) zds h1) (he:=h1)) λσ H Q ⟨ι,h,sd,L,hh,q⟩=>⟨ι,h,sd,L,hh,Fin.bind q λd h1 ι1 H1 e1 s1 hr1 q1 v rv=> ?_⟩
 cases d with
 | int j=>
  simp only [Rel] at rv
  obtain ⟨⟨c1,c2⟩,q2⟩:=Fin.guard q1
  refine ⟨j,by rw [rv],λp hp=> ?_⟩
  have hr2:zbo X.K ι1 (upd H1 p (.rng 0 j)) h1:=hr1.laid hp
  exact ⟨p,j,rfl,za4,c1,c2,λl hl=>zvj hr2 znA (Fin.step (hr1.laidS hp) q2) hl⟩
 | _=>exact qa0 q1
def zfq (x y:D):M D:=match x,y with
 | .cel n,.int i=>do
  let ds<-zaq n
  if 0<=i/\i<1000 then
   match ds[i.toNat]? with
   | some d=>do zbN n (ds.eraseIdx i.toNat);pure d
   | none=>M.bad
  else M.bad
 | _,_=>M.bad
def ztM (fo fe:FE):FE:=λsd=>do
 let x<-fo sd
 zcZ x
 let y<-fe sd
 zfq x y
theorem zaw.eraseIdx {K:W.Frag} {ι:Io} {H:Hp}: ∀ {ds:List D} {vs:List V} (i:Nat),zaw K ι H ds vs->zaw K ι H (ds.eraseIdx i) (vs.eraseIdx i)
 | [],vs,i,h=>by
  simp only [zaw] at h
  subst h
  simpa using zaw.nil
 | x::r,vs,i,h=>by
  simp only [zaw] at h
  obtain ⟨v,vs',rfl,rv,rl⟩:=h
  cases i with
  | zero=>simpa using rl
  | succ i=>exact zaw.cons rv (zaw.eraseIdx i rl)
theorem zra (ho:SE X E o fo) (he:SE X E e fe)
  (hbase:attributeBase o "pop" X.env (eval o X.env)=eval o X.env:=by rfl)
  (hfew:((backTo cpos (starEach [e] X.env)).all (λx=> !x.1) && (backToKw cpos (keywordEach [] X.env)).all (λx=>x.1.isSome)
    && decide (([e]:List Expr).length+([]:List Keyword).length+(if ([]:List Keyword).isEmpty then 0 else 1)<30))=true:=by rfl)
  (hline:(apos.endLine==cpos.line)=true:=by rfl) (hs:starEach [e] X.env=(false,eval e X.env)::starEach [] X.env:=by rfl) (hplain:(backTo cpos (starEach [] X.env)).any (·.1)=false:=by rfl):
  SE X E (.Call (.Attribute o "pop" apos) [e] [] cpos) (ztM fo fe):=by
 refine PE.imp (zmq PySem.F.plainAttrs_list PySem.F.slot_list_pop PySem.F.type_list_pop znj ho (zco he zds hs) hbase hfew hline hs hplain) λσ H Q ⟨ι,h,sd,L,hh,q⟩=>⟨ι,h,sd,L,hh,Fin.bind q λd h1 ι1 H1 e1 s1 hr1 q1 v rv=> ?_⟩
 cases d with
 | cel n=>
  have q2:Fin X.K E ι1 H1 ((zaq n>>=λ_=>fe sd>>=λy=>zfq (.cel n) y) h1) (λd ι' H'=> ∀ v,Rel X.K ι' H' d v->Q v H'):=by
   have ee:(zcZ (.cel n)>>=λ_=>fe sd>>=λy=>zfq (.cel n) y:M D)=(zaq n>>=λ_=>fe sd>>=λy=>zfq (.cel n) y):=by
    show ((zaq n>>=λ_=>pure ())>>=λ_=>fe sd>>=λy=>zfq (.cel n) y)=_
    simp only [bind_assoc,pure_bind]
   rw [<- ee]
   exact q1
  obtain ⟨ds,e2,q3⟩:=zeA q2
  obtain ⟨a,vs,rfl,hn,hH,rl⟩:=hr1.read rv e2
  refine ⟨.inl ⟨rfl,vs,SqL.of hH⟩,ι1,h1,sd,L.step s1,hr1,Fin.bind q3 λy h3 ι3 H3 e3 s3 hr3 q4 w rw'=> ?_⟩
  have rv3:=rv.step s3
  cases y with
  | int i=>
   have q5:Fin X.K E ι3 H3 ((zaq n>>=λds=>if 0<=i/\i<1000 then (match ds[i.toNat]? with | some d=>(zbN n (ds.eraseIdx i.toNat)>>=λ_=>pure d:M D) | none=>M.bad) else M.bad) h3) (λd ι' H'=> ∀ v,Rel X.K ι' H' d v->Q v H'):=q4
   obtain ⟨ds3,e4,q6⟩:=zeA q5
   obtain ⟨a3,vs3,ea,hn3,hH3,rl3⟩:=hr3.read rv3 e4
   cases ea
   simp only [Rel] at rw'
   by_cases hi:0<=i/\i<1000
   ·rw [qa4 hi] at q6
    cases ed:ds3[i.toNat]? with
    | none=>rw [ed] at q6;exact qa0 q6
    | some d=>
     rw [ed] at q6
     obtain ⟨y,ey,ry⟩:=zaw.get rl3 ed
     have hlt:=(qac.mp ey).1
     refine ⟨a,vs3,i,i.toNat,y,rfl,by rw [rw'],hH3,⋯,⋯,?_,ey,?_⟩
     ·exact PySem.StrLaws.seqIndex_nonneg hi.1 ⋯
     ·have q8:Fin X.K E ι3 H3 (R.ok d (h3.set n (.lst (ds3.eraseIdx i.toNat)))) (λd ι' H'=> ∀ v,Rel X.K ι' H' d v->Q v H'):=q6
      exact q8 ι3 _ (hr3.cellS hn3) (hr3.cell hn3 (zaw.eraseIdx _ rl3)) _ (ry.step (hr3.cellS hn3))
   ·rw [qa5 hi] at q6
    exact qa0 q6
  | _=>exact qa0 q4
 | _=>exact qa0 q1
end
end L3
namespace L3
open PySem.Sem (wp)
open PySem.AutoSeq1 (wpAny_loadPart')
section
variable {prog:Program} {w:World} {A:Around} {E:Value->Shared->Prop} {s:Shared}
theorem zbw {it l:Addr} {i:Nat} {items:Array Value} {x:Value} {Q:Value->Shared->Prop} (hit:s.heap.IsTupleIter it l i) (hl:s.heap.IsTuple l items) (hx:items[i]? = some x)
  (hQ: ∀ h',h'.IsTupleIter it l (i+1)->Heap.SameBut it s.heap h'->Q x {s with heap:=h'}):wpAny (model prog w) A (Builtin.SmallTypes.nextOf (.ref it)) Q E s:=by
 obtain ⟨o,ho,hc,hd⟩:=id hit
 obtain ⟨ol,hol,_,nl,hdl⟩:=hl
 unfold Builtin.SmallTypes.nextOf
 refine qaW (wpAny_callSpecial?_slot (name:=Str.ofString "__next__") hit.typeIs F.slot_tuple_iterator_next
   (wpAny_call_entry F.slot_tuple_iterator_next hit.typeIs F.entry_tuple_iterator_next ?_ (F.args_tuple_iterator_next_1 _)))
 show wpAny _ _ (field (.ref it) 0>>=_) _ _ s
 refine qaW (wpAny_field ho hd (x:= .ref l) rfl ?_)
 show wpAny _ _ (if (Value.ref l==Value.none)=true then _ else _) _ _ s
 rw [qa5 (show ¬((Value.ref l==Value.none)=true) from Bool.false_ne_true)]
 show wpAny _ _ (field (.ref it) 1>>=_) _ _ s
 refine qaW (wpAny_field ho hd (x:= .int i 0) rfl ?_)
 show wpAny _ _ (seqItems? (.ref l)>>=_) _ _ s
 refine qaW (wpAny_seqItems hol hdl ?_)
 simp only [qaB,hx]
 refine qaW (wpAny_setField ho hd (by simp) (qaX ⟨x,rfl,qaX (hQ _ ?_ (Heap.SameBut.update ..))⟩))
 exact ⟨_,qal _ ho (Obj.isFreed_of_fields (Obj.data_mapFields hd _)),(Obj.cls_mapFields ..).trans hc,by
   rw [Obj.data_mapFields hd];simp [rawInt]⟩
theorem zcq {it l:Addr} {i:Nat} {items:Array Value} {Q:Value->Shared->Prop} (hh:zhc A s.heap) (hit:s.heap.IsTupleIter it l i) (hl:s.heap.IsTuple l items) (hx:items[i]? = none)
  (hE: ∀ h' e,Heap.ExtBut it s.heap h'->(∃ o,h'.get? e=some o/\o.cls= .type "StopIteration")->E (.ref e) {s with heap:=h'}):wpAny (model prog w) A (Builtin.SmallTypes.nextOf (.ref it)) Q E s:=by
 obtain ⟨o,h1,h2,h3⟩:=id hit
 obtain ⟨ol,l1,_,nl,l2⟩:=hl
 unfold Builtin.SmallTypes.nextOf
 refine qaW (wpAny_callSpecial?_slot (name:=Str.ofString "__next__") hit.typeIs F.slot_tuple_iterator_next
   (wpAny_call_entry F.slot_tuple_iterator_next hit.typeIs F.entry_tuple_iterator_next ?_ (F.args_tuple_iterator_next_1 _)))
 show wpAny _ _ (field (.ref it) 0>>=_) _ _ s
 refine qaW (wpAny_field h1 h3 (x:= .ref l) rfl ?_)
 show wpAny _ _ (if (Value.ref l==Value.none)=true then _ else _) _ _ s
 rw [qa5 (show ¬(Value.ref l==Value.none)=true from nofun)]
 show wpAny _ _ (field (.ref it) 1>>=_) _ _ s
 refine qaW (wpAny_field h1 h3 (x:= .int i 0) rfl ?_)
 show wpAny _ _ (seqItems? (.ref l)>>=_) _ _ s
 refine qaW (wpAny_seqItems l1 l2 ?_)
 simp only [qaB,hx]
 refine qaW (wpAny_rule (qaW (wpAny_setField h1 h3 (by simp) ?_)))
 show wpAny _ _ (newExc (.type "StopIteration") []>>=_) _ _ _
 refine qaW ?_
 simp only [newExc,newTuple]
 refine qaW (qaC ?_ (by size_fits))
 refine qaW (m:=firstArgMember _ _) (wpAny_of_eq (a:=Value.none) (by first | rfl | (simp only [firstArgMember];rfl)) ?_)
 refine qaC ?_ (by size_fits)
 rcases hh with hh | ⟨ha,cls,head,hh,hX⟩
 ·simp only [raiseNew]
  refine qaW (wpAny_handled ?_)
  first | rw [show A.in1.handled=none from hh] | rw [hh]
  refine qaW (qaX (wpAny_throw ?_))
  exact hE _ _ (((Heap.SameBut.update ..).extBut.push _).push _) ⟨_,qar _ rfl,rfl⟩
 have nit:ha≠it:=λz=>by
  subst z
  obtain ⟨ob,vs,x1,_,_,x4,x5,x6⟩:=hX
  rw [h1] at x1
  cases x1
  rw [h3] at x4
  cases x4
  simp at x5
 have hX1:zpt (s.heap.update it (Obj.mapFields (·.setIfInBounds 0 Value.none))) ha cls head:=by
  obtain ⟨ob,vs,x1,x2⟩:=hX
  exact ⟨ob,vs,(qah _ _ (Ne.symm nit)).trans x1,x2⟩
 obtain ⟨ob,vs,x1,x2⟩:=hX1
 have y1:=qag {cls:= .type "tuple",dict:=none,data:= .seq [].toArray} x1
 refine zcY (h:=ha) (cls:=cls) (head:=head) hh ⟨ob,vs,qag _ y1,x2⟩ (qar _ rfl) rfl (by simp;omega) (qaR (qaQ y1)) ?_
 refine hE _ _ (λb o hb z=> ?_) ⟨_,qal _ (qar _ rfl) rfl,rfl⟩
 have z1:(s.heap.update it (Obj.mapFields (·.setIfInBounds 0 Value.none))).get? b=some o:=(qah _ _ (Ne.symm hb)).trans z
 have z2:=qag {cls:= .type "tuple",dict:=none,data:= .seq [].toArray} z1
 rw [qah _ _ (ne_of_gt (qaQ z2))]
 exact qag _ z2
end
def zaJ (A:Around):List Addr:=match A.handled with
 | some (.ref a)=>[a]
 | _=>[]
theorem zhc.keep {A:Around} {h h':Heap} (x:zhc A h) (k: ∀ b∈zaJ A, ∀ o,h.get? b=some o->h'.get? b=some o):zhc A h':=by
 rcases x with x | ⟨a,cls,head,x1,ob,vs,x2,x3⟩
 ·exact .inl x
 ·exact .inr ⟨a,cls,head,x1,ob,vs,k a (by unfold zaJ;rw [x1];simp) _ x2,x3⟩
theorem zfx {prog:Program} {w:World} {A:Around} (it l:Addr) (hne:l≠it) (items:Array Value):
  Draws prog w A.in1 it (it::l::zaJ A) items.size (λi v=>items[i]? = some v) (λi h=>h.IsTupleIter it l i/\h.IsTuple l items/\zhc A h/\it∉zaJ A) where
 live:=λ_ _ st=>let ⟨o,ho,_⟩:=st.1;⟨o,ho⟩
 frame:=λ_ _ _ st hk=>⟨st.1.at λo e=>hk it (by simp) o e,st.2.1.at λo e=>hk l (by simp) o e,st.2.2.1.keep λb hb o e=>hk b (by simp [hb]) o e,st.2.2.2⟩
 item:=λi s Q E hi st hQ=>by
  refine zbw st.1 st.2.1 (x:=items[i]) (by simp [hi]) λh' hit' hs'=> ?_
  exact hQ _ h' s.toks (by simp [hi]) ⟨hit',st.2.1.extBut hs'.extBut hne,st.2.2.1.keep λb hb o e=>(hs'.2 b λz=>st.2.2.2 (z▸hb)).trans e,st.2.2.2⟩ hs'
 done:=λs Q E st hE=>zcq (A:=A.in1) st.2.2.1 st.1 st.2.1 (by simp) hE
theorem zdP (l:Addr) (items:Array Value) (n:Nat) (dct:Option Addr) (sl:Array (Option Value)):
  Meets (Builtin.«enumerate.__new__» ⟨[.type "enumerate",.ref l],[]⟩) (λ_ R s=>s.heap.get? l=some {cls:= .type "tuple",dict:=dct,data:= .seq items n,slots:=sl}/\
    R (.ok (.ret (.ref (s.heap.push {cls:= .type "tuple_iterator",data:= .fields #[.ref l,.int 0 0]}).objs.size)))
      {s with heap:=(s.heap.push {cls:= .type "tuple_iterator",data:= .fields #[.ref l,.int 0 0]}).push {cls:= .type "enumerate",data:= .fields #[.none,.bool false,.ref s.heap.objs.size,rawInt 0,.none,.none]}}):=
 .of_wp λprog w A R s h=>by
  obtain ⟨hp,g,d,tk,os⟩:=s;obtain ⟨hl,h⟩:=h
  have hsub:=sub_enumerate
  have hL:Heap.IsTuple (Shared.heap ⟨hp,g,d,tk,os⟩) l items:=⟨_,hl,rfl,n,rfl⟩
  wp_walk using wpAny_loadPart' hl
  refine wpAny_stack_any λst=>qaX ?_
  split
  ·rename_i c _ _ _ _ _
   cases (c==Value.type "enumerate")
   ·wp_walk using wpAny_loadPart' hl,wpAny_pyIter_tuple hL
    exact ⟨_,rfl,h⟩
   ·wp_walk using wpAny_loadPart' hl,wpAny_pyIter_tuple hL
    exact ⟨_,rfl,h⟩
  ·wp_walk using wpAny_loadPart' hl,wpAny_pyIter_tuple hL
   exact ⟨_,rfl,h⟩
end L3
namespace L3
section
variable {prog:Program} {w:World} {A:Around} {E:Value->Shared->Prop} {s:Shared}
theorem zdN {l:Addr} {items:Array Value} {Q:Value->Shared->Prop} (hL:s.heap.IsTuple l items)
  (h: ∀ h',IsEnum h' (s.heap.objs.size+1) s.heap.objs.size 0 .none->h'.IsTupleIter s.heap.objs.size l 0->h'.objs.size=s.heap.objs.size+2->
    (∀ b o,s.heap.get? b=some o->h'.get? b=some o)->Q (.ref (s.heap.objs.size+1)) {s with heap:=h'}):
  wpAny (model prog w) A (call (.type "enumerate") [.ref l]) Q E s:=by
 obtain ⟨⟨c,dct,dt,sl⟩,hl,hc,n,hd⟩:=hL
 replace hc:c= .type "tuple":=hc
 replace hd:dt= .seq items n:=hd
 subst hc hd
 refine callType_new F.called_enumerate (by decide) (F.typeCall_enumerate_1 _) (F.newCall_enumerate_1 _) (λobj=>F.args_object_init_2 obj _) F.entry_enumerate_new
  (zdP l items n dct sl) ⟨hl,?_⟩
 have hz:(s.heap.push {cls:= .type "tuple_iterator",data:= .fields #[.ref l,.int 0 0]}).objs.size=s.heap.objs.size+1:=qaL ..
 show _/\_
 rw [hz]
 have he:IsEnum ((s.heap.push {cls:= .type "tuple_iterator",data:= .fields #[.ref l,.int 0 0]}).push
     {cls:= .type "enumerate",data:= .fields #[.none,.bool false,.ref s.heap.objs.size,rawInt 0,.none,.none]}) (s.heap.objs.size+1) s.heap.objs.size 0 .none:=by
  have:=qar (s.heap.push {cls:= .type "tuple_iterator",data:= .fields #[.ref l,.int 0 0]})
   (o:={cls:= .type "enumerate",data:= .fields #[.none,.bool false,.ref s.heap.objs.size,rawInt 0,.none,.none]}) rfl
  rw [hz] at this;exact this
 exact ⟨⟨_,he,rfl⟩,h _ he ⟨_,qag _ (qar _ rfl),rfl,rfl⟩ (by rw [qaL,hz]) λb o x=>qag _ (qag _ x)⟩
end
end L3
namespace L2
section
variable {X:Cx} {pins:List (Addr×Obj)} {σ:St} {H:Hp} {s:Shared} {h':Heap}
theorem Inv.turned2 {t':Nat} {e it:Addr} (I:Inv X pins σ H s) (k: ∀ b o,b≠e->b≠it->s.heap.get? b=some o->h'.get? b=some o) (f:zgx X pins H e) (g:zgx X pins H it):Inv X pins σ H {s with heap:=h',toks:=t'}:=by
 obtain ⟨f0,f1,f2,f3,f4,f5⟩:=f
 obtain ⟨g0,g1,g2,g3,g4,g5⟩:=g
 have ne: ∀ b u,H b=some u->b≠e:=λb u q z=>by rw [z,f0] at q;cases q
 have nit: ∀ b u,H b=some u->b≠it:=λb u q z=>by rw [z,g0] at q;cases q
 have kk: ∀ b o,b∉[e,it]->s.heap.get? b=some o->h'.get? b=some o:=λb o hb q=>k b o (λz=>hb (by simp [z])) (λz=>hb (by simp [z])) q
 refine I.step (g':=s.gens) (d':=s.drawn) (ch:=[e,it]) (λb hb=> ?_) (λb o _ _ hc q _=>kk b o hc q) (λb o _ _ hc q _=>⟨o.slots,kk b o hc q⟩) (λ_ _ _ _ n=>n)
  (λb o hc q=>⟨o,kk b o hc q⟩) (λ_ _ q=>q) (λ_ _ _ q=>q) (λb ps q=>⟨#[],by rw [q];simp⟩) (λm hm=> ?_) (λb u q=> ?_) I.bare
 ·have z:b=e\/b=it:=by simpa using hb
  rcases z with rfl | rfl
  ·exact ⟨f3,f1,f4,f5⟩
  ·exact ⟨g3,g1,g4,g5⟩
 ·obtain ⟨o,es,ep,ho,r⟩:=hm
  exact ⟨o,es,ep,k _ o (Ne.symm f1) (Ne.symm g1) ho,r⟩
 ·refine (I.hok b u q).stay (λc v hc q'=> ?_) (λ_ q=>q) λ_ _ q=>q
  rcases hc with z | z
  ·rw [z];exact k b v (ne b u q) (nit b u q) (by rw [<- z];exact q')
  ·exact k c v (ne c _ z) (nit c _ z) q'
end
def Ite (K:W.Frag) (a:Addr):It:=
 ⟨λi H=> ∃ xs x,SqT K H a xs/\xs[i]? = some x,λi H x H'=> ∃ T y,H T=none/\H'=upd H T (.tup [.int i,y])/\x= .ref T/\ ∀ xs,SqT K H a xs->xs[i]? = some y,λi H=> ∃ xs,SqT K H a xs/\xs.length=i⟩
theorem zkL {P:Program} {w:World} {K:W.Frag} {elts:List Expr} {k:Nat} {pos:Pos} (a e it:Addr) (hei:e≠it):zmx P w K (.Tuple elts k pos) (Ite K a) [e,it] e (λi h=>(∃ old,IsEnum h e it i old)/\h.IsTupleIter it a i) where
 mem:=by simp
 obj:=λi h st b hb=>by
  obtain ⟨⟨old,he⟩,o,ho,hc,hd⟩:=st
  have z:b=e\/b=it:=by simpa using hb
  rcases z with rfl | rfl
  ·exact ⟨_,he,λv z=>by cases z⟩
  ·exact ⟨o,ho,λv z=>by rw [hd] at z;cases z⟩
 keep:=λi h h' st k=>⟨let ⟨old,he⟩:=st.1;⟨old,k e (by simp) _ he⟩,st.2.at λo q=>k it (by simp) o q⟩
 item:=by
  intro X hP hw hK i pins s σ H E I hf st hg
  subst hP hw hK
  obtain ⟨xs,y,hq,hx⟩:=hg
  obtain ⟨its,rv,p,hz⟩:=I.tuple hq
  obtain ⟨u,hu,ru⟩:=rv.get hx
  obtain ⟨⟨old,he⟩,hit⟩:=st
  have hfe:=hf e (by simp)
  have hfi:=hf it (by simp)
  obtain ⟨ot,ht,hct,nt,hdt⟩:=(show s.heap.IsTuple a its.toArray from p)
  obtain ⟨oi,hi,hci,hdi⟩:=id hit
  have hai:a≠it:=λz=>by
   subst z
   rw [ht] at hi
   cases hi
   rw [hdt] at hdi
   cases hdi
  have hea:e≠a:=λz=>by
   subst z
   have he':s.heap.get? e=_:=he
   rw [ht] at he'
   cases he'
   cases hdt
  have hin:it∉L3.zaJ X.A:=λz=>by
   rcases I.hand with q | ⟨ha,cls,head,q,ob,vs,x1,_,_,x4,x5,_⟩
   ·unfold L3.zaJ at z;rw [q] at z;simp at z
   ·unfold L3.zaJ at z
    rw [q] at z
    have:it=ha:=by simpa using z
    subst this
    rw [hi] at x1
    cases x1
    rw [hdi] at x4
    cases x4
    simp at x5
  have hen:e∉L3.zaJ X.A:=λz=>by
   rcases I.hand with q | ⟨ha,cls,head,q,ob,vs,x1,_,_,x4,x5,_⟩
   ·unfold L3.zaJ at z;rw [q] at z;simp at z
   ·unfold L3.zaJ at z
    rw [q] at z
    have:e=ha:=by simpa using z
    subst this
    have he':s.heap.get? e=_:=he
    rw [x1] at he'
    cases he'
    cases x4
    simp at x5
  have hlt:i<its.toArray.size:=by
   have:=(qac.mp hu).1
   simpa using this
  refine wpAny_pyNext_enum_itemD (L3.zfx (A:=X.A) it a hai its.toArray) he ⟨hit,p,I.hand,hin⟩ hlt hei (by simp [hei,hea,hen]) λx h1 tk hP ho hs' hT hsz hk=> ?_
  have hxu:x=u:=by
   have:its[i]? = some x:=by simpa using hP
   rw [hu] at this
   exact (Option.some.inj this).symm
  subst hxu
  refine ⟨_,rfl,wpAny_letOwnedTupleGo_enum ho λh2 he2 hs2=> ?_⟩
  have het:e≠s.heap.objs.size:=qaR (qaQ he)
  have hit':it≠s.heap.objs.size:=qaR (qaQ hi)
  have fresh:=I.hok.fresh (qaV s.heap.objs.size)
  have I1:Inv X pins σ (upd H s.heap.objs.size (.tup [.int i,y])) {s with heap:=s.heap.push {cls:= .type "tuple",data:= .seq #[.int i tk,x]},toks:=tk+1}:=
   I.laid (t':=tk+1) (λb o q=>qag _ q) (qaV _) (show zbW X.prog X.w _ _ _ (.tup [.int i,y]) from ⟨by show 2<=sizeLine;decide,[.int i tk,x],.cons ⟨tk,rfl⟩ (.cons ru .nil),zjV.new _ _⟩)
  have fe:zgx X pins (upd H s.heap.objs.size (.tup [.int i,y])) e:=⟨by rw [zaN het];exact hfe.1,hfe.2⟩
  have fi:zgx X pins (upd H s.heap.objs.size (.tup [.int i,y])) it:=⟨by rw [zaN hit'];exact hfi.1,hfi.2⟩
  have I2:Inv X pins σ (upd H s.heap.objs.size (.tup [.int i,y])) {s with heap:=h1,toks:=tk+1}:=I1.turned2 (t':=tk+1) (h':=h1) (λb o hb1 hb2 q=>by
    rcases Heap.get?_push_cases q with ⟨z1,z2⟩ | z
    · rw [z1,z2];exact hT
    · exact hk b o hb1 hb2 z) fe fi
  obtain ⟨f0,f1,f2,f3,f4,f5⟩:=fe
  have I3:Inv X pins σ (upd H s.heap.objs.size (.tup [.int i,y])) {s with heap:=h2,toks:=tk+1}:=I2.turned (t':=tk+1) (λb o hb q=>(hs2.2 b hb).trans q) f0 f1 f3 f4 f5
  refine ⟨.ref s.heap.objs.size,_,I3,rfl,⟨s.heap.objs.size,y,fresh,rfl,rfl,λys hy=>by rw [I.tuple_inj hy hq];exact hx⟩,⟨⟨x,by simpa using he2⟩,hs'.1.at λo q=>(hs2.2 it (Ne.symm hei)).trans q⟩,λb hb=> ?_⟩
  have z:b=e\/b=it:=by simpa using hb
  rcases z with rfl | rfl
  ·exact f0
  ·exact fi.1
 done:=by
  intro X hP hw hK i pins s σ H E I hf st hg
  subst hP hw hK
  obtain ⟨xs,hq,hx⟩:=hg
  obtain ⟨its,rv,p,hz⟩:=I.tuple hq
  obtain ⟨⟨old,he⟩,hit⟩:=st
  have hfi:=hf it (by simp)
  obtain ⟨ot,ht,hct,nt,hdt⟩:=(show s.heap.IsTuple a its.toArray from p)
  obtain ⟨oi,hi,hci,hdi⟩:=id hit
  have hai:a≠it:=λz=>by
   subst z
   rw [ht] at hi
   cases hi
   rw [hdt] at hdi
   cases hdi
  have hin:it∉L3.zaJ X.A:=λz=>by
   rcases I.hand with q | ⟨ha,cls,head,q,ob,vs,x1,_,_,x4,x5,_⟩
   ·unfold L3.zaJ at z;rw [q] at z;simp at z
   ·unfold L3.zaJ at z
    rw [q] at z
    have:it=ha:=by simpa using z
    subst this
    rw [hi] at x1
    cases x1
    rw [hdi] at x4
    cases x4
    simp at x5
  have hn:its.toArray.size=i:=by
   have:=rv.length
   simp
   omega
  subst hn
  obtain ⟨f0,f1,f2,f3,f4,f5⟩:=hfi
  exact wpAny_pyNext_enum_endD (L3.zfx (A:=X.A) it a hai its.toArray) he ⟨hit,p,I.hand,hin⟩ λh' hx'=>⟨rfl,I.turned (t':=s.toks) (λb o hb q=>hx' b o hb q) f0 f1 f3 f4 f5⟩
 self:=λ_ _ _ _ _ st h=>let ⟨⟨_,he⟩,_⟩:=st;wpAny_pyIter_enum he h
section
variable {X:Cx} {elts:List Expr} {k:Nat} {tpos:Pos}
def zuc (K:W.Frag) (ta:TA):TI:=λσ H R=>ta σ H λvs H1=> ∃ a,vs=[.ref a]/\(∃ xs,SqT K H1 a xs)/\R (Ite K a) H1
theorem zp6 {l:Expr} {ta:TA} {p pos:Pos} (hg:Gl X "enumerate") (hm:X.mg "enumerate"=none) (ha:PA X [l] ta) (hs:starEach [l] X.env=[(false,eval l X.env)]:=by rfl):
  PI X (.Tuple elts k tpos) (.Call (.Name "enumerate" p) [l] [] pos) (zuc X.K ta):=by
 intro pins s σ H R I h
 refine Call_ (zeN I hg hm PyProof.Rows.boot_enumerate (PyProof.Rows.callWith_type1 (thn (ha pos pins s σ H _ I h) λus s1 ⟨vs,H1,I1,r1,q1⟩=> ?_) hs rfl))
 obtain ⟨a,e,⟨xs,hq⟩,q⟩:=q1
 subst e
 cases r1 with
 | cons r rr=>
  cases rr
  cases r
  obtain ⟨its,rv,p,hz⟩:=I1.tuple hq
  refine L3.zdN (show s1.heap.IsTuple a its.toArray from p) λh' he hit hsz kp=> ?_
  refine wpAny_pyIter_enum he ?_
  refine ⟨s1.heap.objs.size+1,[s1.heap.objs.size+1,s1.heap.objs.size],_,_,H1,rfl,I1.kept (t':=s1.toks) kp,zkL a _ _ (Nat.succ_ne_self _),⟨⟨_,he⟩,hit⟩,λb hb=> ?_,q⟩
  have z:b=s1.heap.objs.size+1\/b=s1.heap.objs.size:=by simpa using hb
  rcases z with rfl | rfl
  ·exact I1.fpOk (le_succ _) (I1.hok.fresh (le_succ _))
  ·exact I1.fpOk (qaV _) (I1.hok.fresh (qaV _))
end
end L2
namespace L3
open L2
section
variable {X:Cx} {E:XE} {elts:List Expr} {k:Nat} {tpos pos:Pos}
def zg0 (ds:List D):List D:=(List.range ds.length).map λ(i:Nat)=> .tup [.int i,ds.getD i .non]
theorem zmw {K:W.Frag} {ι:Io} {H:Hp} {a:Addr} {vs:List V} {ds:List D} (h: ∀ ι' H',Pass ι H ι' H'->SqT K H' a vs) (rl:zaw K ι H ds vs):zmn K ι H (Ite K a) (zg0 ds) where
 go:=λι' H' i s hi=>by
  have hi:i<ds.length:=by simpa [zg0] using hi
  obtain ⟨v,ev,_⟩:=zaw.get rl (i:=i) (d:=ds[i]) (by simp [hi])
  exact ⟨vs,v,h ι' H' s,ev⟩
 yld:=λι' H' _ i x H2 s hr hi ⟨T,y,hT,e,e2,hy⟩=>by
  subst e e2
  have hi:i<ds.length:=by simpa [zg0] using hi
  obtain ⟨v,ev,rv⟩:=zaw.get rl (i:=i) (d:=ds[i]) (by simp [hi])
  have ey:=hy vs (h ι' H' s)
  rw [ev] at ey
  cases ey
  refine ⟨.inr ⟨T,_,hT,rfl⟩,.tup [.int i,ds[i]],by simp [zg0,hi],?_⟩
  obtain ⟨st,hr2⟩:=zqy.step (.inr ⟨T,[.int i,y],hT,rfl⟩) hr
  have rv2:Rel K ι' (upd H' T (.tup [.int i,y])) ds[i] y:=(rv.pass s).step st
  simp only [Rel]
  exact ⟨T,_,rfl,⟨za4,hr.nin hT⟩,zaw.cons (by simp [Rel]) (zaw.cons rv2 zaw.nil)⟩
 stop:=λι' H' s=>⟨vs,h ι' H' s,by rw [<- rl.length];simp [zg0]⟩
def ztL (f:FE):FA:=λsd=>do
 let d<-f sd
 match d with
 | .tup ds=>pure (zg0 ds)
 | _=>M.bad
theorem zrD {l:Expr} {f:FE} {p:Pos} (hm:X.mg "enumerate"=none) (he:SE X E l f) (hg:Gl X "enumerate":=by rfl) (hs:starEach [l] X.env=[(false,eval l X.env)]:=by rfl):SI X E (.Tuple elts k tpos) (.Call (.Name "enumerate" p) [l] [] pos) (ztL f):=by
 refine PI.imp (zp6 hg hm (zco he zds hs) hs) λσ H Q ⟨ι,h,sd,L,hh,q⟩=>⟨ι,h,sd,L,hh,Fin.bind q λd h1 ι1 H1 e1 s1 hr1 q1 v rv=> ?_⟩
 cases d with
 | tup ds=>
  obtain ⟨a,vs,e,h1',h2⟩:=zgC rv
  exact ⟨a,by rw [e],⟨vs,h1' _ _ (Pass.refl _ _)⟩,Fin.out hr1 q1 _ (zmw h1' h2)⟩
 | _=>exact qa0 q1
end
end L3
namespace L3
section
open PySem.SeqAt
open PySem.AutoSeq1 (wpAny_loadPart')
open PySem.MeetsSeq PySem.MeetsSeq2 PySem.MeetsSeq3
section
variable {prog:Program} {w:World} {A:Around} {E:Value->Shared->Prop} {s:Shared}
end
end
end L3
namespace L3
section
variable {prog:Program} {w:World} {A:Around} {R:Result->Shared->Prop} {I:Addr} {fp wr:List Addr} {n:Nat} {P:Nat->Value->Prop} {St:Nat->Heap->Prop} {h0:Heap}
end
section
variable {prog:Program} {w:World} {A:Around} {E:Value->Shared->Prop} {s:Shared}
end
end L3
namespace L2
open L3
section
variable {X:Cx}
end
end L2
namespace L3
open L2
section
variable {X:Cx} {E:XE}
def zrX:FS:=λ_=>M.bad
theorem zmP {st:Stmt}:SS X E st zrX:=λpins s σ H D I h=>by
 obtain ⟨ι,h,sd,L,hh,q⟩:=h
 exact qa0 q
end
section
variable {X:Cx} {E:XE}
def zqR (x y:D):M D:=λh=>match pdH h x,pdH h y with
 | some a,some b=>if zgY a b=true then .ok (.bl (!PyData.eqv a b)) h else .bad
 | _,_=> .bad
theorem zr4 (hu:X.A.units+60<cLine):OpR X (compareOp .NotEq) (zdI X.K E zqR):=by
 intro pins s σ H x y v u Q I rx ry ⟨ι,h,d1,d2,r1,r2,hr,q⟩
 unfold zqR at q
 cases e1:pdH h d1 with
 | none=>rw [e1] at q;exact qa0 q
 | some a=>
  cases e2:pdH h d2 with
  | none=>rw [e1,e2] at q;exact qa0 q
  | some b=>
   rw [e1,e2] at q
   dsimp only at q
   by_cases c:zgY a b=true
   ·rw [qa4 c] at q
    obtain ⟨c1,c2,c3⟩:=ze8 c
    obtain ⟨as,ra⟩:=zhr I hr r1 rx e1
    obtain ⟨bs,rb⟩:=zhr I hr r2 ry e2
    exact SeqAt.compareNe_reads ra rb c1 c2 ⋯ ⟨.bl _,H,I,rfl,q ι H (zb1.refl _ _) hr (.bl _) (by simp [Rel])⟩
   ·rw [qa5 c] at q
    exact qa0 q
def zvW (d:D):M Bool:=do let ds<-zoJ d;pure (!ds.isEmpty)
def zvz (f:FE):FT:=λsd=>do let d<-f sd;zvW d
end
section
variable {X:Cx} {E:XE}
def zrP:D->Option Bool
 | .non=>some true
 | .int _=>some false
 | .tup _=>some false
 | .lst _=>some false
 | _=>none
def zpw (x y:D):M D:=match y with
 | .non=>do let b<-ofO (zrP x);pure (.bl b)
 | _=>M.bad
def zin (x y:D):M D:=match y with
 | .non=>do let b<-ofO (zrP x);pure (.bl (!b))
 | _=>M.bad
theorem ziW {K:W.Frag} {ι:Io} {H:Hp} {x:D} {v:V} {u:Value} {b:Bool} (r:Rel K ι H x v) (rv:zcc v u) (e:zrP x=some b):(u=Value.none/\b=true)\/(u≠Value.none/\b=false):=by
 cases x with
 | non=>
  simp only [Rel] at r
  subst r
  cases rv
  cases e
  exact .inl ⟨rfl,rfl⟩
 | int i=>
  simp only [Rel] at r
  subst r
  obtain ⟨t,rfl⟩:=rv
  cases e
  exact .inr ⟨(λz=>by cases z),rfl⟩
 | tup ds=>
  obtain ⟨a,vs,rfl,_,_⟩:=zdS r
  cases rv
  cases e
  exact .inr ⟨(λz=>by cases z),rfl⟩
 | lst ds=>
  obtain ⟨a,vs,rfl,_,_⟩:=zff r
  cases rv
  cases e
  exact .inr ⟨(λz=>by cases z),rfl⟩
 | _=>cases e
theorem zk4:OpR X (compareOp .Is) (zdI X.K E zpw):=by
 intro pins s σ H x y v u Q I rx ry ⟨ι,h,d1,d2,r1,r2,hr,q⟩
 cases d2 with
 | non=>
  obtain ⟨b,eb,q⟩:=Fin.ofOb (show Fin X.K E ι H ((do let b<-ofO (zrP d1);pure (.bl b):M D) h) _ from q)
  simp only [Rel] at r2
  subst r2
  cases ry
  rcases ziW r1 rx eb with ⟨rfl,rfl⟩ | ⟨hv,rfl⟩
  ·exact is_none_none (zhi I (Fin.out hr q _ (by simp [Rel])) rfl)
  ·exact is_none_ne hv (zhi I (Fin.out hr q _ (by simp [Rel])) rfl)
 | _=>exact qa0 q
theorem zkb:OpR X (compareOp .IsNot) (zdI X.K E zin):=by
 intro pins s σ H x y v u Q I rx ry ⟨ι,h,d1,d2,r1,r2,hr,q⟩
 cases d2 with
 | non=>
  obtain ⟨b,eb,q⟩:=Fin.ofOb (show Fin X.K E ι H ((do let b<-ofO (zrP d1);pure (.bl (!b)):M D) h) _ from q)
  simp only [Rel] at r2
  subst r2
  cases ry
  rcases ziW r1 rx eb with ⟨rfl,rfl⟩ | ⟨hv,rfl⟩
  ·exact isnot_none_none (zhi I (Fin.out hr q _ (by simp [Rel])) rfl)
  ·exact isnot_none_ne hv (zhi I (Fin.out hr q _ (by simp [Rel])) rfl)
 | _=>exact qa0 q
end
section
variable {X:Cx} {E:XE} {scope:Scope} {N:List Str} {src:List (Option Nat)} {tg iter elt:Expr} {ifs:List Expr} {pos:Pos}
theorem zvC {K:W.Frag} {g:D->Sd->M Sd} {tc:Sd->M Bool} {te:Sd->M D} {J:It} {ds:List D} {ι:Io} {H:Hp} {h:Hh} {sd:Sd} {σ:L2.St} {Q:VK} {p:Addr} (hk:zaD g src) (L:zc4 K ι H sd σ) (hr:zbo K ι H h) (ok:zmn K ι H J ds) (hz:ds.length<=sizeLine)
  (q:Fin K E ι H ((do let ys<-zbk (zaZ g tc te (zap src sd)) ds;zbq ys) h) λd ι' H'=> ∀ v,Rel K ι' H' d v->Q v H') (hp:H p=none):
  ztI J (zq7 K E g) (zfZ K E tc) (zhP K E te) (bStart src σ) H p λH'=>Q (.ref p) H':=by
 generalize hP:(λ(d:D) (ι':Io) (H':Hp)=> ∀ v,Rel K ι' H' d v->Q v H')=P at q
 generalize hf:zaZ g tc te (zap src sd)=f at q
 have hpx:p∉ι.x:=λz=>hr.nin hp (.inr z)
 have h0len:(zap src sd).length=src.length:=by unfold zap;rw [qaH]
 have h0non: ∀ (i:Nat),src[i]? = some none->(zap src sd)[i]? = some none:=λi e=>by unfold zap;rw [List.getElem?_map,e];rfl
 refine ⟨λi m σ' H'=>m=ds.length - i/\i<=ds.length/\ ∃ ι' h' done vs,ι'.x=p::ι.x/\zb1 ι H ι'.show H'/\zc4 K ι' H' (zap src sd) σ'/\zbo K ι' H' h'/\H' p=some (.lst vs)/\zaw K ι' H' done vs/\done.length<=i/\
     Fin K E ι H ((do let ys<-zbk f (ds.drop i);zbq (done++ys)) h') P,
   ⟨_,rfl,zero_le _,ι.hide p,h,[],[],rfl,?_,L.bStart.pass (zfl hp),hr.hide hp,za4,zaw.nil,qaV _,?_⟩,?_⟩
 ·have:=hr.laidS (o:= .lst []) hp
  exact ⟨this.old,this.new,this.hid,this.hidk,this.keep⟩
 ·simpa using q
 rintro i m σ2 H2 ⟨rfl,hi2,ι2,h2,done,vs,hx2,s2,L2,hr2,e2,rl2,dl2,q2⟩
 have ps2:Pass ι H ι2 H2:=⟨s2.old,λb o hb n=>⟨s2.keep b o hb n,λz=>by
   rcases z with z | z
   · exact s2.nin hb n (.inl z)
   · rw [hx2] at z
     rcases qaP.mp z with z | z
     · rw [z,hp] at hb;cases hb
     · exact n (.inr z)⟩⟩
 have hp2:p∈ι2.x:=by rw [hx2];exact qau
 have base: ∀ {ι':Io} {H':Hp},zb1 ι2 H2 ι' H'->zb1 ι H ι'.show H':=λt=>s2.trans (t.shown hx2)
 by_cases hlt:i<ds.length
 ·right
  refine ⟨ok.go ι2 H2 i ps2 hlt,λσ' H'=>i+1<=ds.length/\ ∃ ι' h' done vs,ι'.x=p::ι.x/\zb1 ι H ι'.show H'/\zc4 K ι' H' (zap src sd) σ'/\zbo K ι' H' h'/\H' p=some (.lst vs)/\zaw K ι' H' done vs/\done.length<=i+1/\
    Fin K E ι H ((do let ys<-zbk f (ds.drop (i+1));zbq (done++ys)) h') P,λσ' H' z=>⟨ds.length - (i+1),⋯,rfl,z.1,z.2⟩,λx H3 y=> ?_⟩
  obtain ⟨gr,d,ed,rd⟩:=ok.yld ι2 H2 h2 i x H3 ps2 hr2 hlt y
  obtain ⟨s3,hr3⟩:=gr.step hr2
  have edr:ds.drop i=d::ds.drop (i+1):=by
   rw [qae hlt]
   rw [qaf hlt] at ed
   rw [Option.some.inj ed]
  rw [edr] at q2
  have q3:=q2
  have st3:zb1 ι2 H2 ι2 H3:=s3
  have e3:H3 p=some (.lst vs):=by rw [s3.hidk p hp2];exact e2
  have eq1:(do let ys<-zbk f (d::ds.drop (i+1));zbq (done++ys):M D)=(g d (zap src sd)>>=λsd1=>tc sd1>>=λc=>if c=true then (te sd1>>=λy=>zbk f (ds.drop (i+1))>>=λys=>zbq (done++[y]++ys)) else (zbk f (ds.drop (i+1))>>=λys=>zbq (done++ys))):=by
   rw [zbk]
   rw [<- hf]
   simp only [zaZ,bind_assoc]
   refine congrArg _ (funext λsd1=> ?_)
   refine congrArg _ (funext λc=> ?_)
   cases c with
   | true=>simp only [if_true,bind_assoc,pure_bind,List.append_assoc,cons_append,nil_append]
   | false=>simp only [qax,if_false,pure_bind]
  rw [eq1] at q3
  refine ⟨ι2,h2,zap src sd,d,L2.step s3,hr3,rd,?_⟩
  refine Fin.bindB q3 (λι' H' h' s hr'=>⟨ι'.show,base (s3.trans s),hr'.show⟩) λsd4 h4 ι4 H4 e4 s4 hr4 q4 σ4 L4=> ?_
  have hx4:ι4.x=p::ι.x:=by rw [s4.hid];exact hx2
  obtain ⟨k1,k2⟩:=hk d _ h2 sd4 h4 h0len h0non e4
  refine ⟨ι4,h4,sd4,L4,hr4,Fin.bindB q4 (λι' H' h' s hr'=>⟨ι'.show,base ((s3.trans s4).trans s),hr'.show⟩) λc h5 ι5 H5 e5 s5 hr5 q5=> ?_⟩
  have hx5:ι5.x=p::ι.x:=by rw [s5.hid];exact hx4
  have sub: ∀ {ι':Io} {H':Hp},zc4 K ι' H' sd4 σ4->zc4 K ι' H' (zap src sd) σ4:=λ{ι' H'} z=>⟨by rw [<- k1];exact z.1,λj d' e=>z.2 j d' (k2 j d' (λw=>by rw [h0non j w] at e;cases e) e)⟩
  have st5:zb1 ι2 H2 ι5 H5:=(s3.trans s4).trans s5
  cases c with
  | false=>
   exact zoD ⟨hlt,ι5,h5,done,vs,hx5,base st5,sub (L4.step s5),hr5,by rw [st5.hidk p hp2];exact e2,rl2.step st5,Nat.le_succ_of_le dl2,q5⟩
  | true=>
   refine zn7 ⟨ι5,h5,sd4,L4.step s5,hr5,Fin.bindB q5 (λι' H' h' s hr'=>⟨ι'.show,base (st5.trans s),hr'.show⟩) λyd h6 ι6 H6 e6 s6 hr6 q6 y ry=> ?_⟩
   have st6:zb1 ι2 H2 ι6 H6:=st5.trans s6
   have hx6:ι6.x=p::ι.x:=by rw [s6.hid];exact hx5
   have hp6:p∈ι6.x:=by rw [hx6];exact qau
   have e6':H6 p=some (.lst vs):=by rw [st6.hidk p hp2];exact e2
   refine ⟨vs,e6',by rw [<- rl2.length];omega,hlt,ι6,h6,done++[yd],vs++[y],hx6,zhl hp hpx hx2 s2 st6,?_,hr6.hid hp6,za4,?_,?_,?_⟩
   ·exact ((sub (L4.step s5)).step s6).pass (zes hp6)
   ·exact ((rl2.step st6).append (zaw.cons ry zaw.nil)).pass (zes hp6)
   ·rw [qav,length_singleton];omega
   ·exact q6
 ·left
  have e:i=ds.length:=by omega
  subst e
  refine ⟨ok.stop ι2 H2 ps2,?_⟩
  rw [List.drop_length] at q2
  have hin:p∈ι2.x:=hp2
  have hpc:some p∉ι2.c:=(hr2.hidt p hin).2
  have htl:ι2.x.tail=ι.x:=by rw [hx2];rfl
  have q3:Fin K E ι H (zbq done h2) P:=by
   have:Fin K E ι H ((zbq (done++[]):M D) h2) P:=q2
   rw [append_nil] at this
   exact this
  have hmem: ∀ a,some a∈ι2.c++[some p]↔some a∈ι2.c\/a=p:=λa=>by simp
  have ps:Pass ι2 H2 ⟨ι2.c++[some p],ι.x⟩ H2:=by
   refine ⟨λn o h=> .inl ?_,λb o hb n=>⟨hb,λz=> ?_⟩⟩
   ·show (ι2.c++[some p])[n]? = _
    rw [qad (qac.mp h).1]
    exact h
   ·rcases z with z | z
    ·rcases (hmem b).mp z with z | z
     ·exact n (.inl z)
     ·exact n (.inr (z▸hin))
    ·exact n (.inr (by rw [hx2];exact qan _ z))
  have st:zb1 ι H ⟨ι2.c++[some p],ι.x⟩ H2:=by
   refine ⟨λn o h=> ?_,λa h=> ?_,rfl,s2.hidk,s2.keep⟩
   ·rcases s2.old n o h with z | z
    ·left
     have z:ι2.c[n]? = some o:=z
     show (ι2.c++[some p])[n]? = _
     rw [qad (qac.mp z).1]
     exact z
    ·right
     have z:ι2.c[n]? = some none:=z
     show (ι2.c++[some p])[n]? = _
     rw [qad (qac.mp z).1]
     exact z
   ·rcases (hmem a).mp h with z | z
    ·exact s2.new a z
    ·exact .inr (z▸hp)
  have hr3:zbo K ⟨ι2.c++[some p],ι.x⟩ H2 (h2++[.lst done]):=by
   have hl:=hr2.len
   refine ⟨by simp [hl],λa b c ha hb=> ?_,λn a c ha hc=> ?_,λn hn=> ?_,λa ha=> ?_⟩
   ·have ha:(ι2.c++[some p])[a]? = some (some c):=ha
    have hb:(ι2.c++[some p])[b]? = some (some c):=hb
    have key: ∀ n,(ι2.c++[some p])[n]? = some (some c)->(n<ι2.c.length/\ι2.c[n]? = some (some c))\/(n=ι2.c.length/\c=p):=λn hn=>by
     by_cases hlt':n<ι2.c.length
     ·rw [qad hlt'] at hn
      exact .inl ⟨hlt',hn⟩
     ·have:=(qac.mp hn).1
      rw [qav,length_singleton] at this
      have e:n=ι2.c.length:=by omega
      subst e
      rw [qaa (qaV _)] at hn
      simp at hn
      exact .inr ⟨rfl,hn.symm⟩
    rcases key a ha with ⟨l1,a1⟩ | ⟨a1,a2⟩<;>rcases key b hb with ⟨l2,b1⟩ | ⟨b1,b2⟩
    ·exact hr2.inj a b c a1 b1
    ·exact absurd (List.mem_of_getElem? a1) (b2▸hpc)
    ·exact absurd (List.mem_of_getElem? b1) (a2▸hpc)
    ·omega
   ·have ha:(ι2.c++[some p])[n]? = some (some a):=ha
    by_cases hlt':n<ι2.c.length
    ·rw [qad hlt'] at ha
     rw [qad ⋯] at hc
     obtain ⟨o',e2',e3'⟩:=hr2.at_ n a c ha hc
     exact ⟨o',e2',e3'.pass ps⟩
    ·have:=(qac.mp ha).1
     rw [qav,length_singleton] at this
     have e:n=ι2.c.length:=by omega
     subst e
     rw [qaa (qaV _)] at ha
     rw [<- hl,qaa (qaV _)] at hc
     simp at ha hc
     subst ha
     subst hc
     exact ⟨_,e2,vs,rfl,rl2.pass ps⟩
   ·have hn:(ι2.c++[some p])[n]? = some none:=hn
    by_cases hlt':n<ι2.c.length
    ·rw [qad hlt'] at hn
     rw [qad ⋯]
     exact hr2.dead n hn
    ·have:=(qac.mp hn).1
     rw [qav,length_singleton] at this
     have e:n=ι2.c.length:=by omega
     subst e
     rw [qaa (qaV _)] at hn
     simp at hn
   ·have h1:=hr2.hidt a (by rw [hx2];exact qan _ ha)
    exact ⟨h1.1,λz=>by
      rcases (hmem a).mp z with z | z
      · exact h1.2 z
      · exact hpx (z▸ha)⟩
  have q4:P (.cel h2.length) ⟨ι2.c++[some p],ι.x⟩ H2:=q3 _ _ st hr3
  rw [<- hP] at q4
  refine q4 (.ref p) ?_
  simp only [Rel]
  refine ⟨p,rfl,.inl ?_⟩
  show (ι2.c++[some p])[h2.length]? = _
  rw [hr2.len,qaa (qaV _)]
  simp
def zew (fi:Sd->M (List D)) (g:D->Sd->M Sd) (tc:Sd->M Bool) (te:Sd->M D) (src:List (Option Nat)):Sd->M D:=λsd=>do
 let ds<-fi sd
 fits ds.length
 let ys<-zbk (zaZ g tc te (zap src sd)) ds
 zbq ys
theorem zi0 {K:W.Frag} {fi:Sd->M (List D)} {g:D->Sd->M Sd} {tc:Sd->M Bool} {te:Sd->M D} (hk:zaD g src) (σ:L2.St) (H:Hp) (Q:VK) (q:zhP K E (zew fi g tc te src) σ H Q):
  zmG (zuy K E fi) (zq7 K E g) (zfZ K E tc) (zhP K E te) src σ H Q:=by
 obtain ⟨ι,h,sd,L,hh,q⟩:=q
 refine ⟨ι,h,sd,L,hh,Fin.bind q λds h1 ι1 H1 e1 s1 hr1 q1 J ok p hp=> ?_⟩
 obtain ⟨z,q2⟩:=Fin.fits q1
 exact zvC hk (L.step s1) hr1 ok z q2 hp
theorem zqs {fi:FA} {g:D->Sd->M Sd} {tc:FT} {te:FE} (hc:X.calm=true) (B:BOk X scope N src) (hk:zaD g src) (hi:SI X E tg iter fi)
  (hg: ∀ s H fp,SG (cxB X scope N s H fp) E tg g) (ht: ∀ s H fp,SCs (cxB X scope N s H fp) E ifs tc) (he: ∀ s H fp,SE (cxB X scope N s H fp) E elt te)
  (hs: ∀ x,foldedSetIterable iter X.env x=pure x:=by intro _;rfl):SE X E (.ListComp elt [⟨tg,iter,ifs,0⟩] scope pos) (zew fi g tc te src):=
 PE.imp (zkO B hi hg ht he hs) (zi0 hk)
noncomputable def zs4 (d:D):M D:=match d with
 | .cel n=>λh=>match h[n]? with
  | some (.lst ds)=> .ok (.lst ds) (h.set n .dead)
  | _=> .bad
 | _=>M.bad
theorem zty {e:Expr} {f:FE} (he:SE X E e f):SE X E e (cUn zs4 f):=by
 refine PE.imp he λσ H Q ⟨ι,h,sd,L,hh,q⟩=>⟨ι,h,sd,L,hh,Fin.bind q λd h1 ι1 H1 e1 s1 hr1 q1 v rv=> ?_⟩
 cases d with
 | cel n=>
  simp only [Rel] at rv
  obtain ⟨a,rfl,hn⟩:=rv
  rcases hn with hn | hn
  rotate_left
  ·have hd:=hr1.dead n hn
   have:Fin X.K E ι1 H1 (match h1[n]? with | some (.lst ds)=>R.ok (D.lst ds) (h1.set n .dead) | _=> .bad) _:=q1
   rw [hd] at this
   exact qa0 this
  have hlt:=(qac.mp hn).1
  have hl:=hr1.len
  obtain ⟨c,hc⟩: ∃ c,h1[n]? = some c:=⟨h1[n],by simp [hl,hlt]⟩
  obtain ⟨ds,vs,rfl,e2,rl⟩: ∃ ds vs,c= .lst ds/\H1 a=some (.lst vs)/\zaw X.K ι1 H1 ds vs:=by
   obtain ⟨o,e1,e2⟩:=hr1.at_ n a c hn hc
   cases c with
   | lst ds=>obtain ⟨vs,rfl,rl⟩:=e2;exact ⟨ds,vs,rfl,e1,rl⟩
   | dic kvs=>
    have:Fin X.K E ι1 H1 (match h1[n]? with | some (.lst ds)=>R.ok (D.lst ds) (h1.set n .dead) | _=> .bad) _:=q1
    rw [hc] at this
    exact qa0 this
   | dit ks=>
    have:Fin X.K E ι1 H1 (match h1[n]? with | some (.lst ds)=>R.ok (D.lst ds) (h1.set n .dead) | _=> .bad) _:=q1
    rw [hc] at this
    exact qa0 this
   | ins _ _=>
    have:Fin X.K E ι1 H1 (match h1[n]? with | some (.lst ds)=>R.ok (D.lst ds) (h1.set n .dead) | _=> .bad) _:=q1
    rw [hc] at this
    exact qa0 this
   | dead=>exact qa0 e2
  have q2:Fin X.K E ι1 H1 (.ok (.lst ds) (h1.set n .dead)) λd ι' H'=> ∀ v,Rel X.K ι' H' d v->Q v H':=by
   have:Fin X.K E ι1 H1 (match h1[n]? with | some (.lst ds)=>R.ok (D.lst ds) (h1.set n .dead) | _=> .bad) _:=q1
   rw [hc] at this
   exact this
  have mem: ∀ b,some b∈ι1.c.set n none->some b∈ι1.c:=λb hb=>by
   rcases List.mem_or_eq_of_mem_set hb with z | z
   ·exact z
   ·cases z
  have st:zb1 ι1 H1 ⟨ι1.c.set n none,ι1.x⟩ H1:=by
   refine ⟨λk o hk=> ?_,λb hb=> .inl (mem b hb),rfl,λ_ _=>rfl,λ_ _ h _=>h⟩
   by_cases hkn:n=k
   ·subst hkn
    right
    show (ι1.c.set n none)[n]? = _
    rw [qai hlt]
   ·left
    show (ι1.c.set n none)[k]? = _
    rw [qao hkn]
    exact hk
  have hna:some a∉ι1.c.set n none:=λz=>by
   obtain ⟨k,hk⟩:=List.getElem?_of_mem z
   by_cases hkn:n=k
   ·subst hkn
    rw [qai hlt] at hk
    cases hk
   ·rw [qao hkn] at hk
    exact hkn (hr1.inj n k a hn hk)
  have hrn:zbo X.K ⟨ι1.c.set n none,ι1.x⟩ H1 (h1.set n .dead):=by
   refine ⟨by simp [hl],λi j b hi hj=> ?_,λk b c' hk hc'=> ?_,λk hk=> ?_,λb hb=>⟨(hr1.hidt b hb).1,λz=>(hr1.hidt b hb).2 (mem b z)⟩⟩
   ·have hi:(ι1.c.set n none)[i]? = some (some b):=hi
    have hj:(ι1.c.set n none)[j]? = some (some b):=hj
    have key: ∀ k,(ι1.c.set n none)[k]? = some (some b)->ι1.c[k]? = some (some b):=λk hk=>by
     by_cases hkn:n=k
     ·subst hkn
      rw [qai hlt] at hk
      cases hk
     ·rw [qao hkn] at hk
      exact hk
    exact hr1.inj i j b (key i hi) (key j hj)
   ·have hk:(ι1.c.set n none)[k]? = some (some b):=hk
    by_cases hkn:n=k
    ·subst hkn
     rw [qai hlt] at hk
     cases hk
    ·rw [qao hkn] at hk hc'
     obtain ⟨o',x2,x3⟩:=hr1.at_ k b c' hk hc'
     exact ⟨o',x2,x3.pass st.pass⟩
   ·have hk:(ι1.c.set n none)[k]? = some none:=hk
    by_cases hkn:n=k
    ·subst hkn
     rw [qai ⋯]
    ·rw [qao hkn] at hk ⊢
     exact hr1.dead k hk
  refine q2 _ _ st hrn (.ref a) ?_
  simp only [Rel]
  refine ⟨a,vs,rfl,⟨e2,λz=> ?_⟩,rl.step st⟩
  rcases z with z | z
  ·exact hna z
  ·exact (hr1.hidt a z).2 (List.mem_of_getElem? hn)
 | _=>exact qa0 q1
end
end L3
namespace L3
open PySem.Sem (wp)
open PySem.AutoSeq1 (wpAny_loadPart')
section
variable {prog:Program} {w:World} {A:Around} {E:Value->Shared->Prop} {s:Shared}
theorem zci {it l:Addr} {i:Nat} {items:Array Value} {Q:Value->Shared->Prop} (hh:zhc A s.heap) (hit:s.heap.IsListIter it l i) (hl:s.heap.IsList l items) (hx:items[i]? = none)
  (hE: ∀ h' e,Heap.ExtBut it s.heap h'->(∃ o,h'.get? e=some o/\o.cls= .type "StopIteration")->E (.ref e) {s with heap:=h'}):wpAny (model prog w) A (Builtin.SmallTypes.nextOf (.ref it)) Q E s:=by
 obtain ⟨o,h1,h2,h3⟩:=id hit
 obtain ⟨ol,l1,_,nl,l2⟩:=hl
 unfold Builtin.SmallTypes.nextOf
 refine qaW (wpAny_callSpecial?_slot (name:=Str.ofString "__next__") hit.typeIs slot_listiter_next
   (wpAny_call_entry slot_listiter_next hit.typeIs entry_listiter_next ?_ (args_listiter_next _)))
 show wpAny _ _ (field (.ref it) 0>>=_) _ _ s
 refine qaW (wpAny_field h1 h3 (x:= .ref l) rfl ?_)
 show wpAny _ _ (if (Value.ref l==Value.none)=true then _ else _) _ _ s
 rw [qa5 (show ¬(Value.ref l==Value.none)=true from nofun)]
 show wpAny _ _ (field (.ref it) 1>>=_) _ _ s
 refine qaW (wpAny_field h1 h3 (x:= .int i 0) rfl ?_)
 show wpAny _ _ (seqItems? (.ref l)>>=_) _ _ s
 refine qaW (wpAny_seqItems l1 l2 ?_)
 simp only [qaB,hx]
 refine qaW (wpAny_rule (qaW (wpAny_setField h1 h3 (by simp) ?_)))
 show wpAny _ _ (newExc (.type "StopIteration") []>>=_) _ _ _
 refine qaW ?_
 simp only [newExc,newTuple]
 refine qaW (qaC ?_ (by size_fits))
 refine qaW (m:=firstArgMember _ _) (wpAny_of_eq (a:=Value.none) (by first | rfl | (simp only [firstArgMember];rfl)) ?_)
 refine qaC ?_ (by size_fits)
 rcases hh with hh | ⟨ha,cls,head,hh,hX⟩
 ·simp only [raiseNew]
  refine qaW (wpAny_handled ?_)
  first | rw [show A.in1.handled=none from hh] | rw [hh]
  refine qaW (qaX (wpAny_throw ?_))
  exact hE _ _ (((Heap.SameBut.update ..).extBut.push _).push _) ⟨_,qar _ rfl,rfl⟩
 have nit:ha≠it:=λz=>by
  subst z
  obtain ⟨ob,vs,x1,_,_,x4,x5,x6⟩:=hX
  rw [h1] at x1
  cases x1
  rw [h3] at x4
  cases x4
  simp at x5
 have hX1:zpt (s.heap.update it (Obj.mapFields (·.setIfInBounds 0 Value.none))) ha cls head:=by
  obtain ⟨ob,vs,x1,x2⟩:=hX
  exact ⟨ob,vs,(qah _ _ (Ne.symm nit)).trans x1,x2⟩
 obtain ⟨ob,vs,x1,x2⟩:=hX1
 have y1:=qag {cls:= .type "tuple",dict:=none,data:= .seq [].toArray} x1
 refine zcY (h:=ha) (cls:=cls) (head:=head) hh ⟨ob,vs,qag _ y1,x2⟩ (qar _ rfl) rfl (by simp;omega) (qaR (qaQ y1)) ?_
 refine hE _ _ (λb o hb z=> ?_) ⟨_,qal _ (qar _ rfl) rfl,rfl⟩
 have z1:(s.heap.update it (Obj.mapFields (·.setIfInBounds 0 Value.none))).get? b=some o:=(qah _ _ (Ne.symm hb)).trans z
 have z2:=qag {cls:= .type "tuple",dict:=none,data:= .seq [].toArray} z1
 rw [qah _ _ (ne_of_gt (qaQ z2))]
 exact qag _ z2
end
theorem zfb {prog:Program} {w:World} {A:Around} (it l:Addr) (hne:l≠it) (items:Array Value):
  Draws prog w A.in1 it (it::l::zaJ A) items.size (λi v=>items[i]? = some v) (λi h=>h.IsListIter it l i/\h.IsList l items/\zhc A h/\it∉zaJ A) where
 live:=λ_ _ st=>let ⟨o,ho,_⟩:=st.1;⟨o,ho⟩
 frame:=λ_ _ _ st hk=>⟨st.1.at λo e=>hk it (by simp) o e,st.2.1.at λo e=>hk l (by simp) o e,st.2.2.1.keep λb hb o e=>hk b (by simp [hb]) o e,st.2.2.2⟩
 item:=λi s Q E hi st hQ=>by
  refine wpAny_nextOf_list_item st.1 st.2.1 (x:=items[i]) (by simp [hi]) λh' hit' hs'=> ?_
  exact hQ _ h' s.toks (by simp [hi]) ⟨hit',st.2.1.extBut hs'.extBut hne,st.2.2.1.keep λb hb o e=>(hs'.2 b λz=>st.2.2.2 (z▸hb)).trans e,st.2.2.2⟩ hs'
 done:=λs Q E st hE=>zci (A:=A.in1) st.2.2.1 st.1 st.2.1 (by simp) hE
end L3
namespace L2
def zvc (K:W.Frag) (a:Addr):It:=
 ⟨λi H=> ∃ xs x,SqL K H a xs/\xs[i]? = some x,λi H x H'=> ∃ T y,H T=none/\H'=upd H T (.tup [.int i,y])/\x= .ref T/\ ∀ xs,SqL K H a xs->xs[i]? = some y,λi H=> ∃ xs,SqL K H a xs/\xs.length=i⟩
theorem zjS {P:Program} {w:World} {K:W.Frag} {elts:List Expr} {k:Nat} {pos:Pos} (a e it:Addr) (hei:e≠it):zmx P w K (.Tuple elts k pos) (zvc K a) [e,it] e (λi h=>(∃ old,IsEnum h e it i old)/\h.IsListIter it a i) where
 mem:=by simp
 obj:=λi h st b hb=>by
  obtain ⟨⟨old,he⟩,o,ho,hc,hd⟩:=st
  have z:b=e\/b=it:=by simpa using hb
  rcases z with rfl | rfl
  ·exact ⟨_,he,λv z=>by cases z⟩
  ·exact ⟨o,ho,λv z=>by rw [hd] at z;cases z⟩
 keep:=λi h h' st k=>⟨let ⟨old,he⟩:=st.1;⟨old,k e (by simp) _ he⟩,st.2.at λo q=>k it (by simp) o q⟩
 item:=by
  intro X hP hw hK i pins s σ H E I hf st hg
  subst hP hw hK
  obtain ⟨xs,y,hq,hx⟩:=hg
  obtain ⟨its,rv,p,hz⟩:=I.list hq
  obtain ⟨u,hu,ru⟩:=rv.get hx
  obtain ⟨⟨old,he⟩,hit⟩:=st
  have hfe:=hf e (by simp)
  have hfi:=hf it (by simp)
  obtain ⟨ot,ht,hct,nt,hdt⟩:=p.isList
  obtain ⟨oi,hi,hci,hdi⟩:=id hit
  have hai:a≠it:=λz=>by
   subst z
   rw [ht] at hi
   cases hi
   rw [hdt] at hdi
   cases hdi
  have hea:e≠a:=λz=>by
   subst z
   have he':s.heap.get? e=_:=he
   rw [ht] at he'
   cases he'
   cases hdt
  have hin:it∉L3.zaJ X.A:=λz=>by
   rcases I.hand with q | ⟨ha,cls,head,q,ob,vs,x1,_,_,x4,x5,_⟩
   ·unfold L3.zaJ at z;rw [q] at z;simp at z
   ·unfold L3.zaJ at z
    rw [q] at z
    have:it=ha:=by simpa using z
    subst this
    rw [hi] at x1
    cases x1
    rw [hdi] at x4
    cases x4
    simp at x5
  have hen:e∉L3.zaJ X.A:=λz=>by
   rcases I.hand with q | ⟨ha,cls,head,q,ob,vs,x1,_,_,x4,x5,_⟩
   ·unfold L3.zaJ at z;rw [q] at z;simp at z
   ·unfold L3.zaJ at z
    rw [q] at z
    have:e=ha:=by simpa using z
    subst this
    have he':s.heap.get? e=_:=he
    rw [x1] at he'
    cases he'
    cases x4
    simp at x5
  have hlt:i<its.toArray.size:=by
   have:=(qac.mp hu).1
   simpa using this
  refine wpAny_pyNext_enum_itemD (L3.zfb (A:=X.A) it a hai its.toArray) he ⟨hit,p.isList,I.hand,hin⟩ hlt hei (by simp [hei,hea,hen]) λx h1 tk hP ho hs' hT hsz hk=> ?_
  have hxu:x=u:=by
   have:its[i]? = some x:=by simpa using hP
   rw [hu] at this
   exact (Option.some.inj this).symm
  subst hxu
  refine ⟨_,rfl,wpAny_letOwnedTupleGo_enum ho λh2 he2 hs2=> ?_⟩
  have het:e≠s.heap.objs.size:=qaR (qaQ he)
  have hit':it≠s.heap.objs.size:=qaR (qaQ hi)
  have fresh:=I.hok.fresh (qaV s.heap.objs.size)
  have I1:Inv X pins σ (upd H s.heap.objs.size (.tup [.int i,y])) {s with heap:=s.heap.push {cls:= .type "tuple",data:= .seq #[.int i tk,x]},toks:=tk+1}:=
   I.laid (t':=tk+1) (λb o q=>qag _ q) (qaV _) (show zbW X.prog X.w _ _ _ (.tup [.int i,y]) from ⟨by show 2<=sizeLine;decide,[.int i tk,x],.cons ⟨tk,rfl⟩ (.cons ru .nil),zjV.new _ _⟩)
  have fe:zgx X pins (upd H s.heap.objs.size (.tup [.int i,y])) e:=⟨by rw [zaN het];exact hfe.1,hfe.2⟩
  have fi:zgx X pins (upd H s.heap.objs.size (.tup [.int i,y])) it:=⟨by rw [zaN hit'];exact hfi.1,hfi.2⟩
  have I2:Inv X pins σ (upd H s.heap.objs.size (.tup [.int i,y])) {s with heap:=h1,toks:=tk+1}:=I1.turned2 (t':=tk+1) (h':=h1) (λb o hb1 hb2 q=>by
    rcases Heap.get?_push_cases q with ⟨z1,z2⟩ | z
    · rw [z1,z2];exact hT
    · exact hk b o hb1 hb2 z) fe fi
  obtain ⟨f0,f1,f2,f3,f4,f5⟩:=fe
  have I3:Inv X pins σ (upd H s.heap.objs.size (.tup [.int i,y])) {s with heap:=h2,toks:=tk+1}:=I2.turned (t':=tk+1) (λb o hb q=>(hs2.2 b hb).trans q) f0 f1 f3 f4 f5
  refine ⟨.ref s.heap.objs.size,_,I3,rfl,⟨s.heap.objs.size,y,fresh,rfl,rfl,λys hy=>by rw [I.list_inj hy hq];exact hx⟩,⟨⟨x,by simpa using he2⟩,hs'.1.at λo q=>(hs2.2 it (Ne.symm hei)).trans q⟩,λb hb=> ?_⟩
  have z:b=e\/b=it:=by simpa using hb
  rcases z with rfl | rfl
  ·exact f0
  ·exact fi.1
 done:=by
  intro X hP hw hK i pins s σ H E I hf st hg
  subst hP hw hK
  obtain ⟨xs,hq,hx⟩:=hg
  obtain ⟨its,rv,p,hz⟩:=I.list hq
  obtain ⟨⟨old,he⟩,hit⟩:=st
  have hfi:=hf it (by simp)
  obtain ⟨ot,ht,hct,nt,hdt⟩:=p.isList
  obtain ⟨oi,hi,hci,hdi⟩:=id hit
  have hai:a≠it:=λz=>by
   subst z
   rw [ht] at hi
   cases hi
   rw [hdt] at hdi
   cases hdi
  have hin:it∉L3.zaJ X.A:=λz=>by
   rcases I.hand with q | ⟨ha,cls,head,q,ob,vs,x1,_,_,x4,x5,_⟩
   ·unfold L3.zaJ at z;rw [q] at z;simp at z
   ·unfold L3.zaJ at z
    rw [q] at z
    have:it=ha:=by simpa using z
    subst this
    rw [hi] at x1
    cases x1
    rw [hdi] at x4
    cases x4
    simp at x5
  have hn:its.toArray.size=i:=by
   have:=rv.length
   simp
   omega
  subst hn
  obtain ⟨f0,f1,f2,f3,f4,f5⟩:=hfi
  exact wpAny_pyNext_enum_endD (L3.zfb (A:=X.A) it a hai its.toArray) he ⟨hit,p.isList,I.hand,hin⟩ λh' hx'=>⟨rfl,I.turned (t':=s.toks) (λb o hb q=>hx' b o hb q) f0 f1 f3 f4 f5⟩
 self:=λ_ _ _ _ _ st h=>let ⟨⟨_,he⟩,_⟩:=st;wpAny_pyIter_enum he h
section
variable {X:Cx} {elts:List Expr} {k:Nat} {tpos:Pos}
def zq3 (K:W.Frag) (ta:TA):TI:=λσ H R=>ta σ H λvs H1=> ∃ a,vs=[.ref a]/\(∃ xs,SqL K H1 a xs)/\R (zvc K a) H1
theorem znQ {l:Expr} {ta:TA} {p pos:Pos} (hg:Gl X "enumerate") (hm:X.mg "enumerate"=none) (ha:PA X [l] ta) (hs:starEach [l] X.env=[(false,eval l X.env)]:=by rfl):
  PI X (.Tuple elts k tpos) (.Call (.Name "enumerate" p) [l] [] pos) (zq3 X.K ta):=by
 intro pins s σ H R I h
 refine Call_ (zeN I hg hm PyProof.Rows.boot_enumerate (PyProof.Rows.callWith_type1 (thn (ha pos pins s σ H _ I h) λus s1 ⟨vs,H1,I1,r1,q1⟩=> ?_) hs rfl))
 obtain ⟨a,e,⟨xs,hq⟩,q⟩:=q1
 subst e
 cases r1 with
 | cons r rr=>
  cases rr
  cases r
  obtain ⟨its,rv,p,hz⟩:=I1.list hq
  refine PySem.call_enumerate_list p.isList λh' he hit hsz kp=> ?_
  refine wpAny_pyIter_enum he ?_
  refine ⟨s1.heap.objs.size+1,[s1.heap.objs.size+1,s1.heap.objs.size],_,_,H1,rfl,I1.kept (t':=s1.toks) kp,zjS a _ _ (Nat.succ_ne_self _),⟨⟨_,he⟩,hit⟩,λb hb=> ?_,q⟩
  have z:b=s1.heap.objs.size+1\/b=s1.heap.objs.size:=by simpa using hb
  rcases z with rfl | rfl
  ·exact I1.fpOk (le_succ _) (I1.hok.fresh (le_succ _))
  ·exact I1.fpOk (qaV _) (I1.hok.fresh (qaV _))
end
end L2
namespace L3
open L2
section
variable {X:Cx} {E:XE} {elts:List Expr} {k:Nat} {tpos pos:Pos}
theorem zmf {K:W.Frag} {ι:Io} {H:Hp} {a:Addr} {vs:List V} {ds:List D} (h: ∀ ι' H',Pass ι H ι' H'->SqL K H' a vs) (rl:zaw K ι H ds vs):zmn K ι H (zvc K a) (zg0 ds) where
 go:=λι' H' i s hi=>by
  have hi:i<ds.length:=by simpa [zg0] using hi
  obtain ⟨v,ev,_⟩:=zaw.get rl (i:=i) (d:=ds[i]) (by simp [hi])
  exact ⟨vs,v,h ι' H' s,ev⟩
 yld:=λι' H' _ i x H2 s hr hi ⟨T,y,hT,e,e2,hy⟩=>by
  subst e e2
  have hi:i<ds.length:=by simpa [zg0] using hi
  obtain ⟨v,ev,rv⟩:=zaw.get rl (i:=i) (d:=ds[i]) (by simp [hi])
  have ey:=hy vs (h ι' H' s)
  rw [ev] at ey
  cases ey
  refine ⟨.inr ⟨T,_,hT,rfl⟩,.tup [.int i,ds[i]],by simp [zg0,hi],?_⟩
  obtain ⟨st,hr2⟩:=zqy.step (.inr ⟨T,[.int i,y],hT,rfl⟩) hr
  have rv2:Rel K ι' (upd H' T (.tup [.int i,y])) ds[i] y:=(rv.pass s).step st
  simp only [Rel]
  exact ⟨T,_,rfl,⟨za4,hr.nin hT⟩,zaw.cons (by simp [Rel]) (zaw.cons rv2 zaw.nil)⟩
 stop:=λι' H' s=>⟨vs,h ι' H' s,by rw [<- rl.length];simp [zg0]⟩
def zh9 (f:FE):FA:=λsd=>do
 let d<-f sd
 match d with
 | .lst ds=>pure (zg0 ds)
 | _=>M.bad
theorem zlt {l:Expr} {f:FE} {p:Pos} (hm:X.mg "enumerate"=none) (he:SE X E l f) (hg:Gl X "enumerate":=by rfl) (hs:starEach [l] X.env=[(false,eval l X.env)]:=by rfl):SI X E (.Tuple elts k tpos) (.Call (.Name "enumerate" p) [l] [] pos) (zh9 f):=by
 refine PI.imp (znQ hg hm (zco he zds hs) hs) λσ H Q ⟨ι,h,sd,L,hh,q⟩=>⟨ι,h,sd,L,hh,Fin.bind q λd h1 ι1 H1 e1 s1 hr1 q1 v rv=> ?_⟩
 cases d with
 | lst ds=>
  obtain ⟨a,vs,e,h1',h2⟩:=zgm rv
  exact ⟨a,by rw [e],⟨vs,h1' _ _ (Pass.refl _ _)⟩,Fin.out hr1 q1 _ (zmf h1' h2)⟩
 | _=>exact qa0 q1
end
end L3
namespace L2
section
variable {κ:Type} [DecidableEq κ]
def zkf (kvs:List (κ×V)) (k:κ) (v:V):List (κ×V):=
 if (kvs.any λkv=>decide (kv.1=k))=true then kvs.map (λkv=>if kv.1=k then (kv.1,v) else kv) else kvs++[(k,v)]
theorem zis (kvs:List (κ×V)) (k:κ) (v:V):(zkf kvs k v).length<=kvs.length+1:=by
 unfold zkf
 split
 ·rw [qaH];omega
 ·rw [qav,qaE,qaJ];omega
theorem KV.any {kvs:List (κ×V)} {vs:List (κ×Value)} (r:KV kvs vs) (k:κ):(kvs.any λkv=>decide (kv.1=k))=vs.any λkv=>decide (kv.1=k):=by
 unfold KV at r
 induction r with
 | nil=>rfl
 | cons h t ih=>rw [any_cons,any_cons,ih,h.1]
theorem KV.repl {kvs:List (κ×V)} {vs:List (κ×Value)} (r:KV kvs vs) (k:κ) {y:V} {u:Value} (ry:zcc y u):
  KV (kvs.map λkv=>if kv.1=k then (kv.1,y) else kv) (vs.map λkv=>if kv.1=k then (kv.1,u) else kv):=by
 unfold KV at r ⊢
 induction r with
 | nil=>exact .nil
 | @cons p q ps qs h t ih=>
  rw [qaM,qaM]
  refine .cons ?_ ih
  obtain ⟨h1,h2⟩:=h
  by_cases e:p.1=k
  ·rw [qa4 e,qa4 (h1.symm.trans e)];exact ⟨h1,ry⟩
  ·rw [qa5 e,qa5 (λz=>e (h1.trans z))];exact ⟨h1,h2⟩
theorem KV.put {kvs:List (κ×V)} {vs:List (κ×Value)} (r:KV kvs vs) (k:κ) {y:V} {u:Value} (ry:zcc y u):KV (zkf kvs k y) (stored vs k u):=by
 unfold zkf stored
 rw [r.any k]
 by_cases e:(vs.any λkv=>decide (kv.1=k))=true
 ·rw [qa4 e,qa4 e];exact r.repl k ry
 ·rw [qa5 e,qa5 e];exact Paired.snoc r ⟨rfl,ry⟩
theorem KV.length {kvs:List (κ×V)} {vs:List (κ×Value)} (r:KV kvs vs):kvs.length=vs.length:=Paired.length r
end
theorem ztl {P:Program} {w:World} {k:Key} {u:Value} (r:zcc (kV k) u):(zeF P w).is k u=true:=by
 cases k with
 | inl i=>obtain ⟨t,e⟩:=(show ∃ t,u=Value.int i t from r);subst e;exact ziu P w i t
 | inr x=>obtain ⟨t,e⟩:=(show ∃ t,u=Value.str x t from r);subst e;exact zhQ P w x t
section
variable {X:Cx}
end
end L2
namespace L3
open L2
section
variable {X:L2.Cx} {E:XE}
def zqN (kvs:List (Int×D)) (k:Int) (d:D):List (Int×D):=
 if (kvs.any λp=>decide (p.1=k))=true then kvs.map (λp=>if p.1=k then (p.1,d) else p) else kvs++[(k,d)]
noncomputable def zc5 (n:Nat):M (List (Int×D)):=λh=>match h[n]? with
 | some (.dic kvs)=> .ok kvs h
 | _=> .bad
theorem zo0 {K:W.Frag} {ι:Io} {H:Hp} {kvs:List (Int×D)} {vs:List (Key×V)} {k:Int} {d:D} {v:V} (r:Paired (λ(p:Int×D) (q:Key×V)=>q.1= .inl p.1/\Rel K ι H p.2 q.2) kvs vs) (rv:Rel K ι H d v):
  Paired (λ(p:Int×D) (q:Key×V)=>q.1= .inl p.1/\Rel K ι H p.2 q.2) (zqN kvs k d) (zkf vs (.inl k) v):=by
 have ha:(kvs.any λp=>decide (p.1=k))=(vs.any λp=>decide (p.1=(.inl k:Key))):=by
  induction r with
  | nil=>rfl
  | @cons p q ps qs h t ih=>
   rw [any_cons,any_cons,ih,h.1]
   congr 1
   rw [Bool.eq_iff_iff]
   simp only [qaD]
   exact ⟨λz=>by rw [z],λz=>by injection z⟩
 unfold zqN zkf
 rw [ha]
 by_cases e:(vs.any λp=>decide (p.1=(.inl k:Key)))=true
 ·rw [qa4 e,qa4 e]
  clear ha e
  induction r with
  | nil=>exact .nil
  | @cons p q ps qs h t ih=>
   rw [qaM,qaM]
   refine .cons ?_ ih
   by_cases e:p.1=k
   ·rw [qa4 e,qa4 (by rw [h.1,e])];exact ⟨h.1,rv⟩
   ·rw [qa5 e,qa5 (λz=>e (by rw [h.1] at z;injection z))];exact h
 ·rw [qa5 e,qa5 e]
  exact Paired.snoc r ⟨rfl,rv⟩
end
open LT
section
variable {h:Hh}
end
end L3
namespace L3
open L2
structure Fd (K:W.Frag) (x:Str) (st:Stmt) (a:Addr) (d:FuncData):Prop where
 e:W.nsIn K mainGlobals x=some (some (.ref a))
 F:Fun K x x st a d
section
variable {X:Cx} {E:XE}
def zhX (x y:D):M D:=match x,y with
 | .lst xs,.int k=>if 0<=k/\k<1000/\xs.length*k.toNat<=sizeLine then pure (.lst (replicate k.toNat xs).flatten) else M.bad
 | _,_=>M.bad
theorem zk0:OpR X (binaryOp .Mult) (zdI X.K E zhX):=by
 refine OpR.imp zsm λx y H Q ⟨ι,h,d1,d2,r1,r2,hr,q⟩=> ?_
 unfold zhX at q
 split at q
 ·simp only [Rel] at r1 r2
  obtain ⟨a,vs,e,k1,k2⟩:=r1
  obtain ⟨⟨c2,c3,c4⟩,q⟩:=Fin.guard q
  exact ⟨a,_,vs,e,r2,k1.1,⋯,⋯,by rw [<- k2.length];exact c4,λp hp=>ztp hr (k2.rep _) q hp⟩
 ·exact qa0 q
end
end L3
namespace L3
open HT
section
open PySem.SeqAt
open PySem.AutoSeq1 (wpAny_loadPart')
open PySem.MeetsSeq PySem.MeetsSeq2 PySem.MeetsSeq3
end
section
variable {prog:Program} {w:World} {A:Around} {E:Value->Shared->Prop} {s:Shared}
end
end L3
namespace L3
section
open PySem.SeqAt
open PySem.AutoSeq1 (wpAny_loadPart')
open PySem.MeetsSeq PySem.MeetsSeq2 PySem.MeetsSeq3
section
variable {prog:Program} {w:World} {A:Around} {E:Value->Shared->Prop} {s:Shared}
end
end
open L2
section
variable {X:Cx} {E:XE}
end
end L3
namespace L2
section
variable {X:Cx}
theorem zkl:zba X (.builtin "abs") (λxs H Q=> ∃ i,xs=[.int i]/\Q (.int (if i<0 then -i else i)) H):=by
 intro pins s σ H xs us Q I r h
 obtain ⟨i,rfl,q⟩:=h
 obtain ⟨u,rfl,t,rfl⟩:=zeM r
 exact call_abs_int λu tk=>⟨.int (if i<0 then -i else i),H,I.tok _,⟨_,rfl⟩,q⟩
end
end L2
namespace L3
open L2
section
variable {X:Cx} {E:XE}
def zsa:List D->M D
 | [.int i]=>pure (.int (if i<0 then -i else i))
 | _=>M.bad
theorem zhg:zba X (.builtin "abs") (zjt X.K E zsa):=by
 refine zba.imp zkl λxs H Q ⟨ι,h,ds,rl,hr,q⟩=> ?_
 unfold zsa at q
 split at q
 ·simp only [zaw,Rel] at rl
  obtain ⟨v,r,rfl,rfl,rfl⟩:=rl
  exact ⟨_,rfl,Fin.out hr q _ (by simp [Rel])⟩
 ·exact qa0 q
def zqP (i j:Nat) (fs:FA):FS:=λsd=>do let ds<-fs sd;match ds with | [d,d']=>pure (.nx ((sd.set i (some d)).set j (some d'))) | _=>M.bad
theorem zsl {x y:Str} {a b:Expr} {fs:FA} {px py pt pos:Pos} {kt k2 pt2} (i j:Nat) (hc:X.calm=true) (hN:X.N.Nodup) (ha:SA X E [a,b] fs) (hi:X.N[i]? = some x:=by rfl) (hj:X.N[j]? = some y:=by rfl) (hij:i≠j:=by decide)
  (hx:X.env.scope.names.lookup x=some .local:=by rfl) (hy:X.env.scope.names.lookup y=some .local:=by rfl)
  (hw:swappedStores [.Tuple [.Name x px,.Name y py] kt pt] (.Tuple [a,b] k2 pt2) X.env=pure (some [x,y]):=by rfl)
  (hs:swapsWithSole [.Tuple [.Name x px,.Name y py] kt pt] (.Tuple [a,b] k2 pt2) pos.line X.env=pure false:=by rfl):
  SS X E (.Assign [.Tuple [.Name x px,.Name y py] kt pt] (.Tuple [a,b] k2 pt2) pos) (zqP i j fs):=zuf (zsC hc hN hi hj hij hx hy ha hw hs)
end
open Classical in
section
variable {X:Cx} {E:XE} {scope:Scope} {N:List Str} {src:List (Option Nat)} {tg iter elt:Expr} {ifs:List Expr} {pos:Pos}
end
end L3
namespace L3
open L2
section
variable {X:Cx} {E:XE} {pos:Pos}
end
end L3
namespace L2
section
variable {X:Cx}
def atK (kvs:List (Key×V)) (k:Key):Option V:=(kvs.find? λq=>decide (q.1=k)).map (·.2)
theorem zkS {kvs:List (Key×V)} {us:List (Key×Value)} (r:KV kvs us) {k:Key} {v:V} (e:atK kvs k=some v): ∃ w,valueAt us k=some w/\zcc v w:=by
 unfold KV at r
 induction r with
 | nil=>cases e
 | @cons p q ps qs h t ih=>
  by_cases hk:p.1=k
  ·have e2:atK (p::ps) k=some p.2:=by simp [atK,List.find?_cons,hk]
   rw [e2] at e
   cases e
   exact ⟨q.2,by simp [valueAt,List.find?_cons,h.1.symm.trans hk],h.2⟩
  ·have hk': ¬q.1=k:=λz=>hk (h.1.trans z)
   have e2:atK (p::ps) k=atK ps k:=by simp [atK,List.find?_cons,hk]
   rw [e2] at e
   obtain ⟨w,hw,rw'⟩:=ih e
   exact ⟨w,by rw [<- hw];simp [valueAt,List.find?_cons,hk'],rw'⟩
end
end L2
namespace L3
open L2
section
variable {X:L2.Cx} {E:XE}
theorem zm7:OpR X (binaryOp .FloorDiv) (rI (λ_ j=>0<j/\j<2^8000) λi j=> .int (i / j)):=opI λi j _ _ _ _ _ hc q=>by
 refine floordiv_int ⋯ (by rw [Int.fdiv_eq_ediv_of_nonneg _ ⋯];exact q) (.inl (PyProof.noPylong_of_log2 ?_))
 have h1:j.natAbs<2^8000:=by omega
 have h0:j.natAbs≠0:=by omega
 exact lt_trans ((Nat.log2_lt h0).mpr h1) (by decide)
def zeq:=dII (λ_ j=>decide (0<j) && decide (j<2^8000)) λi j=> .int (i / j)
theorem zeo:OpR X (binaryOp .FloorDiv) (zdI X.K E zeq):=zic zm7 (λi j h=>by simpa using h) λ_ _ _ _=>by simp [Rel]
end
section
variable {X:L2.Cx} {E:XE}
end
end L3
namespace L2
section
variable {X:Cx}
end
end L2
namespace L3
open L2
section
variable {X:L2.Cx} {E:XE}
end
end L3
namespace L3
open PySem.Sem (wp)
section
variable {prog:Program} {w:World} {A:Around} {E:Value->Shared->Prop} {s:Shared}
theorem zfX {z TI TO i1 i2 l1 l2:Addr} {k1 k2:Nat} {xs ys:Array Value} {x y a b:Value} {Q:Value->Shared->Prop} (D:ZipApart z TI TO i1 i2 l1 l2)
  (hz:IsZip s.heap z TI TO .none) (hTI:IsPair s.heap TI (.ref i1) (.ref i2)) (hTO:IsPair s.heap TO a b)
  (h1:s.heap.IsTupleIter i1 l1 k1) (h2:s.heap.IsTupleIter i2 l2 k2) (hl1:s.heap.IsTuple l1 xs) (hl2:s.heap.IsTuple l2 ys) (hx:xs[k1]? = some x) (hy:ys[k2]? = some y)
  (hQ: ∀ h',IsZip h' z TI TO (rawInt s.heap.objs.size)->IsPair h' TO x y->h'.IsTupleIter i1 l1 (k1+1)->h'.IsTupleIter i2 l2 (k2+1)->IsPair h' s.heap.objs.size x y->h'.objs.size=s.heap.objs.size+1->
    (∀ c o,c≠z->c≠TO->c≠i1->c≠i2->s.heap.get? c=some o->h'.get? c=some o)->Q (.ref s.heap.objs.size) {s with heap:=h'}):
  wpAny (model prog w) A (Builtin.«zip.__next__» ⟨[.ref z],[]⟩) (λfin s'=> ∃ v,fin= .done (.ret v)/\Q v s') E s:=by
 show wpAny _ _ (field (.ref z) 2>>=_) _ _ _
 refine qaW (wpAny_field hz rfl (x:= .bool false) rfl ?_)
 show wpAny _ _ (field (.ref z) 3>>=_) _ _ _
 refine qaW (wpAny_field hz rfl (x:= .ref TI) rfl ?_)
 refine qaW (wpAny_seqItems hTI rfl ?_)
 show wpAny _ _ (Builtin.SmallTypes.ownedTupleIsFree (.ref z)>>=_) _ _ _
 refine qaW ?_
 unfold Builtin.SmallTypes.ownedTupleIsFree
 refine qaW (wpAny_field hz rfl (x:= .none) rfl (qaX ?_))
 simp only [if_true]
 refine qaW (wpAny_rule ?_)
 refine qaW (wpAny_field hz rfl (x:= .ref TO) rfl ?_)
 refine qaW (wpAny_setField_rec hz (by simp) λh₁ hz₁ hs₁=> ?_)
 replace hz₁:IsZip h₁ z TI TO .ellipsis:=hz₁
 refine qaW ?_
 simp only [List.zipIdx_cons,List.zipIdx_nil,forIn_cons,forIn_nil]
 refine qaW (qaW (wpAny_onRaise ?_))
 show wpAny _ _ (Builtin.SmallTypes.nextOf (.ref i1)>>=_) _ _ _
 refine qaW (zbw (h1.extBut hs₁.extBut D.i1z) (hl1.extBut hs₁.extBut D.l1z) hx λh₂ h1₂ hs₂=>qaX ?_)
 have hTO₂:IsPair h₂ TO a b:=hs₂.extBut _ _ D.TOi1 (hs₁.extBut _ _ D.TOz hTO)
 refine qaW (wpAny_seqItems hTO₂ rfl ?_)
 refine qaW (wpAny_updateSeq_pair hTO₂ λh₃ hTO₃ hs₃=> ?_)
 replace hTO₃:IsPair h₃ TO x b:=hTO₃
 refine qaW (wpAny_letGo (qaX ?_))
 refine qaW (qaW (wpAny_onRaise ?_))
 show wpAny _ _ (Builtin.SmallTypes.nextOf (.ref i2)>>=_) _ _ _
 refine qaW (zbw (((h2.extBut hs₁.extBut D.i2z).extBut hs₂.extBut D.i12.symm).extBut hs₃.extBut D.TOi2.symm)
   (((hl2.extBut hs₁.extBut D.l2z).extBut hs₂.extBut D.l2i1).extBut hs₃.extBut D.l2TO) hy λh₄ h2₄ hs₄=>qaX ?_)
 have hTO₄:IsPair h₄ TO x b:=hs₄.extBut _ _ D.TOi2 hTO₃
 refine qaW (wpAny_seqItems hTO₄ rfl ?_)
 refine qaW (wpAny_updateSeq_pair hTO₄ λh₅ hTO₅ hs₅=> ?_)
 replace hTO₅:IsPair h₅ TO x y:=hTO₅
 refine qaW (wpAny_letGo (qaX (qaX ?_)))
 refine qaW (wpAny_seqItems hTO₅ rfl ?_)
 refine qaW (wpAny_newTuple ?_)
 have hsz:h₅.objs.size=s.heap.objs.size:=by rw [hs₅.1,hs₄.1,hs₃.1,hs₂.1,hs₁.1]
 have hz₅:IsZip h₅ z TI TO .ellipsis:=hs₅.extBut _ _ D.TOz.symm (hs₄.extBut _ _ D.i2z.symm (hs₃.extBut _ _ D.TOz.symm (hs₂.extBut _ _ D.i1z.symm hz₁)))
 have hk₅: ∀ c o,c≠z->c≠TO->c≠i1->c≠i2->s.heap.get? c=some o->h₅.get? c=some o:=λc o c1 c2 c3 c4 e=>
  hs₅.extBut _ _ c2 (hs₄.extBut _ _ c4 (hs₃.extBut _ _ c2 (hs₂.extBut _ _ c3 (hs₁.extBut _ _ c1 e))))
 have h1₅:h₅.IsTupleIter i1 l1 (k1+1):=((h1₂.extBut hs₃.extBut D.TOi1.symm).extBut hs₄.extBut D.i12).extBut hs₅.extBut D.TOi1.symm
 have h2₅:h₅.IsTupleIter i2 l2 (k2+1):=h2₄.extBut hs₅.extBut D.TOi2.symm
 have hzlt:z<h₅.objs.size:=qaQ hz₅
 have hTOlt:TO<h₅.objs.size:=qaQ hTO₅
 have hi1lt:i1<h₅.objs.size:=by obtain ⟨_,e,_⟩:=h1₅;exact qaQ e
 have hi2lt:i2<h₅.objs.size:=by obtain ⟨_,e,_⟩:=h2₅;exact qaQ e
 show wpAny _ _ (Builtin.SmallTypes.ownedTupleHandOut (.ref z) (.ref h₅.objs.size)>>=_) _ _ _
 refine qaW ?_
 unfold Builtin.SmallTypes.ownedTupleHandOut
 have hz₆:IsZip (h₅.push {cls:= .type "tuple",data:= .seq #[x,y]}) z TI TO .ellipsis:=qag _ hz₅
 refine qaW (wpAny_setField_rec hz₆ (by simp) λh₇ hz₇ hs₇=> ?_)
 replace hz₇:IsZip h₇ z TI TO (rawInt h₅.objs.size):=hz₇
 refine wpAny_setField_rec hz₇ (by simp) λh₈ hz₈ hs₈=> ?_
 replace hz₈:IsZip h₈ z TI TO (rawInt h₅.objs.size):=hz₈
 have up: ∀ c o,c≠z->h₅.get? c=some o->h₈.get? c=some o:=λc o c1 e=>hs₈.extBut _ _ c1 (hs₇.extBut _ _ c1 (qag _ e))
 have hT₈:IsPair h₈ h₅.objs.size x y:=hs₈.extBut _ _ (ne_of_gt hzlt) (hs₇.extBut _ _ (ne_of_gt hzlt) (qar _ rfl))
 have hz8:h₈.objs.size=h₅.objs.size+1:=by rw [hs₈.1,hs₇.1,qaL]
 rw [hsz] at hz₈ hT₈ hz8
 refine qaX ⟨_,rfl,?_⟩
 show Q (.ref h₅.objs.size) _
 rw [hsz]
 exact hQ h₈ hz₈ (up _ _ D.TOz hTO₅) (h1₅.at λo e=>up _ o D.i1z e) (h2₅.at λo e=>up _ o D.i2z e) hT₈ hz8 λc o c1 c2 c3 c4 e=>up c o c1 (hk₅ c o c1 c2 c3 c4 e)
theorem zgL {z TI TO i1 i2 l1 l2:Addr} {k1 k2:Nat} {xs ys:Array Value} {a b:Value} {Q:PySem.Fin->Shared->Prop} (hh:zhc A s.heap) (hf:z∉zaJ A/\TO∉zaJ A/\i1∉zaJ A/\i2∉zaJ A) (D:ZipApart z TI TO i1 i2 l1 l2)
  (hz:IsZip s.heap z TI TO .none) (hTI:IsPair s.heap TI (.ref i1) (.ref i2)) (hTO:IsPair s.heap TO a b)
  (h1:s.heap.IsTupleIter i1 l1 k1) (h2:s.heap.IsTupleIter i2 l2 k2) (hl1:s.heap.IsTuple l1 xs) (hl2:s.heap.IsTuple l2 ys) (hend:xs[k1]? = none\/ys[k2]? = none)
  (hE: ∀ h' e,(∀ c o,c≠z->c≠TO->c≠i1->c≠i2->s.heap.get? c=some o->h'.get? c=some o)->(∃ o,h'.get? e=some o/\o.cls= .type "StopIteration")->E (.ref e) {s with heap:=h'}):
  wpAny (model prog w) A (Builtin.«zip.__next__» ⟨[.ref z],[]⟩) Q E s:=by
 show wpAny _ _ (field (.ref z) 2>>=_) _ _ _
 refine qaW (wpAny_field hz rfl (x:= .bool false) rfl ?_)
 show wpAny _ _ (field (.ref z) 3>>=_) _ _ _
 refine qaW (wpAny_field hz rfl (x:= .ref TI) rfl ?_)
 refine qaW (wpAny_seqItems hTI rfl ?_)
 show wpAny _ _ (Builtin.SmallTypes.ownedTupleIsFree (.ref z)>>=_) _ _ _
 refine qaW ?_
 unfold Builtin.SmallTypes.ownedTupleIsFree
 refine qaW (wpAny_field hz rfl (x:= .none) rfl (qaX ?_))
 simp only [if_true]
 refine qaW (wpAny_rule ?_)
 refine qaW (wpAny_field hz rfl (x:= .ref TO) rfl ?_)
 refine qaW (wpAny_setField_rec hz (by simp) λh₁ hz₁ hs₁=> ?_)
 replace hz₁:IsZip h₁ z TI TO .ellipsis:=hz₁
 refine qaW ?_
 simp only [List.zipIdx_cons,List.zipIdx_nil,forIn_cons,forIn_nil]
 refine qaW (qaW (wpAny_onRaise ?_))
 show wpAny _ _ (Builtin.SmallTypes.nextOf (.ref i1)>>=_) _ _ _
 cases hx:xs[k1]? with
 | none=>
  refine qaW (zcq (hh.keep λb hb o e=>hs₁.extBut _ _ (λz=>hf.1 (z▸hb)) e) (h1.extBut hs₁.extBut D.i1z) (hl1.extBut hs₁.extBut D.l1z) hx λh₂ e hs₂ he=> ?_)
  obtain ⟨oe,hoe,hce⟩:=he
  have hz₂:IsZip h₂ z TI TO .ellipsis:=hs₂ _ _ D.i1z.symm hz₁
  have hez:e≠z:=λx=>by subst x;rw [hz₂] at hoe;cases hoe;simp at hce
  refine wpAny_setField_rec hz₂ (by simp) λh₃ _ hs₃=>hE h₃ e (λc o c1 _ c3 _ x=>hs₃.extBut _ _ c1 (hs₂ _ _ c3 (hs₁.extBut _ _ c1 x))) ⟨oe,hs₃.extBut _ _ hez hoe,hce⟩
 | some x=>
  have hy:ys[k2]? = none:=by rcases hend with h | h;rw [hx] at h;cases h;exact h
  refine qaW (zbw (h1.extBut hs₁.extBut D.i1z) (hl1.extBut hs₁.extBut D.l1z) hx λh₂ h1₂ hs₂=>qaX ?_)
  have hTO₂:IsPair h₂ TO a b:=hs₂.extBut _ _ D.TOi1 (hs₁.extBut _ _ D.TOz hTO)
  refine qaW (wpAny_seqItems hTO₂ rfl ?_)
  refine qaW (wpAny_updateSeq_pair hTO₂ λh₃ hTO₃ hs₃=> ?_)
  refine qaW (wpAny_letGo (qaX ?_))
  refine qaW (qaW (wpAny_onRaise ?_))
  show wpAny _ _ (Builtin.SmallTypes.nextOf (.ref i2)>>=_) _ _ _
  refine qaW (zcq (hh.keep λb hb o e=>hs₃.extBut _ _ (λz=>hf.2.1 (z▸hb)) (hs₂.extBut _ _ (λz=>hf.2.2.1 (z▸hb)) (hs₁.extBut _ _ (λz=>hf.1 (z▸hb)) e))) (((h2.extBut hs₁.extBut D.i2z).extBut hs₂.extBut D.i12.symm).extBut hs₃.extBut D.TOi2.symm)
    (((hl2.extBut hs₁.extBut D.l2z).extBut hs₂.extBut D.l2i1).extBut hs₃.extBut D.l2TO) hy λh₄ e hs₄ he=> ?_)
  obtain ⟨oe,hoe,hce⟩:=he
  have hz₄:IsZip h₄ z TI TO .ellipsis:=hs₄ _ _ D.i2z.symm (hs₃.extBut _ _ D.TOz.symm (hs₂.extBut _ _ D.i1z.symm hz₁))
  have hez:e≠z:=λx=>by subst x;rw [hz₄] at hoe;cases hoe;simp at hce
  refine wpAny_setField_rec hz₄ (by simp) λh₅ _ hs₅=>hE h₅ e (λc o c1 c2 c3 c4 x=>hs₅.extBut _ _ c1 (hs₄ _ _ c4 (hs₃.extBut _ _ c2 (hs₂.extBut _ _ c3 (hs₁.extBut _ _ c1 x))))) ⟨oe,hs₅.extBut _ _ hez hoe,hce⟩
theorem ze0 {z TI TO i1 i2 l1 l2:Addr} {k1 k2:Nat} {xs ys:Array Value} {x y a b:Value} {Q:Option Value->Shared->Prop} (D:ZipApart z TI TO i1 i2 l1 l2)
  (hz:IsZip s.heap z TI TO .none) (hTI:IsPair s.heap TI (.ref i1) (.ref i2)) (hTO:IsPair s.heap TO a b)
  (h1:s.heap.IsTupleIter i1 l1 k1) (h2:s.heap.IsTupleIter i2 l2 k2) (hl1:s.heap.IsTuple l1 xs) (hl2:s.heap.IsTuple l2 ys) (hx:xs[k1]? = some x) (hy:ys[k2]? = some y)
  (hQ: ∀ h',IsZip h' z TI TO (rawInt s.heap.objs.size)->IsPair h' TO x y->h'.IsTupleIter i1 l1 (k1+1)->h'.IsTupleIter i2 l2 (k2+1)->IsPair h' s.heap.objs.size x y->h'.objs.size=s.heap.objs.size+1->
    (∀ c o,c≠z->c≠TO->c≠i1->c≠i2->s.heap.get? c=some o->h'.get? c=some o)->Q (some (.ref s.heap.objs.size)) {s with heap:=h'}):
  wpAny (model prog w) A (pyNext (.ref z)) Q E s:=by
 have hT:s.TypeIs (.ref z) "zip":=⟨_,hz,rfl⟩
 unfold pyNext
 exact qaW (wpAny_attempt (wpAny_callSpecial?_slot (name:=Str.ofString "__next__") hT F.slot_zip_next
   (wpAny_call_entry F.slot_zip_next hT F.entry_zip_next
     (zfX D hz hTI hTO h1 h2 hl1 hl2 hx hy λh' a1 a2 a3 a4 a5 a6 a7=>qaX (hQ h' a1 a2 a3 a4 a5 a6 a7)) (F.args_zip_next_1 _))))
theorem zfi {z TI TO i1 i2 l1 l2:Addr} {k1 k2:Nat} {xs ys:Array Value} {a b:Value} {Q:Option Value->Shared->Prop} (hh:zhc A s.heap) (hf:z∉zaJ A/\TO∉zaJ A/\i1∉zaJ A/\i2∉zaJ A) (D:ZipApart z TI TO i1 i2 l1 l2)
  (hz:IsZip s.heap z TI TO .none) (hTI:IsPair s.heap TI (.ref i1) (.ref i2)) (hTO:IsPair s.heap TO a b)
  (h1:s.heap.IsTupleIter i1 l1 k1) (h2:s.heap.IsTupleIter i2 l2 k2) (hl1:s.heap.IsTuple l1 xs) (hl2:s.heap.IsTuple l2 ys) (hend:xs[k1]? = none\/ys[k2]? = none)
  (hQ: ∀ h',(∀ c o,c≠z->c≠TO->c≠i1->c≠i2->s.heap.get? c=some o->h'.get? c=some o)->Q none {s with heap:=h'}):wpAny (model prog w) A (pyNext (.ref z)) Q E s:=by
 have hT:s.TypeIs (.ref z) "zip":=⟨_,hz,rfl⟩
 unfold pyNext
 refine qaW (wpAny_attempt (wpAny_callSpecial?_slot (name:=Str.ofString "__next__") hT F.slot_zip_next
   (wpAny_call_entry F.slot_zip_next hT F.entry_zip_next (zgL (A:=A.in1) hh hf D hz hTI hTO h1 h2 hl1 hl2 hend λh' e hk he=> ?_) (F.args_zip_next_1 _))))
 obtain ⟨o,ho,hc⟩:=he
 refine qaW (wpAny_isInstance (T:="StopIteration") (b:=true) ⟨o,ho,hc⟩ isSubtype_stop ?_)
 exact qaX (hQ _ hk)
end
abbrev zmL (h:Heap) (l1:Addr):Heap:=h.push {cls:= .type "tuple_iterator",data:= .fields #[.ref l1,.int 0 0]}
abbrev znl (h:Heap) (l1 l2:Addr):Heap:=(zmL h l1).push {cls:= .type "tuple_iterator",data:= .fields #[.ref l2,.int 0 0]}
abbrev zmM (h:Heap) (l1 l2:Addr):Heap:=(znl h l1 l2).push {cls:= .type "tuple",data:= .seq #[.ref h.objs.size,.ref (zmL h l1).objs.size]}
abbrev znP (h:Heap) (l1 l2:Addr):Heap:=(zmM h l1 l2).push {cls:= .type "tuple",data:= .seq #[.none,.none]}
abbrev zik (h:Heap) (l1 l2:Addr):Heap:=(znP h l1 l2).push {cls:= .type "zip",data:= .fields #[.none,.bool false,.bool false,.ref (znl h l1 l2).objs.size,.ref (zmM h l1 l2).objs.size]}
theorem zfR (l1 l2:Addr) (xs ys:Array Value):
  Meets (Builtin.«zip.__new__» ⟨[.type "zip",.ref l1,.ref l2],[]⟩) (λ_ R s=>s.heap.IsTuple l1 xs/\s.heap.IsTuple l2 ys/\
    R (.ok (.ret (.ref (znP s.heap l1 l2).objs.size))) {s with heap:=zik s.heap l1 l2}):=
 .of_wp λprog w A R s h=>by
  obtain ⟨hp,g,d,tk,os⟩:=s;obtain ⟨hl1,hl2,h⟩:=h
  have hsub:=sub_zip
  have hL1:Heap.IsTuple (Shared.heap ⟨hp,g,d,tk,os⟩) l1 xs:=hl1
  have hL2:Heap.IsTuple (Shared.heap ⟨hp.push {cls:= .type "tuple_iterator",data:= .fields #[.ref l1,.int 0 0]},g,d,tk,os⟩) l2 ys:=Heap.IsTuple.push hl2 _
  wp_walk using wpAny_pyIter_tuple hL1,wpAny_pyIter_tuple hL2
  exact ⟨_,rfl,h⟩
section
variable {prog:Program} {w:World} {A:Around} {E:Value->Shared->Prop} {s:Shared}
theorem zj1 {l1 l2:Addr} {xs ys:Array Value} {Q:Value->Shared->Prop} (hl1:s.heap.IsTuple l1 xs) (hl2:s.heap.IsTuple l2 ys)
  (h: ∀ h',IsZip h' (s.heap.objs.size+4) (s.heap.objs.size+2) (s.heap.objs.size+3) .none->IsPair h' (s.heap.objs.size+2) (.ref s.heap.objs.size) (.ref (s.heap.objs.size+1))->
    IsPair h' (s.heap.objs.size+3) .none .none->h'.IsTupleIter s.heap.objs.size l1 0->h'.IsTupleIter (s.heap.objs.size+1) l2 0->h'.objs.size=s.heap.objs.size+5->
    (∀ c o,s.heap.get? c=some o->h'.get? c=some o)->Q (.ref (s.heap.objs.size+4)) {s with heap:=h'}):
  wpAny (model prog w) A (call (.type "zip") [.ref l1,.ref l2]) Q E s:=by
 refine callType_new F.called_zip (by decide) (F.typeCall_zip_2 _ _) (F.newCall_zip_2 _ _) (λobj=>F.args_object_init_3 obj _ _) F.entry_zip_new
  (zfR l1 l2 xs ys) ⟨hl1,hl2,?_⟩
 have z1:(zmL s.heap l1).objs.size=s.heap.objs.size+1:=qaL ..
 have z2:(znl s.heap l1 l2).objs.size=s.heap.objs.size+2:=by rw [qaL,z1]
 have z3:(zmM s.heap l1 l2).objs.size=s.heap.objs.size+3:=by rw [qaL,z2]
 have z4:(znP s.heap l1 l2).objs.size=s.heap.objs.size+4:=by rw [qaL,z3]
 have z5:(zik s.heap l1 l2).objs.size=s.heap.objs.size+5:=by rw [qaL,z4]
 have g5:(zik s.heap l1 l2).get? (znP s.heap l1 l2).objs.size=some _:=qar _ rfl
 have g4:(zik s.heap l1 l2).get? (zmM s.heap l1 l2).objs.size=some _:=qag _ (qar _ rfl)
 have g3:(zik s.heap l1 l2).get? (znl s.heap l1 l2).objs.size=some _:=qag _ (qag _ (qar _ rfl))
 have g2:(zik s.heap l1 l2).get? (zmL s.heap l1).objs.size=some _:=qag _ (qag _ (qag _ (qar _ rfl)))
 have g1:(zik s.heap l1 l2).get? s.heap.objs.size=some _:=qag _ (qag _ (qag _ (qag _ (qar _ rfl))))
 show _/\_
 rw [z2,z3,z4] at g5
 rw [z1,z2] at g3
 rw [z3] at g4
 rw [z1] at g2
 rw [z4]
 exact ⟨⟨_,g5,rfl⟩,h _ g5 g3 g4 ⟨_,g1,rfl,rfl⟩ ⟨_,g2,rfl,rfl⟩ z5 λc o x=>
   qag _ (qag _ (qag _ (qag _ (qag _ x))))⟩
end
end L3
namespace L2
section
variable {X:Cx} {pins:List (Addr×Obj)} {σ:St} {H:Hp} {s:Shared} {h':Heap}
theorem Inv.turnedL {t':Nat} {ch:List Addr} (I:Inv X pins σ H s) (k: ∀ b o,b∉ch->s.heap.get? b=some o->h'.get? b=some o) (f: ∀ b∈ch,zgx X pins H b):Inv X pins σ H {s with heap:=h',toks:=t'}:=by
 have ne: ∀ b u,H b=some u->b∉ch:=λb u q z=>by rw [(f b z).1] at q;cases q
 refine I.step (g':=s.gens) (d':=s.drawn) (ch:=ch) (λb hb=> ?_) (λb o _ _ hc q _=>k b o hc q) (λb o _ _ hc q _=>⟨o.slots,k b o hc q⟩) (λ_ _ _ _ n=>n)
  (λb o hc q=>⟨o,k b o hc q⟩) (λ_ _ q=>q) (λ_ _ _ q=>q) (λb ps q=>⟨#[],by rw [q];simp⟩) (λm hm=> ?_) (λb u q=> ?_) I.bare
 ·obtain ⟨f0,f1,f2,f3,f4,f5⟩:=f b hb
  exact ⟨f3,f1,f4,f5⟩
 ·obtain ⟨o,es,ep,ho,r⟩:=hm
  exact ⟨o,es,ep,k _ o (λz=>(f _ z).2.1 rfl) ho,r⟩
 ·refine (I.hok b u q).stay (λc v hc q'=> ?_) (λ_ q=>q) λ_ _ q=>q
  rcases hc with z | z
  ·rw [z];exact k b v (ne b u q) (by rw [<- z];exact q')
  ·exact k c v (ne c _ z) q'
theorem zcI {A:Around} {h:Heap} {b:Addr} {o:Obj} (hh:L3.zhc A h) (e:h.get? b=some o) (n: ∀ vs,o.data= .fields vs->vs[2]? ≠ some .none):b∉L3.zaJ A:=λz=>by
 rcases hh with q | ⟨ha,cls,head,q,ob,vs,x1,_,_,x4,x5,_⟩
 ·unfold L3.zaJ at z;rw [q] at z;simp at z
 ·unfold L3.zaJ at z
  rw [q] at z
  have:b=ha:=by simpa using z
  subst this
  rw [e] at x1
  cases x1
  exact n vs x4 x5
end
def Itz (K:W.Frag) (a b:Addr):It:=
 ⟨λi H=> ∃ xs ys x y,SqT K H a xs/\SqT K H b ys/\xs[i]? = some x/\ys[i]? = some y,
  λi H x H'=> ∃ T u v,H T=none/\H'=upd H T (.tup [u,v])/\x= .ref T/\(∀ xs,SqT K H a xs->xs[i]? = some u)/\ ∀ ys,SqT K H b ys->ys[i]? = some v,
  λi H=> ∃ xs ys,SqT K H a xs/\SqT K H b ys/\(xs.length=i\/ys.length=i)⟩
theorem zoN {n a b:Nat} (ha:a<n) (hb:b<n):ZipApart (n+4) (n+2) (n+3) n (n+1) a b:=by
 constructor<;>(show @Ne Nat _ _;omega)
def zuT (z TI TO i1 i2 a b:Addr) (i:Nat) (h:Heap):Prop:=IsZip h z TI TO .none/\IsPair h TI (.ref i1) (.ref i2)/\(∃ u v,IsPair h TO u v)/\h.IsTupleIter i1 a i/\h.IsTupleIter i2 b i
theorem znM {P:Program} {w:World} {K:W.Frag} {elts:List Expr} {k:Nat} {pos:Pos} (z TI TO i1 i2 a b:Addr) (D:ZipApart z TI TO i1 i2 a b):zmx P w K (.Tuple elts k pos) (Itz K a b) [z,TI,TO,i1,i2] z (zuT z TI TO i1 i2 a b) where
 mem:=by simp
 obj:=λi h st c hc=>by
  obtain ⟨hz,hTI,⟨u,v,hTO⟩,⟨o1,ho1,hc1,hd1⟩,o2,ho2,hc2,hd2⟩:=st
  have q:c=z\/c=TI\/c=TO\/c=i1\/c=i2:=by simpa using hc
  rcases q with rfl | rfl | rfl | rfl | rfl
  ·exact ⟨_,hz,λv z=>by cases z⟩
  ·exact ⟨_,hTI,λv z=>by cases z⟩
  ·exact ⟨_,hTO,λv z=>by cases z⟩
  ·exact ⟨o1,ho1,λv z=>by rw [hd1] at z;cases z⟩
  ·exact ⟨o2,ho2,λv z=>by rw [hd2] at z;cases z⟩
 keep:=λi h h' st k=>by
  obtain ⟨hz,hTI,⟨u,v,hTO⟩,h1,h2⟩:=st
  exact ⟨k z (by simp) _ hz,k TI (by simp) _ hTI,⟨u,v,k TO (by simp) _ hTO⟩,h1.at λo q=>k i1 (by simp) o q,h2.at λo q=>k i2 (by simp) o q⟩
 item:=by
  intro X hP hw hK i pins s σ H E I hf st hg
  subst hP hw hK
  obtain ⟨xs,ys,x,y,hqx,hqy,hx,hy⟩:=hg
  obtain ⟨itx,rx,px,_⟩:=I.tuple hqx
  obtain ⟨ity,ry,py,_⟩:=I.tuple hqy
  obtain ⟨u,hu,ru⟩:=rx.get hx
  obtain ⟨v,hv,rv⟩:=ry.get hy
  obtain ⟨hz,hTI,⟨c,d,hTO⟩,h1,h2⟩:=st
  refine L3.ze0 D hz hTI hTO h1 h2 (show s.heap.IsTuple a itx.toArray from px) (show s.heap.IsTuple b ity.toArray from py) (x:=u) (y:=v) (by simpa using hu) (by simpa using hv) λh' a1 a2 a3 a4 a5 a6 hk=> ?_
  refine ⟨_,rfl,wpAny_letOwnedTupleGo_zip a1 λh2' b1 hs2=> ?_⟩
  have fresh:=I.hok.fresh (qaV s.heap.objs.size)
  have lt: ∀ {c o},s.heap.get? c=some o->c≠s.heap.objs.size:=λe=>qaR (qaQ e)
  have lz:=lt hz
  have lTI:=lt hTI
  have lTO:=lt hTO
  have l1:i1≠s.heap.objs.size:=by obtain ⟨_,e,_⟩:=h1;exact lt e
  have l2:i2≠s.heap.objs.size:=by obtain ⟨_,e,_⟩:=h2;exact lt e
  have I1:Inv X pins σ (upd H s.heap.objs.size (.tup [x,y])) {s with heap:=s.heap.push {cls:= .type "tuple",data:= .seq #[u,v]},toks:=s.toks}:=
   I.laid (t':=s.toks) (λb o q=>qag _ q) (qaV _) (show zbW X.prog X.w _ _ _ (.tup [x,y]) from ⟨by show 2<=sizeLine;decide,[u,v],.cons ru (.cons rv .nil),zjV.new _ _⟩)
  have fp: ∀ c∈[z,TI,TO,i1,i2],zgx X pins (upd H s.heap.objs.size (.tup [x,y])) c:=λc hc=>by
   have hcn:c≠s.heap.objs.size:=by
    have q:c=z\/c=TI\/c=TO\/c=i1\/c=i2:=by simpa using hc
    rcases q with rfl | rfl | rfl | rfl | rfl<;>assumption
   exact ⟨by rw [zaN hcn];exact (hf c hc).1,(hf c hc).2⟩
  have I2:Inv X pins σ (upd H s.heap.objs.size (.tup [x,y])) {s with heap:=h',toks:=s.toks}:=I1.turnedL (t':=s.toks) (h':=h') (λb o hb q=>by
    rcases Heap.get?_push_cases q with ⟨z1,z2⟩ | q'
    · rw [z1,z2];exact a5
    · exact hk b o (λe=>hb (by simp [e])) (λe=>hb (by simp [e])) (λe=>hb (by simp [e])) (λe=>hb (by simp [e])) q') fp
  have I3:Inv X pins σ (upd H s.heap.objs.size (.tup [x,y])) {s with heap:=h2',toks:=s.toks}:=I2.turnedL (s:={s with heap:=h',toks:=s.toks}) (h':=h2') (t':=s.toks) (ch:=[z]) (λb o hb q=>(hs2.2 b (λe=>hb (by simp [e]))).trans q) (λb hb=>fp b (by simp at hb;simp [hb]))
  refine ⟨.ref s.heap.objs.size,_,I3,rfl,⟨s.heap.objs.size,x,y,fresh,rfl,rfl,λxs' hx'=>by rw [I.tuple_inj hx' hqx];exact hx,λys' hy'=>by rw [I.tuple_inj hy' hqy];exact hy⟩,
    ⟨b1,hs2.extBut _ _ D.TIz (hk _ _ D.TIz D.TITO D.TIi1 D.TIi2 hTI),⟨u,v,hs2.extBut _ _ D.TOz a2⟩,a3.extBut hs2.extBut D.i1z,a4.extBut hs2.extBut D.i2z⟩,λc hc=>(fp c hc).1⟩
 done:=by
  intro X hP hw hK i pins s σ H E I hf st hg
  subst hP hw hK
  obtain ⟨xs,ys,hqx,hqy,hn⟩:=hg
  obtain ⟨itx,rx,px,_⟩:=I.tuple hqx
  obtain ⟨ity,ry,py,_⟩:=I.tuple hqy
  obtain ⟨hz,hTI,⟨c,d,hTO⟩,h1,h2⟩:=st
  have hnd:itx.toArray[i]? = none\/ity.toArray[i]? = none:=by
   have e1:=rx.length
   have e2:=ry.length
   rcases hn with q | q
   ·left;simp;omega
   ·right;simp;omega
  obtain ⟨o1,ho1,_,hd1⟩:=id h1
  obtain ⟨o2,ho2,_,hd2⟩:=id h2
  refine L3.zfi I.hand ⟨zcI I.hand hz (λvs e=>by cases e;simp),zcI I.hand hTO (λvs e=>by cases e),zcI I.hand ho1 (λvs e=>by rw [hd1] at e;cases e;simp),zcI I.hand ho2 (λvs e=>by rw [hd2] at e;cases e;simp)⟩ D hz hTI hTO h1 h2
   (show s.heap.IsTuple a itx.toArray from px) (show s.heap.IsTuple b ity.toArray from py) hnd λh' hk=>⟨rfl,I.turnedL (t':=s.toks) (ch:=[z,TO,i1,i2]) (λb o hb q=>hk b o (λe=>hb (by simp [e])) (λe=>hb (by simp [e])) (λe=>hb (by simp [e])) (λe=>hb (by simp [e])) q) λb hb=>hf b (by simp at hb ⊢; rcases hb with e | e | e | e<;>simp [e])⟩
 self:=λ_ _ _ _ _ st h=>wpAny_pyIter_zip st.1 h
section
variable {X:Cx} {elts:List Expr} {k:Nat} {tpos:Pos}
def zug (K:W.Frag) (ta:TA):TI:=λσ H R=>ta σ H λvs H1=> ∃ a b,vs=[.ref a,.ref b]/\(∃ xs,SqT K H1 a xs)/\(∃ ys,SqT K H1 b ys)/\R (Itz K a b) H1
theorem zrs {l m:Expr} {ta:TA} {p pos:Pos} (hg:Gl X "zip") (hm:X.mg "zip"=none) (ha:PA X [l,m] ta) (hs1:starEach [l,m] X.env=(false,eval l X.env)::starEach [m] X.env:=by rfl) (hs2:starEach [m] X.env=[(false,eval m X.env)]:=by rfl):
  PI X (.Tuple elts k tpos) (.Call (.Name "zip" p) [l,m] [] pos) (zug X.K ta):=by
 intro pins s σ H R I h
 refine Call_ (zeN I hg hm PyProof.Rows.boot_zip (PyProof.Rows.callWith_type1 (thn (ha pos pins s σ H _ I h) λus s1 ⟨vs,H1,I1,r1,q1⟩=> ?_) hs1 (by rw [hs2];rfl)))
 obtain ⟨a,b,e,⟨xs,hqx⟩,⟨ys,hqy⟩,q⟩:=q1
 subst e
 cases r1 with
 | cons r rr=>
  cases rr with
  | cons r' rr=>
  cases rr
  cases r
  cases r'
  obtain ⟨itx,rx,px,_⟩:=I1.tuple hqx
  obtain ⟨ity,ry,py,_⟩:=I1.tuple hqy
  have la:a<s1.heap.objs.size:=by obtain ⟨_,e,_⟩:=px;exact qaQ e
  have lb:b<s1.heap.objs.size:=by obtain ⟨_,e,_⟩:=py;exact qaQ e
  refine L3.zj1 (show s1.heap.IsTuple a itx.toArray from px) (show s1.heap.IsTuple b ity.toArray from py) λh' hz hTI hTO h1 h2 hsz kp=> ?_
  refine wpAny_pyIter_zip hz ?_
  refine ⟨s1.heap.objs.size+4,[s1.heap.objs.size+4,s1.heap.objs.size+2,s1.heap.objs.size+3,s1.heap.objs.size,s1.heap.objs.size+1],_,_,H1,rfl,I1.kept (t':=s1.toks) kp,
    znM _ _ _ _ _ a b (zoN la lb),⟨hz,hTI,⟨_,_,hTO⟩,h1,h2⟩,λc hc=> ?_,q⟩
  have q:s1.heap.objs.size<=c:=by
   have z:c=s1.heap.objs.size+4\/c=s1.heap.objs.size+2\/c=s1.heap.objs.size+3\/c=s1.heap.objs.size\/c=s1.heap.objs.size+1:=by simpa using hc
   rcases z with e | e | e | e | e<;>rw [e]
   ·exact le_add_right _ 4
   ·exact le_add_right _ 2
   ·exact le_add_right _ 3
   ·exact qaV _
   ·exact le_add_right _ 1
  exact I1.fpOk q (I1.hok.fresh q)
end
end L2
namespace L3
open L2
section
variable {X:Cx} {E:XE} {elts:List Expr} {k:Nat} {tpos pos:Pos}
def zf0 (ds es:List D):List D:=(ds.zip es).map λp=> .tup [p.1,p.2]
theorem zm5 {K:W.Frag} {ι:Io} {H:Hp} {a b:Addr} {vs us:List V} {ds es:List D} (h: ∀ ι' H',Pass ι H ι' H'->SqT K H' a vs) (g: ∀ ι' H',Pass ι H ι' H'->SqT K H' b us) (rl:zaw K ι H ds vs) (rm:zaw K ι H es us):zmn K ι H (Itz K a b) (zf0 ds es) where
 go:=λι' H' i s hi=>by
  have hi:i<ds.length/\i<es.length:=by simp [zf0] at hi;omega
  obtain ⟨v,ev,_⟩:=zaw.get rl (i:=i) (d:=ds[i]) (by simp [hi])
  obtain ⟨u,eu,_⟩:=zaw.get rm (i:=i) (d:=es[i]) (by simp [hi])
  exact ⟨vs,us,v,u,h ι' H' s,g ι' H' s,ev,eu⟩
 yld:=λι' H' _ i x H2 s hr hi ⟨T,y,y2,hT,e,e2,hy,hy2⟩=>by
  subst e e2
  have hi:i<ds.length/\i<es.length:=by simp [zf0] at hi;omega
  obtain ⟨v,ev,rv⟩:=zaw.get rl (i:=i) (d:=ds[i]) (by simp [hi])
  obtain ⟨u,eu,ru⟩:=zaw.get rm (i:=i) (d:=es[i]) (by simp [hi])
  have ey:=hy vs (h ι' H' s)
  rw [ev] at ey
  cases ey
  have ez:=hy2 us (g ι' H' s)
  rw [eu] at ez
  cases ez
  refine ⟨.inr ⟨T,_,hT,rfl⟩,.tup [ds[i],es[i]],by simp [zf0,List.getElem?_zip_eq_some,hi],?_⟩
  obtain ⟨st,hr2⟩:=zqy.step (.inr ⟨T,[y,y2],hT,rfl⟩) hr
  have rv2:Rel K ι' (upd H' T (.tup [y,y2])) ds[i] y:=(rv.pass s).step st
  have ru2:Rel K ι' (upd H' T (.tup [y,y2])) es[i] y2:=(ru.pass s).step st
  simp only [Rel]
  exact ⟨T,_,rfl,⟨za4,hr.nin hT⟩,zaw.cons rv2 (zaw.cons ru2 zaw.nil)⟩
 stop:=λι' H' s=>⟨vs,us,h ι' H' s,g ι' H' s,by rw [<- rl.length, <-rm.length];simp [zf0];omega⟩
def ztK:List D->M (List D)
 | [.tup ds,.tup es]=>pure (zf0 ds es)
 | _=>M.bad
def zmp (fs:FA):FA:=λsd=>do let ds<-fs sd;ztK ds
theorem znx {l m:Expr} {fs:FA} {p:Pos} (hm:X.mg "zip"=none) (ha:SA X E [l,m] fs) (hg:Gl X "zip":=by rfl) (hs1:starEach [l,m] X.env=(false,eval l X.env)::starEach [m] X.env:=by rfl) (hs2:starEach [m] X.env=[(false,eval m X.env)]:=by rfl):
  SI X E (.Tuple elts k tpos) (.Call (.Name "zip" p) [l,m] [] pos) (zmp fs):=by
 refine PI.imp (zrs hg hm ha hs1 hs2) λσ H Q ⟨ι,h,sd,L,hh,q⟩=>⟨ι,h,sd,L,hh,Fin.bind q λds h1 ι1 H1 e1 s1 hr1 q1 vs rv=> ?_⟩
 unfold ztK at q1
 split at q1
 ·rename_i ds es
  unfold zaw at rv
  obtain ⟨v,r,e1,r1,rv⟩:=rv
  unfold zaw at rv
  obtain ⟨v',r',e2,r2,rv⟩:=rv
  unfold zaw at rv
  subst rv e2 e1
  obtain ⟨a,vs,e,g1,g2⟩:=zgC r1
  obtain ⟨b,us,e',g3,g4⟩:=zgC r2
  exact ⟨a,b,by rw [e,e'],⟨vs,g1 _ _ (Pass.refl _ _)⟩,⟨us,g3 _ _ (Pass.refl _ _)⟩,Fin.out hr1 q1 _ (zm5 g1 g3 g2 g4)⟩
 ·exact qa0 q1
end
end L3
namespace L2
section
variable {X:Cx}
end
end L2
namespace L3
open L2
section
variable {X:L2.Cx} {E:XE}
end
end L3
namespace L3
open PySem.Sem (wp)
section
variable {prog:Program} {w:World} {A:Around} {E:Value->Shared->Prop} {s:Shared}
theorem zg4 {l:Addr} {xs:Array Value} {k:Nat} {Q:Option Value->Shared->Prop} (hA:A.handled=none) (hx:s.heap.get? l=some {cls:= .type "list",data:= .seq xs k})
  (h: ∀ h' tk,(∀ b o,s.heap.get? b=some o->h'.get? b=some o)->Q none {s with heap:=h',toks:=tk}):wpAny (model prog w) A (getAttr? (.ref l) "keys") Q E s:=by
 obtain ⟨hp,g,d,tk,os⟩:=s
 have hT: ∀ tk',(⟨hp,g,d,tk',os⟩:Shared).TypeIs (.ref l) "list":=λ_=>⟨_,hx,rfl⟩
 have f1:=sub_AttributeError
 have f3:=F.slot_list_getattribute.lookup
 have f4:=F.slot_list_getattribute.bind (.ref l)
 have f5:=am_list_getattr_none
 have hmiss:typeLookup (.type "list") "keys"=pure none:=by rw [typeLookup_type,builtinLookup_eq_fast];kernel_rfl
 unfold getAttr? getAttrBy? getAttrBy
 repeat (any_goals (first | assumption | exact hT _ | ((with_reducible show wpAny _ _ (call (Value.builtin "list.__getattribute__") _ _) _ _ _);refine call_meets F.slot_list_getattribute (hT _) am_entry_list_getattribute (F.args_list_getattribute_2 _ _) (meets_getattribute_miss_list l xs k #[] "keys" _ hmiss ⋯ (by size_fits)) ⟨hx,hA,λh' tk' e hx'=> ?_⟩) | wp_step))
 obtain ⟨t',u',he⟩:=hx'.there
 show wpAny _ _ (getattributeRaised _ _ _ _ _ _ _) _ _ _
 unfold getattributeRaised
 repeat (any_goals (first | assumption | wp_step))
 exact h _ _ hx'.keeps
theorem zha:entryFor table "dict.update.loop"=some Builtin.«dict.update.loop» := entryFor_of_tree (by kernel_rfl)
theorem zec:plainId "dict.update.loop"=true:=by decide +kernel
def ztx (prog:Program) (w:World) (A:Around) (d:Addr) (h0:Heap) (St:Nat->Heap->Prop) (i:Nat) (x:Value):Prop:=
 ∃ p k v n dd sl,x= .ref p/\h0.get? p=some {cls:= .type "tuple",dict:=dd,data:= .seq #[k,v] n,slots:=sl}/\
  ∀ (s:Shared) (Q:Unit->Shared->Prop) (E:Value->Shared->Prop),St i s.heap->(∀ b o,h0.get? b=some o->s.heap.get? b=some o)->(∀ h' tk,St (i+1) h'->Heap.SameBut d s.heap h'->Q () {s with heap:=h',toks:=tk})->wpAny (model prog w) A (dictSet d k v) Q E s
theorem znp {d it l:Addr} {items:Array Value} {h0:Heap} {St:Nat->Heap->Prop} {R:Result->Shared->Prop} (hh:A.handled=none) (hl:h0.IsList l items) (h0d: ∀ b o,h0.get? b=some o->b≠d/\b≠it) (hdi:d≠it)
  (fr: ∀ i h h',St i h->(∀ b o,b≠it->h.get? b=some o->h'.get? b=some o)->St i h') (pr: ∀ i x,items[i]? = some x->ztx prog w A.in1 d h0 St i x):
  ∀ (k i:Nat) (s:Shared),items.size - i=k->i<=items.size->St i s.heap->s.heap.IsListIter it l i->(∀ b o,h0.get? b=some o->s.heap.get? b=some o)->
  (∀ h' tk,St items.size h'->(∀ b o,b≠d->b≠it->s.heap.get? b=some o->h'.get? b=some o)->R (.ok (.ret .none)) {s with heap:=h',toks:=tk})->
  codeAny (model prog w) A (.builtin "dict.update.loop" ⟨[.ref d,.ref it,rawInt i,.none],[]⟩) R s:=by
 intro k
 induction k with
 | zero=>
  intro i s hk hi hst hit hx hR
  have hin:i=items.size:=by omega
  have hls:s.heap.IsList l items:=by obtain ⟨o,e,r⟩:=hl;exact ⟨o,hx _ _ e,r⟩
  refine codeAny_builtin zha ?_
  rw [qap zec _]
  show wpAny _ A.in1 (pyNext (.ref it)>>=_) _ _ s
  refine qaW (wpAny_pyNext_list_end (A:=A.in1) hh hit hls (by rw [hin];simp) λh' hx'=> ?_)
  show wpAny _ _ (Builtin.Dict.addKeywords d []>>=_) _ _ _
  refine qaW (qaX (qaX ?_))
  exact hR h' _ (fr _ _ _ (hin▸hst) λb o hb e=>hx' b o hb e) λb o _ hb e=>hx' b o hb e
 | succ k ih=>
  intro i s hk hi hst hit hx hR
  have hlt:i<items.size:=by omega
  have hls:s.heap.IsList l items:=by obtain ⟨o,e,r⟩:=hl;exact ⟨o,hx _ _ e,r⟩
  obtain ⟨p,key,v,n,dd,sl,ex,ep,put⟩:=pr i items[i] (by simp [hlt])
  refine codeAny_builtin zha ?_
  rw [qap zec _]
  show wpAny _ A.in1 (pyNext (.ref it)>>=_) _ _ s
  refine qaW (wpAny_pyNext_list_item hit hls (x:= .ref p) (by rw [<- ex];simp [hlt]) λh1 hit1 hs1=> ?_)
  have hx1: ∀ b o,h0.get? b=some o->h1.get? b=some o:=λb o e=>hs1.extBut _ _ (h0d b o e).2 (hx b o e)
  have hp1:=hx1 _ _ ep
  refine qaW (qaO (qaW (wpAny_tryCatch ?_)))
  unfold Builtin.Dict.pairItems
  refine qaW (wpAny_typeOf (T:="tuple") ⟨_,hp1,rfl⟩ ?_)
  simp only [beq_self_eq_true,Bool.or_true,if_true]
  refine qaW (wpAny_seqItems hp1 rfl (qaX ?_))
  show wpAny _ _ (holding [key,v] (dictSet d key v)) _ _ _
  refine qaO (put _ _ _ (fr _ _ _ hst λb o hb e=>hs1.extBut _ _ hb e) hx1 λh2 tk hst2 hs2=> ?_)
  refine qaX ⟨plainId_quiet zec _,?_⟩
  show codeAny _ A (.builtin "dict.update.loop" ⟨[.ref d,.ref it,rawInt ((i:Int)+1),.none],[]⟩) _ _
  rw [show ((i:Int)+1)=((i+1:Nat):Int) by omega]
  refine ih (i+1) _ ⋯ hlt hst2 (hit1.extBut hs2.extBut (Ne.symm hdi)) (λb o e=>hs2.extBut _ _ (h0d b o e).1 (hx1 b o e)) λh3 tk3 hst3 hk3=> ?_
  exact hR h3 tk3 hst3 λb o hbd hbi e=>hk3 b o hbd hbi (hs2.extBut _ _ hbd (hs1.extBut _ _ hbi e))
theorem zkR {l:Addr} {items:Array Value} {k:Nat} {St:Nat->Heap->Prop} {Q:Value->Shared->Prop} (hA:A.handled=none) (hx:s.heap.get? l=some {cls:= .type "list",data:= .seq items k})
  (st0:St 0 (s.heap.push {cls:= .type "dict",data:= .dict #[]}))
  (fr: ∀ i h h',St i h->(∀ b o,(b=s.heap.objs.size\/ ∃ o',s.heap.get? b=some o')->h.get? b=some o->h'.get? b=some o)->St i h')
  (pr: ∀ i x,items[i]? = some x->ztx prog w A.in1.in1 s.heap.objs.size s.heap St i x)
  (h: ∀ h' tk,St items.size h'->(∀ b o,s.heap.get? b=some o->h'.get? b=some o)->Q (.ref s.heap.objs.size) {s with heap:=h',toks:=tk}):
  wpAny (model prog w) A (call (.type "dict") [.ref l]) Q E s:=by
 refine callType_codes (Q₁:=λobj s₁=>obj= .ref s.heap.objs.size/\s₁={s with heap:=s.heap.push {cls:= .type "dict",data:= .dict #[]}}) F.kt_called_dict (F.kt_typeCall_dict_1 _) F.entry_dict_init (kt_code_dict_new _ ⟨rfl,rfl⟩) ?_
 rintro obj s₁ ⟨rfl,rfl⟩
 have hd:(s.heap.push {cls:= .type "dict",data:= .dict #[]}).get? s.heap.objs.size=some {cls:= .type "dict",data:= .dict #[]}:=qar _ rfl
 have hx1:(s.heap.push {cls:= .type "dict",data:= .dict #[]}).get? l=some {cls:= .type "list",data:= .seq items k}:=qag _ hx
 refine ⟨⟨_,hd,rfl⟩,F.args_dict_init_2 _ _,?_⟩
 unfold Builtin.«dict.__init__»
 refine qaW ?_
 unfold Builtin.Dict.selfAndRest
 refine qaW (wpAny_notOrdered_dict ⟨_,hd,rfl⟩ ?_)
 show wpAny _ _ (pure (s.heap.objs.size,[Value.ref l])) _ _ _
 refine qaX ?_
 show wpAny _ _ (Builtin.Dict.updateFrom "dict.__init__" s.heap.objs.size (.ref l) [] .none) _ _ _
 unfold Builtin.Dict.updateFrom
 refine qaW (wpAny_typeOf (T:="list") ⟨_,hx1,rfl⟩ ?_)
 rw [qa4 (by decide)]
 refine qaW (zg4 (A:=A.in1.in1) hA hx1 λh1 tk hk1=> ?_)
 simp only [Option.isNone_none,if_true]
 refine qaW (wpAny_rule ?_)
 have hl1:h1.IsList l items:=⟨_,hk1 _ _ hx1,rfl,k,rfl⟩
 refine qaW (wpAny_pyIter_list (s:={s with heap:=h1,toks:=tk}) hl1 ?_)
 refine qaX ⟨plainId_quiet zec _,?_⟩
 have hlt:s.heap.objs.size<h1.objs.size:=qaQ (hk1 _ _ hd)
 have old: ∀ b o,s.heap.get? b=some o->h1.get? b=some o:=λb o e=>hk1 _ _ (qag _ e)
 have hne: ∀ b o,s.heap.get? b=some o->b≠s.heap.objs.size/\b≠h1.objs.size:=λb o e=>⟨qaR (qaQ e),qaR (qaQ (old b o e))⟩
 refine znp (A:=A.in1) (d:=s.heap.objs.size) (it:=h1.objs.size) (l:=l) (items:=items) (h0:=s.heap) (St:=St) hA ⟨_,hx,rfl,k,rfl⟩ hne (qaR hlt) (λi h h' hst hk=>fr i h h' hst λb o hb e=> ?_) pr _ 0 _ rfl (zero_le _)
  (fr 0 _ _ st0 λb o _ e=>qag _ (hk1 _ _ e)) ⟨_,qar _ rfl,rfl,rfl⟩ (λb o e=>qag _ (old b o e)) λh2 tk2 hst2 hk2=> ?_
 ·refine hk b o ?_ e
  rcases hb with rfl | ⟨o',e'⟩
  ·exact qaR hlt
  ·exact (hne b o' e').2
 ·exact ⟨rfl,h h2 tk2 hst2 λb o e=>hk2 b o (hne b o e).1 (hne b o e).2 (qag _ (old b o e))⟩
end
end L3
namespace L2
section
variable {X:Cx}
theorem Inv.sysI {pins:List (Addr×Obj)} {σ:St} {H:Hp} {s:Shared} (I:Inv X pins σ H s):sysModules<s.heap.objs.size:=by
 have h:mainGlobals<s.heap.objs.size:=(I.mod.glob.keeps I.bk).lt
 exact lt_trans (by decide) h
def zeP (zs:List (Int×V)):List (Key×V):=zs.foldl (λkvs z=>zkf kvs (.inl z.1) z.2) []
theorem zh0 (zs:List (Int×V)) (z:Int×V):zeP (zs++[z])=zkf (zeP zs) (.inl z.1) z.2:=by
 unfold zeP
 rw [List.foldl_append]
 rfl
theorem zgb (zs:List (Int×V)):(zeP zs).length<=zs.length:=by
 have key: ∀ (zs:List (Int×V)) (kvs:List (Key×V)),(zs.foldl (λkvs z=>zkf kvs (.inl z.1) z.2) kvs).length<=kvs.length+zs.length:=by
  intro zs
  induction zs with
  | nil=>intro kvs;exact qaV _
  | cons z zs ih=>
   intro kvs
   have h1:=ih (zkf kvs (.inl z.1) z.2)
   have h2:=zis kvs (.inl z.1) z.2
   rw [foldl_cons,qaE]
   omega
 have:=key zs []
 rw [qaJ,Nat.zero_add] at this
 exact this
theorem zlL (hc:X.calm=true):zba X (.type "dict") (λxs H Q=> ∃ (a:Addr) (zs:List (Addr×Int×V)),xs=[V.ref a]/\H a=some (.lst (zs.map λz=>V.ref z.1))/\
    (∀ z∈zs,H z.1=some (.tup [.int z.2.1,z.2.2]))/\ ∀ p,H p=none->Q (.ref p) (upd H p (.dK (zeP (zs.map (·.2)))))):=by
 intro pins s σ H xs us Q I r h
 obtain ⟨a,zs,rfl,hH,hz,q⟩:=h
 obtain ⟨u,rfl,ru⟩:=zeM r
 cases ru
 obtain ⟨zl,its,n,rv,hl,e⟩:=I.lstM hH
 have hlen:zs.length=its.length:=by rw [<- hl,qaH]
 have zl:zs.length<=sizeLine:=by rw [qaH] at zl;exact zl
 refine L3.zkR (A:=X.A) (s:=s) (l:=a) (items:=its.toArray) (k:=n) (St:=λi h=> ∃ vs,KV (zeP ((zs.take i).map (·.2))) vs/\h.DictOf (zeF X.prog X.w) s.heap.objs.size vs) (I.ok.hd hc) e ?_ ?_ ?_ ?_
 ·exact ⟨[],.nil,Heap.DictOf.new _⟩
 ·rintro i h h' ⟨vs,kv,o,es,ep,h1,r⟩ hk
  exact ⟨vs,kv,o,es,ep,hk _ o (.inl rfl) h1,r⟩
 ·intro i x hx
  have hi:i<zs.length:=by
   have:i<its.toArray.size:=(qab.mp hx).1
   rw [qaA] at this
   omega
  have hmem:zs[i]∈zs:=getElem_mem hi
  obtain ⟨u,hu1,ru1⟩:=rv.get (i:=i) (x:= .ref zs[i].1) (by simp [hi])
  have hxu:x=u:=by
   have:its[i]? = some x:=by simpa using hx
   rw [hu1] at this
   exact (Option.some.inj this).symm
  have hxr:x= .ref zs[i].1:=by rw [hxu];exact ru1
  obtain ⟨_,its2,r2,⟨cc,dd,dt,sl⟩,o1,o2,m,o3,o4⟩:=(show zbW X.prog X.w H s.heap zs[i].1 (.tup [.int zs[i].2.1,zs[i].2.2]) from I.hok _ _ (hz _ hmem))
  dsimp only at o2 o3
  subst o2 o3
  obtain ⟨u1,u2,rfl,k1,k2⟩:=r2.two
  refine ⟨zs[i].1,u1,u2,m,dd,sl,hxr,o1,λs' Q' E' hst hold k=> ?_⟩
  obtain ⟨vs,kv,dd'⟩:=hst
  have hz':vs.length<=sizeLine:=by
   rw [<- kv.length]
   have:=zgb ((zs.take i).map (·.2))
   rw [qaH,length_take] at this
   omega
  refine wpAny_dictSet_pairs (hsz:=hz') (ztl (k:= .inl zs[i].2.1) k1) dd' λh' d2 sb=>k h' _ ⟨_,?_,d2⟩ sb
  rw [List.take_succ,qaf hi,Option.toList_some,map_append,List.map_singleton,zh0]
  exact kv.put (.inl zs[i].2.1) k2
 ·rintro h' tk ⟨vs,kv,dd⟩ hk
  rw [show its.toArray.size=zs.length by simp;omega,List.take_length] at kv
  have fresh:=I.hok.fresh (qaV s.heap.objs.size)
  refine ⟨.ref s.heap.objs.size,_,I.laid (t':=tk) (h':=h') (a:=s.heap.objs.size) (o:= .dK (zeP (zs.map (·.2)))) hk (qaV _) ?_,rfl,q _ fresh⟩
  refine ⟨?_,by simpa using ne_of_gt I.sysI,vs,kv,dd⟩
  have:=zgb (zs.map (·.2))
  rw [qaH] at this
  omega
def vAt (kvs:List (Key×V)) (k:Key):Option V:=(kvs.find? λkv=>decide (kv.1=k)).map (·.2)
theorem zpW {kvs:List (Key×V)} {vs:List (Key×Value)} (r:KV kvs vs) (k:Key) {y:V} {u:Value} (ry:zcc y u):zcc ((vAt kvs k).getD y) ((valueAt vs k).getD u):=by
 unfold vAt valueAt
 unfold KV at r
 induction r with
 | nil=>exact ry
 | @cons p q ps qs h t ih=>
  rw [List.find?_cons,List.find?_cons, <-h.1]
  by_cases e:p.1=k
  ·rw [decide_eq_true e];exact h.2
  ·rw [decide_eq_false e];exact ih
theorem zsR:MtR X "dict.get" (λx vs H Q=> ∃ a kvs k y,x= .ref a/\vs=[kV k,y]/\H a=some (.dK kvs)/\Q ((vAt kvs k).getD y) H):=by
 intro pins s σ H x vs v us Q I rx rv h
 obtain ⟨a,kvs,k,y,rfl,rfl,hH,q⟩:=h
 cases rx
 obtain ⟨u1,u2,rfl,k1,k2⟩:=rv.two
 obtain ⟨z,hd,vs,rel,dd⟩:=(show zbW X.prog X.w H s.heap a (.dK kvs) from I.hok a _ hH)
 refine call_meetsIn F.slot_dict_get dd.typeIs F.entry_dict_get (F.args_dict_get_3 _ _ _) (meets_dict_get_default _ a (ztl k1) hd _) ⟨_,dd.mapOf,?_⟩
 exact ⟨_,H,I.tok _,zpW rel k k2,q⟩
end
end L2
namespace L3
open L2
section
variable {X:L2.Cx} {E:XE}
noncomputable def ziB (kvs:List (Int×D)):M D:=λh=> .ok (.cel h.length) (h++[.dic kvs])
def pr1:D->Option (Int×D)
 | .tup [.int k,d]=>some (k,d)
 | _=>none
def prs:List D->Option (List (Int×D))
 | []=>some []
 | d::r=>(pr1 d).bind λp=>(prs r).map (p:: ·)
def zhe (ps:List (Int×D)):List (Int×D):=ps.foldl (λkvs p=>zqN kvs p.1 p.2) []
def zp3:List D->M D:=zoy λd=>match d with
 | .lst ds=>do
  let ps<-ofO (prs ds)
  ziB (zhe ps)
 | _=>M.bad
theorem zoV {d:D} {p:Int×D} (e:pr1 d=some p):d= .tup [.int p.1,p.2]:=by
 unfold pr1 at e
 split at e
 ·cases e;rfl
 ·cases e
theorem zof {K:W.Frag} {ι:Io} {H:Hp}: ∀ {ds:List D} {vs:List V} {ps:List (Int×D)},zaw K ι H ds vs->prs ds=some ps->
  ∃ zs:List (Addr×Int×V),vs=zs.map (λz=>V.ref z.1)/\(∀ z∈zs,H z.1=some (.tup [.int z.2.1,z.2.2]))/\Paired (λ(p:Int×D) (z:Addr×Int×V)=>z.2.1=p.1/\Rel K ι H p.2 z.2.2) ps zs
 | [],vs,ps,h,e=>by
  simp only [zaw] at h
  subst h
  cases e
  exact ⟨[],rfl,(λz hz=>nomatch hz),.nil⟩
 | d::r,vs,ps,h,e=>by
  simp only [zaw] at h
  obtain ⟨v,r',rfl,h1,h2⟩:=h
  unfold prs at e
  cases z:pr1 d with
  | none=>rw [z] at e;cases e
  | some p=>
   rw [z] at e
   cases z2:prs r with
   | none=>rw [z2] at e;cases e
   | some ps'=>
    rw [z2] at e
    cases e
    obtain ⟨zs,g1,g2,g3⟩:=zof h2 z2
    have ed:=zoV z
    subst ed
    simp only [Rel] at h1
    obtain ⟨a,us,rfl,ha,ru⟩:=h1
    simp only [zaw,Rel] at ru
    obtain ⟨u1,t1,rfl,ru1,u2,t2,rfl,ru2,rfl⟩:=ru
    subst ru1
    refine ⟨(a,p.1,u2)::zs,by rw [qaM,g1],λy hy=> ?_,.cons ⟨rfl,ru2⟩ g3⟩
    rcases qaP.mp hy with rfl | hy
    ·exact ha.1
    ·exact g2 y hy
theorem zm6 {K:W.Frag} {ι:Io} {H:Hp} {ps:List (Int×D)} {zs:List (Addr×Int×V)} (r:Paired (λ(p:Int×D) (z:Addr×Int×V)=>z.2.1=p.1/\Rel K ι H p.2 z.2.2) ps zs):
  Paired (λ(p:Int×D) (q:Key×V)=>q.1= .inl p.1/\Rel K ι H p.2 q.2) (zhe ps) (zeP (zs.map (·.2))):=by
 have key: ∀ {ps:List (Int×D)} {zs:List (Addr×Int×V)},Paired (λ(p:Int×D) (z:Addr×Int×V)=>z.2.1=p.1/\Rel K ι H p.2 z.2.2) ps zs-> ∀ {kvs:List (Int×D)} {vs:List (Key×V)},Paired (λ(p:Int×D) (q:Key×V)=>q.1= .inl p.1/\Rel K ι H p.2 q.2) kvs vs->
   Paired (λ(p:Int×D) (q:Key×V)=>q.1= .inl p.1/\Rel K ι H p.2 q.2) (ps.foldl (λkvs p=>zqN kvs p.1 p.2) kvs) ((zs.map (·.2)).foldl (λkvs z=>zkf kvs (.inl z.1) z.2) vs):=by
  intro ps zs r
  induction r with
  | nil=>intro kvs vs h;exact h
  | @cons p z ps zs hh t ih=>
   intro kvs vs h
   rw [foldl_cons,qaM,foldl_cons,hh.1]
   exact ih (zo0 h hh.2)
 exact key r .nil
theorem zjB (hc:X.calm=true):zba X (.type "dict") (zjt X.K E zp3):=by
 refine zba.imp (zlL hc) λxs H Q ⟨ι,h,ds,rl,hr,q⟩=> ?_
 obtain ⟨d,v,e,r,q⟩:=zdK rl q
 cases d with
 | lst ds=>
  obtain ⟨ps,ek,q⟩:=Fin.ofOb q
  simp only [Rel] at r
  obtain ⟨a,vs,rfl,ha,r2⟩:=r
  obtain ⟨zs,g1,g2,g3⟩:=zof r2 ek
  refine ⟨a,zs,by rw [e],by rw [<- g1];exact ha.1,g2,λp hp=> ?_⟩
  exact zru (E:=E) hr (c0:= .dic (zhe ps)) ⟨_,rfl,zm6 g3⟩ q hp
 | _=>exact qa0 q
def atK (kvs:List (Int×D)) (k:Int):Option D:=(kvs.find? λp=>decide (p.1=k)).map (·.2)
theorem zkS {K:W.Frag} {ι:Io} {H:Hp} {kvs:List (Int×D)} {vs:List (Key×V)} (r:Paired (λ(p:Int×D) (q:Key×V)=>q.1= .inl p.1/\Rel K ι H p.2 q.2) kvs vs) (k:Int) {d:D} {v:V} (rd:Rel K ι H d v):
  Rel K ι H ((atK kvs k).getD d) ((vAt vs (.inl k)).getD v):=by
 unfold atK vAt
 induction r with
 | nil=>exact rd
 | @cons p q ps qs h t ih=>
  rw [List.find?_cons,List.find?_cons,h.1]
  by_cases e:p.1=k
  ·rw [decide_eq_true e,decide_eq_true (by rw [e])];exact h.2
  ·rw [decide_eq_false e,decide_eq_false (λz=>e (by injection z))];exact ih
def zii (x:D) (ys:List D):M D:=match x,ys with
 | .cel n,[.int k,d]=>do
  let kvs<-zc5 n
  pure ((atK kvs k).getD d)
 | _,_=>M.bad
def zgo:D->M Unit
 | .cel n=>do let _<-zc5 n;pure ()
 | _=>M.bad
def zoQ (fo:FE) (fs:FA):FE:=λsd=>do
 let x<-fo sd
 zgo x
 let ys<-fs sd
 zii x ys
theorem zi6 {K:W.Frag} {ι:Io} {H:Hp} {h:Hh} (hr:zbo K ι H h) {n:Nat} {v:V} {α:Type} {f:List (Int×D)->M α} {P:α->Io->Hp->Prop} (r:Rel K ι H (.cel n) v) (q:Fin K E ι H ((zc5 n>>=f) h) P):
  ∃ a kvs vs,v= .ref a/\H a=some (.dK vs)/\Paired (λ(p:Int×D) (q:Key×V)=>q.1= .inl p.1/\Rel K ι H p.2 q.2) kvs vs/\Fin K E ι H (f kvs h) P:=by
 simp only [Rel] at r
 obtain ⟨a,rfl,hn⟩:=r
 have q4:Fin K E ι H (M.bind (zc5 n) f h) P:=q
 unfold M.bind zc5 at q4
 rcases hn with hn | hn
 ·have hl:=hr.len
  have hlt:=(qac.mp hn).1
  obtain ⟨c,hc⟩: ∃ c,h[n]? = some c:=⟨h[n],by simp [hl,hlt]⟩
  rw [hc] at q4
  obtain ⟨ob,e3,co⟩:=hr.at_ n a c hn hc
  cases c with
  | dic kvs=>
   obtain ⟨vs,rfl,rp⟩:=co
   exact ⟨a,kvs,vs,rfl,e3,rp,q4⟩
  | _=>exact qa0 q4
 ·rw [hr.dead n hn] at q4
  exact qa0 q4
variable {o e1 e2:Expr} {cpos apos:Pos} {fo:FE} {fs:FA}
theorem zsk (ho:SE X E o fo) (ha:SA X E [e1,e2] fs)
  (hbase:attributeBase o "get" X.env (eval o X.env)=eval o X.env:=by rfl)
  (hfew:((backTo cpos (starEach [e1,e2] X.env)).all (λx=> !x.1) && (backToKw cpos (keywordEach [] X.env)).all (λx=>x.1.isSome)
    && decide (([e1,e2]:List Expr).length+([]:List Keyword).length+(if ([]:List Keyword).isEmpty then 0 else 1)<30))=true:=by rfl)
  (hline:(apos.endLine==cpos.line)=true:=by rfl) (hs:starEach [e1,e2] X.env=(false,eval e1 X.env)::starEach [e2] X.env:=by rfl) (hplain:(backTo cpos (starEach [e2] X.env)).any (·.1)=false:=by rfl):
  SE X E (.Call (.Attribute o "get" apos) [e1,e2] [] cpos) (zoQ fo fs):=by
 refine PE.imp (zmq PySem.F.plainAttrs_dict PySem.F.slot_dict_get PySem.F.type_dict_get zsR ho ha hbase hfew hline hs hplain) λσ H Q ⟨ι,h,sd,L,hh,q⟩=>⟨ι,h,sd,L,hh,Fin.bind q λd h1 ι1 H1 e1 s1 hr1 q1 v rv=> ?_⟩
 cases d with
 | cel n=>
  have q2:Fin X.K E ι1 H1 ((zc5 n>>=λ_=>fs sd>>=λys=>zii (.cel n) ys) h1) (λd ι' H'=> ∀ v,Rel X.K ι' H' d v->Q v H'):=by
   have ee:(zgo (.cel n)>>=λ_=>fs sd>>=λys=>zii (.cel n) ys:M D)=(zc5 n>>=λ_=>fs sd>>=λys=>zii (.cel n) ys):=by
    show ((zc5 n>>=λ_=>pure ())>>=λ_=>fs sd>>=λys=>zii (.cel n) ys)=_
    simp only [bind_assoc,pure_bind]
   rw [<- ee]
   exact q1
  obtain ⟨a,kvs,vs,ev,hH,_,q3⟩:=zi6 hr1 rv q2
  subst ev
  refine ⟨.inr (.inr (.inl ⟨rfl,.inl ⟨vs,hH⟩⟩)),ι1,h1,sd,L.step s1,hr1,Fin.bind q3 λys h3 ι3 H3 e3 s3 hr3 q4 ws rw'=> ?_⟩
  have rv3:=rv.step s3
  match ys,rw',q4 with
  | [.int k,d],rw',q4=>
   have q4':Fin X.K E ι3 H3 ((zc5 n>>=λkvs=>(pure ((atK kvs k).getD d):M D)) h3) (λd ι' H'=> ∀ v,Rel X.K ι' H' d v->Q v H'):=q4
   obtain ⟨a3,kvs3,vs3,ea,hH3,rp3,q5⟩:=zi6 hr3 rv3 q4'
   cases ea
   simp only [zaw,Rel] at rw'
   obtain ⟨w1,t1,rfl,rfl,w2,t2,rfl,rw2,rfl⟩:=rw'
   exact ⟨a,vs3,.inl k,w2,rfl,rfl,hH3,Fin.out hr3 q5 _ (zkS rp3 k rw2)⟩
  | [],_,q4=>exact qa0 q4
  | [y],_,q4=>cases y<;>exact qa0 q4
  | y::_::_::_,_,q4=>cases y<;>exact qa0 q4
  | [.non,_],_,q4=>exact qa0 q4
  | [.bl _,_],_,q4=>exact qa0 q4
  | [.str _,_],_,q4=>exact qa0 q4
  | [.tup _,_],_,q4=>exact qa0 q4
  | [.lst _,_],_,q4=>exact qa0 q4
  | [.cel _,_],_,q4=>exact qa0 q4
  | [.set _,_],_,q4=>exact qa0 q4
  | [.dct,_],_,q4=>exact qa0 q4
  | [.fn _,_],_,q4=>exact qa0 q4
  | [.scr _,_],_,q4=>exact qa0 q4
  | [.exn _,_],_,q4=>exact qa0 q4
 | _=>exact qa0 q1
end
end L3
namespace L3
open PySem.Sem (wp)
section
variable {prog:Program} {w:World} {A:Around} {E:Value->Shared->Prop} {s:Shared}
theorem zgI {z TI TO i1 i2 l1 l2:Addr} {k1 k2:Nat} {xs ys:Array Value} {a b:Value} {Q:PySem.Fin->Shared->Prop} (hh:zhc A s.heap) (hf:z∉zaJ A/\TO∉zaJ A/\i1∉zaJ A/\i2∉zaJ A) (D:ZipApart z TI TO i1 i2 l1 l2)
  (hz:IsZip s.heap z TI TO .none) (hTI:IsPair s.heap TI (.ref i1) (.ref i2)) (hTO:IsPair s.heap TO a b)
  (h1:s.heap.IsListIter i1 l1 k1) (h2:s.heap.IsListIter i2 l2 k2) (hl1:s.heap.IsList l1 xs) (hl2:s.heap.IsList l2 ys) (hend:xs[k1]? = none\/ys[k2]? = none)
  (hE: ∀ h' e,(∀ c o,c≠z->c≠TO->c≠i1->c≠i2->s.heap.get? c=some o->h'.get? c=some o)->(∃ o,h'.get? e=some o/\o.cls= .type "StopIteration")->E (.ref e) {s with heap:=h'}):
  wpAny (model prog w) A (Builtin.«zip.__next__» ⟨[.ref z],[]⟩) Q E s:=by
 show wpAny _ _ (field (.ref z) 2>>=_) _ _ _
 refine qaW (wpAny_field hz rfl (x:= .bool false) rfl ?_)
 show wpAny _ _ (field (.ref z) 3>>=_) _ _ _
 refine qaW (wpAny_field hz rfl (x:= .ref TI) rfl ?_)
 refine qaW (wpAny_seqItems hTI rfl ?_)
 show wpAny _ _ (Builtin.SmallTypes.ownedTupleIsFree (.ref z)>>=_) _ _ _
 refine qaW ?_
 unfold Builtin.SmallTypes.ownedTupleIsFree
 refine qaW (wpAny_field hz rfl (x:= .none) rfl (qaX ?_))
 simp only [if_true]
 refine qaW (wpAny_rule ?_)
 refine qaW (wpAny_field hz rfl (x:= .ref TO) rfl ?_)
 refine qaW (wpAny_setField_rec hz (by simp) λh₁ hz₁ hs₁=> ?_)
 replace hz₁:IsZip h₁ z TI TO .ellipsis:=hz₁
 refine qaW ?_
 simp only [List.zipIdx_cons,List.zipIdx_nil,forIn_cons,forIn_nil]
 refine qaW (qaW (wpAny_onRaise ?_))
 show wpAny _ _ (Builtin.SmallTypes.nextOf (.ref i1)>>=_) _ _ _
 cases hx:xs[k1]? with
 | none=>
  refine qaW (zci (hh.keep λb hb o e=>hs₁.extBut _ _ (λz=>hf.1 (z▸hb)) e) (h1.extBut hs₁.extBut D.i1z) (hl1.extBut hs₁.extBut D.l1z) hx λh₂ e hs₂ he=> ?_)
  obtain ⟨oe,hoe,hce⟩:=he
  have hz₂:IsZip h₂ z TI TO .ellipsis:=hs₂ _ _ D.i1z.symm hz₁
  have hez:e≠z:=λx=>by subst x;rw [hz₂] at hoe;cases hoe;simp at hce
  refine wpAny_setField_rec hz₂ (by simp) λh₃ _ hs₃=>hE h₃ e (λc o c1 _ c3 _ x=>hs₃.extBut _ _ c1 (hs₂ _ _ c3 (hs₁.extBut _ _ c1 x))) ⟨oe,hs₃.extBut _ _ hez hoe,hce⟩
 | some x=>
  have hy:ys[k2]? = none:=by rcases hend with h | h;rw [hx] at h;cases h;exact h
  refine qaW (wpAny_nextOf_list_item (h1.extBut hs₁.extBut D.i1z) (hl1.extBut hs₁.extBut D.l1z) hx λh₂ h1₂ hs₂=>qaX ?_)
  have hTO₂:IsPair h₂ TO a b:=hs₂.extBut _ _ D.TOi1 (hs₁.extBut _ _ D.TOz hTO)
  refine qaW (wpAny_seqItems hTO₂ rfl ?_)
  refine qaW (wpAny_updateSeq_pair hTO₂ λh₃ hTO₃ hs₃=> ?_)
  refine qaW (wpAny_letGo (qaX ?_))
  refine qaW (qaW (wpAny_onRaise ?_))
  show wpAny _ _ (Builtin.SmallTypes.nextOf (.ref i2)>>=_) _ _ _
  refine qaW (zci (hh.keep λb hb o e=>hs₃.extBut _ _ (λz=>hf.2.1 (z▸hb)) (hs₂.extBut _ _ (λz=>hf.2.2.1 (z▸hb)) (hs₁.extBut _ _ (λz=>hf.1 (z▸hb)) e))) (((h2.extBut hs₁.extBut D.i2z).extBut hs₂.extBut D.i12.symm).extBut hs₃.extBut D.TOi2.symm)
    (((hl2.extBut hs₁.extBut D.l2z).extBut hs₂.extBut D.l2i1).extBut hs₃.extBut D.l2TO) hy λh₄ e hs₄ he=> ?_)
  obtain ⟨oe,hoe,hce⟩:=he
  have hz₄:IsZip h₄ z TI TO .ellipsis:=hs₄ _ _ D.i2z.symm (hs₃.extBut _ _ D.TOz.symm (hs₂.extBut _ _ D.i1z.symm hz₁))
  have hez:e≠z:=λx=>by subst x;rw [hz₄] at hoe;cases hoe;simp at hce
  refine wpAny_setField_rec hz₄ (by simp) λh₅ _ hs₅=>hE h₅ e (λc o c1 c2 c3 c4 x=>hs₅.extBut _ _ c1 (hs₄ _ _ c4 (hs₃.extBut _ _ c2 (hs₂.extBut _ _ c3 (hs₁.extBut _ _ c1 x))))) ⟨oe,hs₅.extBut _ _ hez hoe,hce⟩
theorem zfL {z TI TO i1 i2 l1 l2:Addr} {k1 k2:Nat} {xs ys:Array Value} {a b:Value} {Q:Option Value->Shared->Prop} (hh:zhc A s.heap) (hf:z∉zaJ A/\TO∉zaJ A/\i1∉zaJ A/\i2∉zaJ A) (D:ZipApart z TI TO i1 i2 l1 l2)
  (hz:IsZip s.heap z TI TO .none) (hTI:IsPair s.heap TI (.ref i1) (.ref i2)) (hTO:IsPair s.heap TO a b)
  (h1:s.heap.IsListIter i1 l1 k1) (h2:s.heap.IsListIter i2 l2 k2) (hl1:s.heap.IsList l1 xs) (hl2:s.heap.IsList l2 ys) (hend:xs[k1]? = none\/ys[k2]? = none)
  (hQ: ∀ h',(∀ c o,c≠z->c≠TO->c≠i1->c≠i2->s.heap.get? c=some o->h'.get? c=some o)->Q none {s with heap:=h'}):wpAny (model prog w) A (pyNext (.ref z)) Q E s:=by
 have hT:s.TypeIs (.ref z) "zip":=⟨_,hz,rfl⟩
 unfold pyNext
 refine qaW (wpAny_attempt (wpAny_callSpecial?_slot (name:=Str.ofString "__next__") hT F.slot_zip_next
   (wpAny_call_entry F.slot_zip_next hT F.entry_zip_next (zgI (A:=A.in1) hh hf D hz hTI hTO h1 h2 hl1 hl2 hend λh' e hk he=> ?_) (F.args_zip_next_1 _))))
 obtain ⟨o,ho,hc⟩:=he
 refine qaW (wpAny_isInstance (T:="StopIteration") (b:=true) ⟨o,ho,hc⟩ isSubtype_stop ?_)
 exact qaX (hQ _ hk)
end
end L3
namespace L2
def zuX (K:W.Frag) (a b:Addr):It:=
 ⟨λi H=> ∃ xs ys x y,SqL K H a xs/\SqL K H b ys/\xs[i]? = some x/\ys[i]? = some y,
  λi H x H'=> ∃ T u v,H T=none/\H'=upd H T (.tup [u,v])/\x= .ref T/\(∀ xs,SqL K H a xs->xs[i]? = some u)/\ ∀ ys,SqL K H b ys->ys[i]? = some v,
  λi H=> ∃ xs ys,SqL K H a xs/\SqL K H b ys/\(xs.length=i\/ys.length=i)⟩
def zss (z TI TO i1 i2 a b:Addr) (i:Nat) (h:Heap):Prop:=IsZip h z TI TO .none/\IsPair h TI (.ref i1) (.ref i2)/\(∃ u v,IsPair h TO u v)/\h.IsListIter i1 a i/\h.IsListIter i2 b i
theorem zmb {P:Program} {w:World} {K:W.Frag} {elts:List Expr} {k:Nat} {pos:Pos} (z TI TO i1 i2 a b:Addr) (D:ZipApart z TI TO i1 i2 a b):zmx P w K (.Tuple elts k pos) (zuX K a b) [z,TI,TO,i1,i2] z (zss z TI TO i1 i2 a b) where
 mem:=by simp
 obj:=λi h st c hc=>by
  obtain ⟨hz,hTI,⟨u,v,hTO⟩,⟨o1,ho1,hc1,hd1⟩,o2,ho2,hc2,hd2⟩:=st
  have q:c=z\/c=TI\/c=TO\/c=i1\/c=i2:=by simpa using hc
  rcases q with rfl | rfl | rfl | rfl | rfl
  ·exact ⟨_,hz,λv z=>by cases z⟩
  ·exact ⟨_,hTI,λv z=>by cases z⟩
  ·exact ⟨_,hTO,λv z=>by cases z⟩
  ·exact ⟨o1,ho1,λv z=>by rw [hd1] at z;cases z⟩
  ·exact ⟨o2,ho2,λv z=>by rw [hd2] at z;cases z⟩
 keep:=λi h h' st k=>by
  obtain ⟨hz,hTI,⟨u,v,hTO⟩,h1,h2⟩:=st
  exact ⟨k z (by simp) _ hz,k TI (by simp) _ hTI,⟨u,v,k TO (by simp) _ hTO⟩,h1.at λo q=>k i1 (by simp) o q,h2.at λo q=>k i2 (by simp) o q⟩
 item:=by
  intro X hP hw hK i pins s σ H E I hf st hg
  subst hP hw hK
  obtain ⟨xs,ys,x,y,hqx,hqy,hx,hy⟩:=hg
  obtain ⟨itx,rx,px,_⟩:=I.list hqx
  obtain ⟨ity,ry,py,_⟩:=I.list hqy
  obtain ⟨u,hu,ru⟩:=rx.get hx
  obtain ⟨v,hv,rv⟩:=ry.get hy
  obtain ⟨hz,hTI,⟨c,d,hTO⟩,h1,h2⟩:=st
  refine wpAny_pyNext_zip_item D hz hTI hTO h1 h2 px.isList py.isList (x:=u) (y:=v) (by simpa using hu) (by simpa using hv) λh' a1 a2 a3 a4 a5 a6 hk=> ?_
  refine ⟨_,rfl,wpAny_letOwnedTupleGo_zip a1 λh2' b1 hs2=> ?_⟩
  have fresh:=I.hok.fresh (qaV s.heap.objs.size)
  have lt: ∀ {c o},s.heap.get? c=some o->c≠s.heap.objs.size:=λe=>qaR (qaQ e)
  have lz:=lt hz
  have lTI:=lt hTI
  have lTO:=lt hTO
  have l1:i1≠s.heap.objs.size:=by obtain ⟨_,e,_⟩:=h1;exact lt e
  have l2:i2≠s.heap.objs.size:=by obtain ⟨_,e,_⟩:=h2;exact lt e
  have I1:Inv X pins σ (upd H s.heap.objs.size (.tup [x,y])) {s with heap:=s.heap.push {cls:= .type "tuple",data:= .seq #[u,v]},toks:=s.toks}:=
   I.laid (t':=s.toks) (λb o q=>qag _ q) (qaV _) (show zbW X.prog X.w _ _ _ (.tup [x,y]) from ⟨by show 2<=sizeLine;decide,[u,v],.cons ru (.cons rv .nil),zjV.new _ _⟩)
  have fp: ∀ c∈[z,TI,TO,i1,i2],zgx X pins (upd H s.heap.objs.size (.tup [x,y])) c:=λc hc=>by
   have hcn:c≠s.heap.objs.size:=by
    have q:c=z\/c=TI\/c=TO\/c=i1\/c=i2:=by simpa using hc
    rcases q with rfl | rfl | rfl | rfl | rfl<;>assumption
   exact ⟨by rw [zaN hcn];exact (hf c hc).1,(hf c hc).2⟩
  have I2:Inv X pins σ (upd H s.heap.objs.size (.tup [x,y])) {s with heap:=h',toks:=s.toks}:=I1.turnedL (t':=s.toks) (h':=h') (λb o hb q=>by
    rcases Heap.get?_push_cases q with ⟨z1,z2⟩ | q'
    · rw [z1,z2];exact a5
    · exact hk b o (λe=>hb (by simp [e])) (λe=>hb (by simp [e])) (λe=>hb (by simp [e])) (λe=>hb (by simp [e])) q') fp
  have I3:Inv X pins σ (upd H s.heap.objs.size (.tup [x,y])) {s with heap:=h2',toks:=s.toks}:=I2.turnedL (s:={s with heap:=h',toks:=s.toks}) (h':=h2') (t':=s.toks) (ch:=[z]) (λb o hb q=>(hs2.2 b (λe=>hb (by simp [e]))).trans q) (λb hb=>fp b (by simp at hb;simp [hb]))
  refine ⟨.ref s.heap.objs.size,_,I3,rfl,⟨s.heap.objs.size,x,y,fresh,rfl,rfl,λxs' hx'=>by rw [I.list_inj hx' hqx];exact hx,λys' hy'=>by rw [I.list_inj hy' hqy];exact hy⟩,
    ⟨b1,hs2.extBut _ _ D.TIz (hk _ _ D.TIz D.TITO D.TIi1 D.TIi2 hTI),⟨u,v,hs2.extBut _ _ D.TOz a2⟩,a3.extBut hs2.extBut D.i1z,a4.extBut hs2.extBut D.i2z⟩,λc hc=>(fp c hc).1⟩
 done:=by
  intro X hP hw hK i pins s σ H E I hf st hg
  subst hP hw hK
  obtain ⟨xs,ys,hqx,hqy,hn⟩:=hg
  obtain ⟨itx,rx,px,_⟩:=I.list hqx
  obtain ⟨ity,ry,py,_⟩:=I.list hqy
  obtain ⟨hz,hTI,⟨c,d,hTO⟩,h1,h2⟩:=st
  have hnd:itx.toArray[i]? = none\/ity.toArray[i]? = none:=by
   have e1:=rx.length
   have e2:=ry.length
   rcases hn with q | q
   ·left;simp;omega
   ·right;simp;omega
  obtain ⟨o1,ho1,_,hd1⟩:=id h1
  obtain ⟨o2,ho2,_,hd2⟩:=id h2
  refine L3.zfL I.hand ⟨zcI I.hand hz (λvs e=>by cases e;simp),zcI I.hand hTO (λvs e=>by cases e),zcI I.hand ho1 (λvs e=>by rw [hd1] at e;cases e;simp),zcI I.hand ho2 (λvs e=>by rw [hd2] at e;cases e;simp)⟩ D hz hTI hTO h1 h2
   px.isList py.isList hnd λh' hk=>⟨rfl,I.turnedL (t':=s.toks) (ch:=[z,TO,i1,i2]) (λb o hb q=>hk b o (λe=>hb (by simp [e])) (λe=>hb (by simp [e])) (λe=>hb (by simp [e])) (λe=>hb (by simp [e])) q) λb hb=>hf b (by simp at hb ⊢; rcases hb with e | e | e | e<;>simp [e])⟩
 self:=λ_ _ _ _ _ st h=>wpAny_pyIter_zip st.1 h
section
variable {X:Cx} {elts:List Expr} {k:Nat} {tpos:Pos}
def zsi (K:W.Frag) (ta:TA):TI:=λσ H R=>ta σ H λvs H1=> ∃ a b,vs=[.ref a,.ref b]/\(∃ xs,SqL K H1 a xs)/\(∃ ys,SqL K H1 b ys)/\R (zuX K a b) H1
theorem zqB {l m:Expr} {ta:TA} {p pos:Pos} (hg:Gl X "zip") (hm:X.mg "zip"=none) (ha:PA X [l,m] ta) (hs1:starEach [l,m] X.env=(false,eval l X.env)::starEach [m] X.env:=by rfl) (hs2:starEach [m] X.env=[(false,eval m X.env)]:=by rfl):
  PI X (.Tuple elts k tpos) (.Call (.Name "zip" p) [l,m] [] pos) (zsi X.K ta):=by
 intro pins s σ H R I h
 refine Call_ (zeN I hg hm PyProof.Rows.boot_zip (PyProof.Rows.callWith_type1 (thn (ha pos pins s σ H _ I h) λus s1 ⟨vs,H1,I1,r1,q1⟩=> ?_) hs1 (by rw [hs2];rfl)))
 obtain ⟨a,b,e,⟨xs,hqx⟩,⟨ys,hqy⟩,q⟩:=q1
 subst e
 cases r1 with
 | cons r rr=>
  cases rr with
  | cons r' rr=>
  cases rr
  cases r
  cases r'
  obtain ⟨itx,rx,px,_⟩:=I1.list hqx
  obtain ⟨ity,ry,py,_⟩:=I1.list hqy
  have la:a<s1.heap.objs.size:=by obtain ⟨_,e,_⟩:=px.isList;exact qaQ e
  have lb:b<s1.heap.objs.size:=by obtain ⟨_,e,_⟩:=py.isList;exact qaQ e
  refine call_zip_2 px.isList py.isList λh' hz hTI hTO h1 h2 hsz kp=> ?_
  refine wpAny_pyIter_zip hz ?_
  refine ⟨s1.heap.objs.size+4,[s1.heap.objs.size+4,s1.heap.objs.size+2,s1.heap.objs.size+3,s1.heap.objs.size,s1.heap.objs.size+1],_,_,H1,rfl,I1.kept (t':=s1.toks) kp,
    zmb _ _ _ _ _ a b (zoN la lb),⟨hz,hTI,⟨_,_,hTO⟩,h1,h2⟩,λc hc=> ?_,q⟩
  have q:s1.heap.objs.size<=c:=by
   have z:c=s1.heap.objs.size+4\/c=s1.heap.objs.size+2\/c=s1.heap.objs.size+3\/c=s1.heap.objs.size\/c=s1.heap.objs.size+1:=by simpa using hc
   rcases z with e | e | e | e | e<;>rw [e]
   ·exact le_add_right _ 4
   ·exact le_add_right _ 2
   ·exact le_add_right _ 3
   ·exact qaV _
   ·exact le_add_right _ 1
  exact I1.fpOk q (I1.hok.fresh q)
end
end L2
namespace L3
open L2
section
variable {X:Cx} {E:XE} {elts:List Expr} {k:Nat} {tpos pos:Pos}
theorem zkU {K:W.Frag} {ι:Io} {H:Hp} {a b:Addr} {vs us:List V} {ds es:List D} (h: ∀ ι' H',Pass ι H ι' H'->SqL K H' a vs) (g: ∀ ι' H',Pass ι H ι' H'->SqL K H' b us) (rl:zaw K ι H ds vs) (rm:zaw K ι H es us):zmn K ι H (zuX K a b) (zf0 ds es) where
 go:=λι' H' i s hi=>by
  have hi:i<ds.length/\i<es.length:=by simp [zf0] at hi;omega
  obtain ⟨v,ev,_⟩:=zaw.get rl (i:=i) (d:=ds[i]) (by simp [hi])
  obtain ⟨u,eu,_⟩:=zaw.get rm (i:=i) (d:=es[i]) (by simp [hi])
  exact ⟨vs,us,v,u,h ι' H' s,g ι' H' s,ev,eu⟩
 yld:=λι' H' _ i x H2 s hr hi ⟨T,y,y2,hT,e,e2,hy,hy2⟩=>by
  subst e e2
  have hi:i<ds.length/\i<es.length:=by simp [zf0] at hi;omega
  obtain ⟨v,ev,rv⟩:=zaw.get rl (i:=i) (d:=ds[i]) (by simp [hi])
  obtain ⟨u,eu,ru⟩:=zaw.get rm (i:=i) (d:=es[i]) (by simp [hi])
  have ey:=hy vs (h ι' H' s)
  rw [ev] at ey
  cases ey
  have ez:=hy2 us (g ι' H' s)
  rw [eu] at ez
  cases ez
  refine ⟨.inr ⟨T,_,hT,rfl⟩,.tup [ds[i],es[i]],by simp [zf0,List.getElem?_zip_eq_some,hi],?_⟩
  obtain ⟨st,hr2⟩:=zqy.step (.inr ⟨T,[y,y2],hT,rfl⟩) hr
  have rv2:Rel K ι' (upd H' T (.tup [y,y2])) ds[i] y:=(rv.pass s).step st
  have ru2:Rel K ι' (upd H' T (.tup [y,y2])) es[i] y2:=(ru.pass s).step st
  simp only [Rel]
  exact ⟨T,_,rfl,⟨za4,hr.nin hT⟩,zaw.cons rv2 (zaw.cons ru2 zaw.nil)⟩
 stop:=λι' H' s=>⟨vs,us,h ι' H' s,g ι' H' s,by rw [<- rl.length, <-rm.length];simp [zf0];omega⟩
def zmA:List D->M (List D)
 | [.lst ds,.lst es]=>pure (zf0 ds es)
 | _=>M.bad
def zl1 (fs:FA):FA:=λsd=>do let ds<-fs sd;zmA ds
theorem zsO {l m:Expr} {fs:FA} {p:Pos} (hm:X.mg "zip"=none) (ha:SA X E [l,m] fs) (hg:Gl X "zip":=by rfl) (hs1:starEach [l,m] X.env=(false,eval l X.env)::starEach [m] X.env:=by rfl) (hs2:starEach [m] X.env=[(false,eval m X.env)]:=by rfl):
  SI X E (.Tuple elts k tpos) (.Call (.Name "zip" p) [l,m] [] pos) (zl1 fs):=by
 refine PI.imp (zqB hg hm ha hs1 hs2) λσ H Q ⟨ι,h,sd,L,hh,q⟩=>⟨ι,h,sd,L,hh,Fin.bind q λds h1 ι1 H1 e1 s1 hr1 q1 vs rv=> ?_⟩
 unfold zmA at q1
 split at q1
 ·rename_i ds es
  unfold zaw at rv
  obtain ⟨v,r,e1,r1,rv⟩:=rv
  unfold zaw at rv
  obtain ⟨v',r',e2,r2,rv⟩:=rv
  unfold zaw at rv
  subst rv e2 e1
  obtain ⟨a,vs,e,g1,g2⟩:=zgm r1
  obtain ⟨b,us,e',g3,g4⟩:=zgm r2
  exact ⟨a,b,by rw [e,e'],⟨vs,g1 _ _ (Pass.refl _ _)⟩,⟨us,g3 _ _ (Pass.refl _ _)⟩,Fin.out hr1 q1 _ (zkU g1 g3 g2 g4)⟩
 ·exact qa0 q1
end
section
variable {X:Cx} {E:XE} {scope:Scope} {N:List Str} {src:List (Option Nat)} {tg iter elt:Expr} {ifs:List Expr} {pos:Pos}
theorem zjU {fi:Sd->M (List D)} {g:D->Sd->M Sd} {tc:Sd->M Bool} {te:Sd->M D} (i:Nat) {y:Str} {py spos:Pos} (B:BOk X scope N src) (hk:zaD g src) (hi:SI X E tg iter fi)
  (hg: ∀ s H fp,SG (cxB X scope N s H fp) E tg g) (ht: ∀ s H fp,SCs (cxB X scope N s H fp) E ifs tc) (he: ∀ s H fp,SE (cxB X scope N s H fp) E elt te)
  (hN:X.N.Nodup) (hy:X.N[i]? = some y) (hx:Loc X.env.scope y) (hf:X.fn y=true\/X.env.scope.names.lookup y=some .local) (hsw:swapsWith (.ListComp elt [⟨tg,iter,ifs,0⟩] scope pos) (some (.Name y py)) spos.line X.env=pure true)
  (hs: ∀ x,foldedSetIterable iter X.env x=pure x:=by intro _;rfl):SS X E (.Assign [.Name y py] (.ListComp elt [⟨tg,iter,ifs,0⟩] scope pos) spos) (λsd=>do let d<-zew fi g tc te src sd;pure (.nx (sd.set i (some d)))):=by
 refine PS.imp (zf5 B hi hg ht he hN hy hx hsw hf hs) λD0 σ H ⟨ι,h,sd,L,hh,q⟩=>zi0 hk σ H _ ⟨ι,h,sd,L,hh,Fin.bind q λd h1 ι1 H1 e1 s1 hr1 q1 v rv=> ?_⟩
 exact Fin.out (E:=E) (P:=zgZ X.K D0) hr1 q1 _ ((L.step s1).set rv i)
theorem zj2 {scope:Scope} {N:List Str} {src:List (Option Nat)} {tg iter elt:Expr} {ifs:List Expr} {fi:FA} {g:D->Sd->M Sd} {tc:FT} {te:FE} (i:Nat) {y:Str} {py spos:Pos} (hc:X.calm=true) (hN:X.N.Nodup) (B:BOk X scope N src) (hk:zaD g src) (hi:SI X E tg iter fi)
  (hg: ∀ s H fp,SG (cxB X scope N s H fp) E tg g) (ht: ∀ s H fp,SCs (cxB X scope N s H fp) E ifs tc) (he: ∀ s H fp,SE (cxB X scope N s H fp) E elt te)
  (hy:X.N[i]? = some y:=by rfl) (hx:Loc X.env.scope y:=by first | exact Or.inl rfl | exact Or.inr rfl) (hf:X.fn y=true\/X.env.scope.names.lookup y=some .local:=by first | exact Or.inl rfl | exact Or.inr rfl) (hsw:swapsWith (.ListComp elt [⟨tg,iter,ifs,0⟩] scope pos) (some (.Name y py)) spos.line X.env=pure true:=by rfl)
  (hs: ∀ x,foldedSetIterable iter X.env x=pure x:=by intro _;rfl):SS X E (.Assign [.Name y py] (.ListComp elt [⟨tg,iter,ifs,0⟩] scope pos) spos) (zbs i (zew fi g tc te src)):=zjU i B hk hi hg ht he hN hy hx hf hsw hs
end
end L3
namespace SX
def sm:Nat->(Nat->Int)->Int
 | 0,_=>0
 | n+1,f=>sm n f+f n
theorem zay {f g:Nat->Int}: ∀ {n:Nat},(∀ i,i<n->f i=g i)->sm n f=sm n g
 | 0,_=>rfl
 | n+1,h=>by rw [sm,sm,zay λi hi=>h i ⋯,h n ⋯]
theorem zcD: ∀ n:Nat,sm n (λ_=>0)=0
 | 0=>rfl
 | n+1=>by rw [sm,zcD n];rfl
theorem zjr (f g:Nat->Int): ∀ n:Nat,sm n (λi=>f i+g i)=sm n f+sm n g
 | 0=>rfl
 | n+1=>by rw [sm,sm,sm,zjr f g n];omega
theorem zdm (t:Int) (f:Nat->Int): ∀ n:Nat,sm n (λi=>t*f i)=t*sm n f
 | 0=>by rw [sm,sm,mul_zero]
 | n+1=>by rw [sm,sm,zdm t f n,mul_add]
theorem zhR (f:Nat->Int): ∀ {n k:Nat},k<n->sm n f=f k+sm n (λi=>if i=k then 0 else f i)
 | n+1,k,h=>by
  rw [sm,sm]
  by_cases e:k=n
  ·subst e
   rw [qa4 rfl,zay (g:=f) (n:=k) λi hi=>qa5 ⋯]
   omega
  ·rw [zhR f (show k<n by omega),qa5 (show ¬n=k by omega)]
   omega
theorem zo8 {f:Nat->Int}: ∀ {n:Nat},(∀ i,i<n->0<=f i)->0<=sm n f
 | 0,_=>Int.le_refl _
 | n+1,h=>by
  have h1:=zo8 (n:=n) λi hi=>h i ⋯
  have h2:=h n ⋯
  rw [sm]
  omega
theorem zpX {f g:Nat->Int}: ∀ {n:Nat},(∀ i,i<n->f i<=g i)->sm n f<=sm n g
 | 0,_=>Int.le_refl _
 | n+1,h=>by
  have h1:=zpX (n:=n) λi hi=>h i ⋯
  have h2:=h n ⋯
  rw [sm,sm]
  omega
theorem zij (f:Nat->Nat->Int) (n:Nat): ∀ m:Nat,sm m (λj=>sm n λi=>f i j)=sm n λi=>sm m λj=>f i j
 | 0=>by simp only [sm];exact (zcD n).symm
 | m+1=>by
  rw [sm,zij f n m, <-zjr]
  rfl
abbrev Vc:=Nat->Int
def al (ω:List Vc->Int) (φ:Vc->Int):List Vc->List Vc->Int->Int
 | _,[],_=>0
 | pre,v::r,s=>s*φ v*ω (pre++r)+al ω φ (pre++[v]) r (-s)
def sg:Nat->Int
 | 0=>1
 | n+1=> - sg n
def wd:Nat->List Vc->Int
 | 0,_=>1
 | n+1,vs=>al (wd n) (λv=>v n) [] vs (sg n)
structure AM (n:Nat) (ω:List Vc->Int):Prop where
 lin: ∀ (as bs:List Vc) (u v:Vc) (t:Int),as.length+bs.length+1=n->ω (as++(λi=>u i+t*v i)::bs)=ω (as++u::bs)+t*ω (as++v::bs)
 adj: ∀ (as bs:List Vc) (v:Vc),as.length+bs.length+2=n->ω (as++v::v::bs)=0
section
variable {n:Nat} {ω:List Vc->Int} {φ:Vc->Int}
theorem zoA (h:AM n ω) {u v:Vc} {t:Int}: ∀ (zbz p1 p2:List Vc) (s:Int),p1.length+p2.length+1+zbz.length=n+1->
  al ω φ (p1++(λi=>u i+t*v i)::p2) zbz s=al ω φ (p1++u::p2) zbz s+t*al ω φ (p1++v::p2) zbz s
 | [],p1,p2,s,_=>by simp only [al];omega
 | w::r,p1,p2,s,hl=>by
  rw [qaE] at hl
  have e1:=h.lin p1 (p2++r) u v t (by rw [qav];omega)
  have ih:=zoA h r p1 (p2++[w]) (-s) (by rw [qav,length_singleton];omega) (u:=u) (v:=v) (t:=t)
  simp only [al,List.append_assoc,cons_append] at ih ⊢
  rw [ih,e1]
  simp only [mul_add]
  have e2:s*φ w*(t*ω (p1++v::(p2++r)))=t*(s*φ w*ω (p1++v::(p2++r))):=by rw [Int.mul_left_comm]
  omega
theorem zn0 (h:AM n ω) (hφ: ∀ (u v:Vc) (t:Int),φ (λi=>u i+t*v i)=φ u+t*φ v) {u v:Vc} {t:Int}: ∀ (as pre bs:List Vc) (s:Int),pre.length+as.length+bs.length+1=n+1->
  al ω φ pre (as++(λi=>u i+t*v i)::bs) s=al ω φ pre (as++u::bs) s+t*al ω φ pre (as++v::bs) s
 | [],pre,bs,s,hl=>by
  have e:=zoA (φ:=φ) h (u:=u) (v:=v) (t:=t) bs pre [] (-s) (by simp at hl ⊢; omega)
  simp only [nil_append,al]
  rw [e,hφ]
  have e1:s*(φ u+t*φ v)*ω (pre++bs)=s*φ u*ω (pre++bs)+t*(s*φ v*ω (pre++bs)):=by
   rw [mul_add,Int.add_mul]
   congr 1
   rw [<- mul_assoc s t,mul_comm s t,mul_assoc t s,mul_assoc t]
  rw [e1,mul_add]
  omega
 | a::as,pre,bs,s,hl=>by
  rw [qaE] at hl
  have e1:=h.lin (pre++as) bs u v t (by rw [qav];omega)
  have ih:=zn0 h hφ (u:=u) (v:=v) (t:=t) as (pre++[a]) bs (-s) (by rw [qav,length_singleton];omega)
  simp only [List.append_assoc] at e1
  simp only [cons_append,al]
  rw [ih,e1]
  simp only [mul_add]
  have e2:s*φ a*(t*ω (pre++(as++v::bs)))=t*(s*φ a*ω (pre++(as++v::bs))):=by rw [Int.mul_left_comm]
  omega
theorem zlj (h:AM n ω) {v:Vc}: ∀ (zbz p1 p2:List Vc) (s:Int),p1.length+p2.length+2+zbz.length=n+1->al ω φ (p1++v::v::p2) zbz s=0
 | [],p1,p2,s,_=>rfl
 | w::r,p1,p2,s,hl=>by
  rw [qaE] at hl
  have e1:=h.adj p1 (p2++r) v (by rw [qav];omega)
  have ih:=zlj h r p1 (p2++[w]) (-s) (by rw [qav,length_singleton];omega) (v:=v)
  simp only [al,List.append_assoc,cons_append] at ih ⊢
  rw [ih,e1]
  omega
theorem zn1 (h:AM n ω) {v:Vc}: ∀ (as pre bs:List Vc) (s:Int),pre.length+as.length+bs.length+2=n+1->al ω φ pre (as++v::v::bs) s=0
 | [],pre,bs,s,hl=>by
  have e:=zlj (φ:=φ) h (v:=v) bs pre [] (- -s) (by simp at hl ⊢; omega)
  simp only [nil_append,al,List.append_assoc,cons_append]
  rw [e]
  simp only [neg_mul,Int.add_zero]
  omega
 | a::as,pre,bs,s,hl=>by
  rw [qaE] at hl
  have e1:=h.adj (pre++as) bs v (by rw [qav];omega)
  have ih:=zn1 h (v:=v) as (pre++[a]) bs (-s) (by rw [qav,length_singleton];omega)
  simp only [List.append_assoc] at e1
  simp only [cons_append,al]
  rw [ih,e1]
  omega
end
theorem zh2: ∀ n,AM n (wd n)
 | 0=>⟨λas bs u v t h=>by omega,λas bs v h=>by omega⟩
 | n+1=>⟨λas bs u v t h=>zn0 (zh2 n) (λ_ _ _=>rfl) as [] bs (sg n) (by simp;omega),λas bs v h=>zn1 (zh2 n) as [] bs (sg n) (by simp;omega)⟩
section
variable {n:Nat} {ω:List Vc->Int}
theorem AM.zero (h:AM n ω) (as bs:List Vc) (hl:as.length+bs.length+1=n):ω (as++(λ_=>0)::bs)=0:=by
 have e:=h.lin as bs (λ_=>0) (λ_=>0) 1 hl
 have e2:(λi:Nat=>(0:Int)+1*0)=λ_=>0:=rfl
 rw [e2] at e
 omega
theorem AM.sum (h:AM n ω) (as bs:List Vc) (hl:as.length+bs.length+1=n) (t:Nat->Int) (w:Nat->Vc): ∀ k:Nat,ω (as++(λi=>sm k λj=>t j*w j i)::bs)=sm k λj=>t j*ω (as++w j::bs)
 | 0=>h.zero as bs hl
 | k+1=>by
  have e:=h.lin as bs (λi=>sm k λj=>t j*w j i) (w k) (t k) hl
  rw [sm, <-AM.sum h as bs hl t w k, <-e]
  rfl
theorem AM.anti (h:AM n ω) (as bs:List Vc) (u v:Vc) (hl:as.length+bs.length+2=n):ω (as++u::v::bs)= - ω (as++v::u::bs):=by
 have e0:=h.adj as bs (λi=>u i+1*v i) hl
 have e1:=h.lin as ((λi=>u i+1*v i)::bs) u v 1 (by rw [qaE];omega)
 have e2:=h.lin (as++[u]) bs u v 1 (by rw [qav,length_singleton];omega)
 have e3:=h.lin (as++[v]) bs u v 1 (by rw [qav,length_singleton];omega)
 have a1:=h.adj as bs u hl
 have a2:=h.adj as bs v hl
 simp only [List.append_assoc,cons_append,nil_append] at e2 e3
 rw [e1,e2,e3,a1,a2] at e0
 omega
theorem AM.same (h:AM n ω) (u:Vc): ∀ (ms as bs:List Vc),as.length+ms.length+bs.length+2=n->ω (as++u::(ms++u::bs))=0
 | [],as,bs,hl=>h.adj as bs u (by simp at hl;omega)
 | m::ms,as,bs,hl=>by
  rw [qaE] at hl
  have e:=h.anti as (ms++u::bs) u m (by simp;omega)
  have ih:=AM.same h u ms (as++[m]) bs (by simp;omega)
  simp only [List.append_assoc,cons_append,nil_append] at ih e ⊢
  rw [e,ih]
  rfl
theorem AM.two (h:AM n ω) {l:List Vc} (hl:l.length=n) {i j:Nat} (hij:i<j) (hj:j<n) (e:l[i]? = l[j]?):ω l=0:=by
 have hj':j<l.length:=by omega
 have hi':i<l.length:=by omega
 rw [qaf hi',qaf hj'] at e
 have e:=Option.some.inj e
 have e1:l=l.take i++l[i]::l.drop (i+1):=by simp
 have hd:j - (i+1)<(l.drop (i+1)).length:=by rw [length_drop];omega
 have key: ∀ (L:List Vc) (q:Nat) (h:q<L.length),L=L.take q++L[q]::L.drop (q+1):=λL q h=>by simp
 have e2:=key _ _ hd
 have e3:(l.drop (i+1))[j - (i+1)]=l[i]:=by
  rw [List.getElem_drop,e]
  congr 1
  omega
 rw [e3] at e2
 rw [e1,e2]
 refine h.same _ _ _ _ ?_
 simp only [length_take,length_drop]
 omega
theorem zer {l:List Vc} {k:Nat} (hk:k<l.length) (x:Vc):l.set k x=l.take k++x::l.drop (k+1):=by
 rw [List.set_eq_take_append_cons_drop,qa4 hk]
theorem AM.cram (h:AM n ω) {l:List Vc} (hl:l.length=n) {k:Nat} (hk:k<n) {x:Vc} {d:Int} {t:Nat->Int} (hx:(λi=>d*x i)=λi=>sm n λj=>t j*(l.getD j (λ_=>0)) i):d*ω (l.set k x)=t k*ω l:=by
 have hk':k<l.length:=by omega
 have hs:(l.take k).length+(l.drop (k+1)).length+1=n:=by rw [length_take,length_drop];omega
 have e1:ω (l.take k++(λi=>d*x i)::l.drop (k+1))=d*ω (l.set k x):=by
  have:=h.lin (l.take k) (l.drop (k+1)) (λ_=>0) x d hs
  rw [h.zero _ _ hs,zero_add] at this
  rw [zer hk', <-this]
  congr 3
  funext i
  rw [zero_add]
 rw [<- e1,hx,h.sum _ _ hs,zhR _ hk]
 have e2:ω (l.take k++l.getD k (λ_=>0)::l.drop (k+1))=ω l:=by
  congr 1
  simp [List.getD,hk']
 rw [e2]
 have e3:sm n (λi=>if i=k then 0 else t i*ω (l.take k++l.getD i (λ_=>0)::l.drop (k+1)))=0:=by
  refine Eq.trans (zay (g:=λ_=>0) λj hj=> ?_) (zcD n)
  split
  ·rfl
  ·rename_i hne
   have hj':j<l.length:=by omega
   have:ω (l.set k (l.getD j λ_=>0))=0:=by
    have hg:(l.set k (l.getD j λ_=>0))[j]? = (l.set k (l.getD j λ_=>0))[k]? := by
     rw [qao ⋯,qai hk']
     simp [List.getD,hj']
    rcases Nat.lt_or_gt_of_ne hne with z | z
    ·exact h.two (by rw [qaI];exact hl) z hk hg
    ·exact h.two (by rw [qaI];exact hl) z hj hg.symm
   rw [<- zer hk',this,mul_zero]
 rw [e3,Int.add_zero]
end
def col (n:Nat) (A:Nat->Nat->Int) (c:Nat):Vc:=λi=>if i<n then A i c else 0
def zd8 (n:Nat) (A:Nat->Nat->Int) (bs:Nat->Nat):List Vc:=(List.range n).map λk=>col n A (bs k)
structure Tb (n C:Nat) (A:Nat->Nat->Int) (bs:Nat->Nat) (T:Nat->Nat->Int) (d:Int):Prop where
 dp:0<d
 dep: ∀ c,c<C-> ∀ i,i<n->d*A i c=sm n λk=>T k c*A i (bs k)
 goal: ∀ c,c<C->d*A n c=(sm n λk=>T k c*A n (bs k))+T n c
 det:wd n (zd8 n A bs)=d
 bd: ∀ k,k<n->bs k<C
section
variable {n C:Nat} {A:Nat->Nat->Int} {bs:Nat->Nat} {T:Nat->Nat->Int} {d:Int}
theorem zbR:(zd8 n A bs).length=n:=by simp [zd8]
theorem zhZ {k:Nat} (h:k<n):(zd8 n A bs).getD k (λ_=>0)=col n A (bs k):=by simp [zd8,List.getD,h]
theorem zuh {e:Int} {c:Nat} {t:Nat->Int} (h: ∀ i,i<n->e*A i c=sm n λk=>t k*A i (bs k)):(λi=>e*col n A c i)=λi=>sm n λk=>t k*((zd8 n A bs).getD k (λ_=>0)) i:=by
 funext i
 by_cases hi:i<n
 ·rw [show col n A c i=A i c from qa4 hi,h i hi]
  refine zay λk hk=> ?_
  rw [zhZ hk,show col n A (bs k) i=A i (bs k) from qa4 hi]
 ·rw [show col n A c i=0 from qa5 hi,mul_zero]
  refine (Eq.trans (zay (g:=λ_=>0) λk hk=> ?_) (zcD n)).symm
  rw [zhZ hk,show col n A (bs k) i=0 from qa5 hi,mul_zero]
theorem Tb.ent (t:Tb n C A bs T d) {k c:Nat} (hk:k<n) (hc:c<C):wd n ((zd8 n A bs).set k (col n A c))=T k c:=by
 have e:=(zh2 n).cram zbR hk (zuh (bs:=bs) (t.dep c hc))
 rw [t.det,mul_comm (T k c)] at e
 exact Int.eq_of_mul_eq_mul_left (by have:=t.dp;omega) e
theorem Tb.diag (t:Tb n C A bs T d) {k i:Nat} (hk:k<n) (hi:i<n):T k (bs i)=if k=i then d else 0:=by
 rw [<- t.ent hk (t.bd i hi)]
 have hl:k<(zd8 n A bs).length:=by rw [zbR];exact hk
 have ek:(zd8 n A bs)[k]? = some (col n A (bs k)):=by simp [zd8,hk]
 have ei:(zd8 n A bs)[i]? = some (col n A (bs i)):=by simp [zd8,hi]
 split
 ·rename_i e
  subst e
  have:(zd8 n A bs).set k (col n A (bs k))=zd8 n A bs:=by
   refine List.ext_getElem? λj=> ?_
   by_cases hj:k=j
   ·subst hj
    rw [qai hl,ek]
   ·rw [qao hj]
  rw [this,t.det]
 ·rename_i hne
  have hg:((zd8 n A bs).set k (col n A (bs i)))[i]? = ((zd8 n A bs).set k (col n A (bs i)))[k]? := by
   rw [qao hne,qai hl,ei]
  rcases Nat.lt_or_gt_of_ne hne with z | z
  ·exact (zh2 n).two (by rw [qaI,zbR]) z hi hg.symm
  ·exact (zh2 n).two (by rw [qaI,zbR]) z hk hg
theorem Tb.goal0 (t:Tb n C A bs T d) {i:Nat} (hi:i<n):T n (bs i)=0:=by
 have e:=t.goal (bs i) (t.bd i hi)
 rw [zhR _ hi] at e
 have e2:sm n (λk=>if k=i then 0 else T k (bs i)*A n (bs k))=0:=by
  refine Eq.trans (zay (g:=λ_=>0) λk hk=> ?_) (zcD n)
  split
  ·rfl
  ·rename_i hne
   rw [t.diag hk hi,qa5 hne,zero_mul]
 rw [e2,t.diag hi hi,qa4 rfl] at e
 omega
def nb (bs:Nat->Nat) (pl c:Nat):Nat->Nat:=λk=>if k=pl then c else bs k
def piv (T:Nat->Nat->Int) (d:Int) (pl c:Nat):Nat->Nat->Int:=λk x=>if k=pl then T pl x else (T k x*T pl c - T pl x*T k c) / d
theorem zlW {pl c:Nat} (hp:pl<n):zd8 n A (nb bs pl c)=(zd8 n A bs).set pl (col n A c):=by
 have hl:pl<(zd8 n A bs).length:=by rw [zbR];exact hp
 refine List.ext_getElem? λj=> ?_
 by_cases hj:pl=j
 ·subst hj
  rw [qai hl]
  simp [zd8,nb,hp]
 ·rw [qao hj]
  have: ¬j=pl:=λz=>hj z.symm
  by_cases hjn:j<n
  ·simp [zd8,nb,this,hjn]
  ·rw [List.getElem?_eq_none (by rw [zbR];omega),List.getElem?_eq_none (by rw [zbR];omega)]
theorem zkW (f:Nat->Int) {pl:Nat} (hp:pl<n):sm n (λk=>if k=pl then 0 else f k)=sm n f - f pl:=by
 rw [zhR f hp]
 omega
def rr (T:Nat->Nat->Int) (d:Int) (pl c x k:Nat):Int:=if k=pl then d*T pl x else T k x*T pl c - T pl x*T k c
theorem zln {pl c x:Nat} (hp:pl<n) {a ac:Int} {f:Nat->Int} {S Sc:Int} (h1:(sm n λk=>T k x*f k)=S) (h2:(sm n λk=>T k c*f k)=Sc):
  (sm n λk=>rr T d pl c x k*(if k=pl then ac else f k))=d*T pl x*ac+T pl c*(S - T pl x*f pl) - T pl x*(Sc - T pl c*f pl):=by
 rw [zhR _ hp]
 have e1:sm n (λk=>if k=pl then 0 else rr T d pl c x k*(if k=pl then ac else f k))=sm n (λk=>T pl c*(if k=pl then 0 else T k x*f k)+(- T pl x)*(if k=pl then 0 else T k c*f k)):=by
  refine zay λk hk=> ?_
  by_cases e:k=pl
  ·simp only [e,if_true,mul_zero,Int.add_zero]
  ·simp only [e,if_false,rr]
   grind
 rw [e1,zjr,zdm,zdm,zkW _ hp,zkW _ hp,h1,h2]
 simp only [if_true,rr]
 grind
theorem Tb.exact_ (t:Tb n C A bs T d) {pl c x:Nat} (hp:pl<n) (hc:c<C) (hx:x<C) (hpos:0<T pl c) {k:Nat} (hk:k<n):rr T d pl c x k=d*wd n ((zd8 n A (nb bs pl c)).set k (col n A x)):=by
 have hdep: ∀ i,i<n->(d*T pl c)*A i x=sm n λk=>rr T d pl c x k*A i (nb bs pl c k):=λi hi=>by
  have h1:=(t.dep x hx i hi).symm
  have h2:=(t.dep c hc i hi).symm
  have e:(sm n λk=>rr T d pl c x k*A i (nb bs pl c k))=sm n λk=>rr T d pl c x k*(if k=pl then A i c else A i (bs k)):=zay λk _=>by
   unfold nb
   split<;>rfl
  rw [e,zln hp (ac:=A i c) (a:=0) (f:=λk=>A i (bs k)) h1 h2]
  grind
 have e:=(zh2 n).cram zbR hk (zuh (bs:=nb bs pl c) hdep)
 have ew:wd n (zd8 n A (nb bs pl c))=T pl c:=by rw [zlW hp,t.ent hp hc]
 rw [ew] at e
 have e2:T pl c*(d*wd n ((zd8 n A (nb bs pl c)).set k (col n A x)))=T pl c*rr T d pl c x k:=by
  rw [<- mul_assoc,mul_comm (T pl c) d,e,mul_comm]
 exact (Int.eq_of_mul_eq_mul_left ⋯ e2).symm
theorem Tb.piv_at (t:Tb n C A bs T d) {pl c x:Nat} (hp:pl<n) (hc:c<C) (hx:x<C) (hpos:0<T pl c) {k:Nat} (hk:k<n):piv T d pl c k x=wd n ((zd8 n A (nb bs pl c)).set k (col n A x))/\rr T d pl c x k=d*piv T d pl c k x:=by
 have e:=t.exact_ hp hc hx hpos hk
 have hd:=t.dp
 have e1:piv T d pl c k x=wd n ((zd8 n A (nb bs pl c)).set k (col n A x)):=by
  unfold piv
  split
  ·rename_i z
   rw [rr,qa4 z] at e
   exact Int.eq_of_mul_eq_mul_left ⋯ e
  ·rename_i z
   rw [rr,qa5 z] at e
   rw [e,Int.mul_ediv_cancel_left _ ⋯]
 exact ⟨e1,by rw [e1];exact e⟩
theorem Tb.piv_goal (t:Tb n C A bs T d) {pl c x:Nat} (hp:pl<n) (hc:c<C) (hx:x<C) (hpos:0<T pl c):
  piv T d pl c n x=T pl c*A n x - (sm n λk=>piv T d pl c k x*A n (nb bs pl c k))/\T n x*T pl c - T pl x*T n c=d*piv T d pl c n x:=by
 have hd:=t.dp
 have hne: ¬n=pl:=by omega
 have h1:=t.goal x hx
 have h2:=t.goal c hc
 have e:(sm n λk=>rr T d pl c x k*A n (nb bs pl c k))=sm n λk=>rr T d pl c x k*(if k=pl then A n c else A n (bs k)):=zay λk _=>by
  unfold nb
  split<;>rfl
 have e2:=zln (T:=T) (d:=d) (c:=c) (x:=x) hp (ac:=A n c) (a:=0) (f:=λk=>A n (bs k)) rfl rfl
 rw [<- e] at e2
 have e3:(sm n λk=>rr T d pl c x k*A n (nb bs pl c k))=d*sm n λk=>piv T d pl c k x*A n (nb bs pl c k):=by
  rw [<- zdm]
  refine zay λk hk=> ?_
  rw [(t.piv_at hp hc hx hpos hk).2,mul_assoc]
 rw [e3] at e2
 generalize (sm n λk=>piv T d pl c k x*A n (nb bs pl c k))=W at e2 ⊢
 generalize (sm n λk=>T k x*A n (bs k))=S at e2 h1
 generalize (sm n λk=>T k c*A n (bs k))=Sc at e2 h2
 have key:T n x*T pl c - T pl x*T n c=d*(T pl c*A n x - W):=by grind
 have e4:piv T d pl c n x=T pl c*A n x - W:=by
  unfold piv
  rw [qa5 hne,key,Int.mul_ediv_cancel_left _ ⋯]
 exact ⟨e4,by rw [e4];exact key⟩
theorem Tb.pivot (t:Tb n C A bs T d) {pl c:Nat} (hp:pl<n) (hc:c<C) (hpos:0<T pl c):Tb n C A (nb bs pl c) (piv T d pl c) (T pl c) where
 dp:=hpos
 dep:=λx hx i hi=>by
  have hd:=t.dp
  have h1:=(t.dep x hx i hi).symm
  have h2:=(t.dep c hc i hi).symm
  have e:(sm n λk=>rr T d pl c x k*A i (nb bs pl c k))=sm n λk=>rr T d pl c x k*(if k=pl then A i c else A i (bs k)):=zay λk _=>by
   unfold nb
   split<;>rfl
  have e2:=zln (T:=T) (d:=d) hp (ac:=A i c) (a:=0) (f:=λk=>A i (bs k)) h1 h2
  rw [<- e] at e2
  have e3:(sm n λk=>rr T d pl c x k*A i (nb bs pl c k))=d*sm n λk=>piv T d pl c k x*A i (nb bs pl c k):=by
   rw [<- zdm]
   refine zay λk hk=> ?_
   rw [(t.piv_at hp hc hx hpos hk).2,mul_assoc]
  rw [e3] at e2
  refine Int.eq_of_mul_eq_mul_left (show d≠0 by omega) ?_
  rw [e2]
  grind
 goal:=λx hx=>by
  have:=(t.piv_goal hp hc hx hpos).1
  omega
 det:=by rw [zlW hp,t.ent hp hc]
 bd:=λk hk=>by
  unfold nb
  split
  ·exact hc
  ·exact t.bd k hk
end
theorem pig: ∀ (K:Nat) (f:Nat->Nat),(∀ i,i<=K->f i<K)-> ∃ i j,i<j/\j<=K/\f i=f j
 | 0,f,h=>absurd (h 0 (qaV _)) ⋯
 | K+1,f,h=>by
  by_cases e: ∃ i,i<=K/\f i=f (K+1)
  ·obtain ⟨i,h1,h2⟩:=e
   exact ⟨i,K+1,⋯,qaV _,h2⟩
  ·have hne: ∀ i,i<=K->f i≠f (K+1):=λi hi z=>e ⟨i,hi,z⟩
   have hv:=h (K+1) (qaV _)
   obtain ⟨i,j,h1,h2,h3⟩:=pig K (λi=>if f (K+1)<f i then f i - 1 else f i) λi hi=>by
    have h4:=h i ⋯
    have h5:=hne i hi
    show (if f (K+1)<f i then f i - 1 else f i)<K
    split<;>omega
   have h6:=hne i ⋯
   have h7:=hne j h2
   refine ⟨i,j,h1,⋯,?_⟩
   split at h3<;>split at h3<;>omega
def code (q:Nat) (bs:Nat->Nat):Nat->Nat
 | 0=>0
 | n+1=>code q bs n*q+bs n
theorem zk9 {q:Nat} {bs:Nat->Nat}: ∀ {n:Nat},(∀ k,k<n->bs k<q)->code q bs n<q^n
 | 0,_=>by simp [code]
 | n+1,h=>by
  have h1:=zk9 (n:=n) λk hk=>h k ⋯
  have h2:=h n ⋯
  rw [code,pow_succ]
  have h3:(code q bs n+1)*q<=q^n*q:=mul_le_mul_right _ h1
  rw [add_mul] at h3
  omega
theorem zjw {q:Nat} {bs bs':Nat->Nat}: ∀ {n:Nat},(∀ k,k<n->bs k<q)->(∀ k,k<n->bs' k<q)->code q bs n=code q bs' n-> ∀ k,k<n->bs k=bs' k
 | 0,_,_,_,k,hk=>by omega
 | n+1,h,h',e,k,hk=>by
  rw [code,code] at e
  have h1:=h n ⋯
  have h2:=h' n ⋯
  have e1:bs n=bs' n:=by
   have:=congrArg (· % q) e
   simp only [Nat.mul_add_mod_self_right,Nat.mod_eq_of_lt h1,Nat.mod_eq_of_lt h2] at this
   exact this
  have e2:code q bs n=code q bs' n:=by
   rw [e1] at e
   exact Nat.eq_of_mul_eq_mul_right ⋯ (Nat.add_right_cancel e)
  by_cases z:k=n
  ·rw [z];exact e1
  ·exact zjw (λk hk=>h k ⋯) (λk hk=>h' k ⋯) e2 k ⋯
section
variable {n:Nat} {ω:List Vc->Int}
theorem AM.comb (h:AM n ω) {l:List Vc} (hl:l.length=n) {k:Nat} (hk:k<n) {x:Vc} {d:Int} {N:Nat} {t:Nat->Int} {w:Nat->Vc} (hx:(λi=>d*x i)=λi=>sm N λj=>t j*w j i):d*ω (l.set k x)=sm N λj=>t j*ω (l.set k (w j)):=by
 have hk':k<l.length:=by omega
 have hs:(l.take k).length+(l.drop (k+1)).length+1=n:=by rw [length_take,length_drop];omega
 have e1:ω (l.take k++(λi=>d*x i)::l.drop (k+1))=d*ω (l.set k x):=by
  have:=h.lin (l.take k) (l.drop (k+1)) (λ_=>0) x d hs
  rw [h.zero _ _ hs,zero_add] at this
  rw [zer hk', <-this]
  congr 3
  funext i
  rw [zero_add]
 rw [<- e1,hx,h.sum _ _ hs]
 exact zay λj _=>by rw [zer hk']
end
section
variable {n C:Nat} {A:Nat->Nat->Int} {bs bs':Nat->Nat} {T T':Nat->Nat->Int} {d d':Int}
theorem Tb.star (t:Tb n C A bs T d) (t':Tb n C A bs' T' d') {s:Nat} (hs:s<C):d*T' n s=d'*T n s+sm n λj=>T j s*T' n (bs j):=by
 have hk: ∀ k,k<n->d*T' k s=sm n λj=>T j s*T' k (bs j):=λk hk=>by
  have hx:(λi=>d*col n A s i)=λi=>sm n λj=>T j s*col n A (bs j) i:=by
   rw [zuh (bs:=bs) (t.dep s hs)]
   funext i
   exact zay λj hj=>by rw [zhZ hj]
  have e:=(zh2 n).comb (l:=zd8 n A bs') zbR hk hx
  rw [t'.ent hk hs] at e
  rw [e]
  exact zay λj hj=>by rw [t'.ent hk (t.bd j hj)]
 have h1:=t.goal s hs
 have h2:=t'.goal s hs
 have h3:(sm n λj=>T j s*T' n (bs j))=d'*(sm n λj=>T j s*A n (bs j)) - sm n λk=>(d*T' k s)*A n (bs' k):=by
  have e1:(sm n λj=>T j s*T' n (bs j))=sm n λj=>d'*(T j s*A n (bs j))+(-1)*(sm n λk=>(T j s*T' k (bs j))*A n (bs' k)):=zay λj hj=>by
   have:=t'.goal (bs j) (t.bd j hj)
   have e2:(sm n λk=>(T j s*T' k (bs j))*A n (bs' k))=T j s*sm n λk=>T' k (bs j)*A n (bs' k):=by
    rw [<- zdm]
    exact zay λk _=>by rw [mul_assoc]
   rw [e2]
   generalize (sm n λk=>T' k (bs j)*A n (bs' k))=S at this ⊢
   have:T' n (bs j)=d'*A n (bs j) - S:=by omega
   rw [this]
   grind
  have e3:(sm n λk=>(d*T' k s)*A n (bs' k))=sm n λj=>sm n λk=>(T j s*T' k (bs j))*A n (bs' k):=by
   rw [zij (λk j=>(T j s*T' k (bs j))*A n (bs' k))]
   refine zay λk hk'=> ?_
   rw [hk k hk',mul_comm, <-zdm]
   exact zay λj _=>by rw [mul_comm]
  rw [e1,zjr,zdm,zdm,e3]
  omega
 have h4:(sm n λk=>(d*T' k s)*A n (bs' k))=d*sm n λk=>T' k s*A n (bs' k):=by
  rw [<- zdm]
  exact zay λk _=>by rw [mul_assoc]
 rw [h3,h4]
 generalize (sm n λj=>T j s*A n (bs j))=X at h1 ⊢
 generalize (sm n λk=>T' k s*A n (bs' k))=Y at h2 ⊢
 grind
end
structure Stp (n q:Nat) (bs:Nat->Nat) (T:Nat->Nat->Int) (c pl:Nat):Prop where
 c1:c<q
 c2:T n c<0
 c3: ∀ x,x<c->0<=T n x
 p1:pl<n
 p2:0<T pl c
 p3: ∀ k,k<n->0<T k c->T pl q*T k c<T k q*T pl c\/(T pl q*T k c=T k q*T pl c/\bs pl<=bs k)
structure St where
 bs:Nat->Nat
 T:Nat->Nat->Int
 d:Int
structure Run (n q:Nat) (A:Nat->Nat->Int) (L:Nat) (st:Nat->St) (c pl:Nat->Nat):Prop where
 tb: ∀ i,i<=L->Tb n (q+1) A (st i).bs (st i).T (st i).d
 vr: ∀ i,i<=L-> ∀ k,k<n->(st i).bs k<q
 fe: ∀ i,i<=L-> ∀ k,k<n->0<=(st i).T k q
 sp: ∀ i,i<L->Stp n q (st i).bs (st i).T (c i) (pl i)
 nx: ∀ i,i<L->(st (i+1)).bs=nb (st i).bs (pl i) (c i)/\(∀ k x,k<=n->x<=q->(st (i+1)).T k x=piv (st i).T (st i).d (pl i) (c i) k x)/\(st (i+1)).d=(st i).T (pl i) (c i)
section
variable {n q L:Nat} {A:Nat->Nat->Int} {st:Nat->St} {c pl:Nat->Nat}
theorem Run.grow (r:Run n q A L st c pl) {i:Nat} (hi:i<L):(st (i+1)).T n q*(st i).d=(st i).T n q*(st (i+1)).d - (st i).T (pl i) q*(st i).T n (c i):=by
 obtain ⟨_,h2,h3⟩:=r.nx i hi
 have s:=r.sp i hi
 have e:=((r.tb i ⋯).piv_goal (x:=q) s.p1 (by have:=s.c1;omega) ⋯ s.p2).2
 rw [h2 n q (qaV _) (qaV _),h3]
 have:piv (st i).T (st i).d (pl i) (c i) n q*(st i).d=(st i).d*piv (st i).T (st i).d (pl i) (c i) n q:=mul_comm _ _
 omega
theorem zoY {a b c d e f:Int} (hb:0<b) (hd:0<d) (hf:0<f) (h1:a*d<=c*b) (h2:c*f<=e*d):a*f<=e*b:=by
 have h3:(a*d)*f<=(c*b)*f:=Int.mul_le_mul_of_nonneg_right h1 ⋯
 have h4:(c*f)*b<=(e*d)*b:=Int.mul_le_mul_of_nonneg_right h2 ⋯
 have h5:d*(a*f)<=d*(e*b):=by grind
 exact Int.le_of_mul_le_mul_left h5 hd
theorem zig {a b c d e f:Int} (hb:0<b) (hd:0<d) (hf:0<f) (h1:a*d<c*b) (h2:c*f<=e*d):a*f<e*b:=by
 have h3:(a*d)*f<(c*b)*f:=Int.mul_lt_mul_of_pos_right h1 hf
 have h4:(c*f)*b<=(e*d)*b:=Int.mul_le_mul_of_nonneg_right h2 ⋯
 have h5:d*(a*f)<d*(e*b):=by grind
 exact Int.lt_of_mul_lt_mul_left h5 ⋯
theorem Run.up1 (r:Run n q A L st c pl) {i:Nat} (hi:i<L):(st i).T n q*(st (i+1)).d<=(st (i+1)).T n q*(st i).d:=by
 have e:=r.grow hi
 have s:=r.sp i hi
 have h1:=r.fe i ⋯ (pl i) s.p1
 have h2:=s.c2
 have h3:(st i).T (pl i) q*(st i).T n (c i)<=0:=Int.mul_nonpos_of_nonneg_of_nonpos h1 ⋯
 omega
theorem Run.upl (r:Run n q A L st c pl) {i:Nat} (hi:i<L) (h:0<(st i).T (pl i) q):(st i).T n q*(st (i+1)).d<(st (i+1)).T n q*(st i).d:=by
 have e:=r.grow hi
 have s:=r.sp i hi
 have h3:(st i).T (pl i) q*(st i).T n (c i)<0:=Int.mul_neg_of_pos_of_neg h s.c2
 omega
theorem Run.upn (r:Run n q A L st c pl) {i:Nat}: ∀ (k:Nat),i+k<=L->(st i).T n q*(st (i+k)).d<=(st (i+k)).T n q*(st i).d
 | 0,_=>Int.le_refl _
 | k+1,h=>zoY (r.tb i ⋯).dp (r.tb (i+k) ⋯).dp (r.tb (i+(k+1)) h).dp (Run.upn r k ⋯) (r.up1 (i:=i+k) ⋯)
theorem Tb.alike {C:Nat} {bs bs':Nat->Nat} {T T':Nat->Nat->Int} {d d':Int} (t:Tb n C A bs T d) (t':Tb n C A bs' T' d') (h: ∀ k,k<n->bs k=bs' k):d=d'/\(∀ k x,k<n->x<C->T k x=T' k x)/\ ∀ x,x<C->T n x=T' n x:=by
 have e:zd8 n A bs=zd8 n A bs':=map_congr_left λk hk=>by rw [h k (mem_range.mp hk)]
 have hd:d=d':=by rw [<- t.det, <-t'.det,e]
 have hT: ∀ k x,k<n->x<C->T k x=T' k x:=λk x hk hx=>by rw [<- t.ent hk hx, <-t'.ent hk hx,e]
 refine ⟨hd,hT,λx hx=> ?_⟩
 have h1:=t.goal x hx
 have h2:=t'.goal x hx
 have h3:(sm n λk=>T k x*A n (bs k))=sm n λk=>T' k x*A n (bs' k):=zay λk hk=>by rw [hT k x hk hx,h k hk]
 rw [hd,h3] at h1
 omega
theorem Tb.inj {C:Nat} {bs:Nat->Nat} {T:Nat->Nat->Int} {d:Int} (t:Tb n C A bs T d) {k i:Nat} (hk:k<n) (hi:i<n) (e:bs k=bs i):k=i:=by
 have h1:=t.diag hk hi
 have h2:=t.diag hk hk
 rw [<- e,h2,qa4 rfl] at h1
 have:=t.dp
 split at h1
 ·assumption
 ·omega
theorem Run.flat (r:Run n q A L st c pl) {i j:Nat} (hij:i<j) (hj:j<=L) (h: ∀ k,k<n->(st i).bs k=(st j).bs k) {l:Nat} (h1:i<=l) (h2:l<j):(st l).T (pl l) q=0:=by
 obtain ⟨hd,_,hg⟩:=(r.tb i ⋯).alike (r.tb j hj) h
 have hz:=hg q ⋯
 have s:=r.sp l ⋯
 have h3:=r.fe l ⋯ (pl l) s.p1
 by_cases z:(st l).T (pl l) q=0
 ·exact z
 ·exfalso
  have a1:=r.upn (i:=i) (l - i) ⋯
  rw [show i+(l - i)=l by omega] at a1
  have a2:=r.upl (i:=l) ⋯ ⋯
  have a3:=r.upn (i:=l+1) (j - (l+1)) ⋯
  rw [show l+1+(j - (l+1))=j by omega] at a3
  have b1:=zig (r.tb l ⋯).dp (r.tb (l+1) ⋯).dp (r.tb j hj).dp a2 a3
  have di:=(r.tb i ⋯).dp
  have dl:=(r.tb l ⋯).dp
  have dj:=(r.tb j hj).dp
  have c1:((st i).T n q*(st l).d)*(st j).d<=((st l).T n q*(st i).d)*(st j).d:=Int.mul_le_mul_of_nonneg_right a1 ⋯
  have c2:((st l).T n q*(st j).d)*(st i).d<((st j).T n q*(st l).d)*(st i).d:=Int.mul_lt_mul_of_pos_right b1 di
  rw [hz,hd] at c1
  rw [hd] at c2
  generalize (st j).d=D at c1 c2
  generalize (st l).d=E at c1 c2
  generalize (st j).T n q=X at c1 c2
  generalize (st l).T n q=Y at c1 c2
  grind
def zr (n q:Nat) (s:St) (v:Nat):Prop:= ∀ k,k<n->s.bs k=v->s.T k q=0
theorem Run.zr1 (r:Run n q A L st c pl) {l:Nat} (hl:l<L) (h0:(st l).T (pl l) q=0) (v:Nat):zr n q (st l) v↔zr n q (st (l+1)) v:=by
 obtain ⟨e1,e2,e3⟩:=r.nx l hl
 have s:=r.sp l hl
 have t:=r.tb l ⋯
 have hk: ∀ k,k<n->k≠pl l->((st l).T k q=0↔(st (l+1)).T k q=0):=λk hk hne=>by
  have e:=(t.piv_at (x:=q) s.p1 (by have:=s.c1;omega) ⋯ s.p2 hk).2
  rw [rr,qa5 hne,h0,zero_mul,Int.sub_zero, <-e2 k q ⋯ (qaV _)] at e
  have hp:=s.p2
  have hd:=t.dp
  constructor
  ·intro z
   rw [z,zero_mul] at e
   rcases Int.mul_eq_zero.mp e.symm with z | z
   ·omega
   ·exact z
  ·intro z
   rw [z,mul_zero] at e
   rcases Int.mul_eq_zero.mp e with z | z
   ·exact z
   ·omega
 have hpl:(st (l+1)).T (pl l) q=0:=by
  rw [e2 (pl l) q (by have:=s.p1;omega) (qaV _),piv,qa4 rfl]
  exact h0
 constructor
 ·intro h k hk' hb
  by_cases z:k=pl l
  ·rw [z];exact hpl
  ·rw [e1,nb,qa5 z] at hb
   exact (hk k hk' z).mp (h k hk' hb)
 ·intro h k hk' hb
  by_cases z:k=pl l
  ·rw [z];exact h0
  ·refine (hk k hk' z).mpr (h k hk' ?_)
   rw [e1,nb,qa5 z]
   exact hb
theorem Run.zrn (r:Run n q A L st c pl) {i j:Nat} (hj:j<=L) (h0: ∀ l,i<=l->l<j->(st l).T (pl l) q=0) (v:Nat): ∀ (k:Nat),i+k<=j->(zr n q (st i) v↔zr n q (st (i+k)) v)
 | 0,_=>Iff.rfl
 | k+1,h=>(Run.zrn r hj h0 v k ⋯).trans (r.zr1 (l:=i+k) ⋯ (h0 _ ⋯ ⋯) v)
def bsc (n:Nat) (s:St) (v:Nat):Prop:= ∃ k,k<n/\s.bs k=v
theorem Run.nbs (r:Run n q A L st c pl) {l:Nat} (hl:l<L): ¬bsc n (st l) (c l):=λ⟨k,hk,e⟩=>by
 have:=(r.tb l ⋯).goal0 hk
 rw [e] at this
 have:=(r.sp l hl).c2
 omega
theorem Run.bsc1 (r:Run n q A L st c pl) {l:Nat} (hl:l<L) (v:Nat):bsc n (st (l+1)) v↔(bsc n (st l) v/\v≠(st l).bs (pl l))\/v=c l:=by
 obtain ⟨e1,_,_⟩:=r.nx l hl
 have s:=r.sp l hl
 have t:=r.tb l ⋯
 unfold bsc
 rw [e1]
 constructor
 ·rintro ⟨k,hk,e⟩
  unfold nb at e
  split at e
  ·exact .inr e.symm
  ·rename_i hne
   exact .inl ⟨⟨k,hk,e⟩,λz=>hne (t.inj hk s.p1 (e.trans z))⟩
 ·rintro (⟨⟨k,hk,e⟩,hne⟩ | e)
  ·refine ⟨k,hk,?_⟩
   unfold nb
   rw [qa5 λz=>hne (by rw [<- e,z])]
   exact e
  ·exact ⟨pl l,s.p1,by unfold nb;rw [qa4 rfl];exact e.symm⟩
theorem Run.become (r:Run n q A L st c pl) {v i:Nat} (h: ¬bsc n (st i) v): ∀ (k:Nat),i+k<=L->bsc n (st (i+k)) v-> ∃ l,i<=l/\l<i+k/\c l=v
 | 0,_,hb=>absurd hb h
 | k+1,hl,hb=>by
  by_cases z:bsc n (st (i+k)) v
  ·obtain ⟨l,h1,h2,h3⟩:=Run.become r h k ⋯ z
   exact ⟨l,h1,⋯,h3⟩
  ·rcases (r.bsc1 (l:=i+k) ⋯ v).mp hb with ⟨y,_⟩ | y
   ·exact absurd y z
   ·exact ⟨i+k,⋯,⋯,y.symm⟩
theorem Run.leave (r:Run n q A L st c pl) {v i:Nat} (h:bsc n (st i) v): ∀ (k:Nat),i+k<=L-> ¬bsc n (st (i+k)) v-> ∃ l,i<=l/\l<i+k/\(st l).bs (pl l)=v
 | 0,_,hb=>absurd h hb
 | k+1,hl,hb=>by
  by_cases z:bsc n (st (i+k)) v
  ·by_cases y:v=(st (i+k)).bs (pl (i+k))
   ·exact ⟨i+k,⋯,⋯,y.symm⟩
   ·exact absurd ((r.bsc1 (l:=i+k) ⋯ v).mpr (.inl ⟨z,y⟩)) hb
  ·obtain ⟨l,h1,h2,h3⟩:=Run.leave r h k ⋯ z
   exact ⟨l,h1,⋯,h3⟩
theorem znW (f:Nat->Nat) {i:Nat}: ∀ (k:Nat), ∃ l,i<=l/\l<=i+k/\ ∀ x,i<=x->x<=i+k->f x<=f l
 | 0=>⟨i,qaV _,qaV _,λx h1 h2=>by rw [show x=i by omega];exact qaV _⟩
 | k+1=>by
  obtain ⟨l,h1,h2,h3⟩:=znW f (i:=i) k
  by_cases z:f l<=f (i+(k+1))
  ·refine ⟨i+(k+1),⋯,qaV _,λx a b=> ?_⟩
   by_cases y:x=i+(k+1)
   ·rw [y];exact qaV _
   ·exact qaS (h3 x a ⋯) z
  ·refine ⟨l,h1,⋯,λx a b=> ?_⟩
   by_cases y:x=i+(k+1)
   ·rw [y];omega
   ·exact h3 x a ⋯
theorem zlx {f:Nat->Int}: ∀ {n:Nat},0<sm n f-> ∃ k,k<n/\0<f k
 | 0,h=>absurd h (by rw [sm];omega)
 | n+1,h=>by
  rw [sm] at h
  by_cases z:0<f n
  ·exact ⟨n,⋯,z⟩
  ·obtain ⟨k,hk,e⟩:=zlx (n:=n) (show 0<sm n f by omega)
   exact ⟨k,⋯,e⟩
theorem Run.once (r:Run n q A L st c pl) {i j:Nat} (hij:i<j) (hj:j<=L) (h: ∀ k,k<n->(st i).bs k=(st j).bs k):False:=by
 have hfl:=λl h1 h2=>r.flat hij hj h (l:=l) h1 h2
 have hbb: ∀ v,bsc n (st i) v↔bsc n (st j) v:=λv=>⟨λ⟨k,hk,e⟩=>⟨k,hk,(h k hk).symm.trans e⟩,λ⟨k,hk,e⟩=>⟨k,hk,(h k hk).trans e⟩⟩
 obtain ⟨ls,s1,s2,s3⟩:=znW c (i:=i) (j - 1 - i)
 have s2:ls<j:=by omega
 have s3: ∀ x,i<=x->x<j->c x<=c ls:=λx a b=>s3 x a ⋯
 have hn:=r.nbs (l:=ls) ⋯
 obtain ⟨l,l1,l2,l3⟩: ∃ l,i<=l/\l<j/\(st l).bs (pl l)=c ls:=by
  by_cases z:bsc n (st i) (c ls)
  ·have hlt:i<ls:=by
    rcases Nat.lt_or_ge i ls with y | y
    ·exact y
    ·have:i=ls:=by omega
     rw [this] at z
     exact absurd z hn
   obtain ⟨l,a,b,e⟩:=r.leave z (ls - i) ⋯ (by rw [show i+(ls - i)=ls by omega];exact hn)
   exact ⟨l,a,⋯,e⟩
  ·have hb:bsc n (st (ls+1)) (c ls):=(r.bsc1 (l:=ls) ⋯ _).mpr (.inr rfl)
   have hz: ¬bsc n (st j) (c ls):=λy=>z ((hbb _).mpr y)
   have hlt:ls+1<j:=by
    rcases Nat.lt_or_ge (ls+1) j with y | y
    ·exact y
    ·have:ls+1=j:=by omega
     rw [this] at hb
     exact absurd hb hz
   obtain ⟨l,a,b,e⟩:=r.leave hb (j - (ls+1)) ⋯ (by rw [show ls+1+(j - (ls+1))=j by omega];exact hz)
   exact ⟨l,⋯,⋯,e⟩
 have sl:=r.sp l ⋯
 have ss:=r.sp ls ⋯
 have tl:=r.tb l ⋯
 have ts:=r.tb ls ⋯
 have hq:=sl.c1
 have star:=tl.star ts (s:=c l) ⋯
 have hsle:=s3 l l1 l2
 have hsne:c l≠c ls:=λe=>r.nbs (l:=l) ⋯ ⟨pl l,sl.p1,by rw [l3,e]⟩
 have hs0:=ss.c3 (c l) ⋯
 have hd1:=tl.dp
 have hd2:=ts.dp
 have a1:0<=(st l).d*(st ls).T n (c l):=Int.mul_nonneg ⋯ hs0
 have a2:(st ls).d*(st l).T n (c l)<0:=Int.mul_neg_of_pos_of_neg hd2 sl.c2
 obtain ⟨k,hk,hpos⟩:=zlx (show 0<sm n λj=>(st l).T j (c l)*(st ls).T n ((st l).bs j) by omega)
 have hpos:0<(st l).T k (c l)*(st ls).T n ((st l).bs k):=hpos
 have hbk:bsc n (st l) ((st l).bs k):=⟨k,hk,rfl⟩
 by_cases hr:(st l).bs k=c ls
 ·have:k=pl l:=tl.inj hk sl.p1 (hr.trans l3.symm)
  rw [hr,this] at hpos
  have:=Int.mul_neg_of_pos_of_neg sl.p2 ss.c2
  omega
 ·have hnb: ¬bsc n (st ls) ((st l).bs k):=λ⟨k',hk',e⟩=>by
   have:=ts.goal0 hk'
   rw [e] at this
   rw [this,mul_zero] at hpos
   omega
  obtain ⟨x,x1,x2,x3⟩: ∃ x,i<=x/\x<j/\c x=(st l).bs k:=by
   by_cases z:bsc n (st i) ((st l).bs k)
   ·obtain ⟨x,a,b,e⟩:=r.become hnb (j - ls) ⋯ (by rw [show ls+(j - ls)=j by omega];exact (hbb _).mp z)
    exact ⟨x,⋯,⋯,e⟩
   ·obtain ⟨x,a,b,e⟩:=r.become z (l - i) ⋯ (by rw [show i+(l - i)=l by omega];exact hbk)
    exact ⟨x,a,⋯,e⟩
  have hrl:=s3 x x1 x2
  rw [x3] at hrl
  have hr0:=ss.c3 ((st l).bs k) ⋯
  have hT:0<(st l).T k (c l):=by
   rcases lt_or_le 0 ((st l).T k (c l)) with y | y
   ·exact y
   ·have:=Int.mul_nonpos_of_nonpos_of_nonneg y hr0
    omega
  have hz:zr n q (st l) ((st l).bs k):=by
   have hz0:zr n q (st ls) ((st l).bs k):=λk' hk' e=>absurd ⟨k',hk',e⟩ hnb
   have e1:=r.zrn hj hfl ((st l).bs k) (ls - i) ⋯
   have e2:=r.zrn hj hfl ((st l).bs k) (l - i) ⋯
   rw [show i+(ls - i)=ls by omega] at e1
   rw [show i+(l - i)=l by omega] at e2
   exact e2.mp (e1.mpr hz0)
  have hk0:=hz k hk rfl
  have hp0:=hfl l l1 l2
  rcases sl.p3 k hk hT with y | ⟨_,y⟩
  ·rw [hk0,hp0,zero_mul,zero_mul] at y
   omega
  ·omega
theorem Run.short (r:Run n q A L st c pl):L<q^n:=by
 rcases Nat.lt_or_ge L (q^n) with h | h
 ·exact h
 ·exfalso
  obtain ⟨i,j,h1,h2,h3⟩:=pig (q^n) (λi=>code q (st i).bs n) λi hi=>zk9 (r.vr i ⋯)
  exact r.once h1 ⋯ (zjw (r.vr i ⋯) (r.vr j ⋯) h3)
end
theorem zsy: ∀ n,sg n*sg n=1
 | 0=>rfl
 | n+1=>by rw [sg,Int.neg_mul_neg];exact zsy n
theorem zlI {ω:List Vc->Int} {φ:Vc->Int} (w:Vc): ∀ (vs pre:List Vc) (s:Int),(∀ v∈vs,φ v=0)->al ω φ pre (vs++[w]) s=s*sg vs.length*φ w*ω (pre++vs)
 | [],pre,s,_=>by simp [al,sg]
 | v::r,pre,s,h=>by
  have ih:=zlI (ω:=ω) (φ:=φ) w r (pre++[v]) (-s) λx hx=>h x (qan _ hx)
  rw [cons_append,al,ih,h v qau,qaE,sg]
  simp only [List.append_assoc,cons_append,nil_append]
  grind
def un (k:Nat):Vc:=λi=>if i=k then 1 else 0
theorem zsZ: ∀ n,wd n ((List.range n).map un)=1
 | 0=>rfl
 | n+1=>by
  rw [range_succ,map_append,List.map_singleton,wd,zlI _ _ _ _ λv hv=> ?_]
  ·rw [nil_append,zsZ n,qaH,length_range]
   have:un n n=1:=qa4 rfl
   rw [this,zsy]
   rfl
  ·obtain ⟨k,hk,rfl⟩:=qaU.mp hv
   have:=mem_range.mp hk
   show (if n=k then (1:Int) else 0)=0
   rw [qa5 ⋯]
theorem zsd {ω:List Vc->Int} {φ:Vc->Int} {W K:Nat}: ∀ (vs pre:List Vc) (s:Int),s.natAbs<=1->(∀ v∈vs,(φ v).natAbs<=K)->(∀ p r,(∃ v,pre++vs=p++v::r)->(ω (p++r)).natAbs<=W)->(al ω φ pre vs s).natAbs<=vs.length*(K*W)
 | [],pre,s,_,_,_=>by simp [al]
 | v::r,pre,s,hs,hK,hW=>by
  have ih:=zsd (ω:=ω) (φ:=φ) (W:=W) (K:=K) r (pre++[v]) (-s) ⋯ (λx hx=>hK x (qan _ hx)) λp r' ⟨x,e⟩=>hW p r' ⟨x,by rw [<- e];simp⟩
  have h1:=hW pre r ⟨v,rfl⟩
  have h2:=hK v qau
  have h3:(s*φ v*ω (pre++r)).natAbs<=K*W:=by
   rw [natAbs_mul,natAbs_mul]
   have:s.natAbs*(φ v).natAbs<=1*K:=mul_le_mul hs h2
   rw [one_mul] at this
   exact mul_le_mul this h1
  rw [al,qaE,add_mul,one_mul]
  have:=Int.natAbs_add_le (s*φ v*ω (pre++r)) (al ω φ (pre++[v]) r (-s))
  omega
theorem znR: ∀ n,(sg n).natAbs<=1
 | 0=>by decide
 | n+1=>by rw [sg,Int.natAbs_neg];exact znR n
def wb (K:Nat):Nat->Nat
 | 0=>1
 | n+1=>(n+1)*(K*wb K n)
theorem zoS {K:Nat}: ∀ (n:Nat) (l:List Vc),l.length=n->(∀ v∈l, ∀ i,(v i).natAbs<=K)->(wd n l).natAbs<=wb K n
 | 0,l,_,_=>by simp [wd,wb]
 | n+1,l,hl,h=>by
  have:=zsd (ω:=wd n) (φ:=λv=>v n) (W:=wb K n) (K:=K) l [] (sg n) (znR n) (λv hv=>h v hv n) λp r ⟨v,e⟩=>by
   rw [nil_append] at e
   refine zoS n (p++r) ?_ λx hx=>h x ?_
   ·have:=congrArg List.length e
    simp at this ⊢
    omega
   ·rw [e]
    rcases qaK.mp hx with z | z
    ·exact mem_append_left _ z
    ·exact qak _ (qan _ z)
  rw [hl] at this
  exact this
structure LP (n m:Nat) (A:Nat->Nat->Int):Prop where
 nn: ∀ i,i<n-> ∀ t,t<m->0<=A i t
 sl: ∀ i,i<n-> ∀ j,j<n->A i (m+j)=if i=j then 1 else 0
 g1: ∀ t,t<m->A n t= -1
 g0: ∀ j,j<n->A n (m+j)=0
 gq:A n (m+n)=0
 ful: ∀ t,t<m-> ∃ i,i<n/\0<A i t
 rhs: ∀ i,i<n->0<=A i (m+n)
section
variable {n m:Nat} {A:Nat->Nat->Int}
theorem zlU {f:Nat->Int} {i:Nat} (hi:i<n):(sm n λk=>f k*(if i=k then 1 else 0))=f i:=by
 rw [zhR _ hi,qa4 rfl,mul_one]
 have:sm n (λk=>if k=i then 0 else f k*(if i=k then 1 else 0))=0:=by
  refine Eq.trans (zay (g:=λ_=>0) λk _=> ?_) (zcD n)
  split
  ·rfl
  ·rename_i h
   rw [qa5 λz=>h z.symm,mul_zero]
 rw [this,Int.add_zero]
theorem LP.first (p:LP n m A):Tb n (m+n+1) A (λk=>m+k) A 1 where
 dp:=by decide
 dep:=λc _ i hi=>by
  rw [Int.one_mul,zay (g:=λk=>A k c*(if i=k then 1 else 0)) λk hk=>by rw [p.sl i hi k hk]]
  exact (zlU (f:=λk=>A k c) hi).symm
 goal:=λc _=>by
  have:(sm n λk=>A k c*A n (m+k))=0:=by
   refine Eq.trans (zay (g:=λ_=>0) λk hk=> ?_) (zcD n)
   rw [p.g0 k hk,mul_zero]
  rw [this,Int.one_mul,zero_add]
 det:=by
  have:zd8 n A (λk=>m+k)=(List.range n).map un:=map_congr_left λk hk=>by
   have hk:=mem_range.mp hk
   funext i
   unfold col un
   by_cases hi:i<n
   ·rw [qa4 hi,p.sl i hi k hk]
   ·rw [qa5 hi,qa5 ⋯]
  rw [this]
  exact zsZ n
 bd:=λk hk=>by omega
theorem LP.nnx (p:LP n m A) {i:Nat} (hi:i<n) {x:Nat} (hx:x<m+n):0<=A i x:=by
 by_cases h:x<m
 ·exact p.nn i hi x h
 ·have e:=p.sl i hi (x - m) ⋯
  rw [show m+(x - m)=x by omega] at e
  rw [e]
  split<;>decide
theorem LP.gx (p:LP n m A) {x:Nat} (hx:x<m+n):A n x<=0/\(A n x<0->x<m):=by
 by_cases h:x<m
 ·have:=p.g1 x h
  exact ⟨⋯,λ_=>h⟩
 ·have e:=p.g0 (x - m) ⋯
  rw [show m+(x - m)=x by omega] at e
  exact ⟨⋯,λz=>by omega⟩
variable {bs:Nat->Nat} {T:Nat->Nat->Int} {d:Int}
theorem LP.ray (p:LP n m A) (t:Tb n (m+n+1) A bs T d) (hb: ∀ k,k<n->bs k<m+n) {c:Nat} (hc:c<m+n) (hn:T n c<0): ∃ k,k<n/\0<T k c:=by
 apply Classical.byContradiction
 intro hno
 have hle: ∀ k,k<n->T k c<=0:=λk hk=>by
  rcases lt_or_le 0 (T k c) with z | z
  ·exact absurd ⟨k,hk,z⟩ hno
  ·exact z
 have hd:=t.dp
 have hrow: ∀ i,i<n->A i c=0/\ ∀ k,k<n->T k c*A i (bs k)=0:=λi hi=>by
  have e:=t.dep c ⋯ i hi
  have h1:0<=d*A i c:=Int.mul_nonneg ⋯ (p.nnx hi hc)
  have h2: ∀ k,k<n->T k c*A i (bs k)<=0:=λk hk=>Int.mul_nonpos_of_nonpos_of_nonneg (hle k hk) (p.nnx hi (hb k hk))
  have h3:(sm n λk=>T k c*A i (bs k))<=0:=by
   have:=zpX (g:=λ_=>0) h2
   rw [zcD] at this
   exact this
  refine ⟨?_,λk hk=> ?_⟩
  ·have:d*A i c=0:=by omega
   rcases Int.mul_eq_zero.mp this with z | z
   ·omega
   ·exact z
  ·have h4:=zhR (λk=>T k c*A i (bs k)) hk
   have h5:sm n (λj=>if j=k then 0 else T j c*A i (bs j))<=0:=by
    have:=zpX (f:=λj=>if j=k then 0 else T j c*A i (bs j)) (g:=λ_=>0) (n:=n) λj hj=>by
     show (if j=k then 0 else T j c*A i (bs j))<=0
     split
     ·exact Int.le_refl _
     ·exact h2 j hj
    rw [zcD] at this
    exact this
   have:=h2 k hk
   omega
 have hg:=t.goal c ⋯
 by_cases hac:A n c<0
 ·have hcm:=(p.gx hc).2 hac
  obtain ⟨i,hi,hpos⟩:=p.ful c hcm
  have:=(hrow i hi).1
  omega
 ·have hac0:A n c=0:=by have:=(p.gx hc).1;omega
  rw [hac0,mul_zero] at hg
  obtain ⟨k,hk,hpos⟩:=zlx (f:=λk=>T k c*A n (bs k)) (n:=n) ⋯
  have hpos:0<T k c*A n (bs k):=hpos
  have hT:=hle k hk
  have hTn:T k c≠0:=λz=>by rw [z,zero_mul] at hpos;omega
  have hAn:A n (bs k)≠0:=λz=>by rw [z,mul_zero] at hpos;omega
  have hbm:=(p.gx (hb k hk)).2 (by have:=(p.gx (hb k hk)).1;omega)
  obtain ⟨i,hi,hpi⟩:=p.ful (bs k) hbm
  rcases Int.mul_eq_zero.mp ((hrow i hi).2 k hk) with z | z
  ·exact hTn z
  ·omega
def yv (n q:Nat) (bs:Nat->Nat) (T:Nat->Nat->Int) (x:Nat):Int:=sm n λk=>if bs k=x then T k q else 0
theorem zrE {q:Nat} (hb: ∀ k,k<n->bs k<q) (f:Nat->Int):(sm n λk=>T k q*f (bs k))=sm q λx=>f x*yv n q bs T x:=by
 have e:(sm q λx=>f x*yv n q bs T x)=sm q λx=>sm n λk=>f x*(if bs k=x then T k q else 0):=zay λx _=>by unfold yv;rw [zdm]
 rw [e,zij (λk x=>f x*(if bs k=x then T k q else 0))]
 refine zay λk hk=> ?_
 have e2:(sm q λx=>f x*(if bs k=x then T k q else 0))=sm q λx=>(T k q*f x)*(if bs k=x then 1 else 0):=zay λx _=>by
  split
  ·rw [mul_one,mul_comm]
  ·rw [mul_zero,mul_zero]
 rw [e2,zlU (n:=q) (f:=λx=>T k q*f x) (hb k hk)]
theorem zgB (f:Nat->Int) (m:Nat): ∀ n,sm (m+n) f=sm m f+sm n λj=>f (m+j)
 | 0=>by rw [Nat.add_zero,sm,Int.add_zero]
 | n+1=>by rw [<- Nat.add_assoc,sm,zgB f m n,sm];omega
theorem zvA {q:Nat} (hf: ∀ k,k<n->0<=T k q) (x:Nat):0<=yv n q bs T x:=zo8 λk hk=>by
 split
 ·exact hf k hk
 ·exact Int.le_refl _
theorem LP.done (p:LP n m A) (t:Tb n (m+n+1) A bs T d) (hb: ∀ k,k<n->bs k<m+n) (hf: ∀ k,k<n->0<=T k (m+n)) (hg: ∀ c,c<m+n->0<=T n c):
  (∀ i,i<n->(sm m λx=>A i x*yv n (m+n) bs T x)<=d*A i (m+n))/\(sm m λx=>yv n (m+n) bs T x)=T n (m+n)/\
  (∀ x,x<m->d<=sm n λi=>A i x*T n (m+i))/\(sm n λi=>A i (m+n)*T n (m+i))=T n (m+n):=by
 have star:=λs hs=>p.first.star t (s:=s) hs
 refine ⟨λi hi=> ?_,?_,λx hx=> ?_,?_⟩
 ·have e:=t.dep (m+n) ⋯ i hi
  rw [zrE hb (λx=>A i x),zgB] at e
  have h1:0<=sm n λj=>A i (m+j)*yv n (m+n) bs T (m+j):=zo8 λj hj=>Int.mul_nonneg (p.nnx hi ⋯) (zvA hf _)
  omega
 ·have e:=t.goal (m+n) ⋯
  rw [p.gq,mul_zero,zrE hb (λx=>A n x),zgB] at e
  have h1:(sm n λj=>A n (m+j)*yv n (m+n) bs T (m+j))=0:=by
   refine Eq.trans (zay (g:=λ_=>0) λj hj=> ?_) (zcD n)
   rw [p.g0 j hj,zero_mul]
  have h2:(sm m λx=>A n x*yv n (m+n) bs T x)=(-1)*sm m λx=>yv n (m+n) bs T x:=by
   rw [<- zdm]
   exact zay λx hx=>by rw [p.g1 x hx]
  rw [h1,h2] at e
  omega
 ·have e:=star x ⋯
  rw [p.g1 x hx,Int.one_mul] at e
  have:=hg x ⋯
  omega
 ·have e:=star (m+n) ⋯
  rw [p.gq,Int.one_mul,mul_zero,zero_add] at e
  exact e.symm
theorem zvS (t:Tb n (m+n+1) A bs T d) (hf: ∀ k,k<n->0<=T k (m+n)) {c pl:Nat} (s:Stp n (m+n) bs T c pl): ∀ k,k<n->0<=piv T d pl c k (m+n):=λk hk=>by
 have hc:=s.c1
 have hd:=t.dp
 have e:=(t.piv_at (x:=m+n) s.p1 ⋯ ⋯ s.p2 hk).2
 by_cases z:k=pl
 ·rw [piv,qa4 z]
  exact hf pl s.p1
 ·rw [rr,qa5 z] at e
  have h1:0<=T k (m+n)*T pl c - T pl (m+n)*T k c:=by
   have hp:=s.p2
   rcases lt_or_le 0 (T k c) with y | y
   ·rcases s.p3 k hk y with w | ⟨w,_⟩<;>omega
   ·have a1:0<=T k (m+n)*T pl c:=Int.mul_nonneg (hf k hk) ⋯
    have a2:T pl (m+n)*T k c<=0:=Int.mul_nonpos_of_nonneg_of_nonpos (hf pl s.p1) y
    omega
  rw [e] at h1
  rcases lt_or_le (piv T d pl c k (m+n)) 0 with y | y
  ·have:=Int.mul_neg_of_pos_of_neg hd y
   omega
  ·exact y
end
end SX
namespace L3
open L2 LT
def Gro (h h':Hh):Prop:= ∃ t,h'=h++t
theorem Gro.trans {h h1 h2:Hh} (a:Gro h h1) (b:Gro h1 h2):Gro h h2:=by
 obtain ⟨t,rfl⟩:=a
 obtain ⟨u,rfl⟩:=b
 exact ⟨t++u,by simp⟩
theorem Gro.get {h h':Hh} {n:Nat} {c:C} (g:Gro h h') (e:h[n]? = some c):h'[n]? = some c:=by
 obtain ⟨t,rfl⟩:=g
 rw [qad (qac.mp e).1]
 exact e
theorem Gro.ext {b:Nat} {h h':Hh} (q:Bx b h) (g:Gro h h'):Ext b h h':=by
 obtain ⟨z,e⟩:=q
 exact ⟨⟨z,g.get e⟩,λn c _ e=>g.get e⟩
def Ev {α:Type} (m:M α) (a:α):Prop:= ∀ h, ∃ h',m h= .ok a h'/\Gro h h'
section
variable {α β:Type} {m:M α} {a:α} {f:α->M β} {b:β} {h:Hh} {P:α->Hh->Prop}
theorem Ev.wp (x:Ev m a) (k: ∀ h',Gro h h'->P a h'):wp m h P:=by
 obtain ⟨h1,e1,g1⟩:=x h
 exact ⟨a,h1,e1,k h1 g1⟩
theorem Ev.of_wp (x: ∀ h,L3.wp m h λr h'=>r=a/\Gro h h'):Ev m a:=λh=>by
 obtain ⟨r,h1,e1,rfl,g⟩:=x h
 exact ⟨h1,e1,g⟩
end
@[simp] theorem zmz {α:Type} {a:α}:noX (pure a:M α)=pure a:=rfl
noncomputable def zki {α:Type} (c:String):M α:=λh=> .exc c h
@[simp] theorem zjC {α β:Type} {c:String} {f:α->M β}:((zki c:M α)>>=f)=zki c:=rfl
@[simp] theorem znK {c:String} {sd:Sd}:ztd c sd=zki c:=rfl
theorem zs0 {n:Nat} {Fs:List (List D->M D)} {fi:FE} {fs:FA} {sd:Sd}:ztQ n Fs fi fs sd=(do let i<-fi sd;let F<-zsM Fs i;let ds<-fs sd;zav n F ds):=rfl
def tI (xs:List Int):D:= .tup (xs.map D.int)
def zbZ (o:List Int×Int):D:= .tup [tI o.1,.int o.2]
def za7 (m:Int) (os:List (List Int×Int)):D:= .tup [.int m,.tup (os.map zbZ)]
structure Stk (m:Int) (os:List (List Int×Int)):Prop where
 m0:1<=m
 m1:m<=10
 len:os.length<=12
 up: ∀ o∈os,o.1.Pairwise (· < ·)
 bd: ∀ o∈os, ∀ x∈o.1,0<=x/\x<m
 ne: ∀ o∈os,o.1≠[]
 pos: ∀ o∈os,0<o.2
theorem Stk.olen {m:Int} {os:List (List Int×Int)} (s:Stk m os): ∀ o∈os,o.1.length<=10:=λo ho=>by
 have h:=ze4 (m:=m) (ts:=o.1.map D.int) (l:=0) (zbQ.mpr ⟨s.up o ho,λx hx=>s.bd o ho x hx⟩) (by have:=s.m0;omega)
 rw [qaH] at h
 have:=s.m1
 omega
theorem zlN {fo fe:FE} {sd:Sd}:zh1 fo fe sd=(do let x<-fo sd;zcZ x;let y<-fe sd;zd6 x y):=rfl
theorem zpe {n:Nat}:zcZ (.cel n)=(do let _<-zaq n;pure ()):=rfl
theorem zne {n:Nat} {zs:List D}:zd6 (.cel n) (.tup zs)=(do let ds<-zaq n;fits (ds.length+zs.length);zbN n (ds++zs);pure .non):=rfl
theorem zjj {xs:List Int} {m:Int} (m0:0<=m) (h:xs.Pairwise (· < ·)) (b: ∀ x∈xs,0<=x/\x<m):(xs.length:Int)<=m:=by
 have:=ze4 (m:=m) (ts:=xs.map D.int) (l:=0) (zbQ.mpr ⟨h,b⟩) m0
 rw [qaH] at this
 omega
theorem zna {xs:List Int} {m:Int} (m0:0<=m) (b: ∀ x∈xs,0<=x/\x<m):((zdO xs).length:Int)<=m:=zjj m0 (zdB xs) λx hx=>b x (zb8.mp hx)
theorem zif {xs:List Int} {m:Int} (m0:0<=m) (m1:m<=60) (b: ∀ x∈xs,0<=x/\x<m):(xs.foldl step_dedup []).length<64:=by
 have h:=zna m0 b
 unfold zdO at h
 rw [(zaF _).length_eq] at h
 omega
theorem zhE {n:Nat} {h:Hh} {xs:List Int} {P:D->Hh->Prop} (e:h[n]? = some (.lst (xs.map D.int))) (h1:(xs.foldl step_dedup []).length<64) (h2:xs.length<4000) (k:P (.lst ((zdO xs).map D.int)) h):wp (zct (.cel n)) h P:=by
 unfold zct
 show wp (zaq n>>=_) h P
 rw [zal,zbd e]
 show wp (do let ns<-ofO (zdY (xs.map D.int));if (ns.foldl step_dedup []).length<64/\ns.length<4000 then pure (.lst ((zdO ns).map D.int)) else M.bad:M D) h P
 rw [zbT]
 show wp (if (xs.foldl step_dedup []).length<64/\xs.length<4000 then (pure (.lst ((zdO xs).map D.int)):M D) else M.bad) h P
 rw [qa4 ⟨h1,h2⟩,zan]
 exact k
theorem zmX: ∀ {xs ys:List Int},xs.Pairwise (· < ·)->ys.Pairwise (· < ·)->(∀ k,k∈xs↔k∈ys)->xs=ys:=by
 intro xs ys hx hy hm
 have nx:xs.Nodup:=hx.imp λz=>by omega
 have ny:ys.Nodup:=hy.imp λz=>by omega
 have p:List.Perm xs ys:=(List.perm_ext_iff_of_nodup nx ny).mpr hm
 exact (ze2 p (hx.imp λz=>by omega)).trans (ze2 (List.Perm.refl ys) (hy.imp λz=>by omega)).symm
theorem zsh {x y:D} {a b:PyData} (e1:pd x=some a) (e2:pd y=some b) (h:zgY a b=true):dEq x y=pure (.bl (PyData.eqv a b)):=by
 show zmk false x y=_
 unfold zmk
 rw [e1,e2]
 simp only [h,if_true]
 rfl
theorem zmZ (xs:List Int):pd (tI xs)=some (.tuple (xs.map PyData.int)):=by unfold tI pd;rw [zdL];rfl
theorem zsV (xs ys:List Int):dEq (tI xs) (tI ys)=pure (.bl (xs==ys)):=by
 rw [zsh (zmZ xs) (zmZ ys) (by unfold zgY;simp [PyData.canLay0,zbL,PyData.depth,zc6])]
 simp only [PyData.eqv,zgV]
theorem zqp (xs:List Int):zum [.lst (xs.map D.int)]=pure (.int xs.sum):=by
 show (do let bs<-ofO (zdY (xs.map D.int));pure (.int bs.sum):M D)=_
 rw [zbT]
 rfl
def gk (d:D):Prop:=kn d=true/\ ∀ ds,d= .tup ds->ds.length<64/\ ∀ x∈ds,kn x=true
theorem zuI {xs:List Int} (h:xs.length<64):gk (tI xs):=⟨rfl,λds e=>by
  cases e
  exact ⟨by rw [qaH];exact h,λx hx=>by obtain ⟨i,_,rfl⟩:=qaU.mp hx;rfl⟩⟩
def zt8 (n:Nat):D->Bool
 | .tup ds=>zcb n 0 ds
 | _=>false
theorem zmh {os:List (List Int×Int)} {i:Int} (h0:0<=i) (h1:i<os.length):atI (os.map zbZ) i=some (zbZ (os.getD i.toNat ([],0))):=by
 have hl:i.toNat<os.length:=by omega
 have:=zfD (xs:=os.map zbZ) (j:=i.toNat) (v:=zbZ (os.getD i.toNat ([],0))) (by simp [hl,List.getD])
 rw [<- this]
 congr 1
 omega
def zb9 (os:List (List Int×Int)) (ls:List Int):List (List Int×Int):=ls.map λi=>os.getD i.toNat ([],0)
theorem zhF {os:List (List Int×Int)} {ls:List Int} (b: ∀ x∈ls,0<=x/\x<os.length): ∀ o∈zb9 os ls,o∈os:=λo ho=>by
 obtain ⟨i,hi,rfl⟩:=qaU.mp ho
 have:=b i hi
 have hl:i.toNat<os.length:=by omega
 simp [List.getD,hl]
theorem zih (k:Int) (xs:List Int):zl0 (.int k) (.lst (xs.map D.int))=pure (.bl (!xs.any (· == k))):=by
 show zoK true (.int k) (.lst (xs.map D.int))=_
 unfold zoK
 simp only [pd]
 rw [zdL]
 have c:znn (.int k) (xs.map PyData.int)=true:=by
  unfold znn
  simp [PyData.canLay0,zbL,PyData.depth,zc6]
 simp only [c,if_true,zgT]
theorem ziv {xs:List Int} (h:xs.length<64):zez [.lst (xs.map D.int)]=pure (.lst ((zb2 xs).map D.int)):=by
 show (do let ns<-ofO (zdY (xs.map D.int));if ns.length<64 then pure (.lst ((zb2 ns).map D.int)) else M.bad:M D)=_
 rw [zbT]
 show (if xs.length<64 then (pure (.lst ((zb2 xs).map D.int)):M D) else M.bad)=_
 rw [qa4 h]
theorem zeD {xs:List Int} (h:xs.Nodup):(zb2 xs).Pairwise (· < ·):=by
 have h1:=zdH xs
 have h2:(zb2 xs).Nodup:=(zaF xs).nodup_iff.mpr h
 exact (List.pairwise_and_iff.mpr ⟨h1,h2⟩).imp λz=>by have:=z.1;have:=z.2;omega
theorem zh5 {xs ys:List Int} (h:xs.Nodup) (hm: ∀ k,k∈xs↔k∈ys):zb2 xs=zdO ys:=zmX (zeD h) (zdB ys) λk=>by rw [(zaF xs).mem_iff,zb8,hm]
theorem zdz {xs:List Int} {m:Int} (m0:0<=m) (h:xs.Nodup) (b: ∀ x∈xs,0<=x/\x<m):(xs.length:Int)<=m:=by
 rw [<- (zaF xs).length_eq]
 exact zjj m0 (zeD h) λx hx=>b x ((zaF xs).mem_iff.mp hx)
theorem zdW {p:Int->Bool} {k:D->Option D} (e: ∀ i:Int,k (.int i)=if p i=true then some (.int i) else none): ∀ xs:List Int,(xs.map D.int).filterMap k=(xs.filter p).map D.int
 | []=>rfl
 | x::r=>by
  rw [qaM,qat,e,filter_cons,zdW e r]
  cases p x<;>simp
theorem zuW {i j:Int}:zo3 [.int i,.int j]=pure (.int (if j<i then j else i)):=rfl
theorem zul {i j:Int}:zqh [.int i,.int j]=pure (.int (if j>i then j else i)):=rfl
theorem zc7 (n:Nat):((List.range n).map λ(k:Nat)=>(k:Int)).Pairwise (· < ·):=by
 rw [List.pairwise_map]
 exact pairwise_lt_range.imp λz=>by omega
theorem zc2 {n:Nat}: ∀ x∈(List.range n).map λ(k:Nat)=>(k:Int),0<=x/\x<n:=λx hx=>by
 obtain ⟨k,hk,rfl⟩:=qaU.mp hx
 have:=mem_range.mp hk
 omega
section
variable {α β:Type} {m:M α} {a:α} {f:α->M β} {c:String}
end
theorem zth {g:FS} {sd:Sd}:zwd g sd=noX (g sd):=rfl
theorem zq6 {g:FE} {sd:Sd}:zvL g sd=noX (g sd):=rfl
theorem zpN {xs:List Int} {m:Int} (m0:0<=m) (h:xs.Pairwise (· < ·)) (b: ∀ x∈xs,0<=x/\x<m):(xs==(List.range m.toNat).map λ(k:Nat)=>(k:Int))=((xs.length:Int)==m):=by
 rw [Bool.eq_iff_iff,beq_iff_eq,beq_iff_eq]
 constructor
 ·intro e
  rw [e]
  simp
  omega
 ·intro e
  refine zmX h (zc7 _) λk=>⟨λhk=> ?_,λhk=> ?_⟩
  ·obtain ⟨h1,h2⟩:=b k hk
   exact qaU.mpr ⟨k.toNat,mem_range.mpr ⋯,⋯⟩
  ·have hb:=zc2 k hk
   by_cases c:k∈xs
   ·exact c
   ·exfalso
    have:=zdz (xs:=k::xs) m0 (nodup_cons.mpr ⟨c,h.imp λz=>by omega⟩) λx hx=>by
     rcases qaP.mp hx with rfl | hx
     ·omega
     ·exact b x hx
    rw [qaE] at this
    omega
end L3
namespace K34
open L2 L3
def G_37:FS:=zas (sIf (zdn dLt (zae 1) (zaB zdG (zac (zae 0) zar))) (zbF (cOp dIx (zae 0) (zae 1))) zeK) (zbF (cOp zdV (cOp zj9 (cK (.int 6151)) (zae 1)) (cK (.int 29))))
def F_37:List D->M D:=zcv 2 G_37
theorem d_37 (x0 x1:D):F_37 [x0,x1]=(do let o<-G_37 [some x0,some x1];zcj o):=rfl
def zdx:FS:=zas (zbs 4 (cOp zmY (cOp zdV (cOp zdV (cOp zdV (cOp zj9 (zae 4) (cK (.int 48271))) (cOp zj9 (cOp zj9 (cK (.int 7)) (zae 5)) (zae 5))) (cOp zj9 (cK (.int 11)) (zae 1))) (cK (.int 1))) (cK (.int 2147483647)))) (zbs 3 (cOp zdV (cOp zj9 (zae 3) (cK (.int 2147483647))) (zae 4)))
def G_38:FS:=zas (zbs 2 (zaB (zav 2 F_37) (zac (zae 0) (zac (zae 1) zar)))) (zas (sIf (zdn dEq (cOp zmY (zae 2) (cK (.int 2))) (cK (.int 0))) (zbF (zhw (zac (cOp znF (zae 2) (cK (.int 2))) zar))) zeK) (zas (zbs 3 (cK (.int 0))) (zas (zbs 4 (cOp zmY (zae 2) (cK (.int 2147483647)))) (zas (zhf (zei (zac (cK (.int 24)) zar)) (zaC 5) zdx) (zbF (zhw (zac (zae 3) zar)))))))
def F_38:List D->M D:=zcv 6 G_38
theorem d_38 (x0 x1:D):F_38 [x0,x1]=(do let o<-G_38 [some x0,some x1,none,none,none,none];zcj o):=rfl
def G_39:FS:=zas (zbs 2 (cOp zmY (cOp dIx (zae 0) (cK (.int 0))) (zae 1))) (zas (zmj (cOp znF (cOp dIx (zae 0) (cK (.int 0))) (zae 1)) (zjY (zae 0) (cK (.int 0)))) (zbF (zae 2)))
def F_39:List D->M D:=zcv 3 G_39
theorem d_39 (x0 x1:D):F_39 [x0,x1]=(do let o<-G_39 [some x0,some x1,none];zcj o):=rfl
def zcy:FE:=zae 0
def zcC:FT:=zdn dEq (cOp zuR (cOp zup (zae 1) (zae 0)) (cK (.int 1))) (cK (.int 1))
def zcz:FE:=cOp zmY (cOp zdV (zae 1) (cOp zj9 (zae 2) (zae 0))) (zae 3)
def G_40:FS:=zas (zbs 2 (zaB (zav 2 F_39) (zac (zae 0) (zac (cK (.int 3)) zar)))) (zas (sIf (zdn dEq (zae 2) (cK (.int 0))) (zas (zbs 3 (cOp zdV (cK (.int 1)) (zaB (zav 2 F_39) (zac (zae 0) (zac (cOp zoR (cOp zuG (cK (.int 1)) (zae 1)) (cK (.int 1))) zar))))) (zbF (zaB zbX (zac (zaH (zei (zac (zae 1) zar)) (zaC 0) zcC zcy [none,some 3]) zar)))) zeK) (zas (zmj (zd9 (zac (zaB (zav 2 F_39) (zac (zae 0) (zac (zae 1) zar))) (zac (cOp dIx (zly (zac (cK (.int 1)) (zac (cOp zdV (cK (.int 1)) (zaB (zav 2 F_39) (zac (zae 0) (zac (cK (.int 3)) zar)))) zar))) (cOp zoR (zae 2) (cK (.int 1)))) zar))) (zbn 2 (zat (zaC 4) (zat (zaC 5) zbp)))) (zbF (zaB zbX (zac (cUn zct (zaH (zei (zac (cOp zdV (cK (.int 1)) (zaB (zav 2 F_39) (zac (zae 0) (zac (cK (.int 4)) zar)))) zar)) (zaC 0) (λ_=>pure true) zcz [none,some 4,some 5,some 1])) zar)))))
def F_40:List D->M D:=zcv 6 G_40
theorem d_40 (x0 x1:D):F_40 [x0,x1]=(do let o<-G_40 [some x0,some x1,none,none,none,none];zcj o):=rfl
def zdf:FE:=zhw (zac (zaB (zav 2 F_40) (zac (zae 1) (zac (zae 2) zar))) (zac (cOp zdV (cK (.int 1)) (zaB (zav 2 F_39) (zac (zae 1) (zac (zae 3) zar)))) zar))
def zeb:FE:=zae 0
def zeh:FT:=zdn dIn (zae 1) (cOp dIx (zae 0) (cK (.int 0)))
def zbS:FS:=sIf (zdn zst (zaH (iSq (zae 5)) (zaC 0) zeh zeb [none,some 6]) (zly zar)) (zas (zbs 7 (cOp dIx (zae 5) (zaB (zav 2 F_39) (zac (zae 0) (zac (zaB zdG (zac (zae 5) zar)) zar))))) (zmj (zaB zbX (zac (zaB zez (zac (cOp zdV (cOp dIx (zae 7) (cK (.int 0))) (zd9 (zac (zae 6) zar))) zar)) zar)) (zjY (zae 7) (cK (.int 0))))) zeK
def zed:FE:=zd9 (zac (cOp dIx (zae 0) (cK (.int 0))) (zac (cOp dIx (zae 0) (cK (.int 1))) zar))
def G_41:FS:=zas (zbs 3 (cOp zdV (cK (.int 1)) (zaB (zav 2 F_39) (zac (zae 0) (zac (zae 1) zar))))) (zas (zbs 4 (cOp dIx (zly (zac (cK (.int 3)) (zac (cK (.int 9)) (zac (cK (.int 50)) (zac (cOp ztH (cK (.int 10)) (cK (.int 12))) zar))))) (zaB (zav 2 F_39) (zac (zae 0) (zac (cK (.int 4)) zar))))) (zas (zbs 5 (zaH (zei (zac (cOp zdV (cK (.int 1)) (zaB (zav 2 F_39) (zac (zae 0) (zac (zae 2) zar)))) zar)) (zaC 0) (λ_=>pure true) zdf [none,some 0,some 3,some 4])) (zas (zhf (zei (zac (zae 3) zar)) (zaC 6) zbS) (zbF (zd9 (zac (zae 3) (zac (zaB zbX (zac (zaH (iSq (zae 5)) (zaC 0) (λ_=>pure true) zed [none]) zar)) zar)))))))
def F_41:List D->M D:=zcv 8 G_41
theorem d_41 (x0 x1 x2:D):F_41 [x0,x1,x2]=(do let o<-G_41 [some x0,some x1,some x2,none,none,none,none,none];zcj o):=rfl
def zbg:FS:=zhC (zh1 (zae 1) (cOp dIx (zae 2) (cK (.int 0))))
def G_18:FS:=zas (zbs 1 (zhw zar)) (zas (zhf (iSq (zae 0)) (zaC 2) zbg) (zbF (zaB zbX (zac (cUn zct (zae 1)) zar))))
def F_18:List D->M D:=zcv 3 G_18
theorem d_18 (x0:D):F_18 [x0]=(do let o<-G_18 [some x0,none,none];zcj o):=rfl
def G_19:FS:=zbF (cOp dEq (zaB zdG (zac (zaB (zav 1 F_18) (zac (zae 1) zar)) zar)) (cOp dIx (zae 0) (cK (.int 0))))
def F_19:List D->M D:=zcv 2 G_19
theorem d_19 (x0 x1:D):F_19 [x0,x1]=(do let o<-G_19 [some x0,some x1];zcj o):=rfl
def G_13:FS:=zbF (zaB (zav 2 F_19) (zac (zae 0) (zac (cOp dIx (zae 0) (cK (.int 1))) zar)))
def F_13:List D->M D:=zcv 1 G_13
theorem d_13 (x0:D):F_13 [x0]=(do let o<-G_13 [some x0];zcj o):=rfl
def G_15:FS:=sIf (zge (zfW (zaB (zav 1 F_13) (zac (zae 0) zar)))) zrX zeK
def F_15:List D->M D:=zcv 1 G_15
theorem d_15 (x0:D):F_15 [x0]=(do let o<-G_15 [some x0];zcj o):=rfl
def zcS:FE:=cIf (zdn dIn (zae 0) (cOp dIx (zae 1) (cK (.int 0)))) (cK (.int 1)) (cK (.int 0))
def zcO:FE:=cIf (zdn dEq (zae 0) (zae 1)) (cK (.int 1)) (cK (.int 0))
def zb5:FS:=zas (zbs 5 (zaH (zei (zac (cOp dIx (zae 0) (cK (.int 0))) zar)) (zaC 0) (λ_=>pure true) zcS [none,some 4])) (zhC (zd0 (zae 1) (cOp zdV (cOp zdV (zae 5) (zaH (zei (zac (zae 2) zar)) (zaC 0) (λ_=>pure true) zcO [none,some 3])) (zly (zac (cOp dIx (zae 4) (cK (.int 1))) zar)))))
def G_21:FS:=zas (zbs 1 (zhw zar)) (zas (zbs 2 (zaB zdG (zac (cOp dIx (zae 0) (cK (.int 1))) zar))) (zas (zhf (ztL (cOp dIx (zae 0) (cK (.int 1)))) (zbn 2 (zat (zaC 3) (zat (zaC 4) zbp))) zb5) (zas (zhC (zd0 (zae 1) (cOp zdV (cOp zhX (zly (zac (cUn zm3 (cK (.int 1))) zar)) (cOp dIx (zae 0) (cK (.int 0)))) (cOp zhX (zly (zac (cK (.int 0)) zar)) (cOp zdV (zae 2) (cK (.int 1))))))) (zbF (cUn zs4 (zae 1))))))
def F_21:List D->M D:=zcv 6 G_21
theorem d_21 (x0:D):F_21 [x0]=(do let o<-G_21 [some x0,none,none,none,none,none];zcj o):=rfl
def zbh:FS:=sIf (zdn dLt (cOp dIx (zae 1) (zae 2)) (cK (.int 0))) (zbF (zae 2)) zeK
def G_22:FS:=zas (zbs 1 (cOp dIx (zae 0) (cUn zm3 (cK (.int 1))))) (zas (zhf (zei (zac (cOp zoR (zaB zdG (zac (zae 1) zar)) (cK (.int 1))) zar)) (zaC 2) zbh) (zbF (cK .non)))
def F_22:List D->M D:=zcv 3 G_22
theorem d_22 (x0:D):F_22 [x0]=(do let o<-G_22 [some x0,none,none];zcj o):=rfl
def G_24:FS:=zas (zbs 5 (cOp zcg (cOp dIx (cOp dIx (zae 0) (zae 3)) (cUn zm3 (cK (.int 1)))) (cOp dIx (cOp dIx (zae 0) (zae 4)) (zae 2)))) (zas (zbs 6 (cOp zcg (cOp dIx (cOp dIx (zae 0) (zae 4)) (cUn zm3 (cK (.int 1)))) (cOp dIx (cOp dIx (zae 0) (zae 3)) (zae 2)))) (zbF (cOr (cOp dLt (zae 5) (zae 6)) (zmF (cOp dEq (zae 5) (zae 6)) (cOp dLt (cOp dIx (zae 1) (zae 3)) (cOp dIx (zae 1) (zae 4)))))))
def F_24:List D->M D:=zcv 7 G_24
theorem d_24 (x0 x1 x2 x3 x4:D):F_24 [x0,x1,x2,x3,x4]=(do let o<-G_24 [some x0,some x1,some x2,some x3,some x4,none,none];zcj o):=rfl
def zbr:FS:=sIf (zqg (zdn dGt (cOp dIx (cOp dIx (zae 0) (zae 4)) (zae 2)) (cK (.int 0))) (tOr (zdn zpw (zae 3) (cK .non)) (zfW (zaB (zav 5 F_24) (zac (zae 0) (zac (zae 1) (zac (zae 2) (zac (zae 4) (zac (zae 3) zar))))))))) (zbs 3 (zae 4)) zeK
def G_23:FS:=zas (zbs 3 (cK .non)) (zas (zhf (zei (zac (zaB zdG (zac (zae 1) zar)) zar)) (zaC 4) zbr) (zbF (zae 3)))
def F_23:List D->M D:=zcv 5 G_23
theorem d_23 (x0 x1 x2:D):F_23 [x0,x1,x2]=(do let o<-G_23 [some x0,some x1,some x2,none,none];zcj o):=rfl
def zft:FE:=cOp zeq (cOp zoR (cOp zcg (zae 0) (cOp dIx (zae 2) (zae 3))) (cOp zcg (zae 1) (cOp dIx (zae 4) (zae 3)))) (zae 5)
def G_26:FS:=zbF (zaH (zl1 (zac (zae 0) (zac (zae 1) zar))) (zbn 2 (zat (zaC 0) (zat (zaC 1) zbp))) (λ_=>pure true) zft [none,none,some 1,some 2,some 0,some 3])
def F_26:List D->M D:=zcv 4 G_26
theorem d_26 (x0 x1 x2 x3:D):F_26 [x0,x1,x2,x3]=(do let o<-G_26 [some x0,some x1,some x2,some x3];zcj o):=rfl
def zd2:FE:=cIf (zdn dEq (zae 0) (zae 2)) (zae 1) (zaB (zav 4 F_26) (zac (zae 1) (zac (zae 3) (zac (zae 4) (zac (zae 5) zar)))))
def G_25:FS:=zas (zbs 4 (cOp dIx (zae 0) (zae 1))) (zbF (zaH (zh9 (zae 0)) (zbn 2 (zat (zaC 0) (zat (zaC 1) zbp))) (λ_=>pure true) zd2 [none,none,some 1,some 4,some 2,some 3]))
def F_25:List D->M D:=zcv 5 G_25
theorem d_25 (x0 x1 x2 x3:D):F_25 [x0,x1,x2,x3]=(do let o<-G_25 [some x0,some x1,some x2,some x3,none];zcj o):=rfl
def zaj:FT:=zdn dGt (zae 3) (cK (.int 0))
def zao:FS:=zas (zbs 4 (cOp zmY (zae 2) (zae 3))) (zas (zbs 2 (zae 3)) (zbs 3 (zae 4)))
def G_4:FS:=zas (zbs 2 (zae 0)) (zas (zbs 3 (zae 1)) (zas (zdT 20000 zaj zao) (zbF (zae 2))))
def F_4:List D->M D:=zcv 5 G_4
theorem d_4 (x0 x1:D):F_4 [x0,x1]=(do let o<-G_4 [some x0,some x1,none,none,none];zcj o):=rfl
def G_3:FS:=zas (zbs 2 (zaB (zav 2 F_4) (zac (zae 0) (zac (zae 1) zar)))) (zbF (zd9 (zac (cOp zeq (zae 0) (zae 2)) (zac (cOp zeq (zae 1) (zae 2)) zar))))
def F_3:List D->M D:=zcv 3 G_3
theorem d_3 (x0 x1:D):F_3 [x0,x1]=(do let o<-G_3 [some x0,some x1,none];zcj o):=rfl
def zcm:FE:=zd9 (zac (zae 1) (zac (cOp dIx (cOp dIx (zae 2) (zae 0)) (cUn zm3 (cK (.int 1)))) zar))
def zdj:FE:=zaB (zav 2 F_3) (zac (zoQ (zae 1) (zac (zae 0) (zac (cK (.int 0)) zar))) (zac (zae 2) zar))
def G_27:FS:=zas (zbs 4 (zaB zp3 (zac (zaH (zh9 (zae 2)) (zbn 2 (zat (zaC 0) (zat (zaC 1) zbp))) (λ_=>pure true) zcm [none,none,some 1]) zar))) (zbF (zaB zbX (zac (zaH (zei (zac (cOp dIx (zae 0) (cK (.int 0))) zar)) (zaC 0) (λ_=>pure true) zdj [none,some 4,some 3]) zar)))
def F_27:List D->M D:=zcv 5 G_27
theorem d_27 (x0 x1 x2 x3:D):F_27 [x0,x1,x2,x3]=(do let o<-G_27 [some x0,some x1,some x2,some x3,none];zcj o):=rfl
def zcl:FE:=zaB (zav 2 F_3) (zac (cOp dIx (cOp dIx (zae 1) (cUn zm3 (cK (.int 1)))) (cOp zdV (cOp dIx (zae 2) (cK (.int 0))) (zae 0))) (zac (zae 3) zar))
def G_28:FS:=zbF (zaB zbX (zac (zaH (zei (zac (zaB zdG (zac (cOp dIx (zae 0) (cK (.int 1))) zar)) zar)) (zaC 0) (λ_=>pure true) zcl [none,some 1,some 0,some 2]) zar))
def F_28:List D->M D:=zcv 3 G_28
theorem d_28 (x0 x1 x2:D):F_28 [x0,x1,x2]=(do let o<-G_28 [some x0,some x1,some x2];zcj o):=rfl
def zcG:FE:=cOp zdV (cOp dIx (zae 1) (cK (.int 0))) (zae 0)
def zca:FT:=zdn zin (zae 4) (cK .non)
def zcH:FS:=zas (zbs 5 (zaB (zav 3 F_23) (zac (zae 1) (zac (zae 2) (zac (zae 4) zar))))) (zas (zbs 1 (zaB (zav 4 F_25) (zac (zae 1) (zac (zae 5) (zac (zae 4) (zac (zae 3) zar)))))) (zas (zbs 3 (cOp dIx (cOp dIx (zae 1) (zae 5)) (zae 4))) (zas (zmj (zae 4) (zjY (zae 2) (zae 5))) (zbs 4 (zaB (zav 1 F_22) (zac (zae 1) zar))))))
def G_20:FS:=zas (zhC (zaB (zav 1 F_15) (zac (zae 0) zar))) (zas (zbs 1 (zaB (zav 1 F_21) (zac (zae 0) zar))) (zas (zbs 2 (zew (zei (zac (zaB zdG (zac (cOp dIx (zae 0) (cK (.int 1))) zar)) zar)) (zaC 0) (λ_=>pure true) zcG [none,some 0])) (zas (zbs 3 (cK (.int 1))) (zas (zbs 4 (zaB (zav 1 F_22) (zac (zae 1) zar))) (zas (zdT 100000000000000000 zca zcH) (zbF (zd9 (zac (zaB (zav 4 F_27) (zac (zae 0) (zac (zae 1) (zac (cUn zs4 (zae 2)) (zac (zae 3) zar))))) (zac (zaB (zav 3 F_28) (zac (zae 0) (zac (zae 1) (zac (zae 3) zar)))) zar)))))))))
def F_20:List D->M D:=zcv 6 G_20
theorem d_20 (x0:D):F_20 [x0]=(do let o<-G_20 [some x0,none,none,none,none,none];zcj o):=rfl
def zcJ:FS:=zas (zbs 1 (cOp zdV (cOp zcg (zae 1) (cOp dIx (zae 3) (cK (.int 1)))) (cOp zcg (cOp dIx (zae 3) (cK (.int 0))) (zae 2)))) (zbs 2 (cOp zcg (zae 2) (cOp dIx (zae 3) (cK (.int 1)))))
def G_7:FS:=zas (zbs 1 (cK (.int 0))) (zas (zbs 2 (cK (.int 1))) (zas (zhf (iSq (zae 0)) (zaC 3) zcJ) (zbF (zaB (zav 2 F_3) (zac (zae 1) (zac (zae 2) zar))))))
def F_7:List D->M D:=zcv 4 G_7
theorem d_7 (x0:D):F_7 [x0]=(do let o<-G_7 [some x0,none,none,none];zcj o):=rfl
def G_5:FS:=zbF (cOp dLt (cOp zcg (cOp dIx (zae 0) (cK (.int 0))) (cOp dIx (zae 1) (cK (.int 1)))) (cOp zcg (cOp dIx (zae 1) (cK (.int 0))) (cOp dIx (zae 0) (cK (.int 1)))))
def F_5:List D->M D:=zcv 2 G_5
theorem d_5 (x0 x1:D):F_5 [x0,x1]=(do let o<-G_5 [some x0,some x1];zcj o):=rfl
def zeT:FE:=cOp dIx (zae 1) (zae 0)
def G_35:FS:=zas (zbs 2 (zaB (zav 1 F_7) (zac (zaH (iSq (cOp dIx (zae 0) (cK (.int 0)))) (zaC 0) (λ_=>pure true) zeT [none,some 1]) zar))) (zbF (zqL (zaB (zav 2 F_5) (zac (zd9 (zac (cOp dIx (zae 0) (cK (.int 1))) (zac (cK (.int 1)) zar))) (zac (zae 2) zar)))))
def F_35:List D->M D:=zcv 3 G_35
theorem d_35 (x0 x1:D):F_35 [x0,x1]=(do let o<-G_35 [some x0,some x1,none];zcj o):=rfl
def G_0:FS:=zbF (zmF (cUn (zjT "int") (zae 0)) (zqL (cUn (zjT "bool") (zae 0))))
def F_0:List D->M D:=zcv 1 G_0
theorem d_0 (x0:D):F_0 [x0]=(do let o<-G_0 [some x0];zcj o):=rfl
def G_1:FS:=zbF (zmF (cUn (zjT "tuple") (zae 0)) (cOp dEq (zaB zdG (zac (zae 0) zar)) (cK (.int 2))))
def F_1:List D->M D:=zcv 1 G_1
theorem d_1 (x0:D):F_1 [x0]=(do let o<-G_1 [some x0];zcj o):=rfl
def G_6:FS:=zas (sIf (tOr (zge (zfW (zaB (zav 1 F_1) (zac (zae 0) zar)))) (tOr (zge (zfW (zaB (zav 1 F_0) (zac (cOp dIx (zae 0) (cK (.int 0))) zar)))) (zge (zfW (zaB (zav 1 F_0) (zac (cOp dIx (zae 0) (cK (.int 1))) zar)))))) (zbF (cK (.bl false))) zeK) (zbF (zmF (cOp dGt (cOp dIx (zae 0) (cK (.int 1))) (cK (.int 0))) (cOp dEq (zaB (zav 2 F_4) (zac (cOp dIx (zae 0) (cK (.int 0))) (zac (cOp dIx (zae 0) (cK (.int 1))) zar))) (cK (.int 1)))))
def F_6:List D->M D:=zcv 1 G_6
theorem d_6 (x0:D):F_6 [x0]=(do let o<-G_6 [some x0];zcj o):=rfl
def G_34:FS:=zbF (zmF (zaB (zav 1 F_6) (zac (zae 0) zar)) (cOp dGe (cOp dIx (zae 0) (cK (.int 0))) (cK (.int 0))))
def F_34:List D->M D:=zcv 1 G_34
theorem d_34 (x0:D):F_34 [x0]=(do let o<-G_34 [some x0];zcj o):=rfl
def zcT:FE:=zaB (zav 1 F_34) (zac (zae 0) zar)
def G_33:FS:=zas (sIf (tOr (zge (zfW (cUn (zjT "tuple") (zae 0)))) (zdn dNe (zaB zdG (zac (zae 0) zar)) (zae 1))) (zbF (cK (.bl false))) zeK) (zbF (zaB zsU (zac (zaH (iSq (zae 0)) (zaC 0) (λ_=>pure true) zcT [none]) zar)))
def F_33:List D->M D:=zcv 2 G_33
theorem d_33 (x0 x1:D):F_33 [x0,x1]=(do let o<-G_33 [some x0,some x1];zcj o):=rfl
def zcV:FE:=zaB (zav 2 F_35) (zac (zae 0) (zac (zae 1) zar))
def G_29:FS:=zbF (zmF (zaB (zav 2 F_33) (zac (zae 1) (zac (cOp dIx (zae 0) (cK (.int 0))) zar))) (zaB zsU (zac (zaH (iSq (cOp dIx (zae 0) (cK (.int 1)))) (zaC 0) (λ_=>pure true) zcV [none,some 1]) zar)))
def F_29:List D->M D:=zcv 2 G_29
theorem d_29 (x0 x1:D):F_29 [x0,x1]=(do let o<-G_29 [some x0,some x1];zcj o):=rfl
def G_31:FS:=zas (sIf (zge (zfW (zaB (zav 2 F_29) (zac (zae 0) (zac (zae 1) zar))))) zrX zeK) (zbF (zaB (zav 1 F_7) (zac (zae 1) zar)))
def F_31:List D->M D:=zcv 2 G_31
theorem d_31 (x0 x1:D):F_31 [x0,x1]=(do let o<-G_31 [some x0,some x1];zcj o):=rfl
def zaP:FT:=zdn dGt (zae 3) (cK (.int 0))
def zaV:FS:=zqP 2 3 (zac (zae 3) (zac (cOp zmY (zae 2) (zae 3)) zar))
def G_44:FS:=zas (zqP 2 3 (zac (zaB zsa (zac (zae 0) zar)) (zac (zaB zsa (zac (zae 1) zar)) zar))) (zas (zdT 20000 zaP zaV) (zbF (zd9 (zac (cOp zeq (zae 0) (zae 2)) (zac (cOp zeq (zae 1) (zae 2)) zar)))))
def F_44:List D->M D:=zcv 4 G_44
theorem d_44 (x0 x1:D):F_44 [x0,x1]=(do let o<-G_44 [some x0,some x1,none,none];zcj o):=rfl
def zcM:FS:=zmj (zaB (zav 2 F_44) (zac (cOp zdV (cOp zcg (zae 1) (cOp dIx (zae 3) (cK (.int 1)))) (cOp zcg (cOp dIx (zae 3) (cK (.int 0))) (zae 2))) (zac (cOp zcg (zae 2) (cOp dIx (zae 3) (cK (.int 1)))) zar))) (zbn 2 (zat (zaC 1) (zat (zaC 2) zbp)))
def G_45:FS:=zas (zmj (zd9 (zac (cK (.int 0)) (zac (cK (.int 1)) zar))) (zbn 2 (zat (zaC 1) (zat (zaC 2) zbp)))) (zas (zhf (iSq (zae 0)) (zaC 3) zcM) (zbF (zd9 (zac (zae 1) (zac (zae 2) zar)))))
def F_45:List D->M D:=zcv 4 G_45
theorem d_45 (x0:D):F_45 [x0]=(do let o<-G_45 [some x0,none,none,none];zcj o):=rfl
def zdU:FE:=cOp dIx (zae 1) (zae 0)
def zb6:FS:=sIf (zqg (zdn dGt (cOp dIx (zae 3) (cK (.int 0))) (cK (.int 0))) (zdn dNe (zaB (zav 1 F_45) (zac (zaH (iSq (cOp dIx (zae 4) (cK (.int 0)))) (zaC 0) (λ_=>pure true) zdU [none,some 1]) zar)) (zd9 (zac (cOp dIx (zae 4) (cK (.int 1))) (zac (cK (.int 1)) zar))))) (zbF (cK (.bl false))) zeK
def zcP:FE:=zae 0
def zcN:FT:=zdn dIn (zae 2) (cOp dIx (zae 1) (cK (.int 0)))
def zb4:FS:=zas (zbs 6 (zaH (zmp (zac (zae 2) (zac (cOp dIx (zae 0) (cK (.int 1))) zar))) (zbn 2 (zat (zaC 0) (zat (zaC 1) zbp))) zcN zcP [none,none,some 5])) (sIf (zqg (zdn dGt (cOp dIx (cOp dIx (zae 1) (zae 5)) (cK (.int 0))) (cK (.int 0))) (zdn dNe (zaB (zav 1 F_45) (zac (zae 6) zar)) (zd9 (zac (cK (.int 1)) (zac (cK (.int 1)) zar))))) (zbF (cK (.bl false))) zeK)
def G_49:FS:=zas (zhf (zmp (zac (zae 2) (zac (cOp dIx (zae 0) (cK (.int 1))) zar))) (zbn 2 (zat (zaC 3) (zat (zaC 4) zbp))) zb6) (zas (zhf (zei (zac (cOp dIx (zae 0) (cK (.int 0))) zar)) (zaC 5) zb4) (zbF (cK (.bl true))))
def F_49:List D->M D:=zcv 7 G_49
theorem d_49 (x0 x1 x2:D):F_49 [x0,x1,x2]=(do let o<-G_49 [some x0,some x1,some x2,none,none,none,none];zcj o):=rfl
def zcu:FE:=zae 1
def zcs:FT:=zdn dIn (zae 2) (cOp dIx (zae 0) (cK (.int 0)))
def G_36:FS:=zas (zbs 3 (zaB (zav 1 F_7) (zac (zaH (zmp (zac (cOp dIx (zae 0) (cK (.int 1))) (zac (zae 2) zar))) (zbn 2 (zat (zaC 0) (zat (zaC 1) zbp))) zcs zcu [none,none,some 1]) zar))) (zbF (zqL (zaB (zav 2 F_5) (zac (zae 3) (zac (zd9 (zac (cK (.int 1)) (zac (cK (.int 1)) zar))) zar)))))
def F_36:List D->M D:=zcv 4 G_36
theorem d_36 (x0 x1 x2:D):F_36 [x0,x1,x2]=(do let o<-G_36 [some x0,some x1,some x2,none];zcj o):=rfl
def zcR:FE:=zaB (zav 3 F_36) (zac (zae 1) (zac (zae 0) (zac (zae 2) zar)))
def G_30:FS:=zas (sIf (zge (zfW (zaB (zav 2 F_33) (zac (zae 1) (zac (zaB zdG (zac (cOp dIx (zae 0) (cK (.int 1))) zar)) zar))))) (zbF (cK (.bl false))) zeK) (zbF (zaB zsU (zac (zaH (zei (zac (cOp dIx (zae 0) (cK (.int 0))) zar)) (zaC 0) (λ_=>pure true) zcR [none,some 0,some 1]) zar)))
def F_30:List D->M D:=zcv 2 G_30
theorem d_30 (x0 x1:D):F_30 [x0,x1]=(do let o<-G_30 [some x0,some x1];zcj o):=rfl
def zcf:FE:=zd9 (zac (cOp zcg (cOp dIx (zae 0) (cK (.int 1))) (cOp dIx (zae 1) (cK (.int 0)))) (zac (cOp dIx (zae 1) (cK (.int 1))) zar))
def G_32:FS:=zas (sIf (zge (zfW (zaB (zav 2 F_30) (zac (zae 0) (zac (zae 1) zar))))) zrX zeK) (zbF (zaB (zav 1 F_7) (zac (zaH (zmp (zac (cOp dIx (zae 0) (cK (.int 1))) (zac (zae 1) zar))) (zbn 2 (zat (zaC 0) (zat (zaC 1) zbp))) (λ_=>pure true) zcf [none,none]) zar)))
def F_32:List D->M D:=zcv 2 G_32
theorem d_32 (x0 x1:D):F_32 [x0,x1]=(do let o<-G_32 [some x0,some x1];zcj o):=rfl
def zbE:FE:=zd9 (zac (cK (.int 0)) (zac (cK (.int 1)) zar))
def zce:FE:=cOp dIx (zae 1) (zae 0)
def za8:FS:=sIf (zdn dIn (zae 4) (zae 6)) (zas (zmj (zaB (zav 1 F_45) (zac (zaH (iSq (zae 6)) (zaC 0) (λ_=>pure true) zce [none,some 2]) zar)) (zbn 2 (zat (zaC 8) (zat (zaC 9) zbp)))) (zas (zbs 10 (zaB (zav 2 F_44) (zac (cOp zoR (cOp zcg (zae 7) (zae 9)) (zae 8)) (zac (zae 9) zar)))) (sIf (tOr (zdn zpw (zae 5) (cK .non)) (zdn dLt (cOp zcg (cOp dIx (zae 10) (cK (.int 0))) (cOp dIx (zae 5) (cK (.int 1)))) (cOp zcg (cOp dIx (zae 5) (cK (.int 0))) (cOp dIx (zae 10) (cK (.int 1)))))) (zbs 5 (zae 10)) zeK))) zeK
def zbl:FT:=zdn zqR (zae 3) (zly zar)
def zbG:FS:=zas (zbs 4 (ztM (zae 3) (zaB (zav 2 F_39) (zac (zae 0) (zac (zaB zdG (zac (zae 3) zar)) zar))))) (zas (zbs 5 (cK .non)) (zas (zhf (iSq (cOp dIx (zae 1) (cK (.int 1)))) (zbn 2 (zat (zaC 6) (zat (zaC 7) zbp))) za8) (zas (zbs 11 (cOp dIx (zly (zac (zd9 (zac (cK (.int 1)) (zac (cK (.int 1)) zar))) (zac (zd9 (zac (cK (.int 1)) (zac (cK (.int 1)) zar))) (zac (zd9 (zac (cK (.int 1)) (zac (cK (.int 2)) zar))) (zac (zd9 (zac (cK (.int 2)) (zac (cK (.int 3)) zar))) (zac (zd9 (zac (cK (.int 0)) (zac (cK (.int 1)) zar))) zar)))))) (zaB (zav 2 F_39) (zac (zae 0) (zac (cK (.int 5)) zar))))) (sIf (zdn zin (zae 5) (cK .non)) (zmj (zaB (zav 2 F_44) (zac (cOp zcg (cOp dIx (zae 5) (cK (.int 0))) (cOp dIx (zae 11) (cK (.int 0)))) (zac (cOp zcg (cOp dIx (zae 5) (cK (.int 1))) (cOp dIx (zae 11) (cK (.int 1)))) zar))) (zjY (zae 2) (zae 4))) zeK))))
def G_46:FS:=zas (zbs 2 (zew (zei (zac (cOp dIx (zae 1) (cK (.int 0))) zar)) (zaC 0) (λ_=>pure true) zbE [none])) (zas (zbs 3 (cUn zfn (cOp dIx (zae 1) (cK (.int 0))))) (zas (zdT 1000 zbl zbG) (zbF (zaB zbX (zac (zae 2) zar)))))
def F_46:List D->M D:=zcv 12 G_46
theorem d_46 (x0 x1:D):F_46 [x0,x1]=(do let o<-G_46 [some x0,some x1,none,none,none,none,none,none,none,none,none,none];zcj o):=rfl
def zdr:FE:=zae 0
def zdv:FT:=zdn zl0 (zae 0) (zae 1)
def zdq:FS:=zbs 2 (cOp zdV (zae 2) (zaH (iSq (cOp dIx (cOp dIx (cOp dIx (zae 0) (cK (.int 1))) (zae 3)) (cK (.int 0)))) (zaC 0) zdv zdr [none,some 2]))
def G_42:FS:=zas (zbs 2 (zly zar)) (zas (zhf (iSq (zae 1)) (zaC 3) zdq) (zbF (zaB zbX (zac (zaB zez (zac (zae 2) zar)) zar))))
def F_42:List D->M D:=zcv 4 G_42
theorem d_42 (x0 x1:D):F_42 [x0,x1]=(do let o<-G_42 [some x0,some x1,none,none];zcj o):=rfl
def zb3:FT:=zdn dLt (zaB zdG (zac (zaB (zav 2 F_42) (zac (zae 1) (zac (zae 3) zar))) zar)) (cOp dIx (zae 1) (cK (.int 0)))
def zb7:FS:=zbs 3 (cOp zdV (zae 3) (zd9 (zac (ztM (zae 2) (zaB (zav 2 F_39) (zac (zae 0) (zac (zaB zdG (zac (zae 2) zar)) zar)))) zar)))
def G_43:FS:=zas (zbs 2 (cUn zfn (zaB zdG (zac (cOp dIx (zae 1) (cK (.int 1))) zar)))) (zas (zbs 3 (zd9 zar)) (zas (zdT 1000 zb3 zb7) (zbF (zaB zbX (zac (zaB zez (zac (zae 3) zar)) zar)))))
def F_43:List D->M D:=zcv 4 G_43
theorem d_43 (x0 x1:D):F_43 [x0,x1]=(do let o<-G_43 [some x0,some x1,none,none];zcj o):=rfl
def zcp:FE:=zaB (zav 2 F_43) (zac (zae 1) (zac (zae 2) zar))
def zch:FE:=zae 0
def zcn:FT:=zdn dIn (zae 1) (zae 0)
def zbI:FS:=zhC (zd0 (zae 3) (zaB (zav 2 F_44) (zac (zaB zdG (zac (zaH (iSq (zae 2)) (zaC 0) zcn zch [none,some 4]) zar)) (zac (zaB zdG (zac (zae 2) zar)) zar))))
def G_47:FS:=zas (zbs 2 (zaH (zei (zac (cOp zdV (cK (.int 1)) (zaB (zav 2 F_39) (zac (zae 0) (zac (cK (.int 3)) zar)))) zar)) (zaC 0) (λ_=>pure true) zcp [none,some 0,some 1])) (zas (zbs 3 (zhw zar)) (zas (zhf (zei (zac (zaB zdG (zac (cOp dIx (zae 1) (cK (.int 1))) zar)) zar)) (zaC 4) zbI) (zbF (zaB zbX (zac (zae 3) zar)))))
def F_47:List D->M D:=zcv 5 G_47
theorem d_47 (x0 x1:D):F_47 [x0,x1]=(do let o<-G_47 [some x0,some x1,none,none,none];zcj o):=rfl
def G_48:FS:=zbF (cOp dLt (cOp zcg (cOp dIx (zae 0) (cK (.int 0))) (cOp dIx (zae 1) (cK (.int 1)))) (cOp zcg (cOp dIx (zae 1) (cK (.int 0))) (cOp dIx (zae 0) (cK (.int 1)))))
def F_48:List D->M D:=zcv 2 G_48
theorem d_48 (x0 x1:D):F_48 [x0,x1]=(do let o<-G_48 [some x0,some x1];zcj o):=rfl
def zbv:FS:=zas (sIf (tOr (zge (zfW (zaB (zav 1 F_0) (zac (zae 3) zar)))) (tOr (zdn dLt (zae 3) (zae 2)) (zdn dGe (zae 3) (zae 1)))) (zbF (cK (.bl false))) zeK) (zbs 2 (cOp zdV (zae 3) (cK (.int 1))))
def G_2:FS:=zas (sIf (zge (zfW (cUn (zjT "tuple") (zae 0)))) (zbF (cK (.bl false))) zeK) (zas (zbs 2 (cK (.int 0))) (zas (zhf (iSq (zae 0)) (zaC 3) zbv) (zbF (cK (.bl true)))))
def F_2:List D->M D:=zcv 4 G_2
theorem d_2 (x0 x1:D):F_2 [x0,x1]=(do let o<-G_2 [some x0,some x1,none,none];zcj o):=rfl
def G_12:FS:=zbF (zaB (zav 2 F_2) (zac (zae 1) (zac (zaB zdG (zac (cOp dIx (zae 0) (cK (.int 1))) zar)) zar)))
def F_12:List D->M D:=zcv 2 G_12
theorem d_12 (x0 x1:D):F_12 [x0,x1]=(do let o<-G_12 [some x0,some x1];zcj o):=rfl
def G_16:FS:=sIf (zge (zfW (zaB (zav 2 F_12) (zac (zae 0) (zac (zae 1) zar))))) zrX zeK
def F_16:List D->M D:=zcv 2 G_16
theorem d_16 (x0 x1:D):F_16 [x0,x1]=(do let o<-G_16 [some x0,some x1];zcj o):=rfl
def zeg:FE:=cOp dIx (cOp dIx (zae 1) (cK (.int 1))) (zae 0)
def G_17:FS:=zas (zhC (zaB (zav 2 F_16) (zac (zae 0) (zac (zae 1) zar)))) (zbF (zaH (iSq (zae 1)) (zaC 0) (λ_=>pure true) zeg [none,some 0]))
def F_17:List D->M D:=zcv 2 G_17
theorem d_17 (x0 x1:D):F_17 [x0,x1]=(do let o<-G_17 [some x0,some x1];zcj o):=rfl
def zdt:FE:=cOp dIx (zae 0) (cK (.int 1))
def G_14:FS:=zbF (zaB zum (zac (zaH (iSq (zaB (zav 2 F_17) (zac (zae 0) (zac (zae 1) zar)))) (zaC 0) (λ_=>pure true) zdt [none]) zar))
def F_14:List D->M D:=zcv 2 G_14
theorem d_14 (x0 x1:D):F_14 [x0,x1]=(do let o<-G_14 [some x0,some x1];zcj o):=rfl
def zbb:FE:=zd9 (zac (zaB zp5 (zac (cOp dIn (zae 0) (zae 1)) zar)) (zac (cK (.int 1)) zar))
def G_50:FS:=zas (zbs 3 (zaB (zav 2 F_46) (zac (zae 0) (zac (zae 1) zar)))) (zas (zbs 4 (zaB (zav 2 F_47) (zac (zae 0) (zac (zae 1) zar)))) (zas (zbs 5 (zaB (zav 2 F_43) (zac (zae 0) (zac (zae 1) zar)))) (zas (sIf (tOr (zge (zfW (zaB (zav 2 F_29) (zac (zae 1) (zac (zae 3) zar))))) (zge (zfW (zaB (zav 2 F_30) (zac (zae 1) (zac (zae 4) zar)))))) (zbF (cK (.bl false))) zeK) (zas (sIf (tOr (zfW (zaB (zav 2 F_48) (zac (zae 2) (zac (zaB (zav 2 F_31) (zac (zae 1) (zac (zae 3) zar))) zar)))) (zfW (zaB (zav 2 F_48) (zac (zaB (zav 2 F_32) (zac (zae 1) (zac (zae 4) zar))) (zac (zae 2) zar))))) (zbF (cK (.bl false))) zeK) (zas (zbs 6 (zaB zbX (zac (zaH (zei (zac (zaB zdG (zac (cOp dIx (zae 1) (cK (.int 1))) zar)) zar)) (zaC 0) (λ_=>pure true) zbb [none,some 5]) zar))) (zas (zbs 7 (zaB (zav 2 F_14) (zac (zae 1) (zac (zae 5) zar)))) (zbF (zmF (cOp dEq (zaB (zav 2 F_32) (zac (zae 1) (zac (zae 6) zar))) (zd9 (zac (zae 7) (zac (cK (.int 1)) zar)))) (zqL (zaB (zav 2 F_48) (zac (zd9 (zac (zae 7) (zac (cK (.int 1)) zar))) (zac (zae 2) zar))))))))))))
def F_50:List D->M D:=zcv 8 G_50
theorem d_50 (x0 x1 x2:D):F_50 [x0,x1,x2]=(do let o<-G_50 [some x0,some x1,some x2,none,none,none,none,none];zcj o):=rfl
def zgu:FE:=zd9 (zac (zae 0) (zac (cOp zcg (zae 1) (zae 2)) zar))
def zfe:FS:=zas (zbs 2 (zaB (zav 2 F_38) (zac (zae 0) (zac (zae 1) zar)))) (zas (zbs 3 (zaB (zav 3 F_41) (zac (zae 2) (zac (cK (.int 10)) (zac (cK (.int 10)) zar))))) (zas (zmj (zaB (zav 1 F_20) (zac (zae 3) zar)) (zbn 2 (zat (zaC 4) (zat (zaC 5) zbp)))) (zas (zbs 6 (zaB (zav 2 F_31) (zac (zae 3) (zac (zae 4) zar)))) (zas (sIf (tOr (zdn dNe (zae 6) (zaB (zav 2 F_32) (zac (zae 3) (zac (zae 5) zar)))) (zge (zfW (zaB (zav 3 F_49) (zac (zae 3) (zac (zae 4) (zac (zae 5) zar))))))) (zbF (cK (.bl false))) zeK) (zas (sIf (tOr (zge (zfW (zaB (zav 3 F_50) (zac (zae 2) (zac (zae 3) (zac (zae 6) zar)))))) (zge (zfW (zaB (zav 3 F_50) (zac (zae 2) (zac (zae 3) (zac (zae 6) zar))))))) (zbF (cK (.bl false))) zeK) (zas (zbs 7 (cOp zdV (cK (.int 2)) (zaB (zav 2 F_39) (zac (zae 2) (zac (cK (.int 9)) zar))))) (zas (zbs 8 (zd9 (zac (cOp dIx (zae 3) (cK (.int 0))) (zac (zaB zbX (zac (zaH (iSq (cOp dIx (zae 3) (cK (.int 1)))) (zbn 2 (zat (zaC 0) (zat (zaC 1) zbp))) (λ_=>pure true) zgu [none,none,some 7]) zar)) zar)))) (sIf (zdn dNe (zaB (zav 2 F_31) (zac (zae 8) (zac (cOp dIx (zaB (zav 1 F_20) (zac (zae 8) zar)) (cK (.int 0))) zar))) (zaB (zav 2 F_44) (zac (cOp zcg (cOp dIx (zae 6) (cK (.int 0))) (zae 7)) (zac (cOp dIx (zae 6) (cK (.int 1))) zar)))) (zbF (cK (.bl false))) zeK))))))))
def G_51:FS:=zas (zhf (zei (zac (zaB zqh (zac (cK (.int 1)) (zac (zaB zo3 (zac (zaB zdG (zac (zae 0) zar)) (zac (cK (.int 3)) zar))) zar))) zar)) (zaC 1) zfe) (zbF (cK (.bl true)))
def F_51:List D->M D:=zcv 9 G_51
theorem d_51 (x0:D):F_51 [x0]=(do let o<-G_51 [some x0,none,none,none,none,none,none,none,none];zcj o):=rfl
end K34
set_option genInjectivity false
set_option genSizeOf false
set_option genSizeOfSpec false
namespace K34
open L2 L3
set_option hygiene false in
local macro_rules
|`(tactic|ext a)=>`(tactic|refine zaa ?_ ?_)
|`(tactic|ext b)=>`(tactic|exact (hr.mono (by decide)))
|`(tactic|ext c)=>`(tactic|refine zaQ ?_ ?_)
|`(tactic|ext d)=>`(tactic|refine zag ?_ ?_)
|`(tactic|ext e)=>`(tactic|refine zak (k:=1) (g:=t.a_39) (fd:=t.d_39) (ps:=["box","many"]) ?_ ?_ ?_ ?_ ?_ ?_)
|`(tactic|ext f)=>`(tactic|refine zbe ?_ ?_ ?_)
|`(tactic|ext g)=>`(tactic|exact zad)
|`(tactic|ext h)=>`(tactic|exact zab 0)
|`(tactic|ext i)=>`(tactic|refine zai ?_)
|`(tactic|ext j)=>`(tactic|exact zah)
|`(tactic|ext k)=>`(tactic|exact zab 1)
|`(tactic|ext l)=>`(tactic|refine zaK (id:="len") ?_ ?_ ?_ ?_)
|`(tactic|ext m)=>`(tactic|exact (zaD.name (i:=0) rfl))
|`(tactic|ext n)=>`(tactic|refine zaM ?_)
|`(tactic|ext o)=>`(tactic|refine zaX ?_ ?_ ?_)
|`(tactic|ext p)=>`(tactic|exact (zaD.tup (zaT.cons (i:=0) rfl (zaT.cons (i:=1) rfl zaT.nil))))
|`(tactic|ext q)=>`(tactic|exact zab 2)
|`(tactic|ext r)=>`(tactic|refine zbi (T:="tuple") ?_ ?_ ?_ ?_)
|`(tactic|ext s)=>`(tactic|refine zak (k:=1) (g:=t.a_44) (fd:=t.d_44) (ps:=["top","bottom"]) ?_ ?_ ?_ ?_ ?_ ?_)
|`(tactic|ext t)=>`(tactic|exact (BOk.of (Xn:=(zaf s_41).names) (XN:=["box","most","lots","many","far","rows","thing","row"]) rfl rfl rfl ⋯))
|`(tactic|ext u)=>`(tactic|refine zeV ?_ ?_ ?_)
|`(tactic|ext v)=>`(tactic|exact zab 3)
|`(tactic|ext w)=>`(tactic|refine zaz ?_ ?_)
|`(tactic|ext x)=>`(tactic|exact (BOk.of (Xn:=(zaf s_46).names) (XN:=["box","stock","found","left","thing","room","things","price","top","bottom","here","part"]) rfl rfl rfl ⋯))
|`(tactic|ext y)=>`(tactic|exact PassesOwn.never)
|`(tactic|ext z)=>`(tactic|refine zdZ ?_ ?_ ?_ ?_ ?_)
|`(tactic|ext A)=>`(tactic|refine zak (k:=3) (g:=t.a_7) (fd:=t.d_7) (ps:=["fractions"]) ?_ ?_ ?_ ?_ ?_ ?_)
|`(tactic|ext B)=>`(tactic|exact rfl)
|`(tactic|ext C)=>`(tactic|exact (BOk.of (Xn:=(zaf s_49).names) (XN:=["stock","bears","shares","share","offer","thing","some"]) rfl rfl rfl ⋯))
|`(tactic|ext D)=>`(tactic|refine zak (k:=6) (g:=t.a_31) (fd:=t.d_31) (ps:=["stock","bearing"]) ?_ ?_ ?_ ?_ ?_ ?_)
|`(tactic|ext E)=>`(tactic|refine zak (k:=6) (g:=t.a_32) (fd:=t.d_32) (ps:=["stock","sharing"]) ?_ ?_ ?_ ?_ ?_ ?_)
|`(tactic|ext F)=>`(tactic|exact (BOk.of (Xn:=(zaf s_21).names) (XN:=["stock","rows","count","number","offer","things"]) rfl rfl rfl ⋯))
|`(tactic|ext G)=>`(tactic|refine zak (k:=1) (g:=t.a_48) (fd:=t.d_48) (ps:=["one","other"]) ?_ ?_ ?_ ?_ ?_ ?_)
|`(tactic|ext H)=>`(tactic|refine zak (k:=2) (g:=t.a_3) (fd:=t.d_3) (ps:=["top","bottom"]) ?_ ?_ ?_ ?_ ?_ ?_)
|`(tactic|ext I)=>`(tactic|exact (BOk.of (Xn:=(zaf s_40).names) (XN:=["box","many","way","bits","first","step"]) rfl rfl rfl ⋯))
|`(tactic|ext J)=>`(tactic|refine zbV ?_)
|`(tactic|ext K)=>`(tactic|exact (BOk.of (Xn:=(zaf s_27).names) (XN:=["stock","rows","basis","bottom","borne"]) rfl rfl rfl ⋯))
|`(tactic|ext L)=>`(tactic|exact (BOk.of (Xn:=(zaf s_47).names) (XN:=["box","stock","covers","found","offer"]) rfl rfl rfl ⋯))
|`(tactic|ext M)=>`(tactic|refine zaG 2 ?_ ?_)
|`(tactic|ext N)=>`(tactic|refine zaG 3 ?_ ?_)
|`(tactic|ext O)=>`(tactic|exact T.n_range)
|`(tactic|ext P)=>`(tactic|refine zak (k:=2) (g:=t.a_45) (fd:=t.d_45) (ps:=["some"]) ?_ ?_ ?_ ?_ ?_ ?_)
|`(tactic|ext Q)=>`(tactic|refine zda ?_ ?_)
|`(tactic|ext R)=>`(tactic|refine zak (k:=1) (g:=t.a_0) (fd:=t.d_0) (ps:=["thing"]) ?_ ?_ ?_ ?_ ?_ ?_)
|`(tactic|ext S)=>`(tactic|exact T.n_len)
|`(tactic|ext T)=>`(tactic|refine zeZ ?_ ?_ ?_)
|`(tactic|ext U)=>`(tactic|refine zak (k:=7) (g:=t.a_50) (fd:=t.d_50) (ps:=["box","stock","best"]) ?_ ?_ ?_ ?_ ?_ ?_)
|`(tactic|ext V)=>`(tactic|refine zcE ?_ ?_)
|`(tactic|ext W)=>`(tactic|exact T.n_tuple)
|`(tactic|ext X)=>`(tactic|refine zak (k:=1) (g:=t.a_5) (fd:=t.d_5) (ps:=["fraction","other"]) ?_ ?_ ?_ ?_ ?_ ?_)
|`(tactic|ext Y)=>`(tactic|refine zak (k:=5) (g:=t.a_29) (fd:=t.d_29) (ps:=["stock","thing"]) ?_ ?_ ?_ ?_ ?_ ?_)
|`(tactic|ext Z)=>`(tactic|refine zak (k:=5) (g:=t.a_30) (fd:=t.d_30) (ps:=["stock","thing"]) ?_ ?_ ?_ ?_ ?_ ?_)
|`(tactic|ext aa)=>`(tactic|refine zak (k:=4) (g:=t.a_33) (fd:=t.d_33) (ps:=["thing","many"]) ?_ ?_ ?_ ?_ ?_ ?_)
|`(tactic|ext ab)=>`(tactic|refine zak (k:=2) (g:=t.a_43) (fd:=t.d_43) (ps:=["box","stock"]) ?_ ?_ ?_ ?_ ?_ ?_)
|`(tactic|ext ac)=>`(tactic|refine zbU ?_)
|`(tactic|ext ad)=>`(tactic|refine zak (k:=1) (g:=t.a_4) (fd:=t.d_4) (ps:=["top","bottom"]) ?_ ?_ ?_ ?_ ?_ ?_)
|`(tactic|ext ae)=>`(tactic|exact (zdQ (zeX hr)))
|`(tactic|ext af)=>`(tactic|exact zab 4)
|`(tactic|ext ag)=>`(tactic|exact T.F_39.kp)
|`(tactic|ext ah)=>`(tactic|exact zab 5)
|`(tactic|ext ai)=>`(tactic|refine zdo ?_)
|`(tactic|ext aj)=>`(tactic|refine zaG 4 ?_ ?_)
|`(tactic|ext ak)=>`(tactic|refine zcr ?_)
|`(tactic|ext al)=>`(tactic|refine zfz ?_ ?_)
|`(tactic|ext am)=>`(tactic|exact T.m_39)
|`(tactic|ext an)=>`(tactic|exact T.b_39)
|`(tactic|ext ao)=>`(tactic|exact (zfB (zeX hr)))
|`(tactic|ext ap)=>`(tactic|exact zaW)
|`(tactic|ext aq)=>`(tactic|exact zbm)
|`(tactic|ext ar)=>`(tactic|refine zkI ?_ ?_ ?_ ?_ ?_)
|`(tactic|ext as)=>`(tactic|refine zgD ?_ ?_)
|`(tactic|ext au)=>`(tactic|exact zbu)
|`(tactic|ext av)=>`(tactic|refine zck ?_)
|`(tactic|ext aw)=>`(tactic|refine zaG 1 ?_ ?_)
|`(tactic|ext ax)=>`(tactic|exact za6)
|`(tactic|ext ay)=>`(tactic|exact zaI)
|`(tactic|ext az)=>`(tactic|exact zbD)
|`(tactic|ext aA)=>`(tactic|(ext i;ext n))
|`(tactic|ext aB)=>`(tactic|(ext j;ext g))
|`(tactic|ext aC)=>`(tactic|(ext c;ext h))
|`(tactic|ext aD)=>`(tactic|(ext a;ext k))
|`(tactic|ext aE)=>`(tactic|(ext a;ext h))
|`(tactic|ext aF)=>`(tactic|(ext f;ext ap))
|`(tactic|ext aG)=>`(tactic|(ext a;ext aB))
|`(tactic|ext aH)=>`(tactic|(ext c;ext k))
|`(tactic|ext aI)=>`(tactic|(ext a;ext v))
|`(tactic|ext aJ)=>`(tactic|(ext a;ext q))
|`(tactic|ext aK)=>`(tactic|(ext aD;ext g))
|`(tactic|ext aL)=>`(tactic|(ext J;ext a))
|`(tactic|ext aM)=>`(tactic|(ext aC;ext j))
|`(tactic|ext aN)=>`(tactic|(ext f;ext ax))
|`(tactic|ext aO)=>`(tactic|(ext l;ext ay))
|`(tactic|ext aP)=>`(tactic|(ext aO;ext az))
|`(tactic|ext aQ)=>`(tactic|(ext aP;ext S))
|`(tactic|ext aR)=>`(tactic|(ext Q;ext O))
|`(tactic|ext aS)=>`(tactic|(ext g;ext g))
|`(tactic|ext aT)=>`(tactic|(ext aC;ext aB))
|`(tactic|ext aU)=>`(tactic|(ext a;ext aT))
|`(tactic|ext aV)=>`(tactic|(ext ak;ext ac))
|`(tactic|ext aW)=>`(tactic|(ext aE;ext aK))
|`(tactic|ext aX)=>`(tactic|(ext d;ext z))
|`(tactic|ext aY)=>`(tactic|(ext aX;ext B))
|`(tactic|ext aZ)=>`(tactic|(ext aY;ext y))
|`(tactic|ext ba)=>`(tactic|(ext b;ext am))
|`(tactic|ext bb)=>`(tactic|(ext ba;ext ag))
|`(tactic|ext bc)=>`(tactic|(ext bb;ext an))
|`(tactic|ext bd)=>`(tactic|(ext V;ext B))
|`(tactic|ext be)=>`(tactic|(ext bd;ext w))
|`(tactic|ext bf)=>`(tactic|(ext d;ext u))
|`(tactic|ext bg)=>`(tactic|(ext d;ext M))
|`(tactic|ext bh)=>`(tactic|(ext d;ext N))
|`(tactic|ext bi)=>`(tactic|(ext v;ext j))
|`(tactic|ext bj)=>`(tactic|(ext a;ext aQ))
|`(tactic|ext bk)=>`(tactic|(ext g;ext aA))
|`(tactic|ext bl)=>`(tactic|(ext aq;ext aA))
|`(tactic|ext bm)=>`(tactic|(ext m;ext aR))
|`(tactic|ext bn)=>`(tactic|(ext aH;ext j))
abbrev ya:List Str:=["stock","lot"]
abbrev yb:List Str:=["stock","thing"]
abbrev yc:List Str:=["row","chosen","column","bottom"]
abbrev ye:List Str:=["thing"]
abbrev yf:List Str:=["script","k","box","stock","bears","shares","best","often","dearer"]
abbrev yg:List Str:=["box","stock","found","left","thing","room","things","price","top","bottom","here","part"]
abbrev yh:List Str:=["stock"]
abbrev yi:List Str:=["box","stock"]
abbrev yj:List Str:=["box","stock","best","bears","shares","cover","ones","price"]
abbrev yk:List Str:=["rows","basis","column","place","best"]
abbrev yn:List Str:=["top","bottom"]
abbrev yo:List Str:=["stock","rows","bottom"]
abbrev yp:List Str:=["rows","place","column","bottom"]
abbrev yq:List Str:=["stock","rows","basis","bottom","column","place"]
abbrev yr:List Str:=["stock","rows","basis","bottom"]
abbrev yt:List Str:=["script","k"]
abbrev yu:List Str:=["rows","place","column","bottom","chosen"]
abbrev yw:List Str:=["stock","bears","shares","share","offer","thing","some"]
abbrev yx:List Str:=["box","most","lots","many","far","rows","thing","row"]
abbrev yy:List Str:=["rows","basis","column","place","best","room","other"]
abbrev yz:List Str:=["stock","bears","shares"]
abbrev yaa:List Str:=["stock","thing","shares"]
abbrev yab:List Str:=["box","many"]
abbrev yac:List Str:=["stock","sharing"]
abbrev yad:List Str:=["rows","basis","column"]
abbrev yae:List Str:=["stock","rows","count","number","offer","things"]
abbrev yaf:List Str:=["stock","offers"]
abbrev yag:List Str:=["fraction","other"]
abbrev yah:List Str:=["stock","bearing"]
abbrev yai:List Str:=["thing","many"]
abbrev yaj:List Str:=["stock","thing","shares","had"]
abbrev yak:List Str:=["box","most","lots"]
abbrev yal:List Str:=["script","k","cell","number","mixed","j"]
abbrev yam:List Str:=["box","many","way","bits","first","step"]
abbrev yan:List Str:=["stock","lot","found","offer"]
abbrev yao:List Str:=["stock","rows","basis","bottom","borne"]
abbrev yap:List Str:=["rows","basis","column","best","place"]
abbrev yaq:List Str:=["box","stock","covers","found","offer"]
abbrev yar:List Str:=["fractions","top","bottom","fraction"]
abbrev yas:List Str:=["top","bottom","one","other","rest"]
abbrev yat:List Str:=["box","stock","best"]
abbrev yau:List Str:=["offer","shares"]
abbrev yav:List Str:=["one","other"]
abbrev yaw:List Str:=["offer","shares","borne"]
abbrev yax:List Str:=["thing","bound"]
abbrev yay:List Str:=["number","row","place","chosen","column","bottom"]
abbrev yaz:List Str:=["thing","bound","least","number"]
abbrev yba:List Str:=["one","other","chosen","column","row","bottom"]
abbrev ybb:List Str:=["top","bottom","one","other"]
abbrev ybc:List Str:=["box","stock","left","found"]
abbrev ybd:List Str:=["some","top","bottom","one"]
abbrev ybe:List Str:=["offers","things","offer"]
abbrev ybf:List Str:=["top","bottom","shared"]
abbrev ybg:List Str:=["rows","goal","column"]
abbrev ybh:List Str:=["number","stock"]
abbrev ybi:List Str:=["script"]
abbrev ybj:List Str:=["box","many","digit"]
abbrev ybk:List Str:=["fractions"]
abbrev ybl:List Str:=["offers"]
def top (i:Nat):Stmt:=PySem.Challenge.pw_cheapcovers_k34_whole_both_sides.main.body.getD i (.Pass ⟨0,0,0,0⟩)
theorem zeX {A:Around} {k:Nat} (hr:zfN k A):A.units+60<cLine:=by have:=hr.units;omega
theorem zn8:bootBuiltins "abs"=some (.builtin "abs"):=by decide +kernel
theorem zl8:bootBuiltins "all"=some (.builtin "all"):=by decide +kernel
theorem zqA:bootBuiltins "bool"=some (.type "bool"):=by decide +kernel
theorem zpL:bootBuiltins "dict"=some (.type "dict"):=by decide +kernel
theorem zoI:bootBuiltins "int"=some (.type "int"):=by decide +kernel
theorem zbD:bootBuiltins "len"=some (.builtin "len"):=by decide +kernel
theorem ztr:bootBuiltins "max"=some (.builtin "max"):=by decide +kernel
theorem zrh:bootBuiltins "min"=some (.builtin "min"):=by decide +kernel
theorem zfy:bootBuiltins "sorted"=some (.builtin "sorted"):=by decide +kernel
theorem zrI:bootBuiltins "sum"=some (.builtin "sum"):=by decide +kernel
theorem zbc:bootBuiltins "tuple"=some (.type "tuple"):=by decide +kernel
abbrev s_37:Stmt:=top 43
abbrev s_38:Stmt:=top 44
abbrev s_39:Stmt:=top 45
abbrev s_40:Stmt:=top 46
abbrev s_41:Stmt:=top 47
abbrev s_18:Stmt:=top 21
abbrev s_19:Stmt:=top 22
abbrev s_13:Stmt:=top 16
abbrev s_15:Stmt:=top 18
abbrev s_21:Stmt:=top 25
abbrev s_22:Stmt:=top 26
abbrev s_24:Stmt:=top 28
abbrev s_23:Stmt:=top 27
abbrev s_26:Stmt:=top 30
abbrev s_25:Stmt:=top 29
abbrev s_4:Stmt:=top 5
abbrev s_3:Stmt:=top 4
abbrev s_27:Stmt:=top 31
abbrev s_28:Stmt:=top 32
abbrev s_20:Stmt:=top 24
abbrev s_7:Stmt:=top 8
abbrev s_5:Stmt:=top 6
abbrev s_35:Stmt:=top 40
abbrev s_0:Stmt:=top 1
abbrev s_1:Stmt:=top 2
abbrev s_6:Stmt:=top 7
abbrev s_34:Stmt:=top 39
abbrev s_33:Stmt:=top 38
abbrev s_29:Stmt:=top 34
abbrev s_31:Stmt:=top 36
abbrev s_44:Stmt:=top 50
abbrev s_45:Stmt:=top 51
abbrev s_49:Stmt:=top 55
abbrev s_36:Stmt:=top 41
abbrev s_30:Stmt:=top 35
abbrev s_32:Stmt:=top 37
abbrev s_46:Stmt:=top 52
abbrev s_42:Stmt:=top 48
abbrev s_43:Stmt:=top 49
abbrev s_47:Stmt:=top 53
abbrev s_48:Stmt:=top 54
abbrev s_2:Stmt:=top 3
abbrev s_12:Stmt:=top 15
abbrev s_16:Stmt:=top 19
abbrev s_17:Stmt:=top 20
abbrev s_14:Stmt:=top 17
abbrev s_50:Stmt:=top 56
abbrev s_51:Stmt:=top 57
structure Ad where
 a_37:Addr
 d_37:FuncData
 a_38:Addr
 d_38:FuncData
 a_39:Addr
 d_39:FuncData
 a_40:Addr
 d_40:FuncData
 a_41:Addr
 d_41:FuncData
 a_18:Addr
 d_18:FuncData
 a_19:Addr
 d_19:FuncData
 a_13:Addr
 d_13:FuncData
 a_15:Addr
 d_15:FuncData
 a_21:Addr
 d_21:FuncData
 a_22:Addr
 d_22:FuncData
 a_24:Addr
 d_24:FuncData
 a_23:Addr
 d_23:FuncData
 a_26:Addr
 d_26:FuncData
 a_25:Addr
 d_25:FuncData
 a_4:Addr
 d_4:FuncData
 a_3:Addr
 d_3:FuncData
 a_27:Addr
 d_27:FuncData
 a_28:Addr
 d_28:FuncData
 a_20:Addr
 d_20:FuncData
 a_7:Addr
 d_7:FuncData
 a_5:Addr
 d_5:FuncData
 a_35:Addr
 d_35:FuncData
 a_0:Addr
 d_0:FuncData
 a_1:Addr
 d_1:FuncData
 a_6:Addr
 d_6:FuncData
 a_34:Addr
 d_34:FuncData
 a_33:Addr
 d_33:FuncData
 a_29:Addr
 d_29:FuncData
 a_31:Addr
 d_31:FuncData
 a_44:Addr
 d_44:FuncData
 a_45:Addr
 d_45:FuncData
 a_49:Addr
 d_49:FuncData
 a_36:Addr
 d_36:FuncData
 a_30:Addr
 d_30:FuncData
 a_32:Addr
 d_32:FuncData
 a_46:Addr
 d_46:FuncData
 a_42:Addr
 d_42:FuncData
 a_43:Addr
 d_43:FuncData
 a_47:Addr
 d_47:FuncData
 a_48:Addr
 d_48:FuncData
 a_2:Addr
 d_2:FuncData
 a_12:Addr
 d_12:FuncData
 a_16:Addr
 d_16:FuncData
 a_17:Addr
 d_17:FuncData
 a_14:Addr
 d_14:FuncData
 a_50:Addr
 d_50:FuncData
 a_51:Addr
 d_51:FuncData
structure Tx (K:W.Frag) (mg:Str->Option Value) (t:Ad):Prop where
 n_abs:mg "abs"=none
 n_all:mg "all"=none
 n_bool:mg "bool"=none
 n_dict:mg "dict"=none
 n_enumerate:mg "enumerate"=none
 n_int:mg "int"=none
 n_isinstance:mg "isinstance"=none
 n_len:mg "len"=none
 n_list:mg "list"=none
 n_max:mg "max"=none
 n_min:mg "min"=none
 n_range:mg "range"=none
 n_set:mg "set"=none
 n_sorted:mg "sorted"=none
 n_sum:mg "sum"=none
 n_tuple:mg "tuple"=none
 n_zip:mg "zip"=none
 m_37:mg "_law_cell"=some (.ref t.a_37)
 F_37:Fun K "_law_cell" "_law_cell" s_37 t.a_37 t.d_37
 b_37:zaS K t.d_37 yt []
 m_38:mg "_law_box"=some (.ref t.a_38)
 F_38:Fun K "_law_box" "_law_box" s_38 t.a_38 t.d_38
 b_38:zaS K t.d_38 yt []
 m_39:mg "_law_take"=some (.ref t.a_39)
 F_39:Fun K "_law_take" "_law_take" s_39 t.a_39 t.d_39
 b_39:zaS K t.d_39 yab []
 m_40:mg "_law_things"=some (.ref t.a_40)
 F_40:Fun K "_law_things" "_law_things" s_40 t.a_40 t.d_40
 b_40:zaS K t.d_40 yab []
 m_41:mg "_law_full"=some (.ref t.a_41)
 F_41:Fun K "_law_full" "_law_full" s_41 t.a_41 t.d_41
 b_41:zaS K t.d_41 yak []
 m_18:mg "things_together"=some (.ref t.a_18)
 F_18:Fun K "things_together" "things_together" s_18 t.a_18 t.d_18
 b_18:zaS K t.d_18 ybl []
 m_19:mg "have_all"=some (.ref t.a_19)
 F_19:Fun K "have_all" "have_all" s_19 t.a_19 t.d_19
 b_19:zaS K t.d_19 yaf []
 m_13:mg "is_full"=some (.ref t.a_13)
 F_13:Fun K "is_full" "is_full" s_13 t.a_13 t.d_13
 b_13:zaS K t.d_13 yh []
 m_15:mg "need_full"=some (.ref t.a_15)
 F_15:Fun K "need_full" "need_full" s_15 t.a_15 t.d_15
 b_15:zaS K t.d_15 yh []
 m_21:mg "first_rows"=some (.ref t.a_21)
 F_21:Fun K "first_rows" "first_rows" s_21 t.a_21 t.d_21
 b_21:zaS K t.d_21 yh []
 m_22:mg "column_to_enter"=some (.ref t.a_22)
 F_22:Fun K "column_to_enter" "column_to_enter" s_22 t.a_22 t.d_22
 b_22:zaS K t.d_22 ["rows"] []
 m_24:mg "leaves_ahead"=some (.ref t.a_24)
 F_24:Fun K "leaves_ahead" "leaves_ahead" s_24 t.a_24 t.d_24
 b_24:zaS K t.d_24 yk []
 m_23:mg "place_to_leave"=some (.ref t.a_23)
 F_23:Fun K "place_to_leave" "place_to_leave" s_23 t.a_23 t.d_23
 b_23:zaS K t.d_23 yad []
 m_26:mg "swept"=some (.ref t.a_26)
 F_26:Fun K "swept" "swept" s_26 t.a_26 t.d_26
 b_26:zaS K t.d_26 yc []
 m_25:mg "pivoted"=some (.ref t.a_25)
 F_25:Fun K "pivoted" "pivoted" s_25 t.a_25 t.d_25
 b_25:zaS K t.d_25 yp []
 m_4:mg "greatest_divisor"=some (.ref t.a_4)
 F_4:Fun K "greatest_divisor" "greatest_divisor" s_4 t.a_4 t.d_4
 b_4:zaS K t.d_4 yn []
 m_3:mg "reduced"=some (.ref t.a_3)
 F_3:Fun K "reduced" "reduced" s_3 t.a_3 t.d_3
 b_3:zaS K t.d_3 yn []
 m_27:mg "bearing_told"=some (.ref t.a_27)
 F_27:Fun K "bearing_told" "bearing_told" s_27 t.a_27 t.d_27
 b_27:zaS K t.d_27 yr []
 m_28:mg "sharing_told"=some (.ref t.a_28)
 F_28:Fun K "sharing_told" "sharing_told" s_28 t.a_28 t.d_28
 b_28:zaS K t.d_28 yo []
 m_20:mg "balanced"=some (.ref t.a_20)
 F_20:Fun K "balanced" "balanced" s_20 t.a_20 t.d_20
 b_20:zaS K t.d_20 yh []
 m_7:mg "together"=some (.ref t.a_7)
 F_7:Fun K "together" "together" s_7 t.a_7 t.d_7
 b_7:zaS K t.d_7 ybk []
 m_5:mg "is_less"=some (.ref t.a_5)
 F_5:Fun K "is_less" "is_less" s_5 t.a_5 t.d_5
 b_5:zaS K t.d_5 yag []
 m_35:mg "is_borne"=some (.ref t.a_35)
 F_35:Fun K "is_borne" "is_borne" s_35 t.a_35 t.d_35
 b_35:zaS K t.d_35 yau []
 m_0:mg "is_whole"=some (.ref t.a_0)
 F_0:Fun K "is_whole" "is_whole" s_0 t.a_0 t.d_0
 b_0:zaS K t.d_0 ye []
 m_1:mg "is_pair"=some (.ref t.a_1)
 F_1:Fun K "is_pair" "is_pair" s_1 t.a_1 t.d_1
 b_1:zaS K t.d_1 ye []
 m_6:mg "is_fraction"=some (.ref t.a_6)
 F_6:Fun K "is_fraction" "is_fraction" s_6 t.a_6 t.d_6
 b_6:zaS K t.d_6 ye []
 m_34:mg "is_share"=some (.ref t.a_34)
 F_34:Fun K "is_share" "is_share" s_34 t.a_34 t.d_34
 b_34:zaS K t.d_34 ye []
 m_33:mg "are_shares"=some (.ref t.a_33)
 F_33:Fun K "are_shares" "are_shares" s_33 t.a_33 t.d_33
 b_33:zaS K t.d_33 yai []
 m_29:mg "is_bearing"=some (.ref t.a_29)
 F_29:Fun K "is_bearing" "is_bearing" s_29 t.a_29 t.d_29
 b_29:zaS K t.d_29 yb []
 m_31:mg "worth_of"=some (.ref t.a_31)
 F_31:Fun K "worth_of" "worth_of" s_31 t.a_31 t.d_31
 b_31:zaS K t.d_31 yah []
 m_44:mg "_law_frac"=some (.ref t.a_44)
 F_44:Fun K "_law_frac" "_law_frac" s_44 t.a_44 t.d_44
 b_44:zaS K t.d_44 yn []
 m_45:mg "_law_sum"=some (.ref t.a_45)
 F_45:Fun K "_law_sum" "_law_sum" s_45 t.a_45 t.d_45
 b_45:zaS K t.d_45 ["some"] []
 m_49:mg "_law_tight"=some (.ref t.a_49)
 F_49:Fun K "_law_tight" "_law_tight" s_49 t.a_49 t.d_49
 b_49:zaS K t.d_49 yz []
 m_36:mg "is_shared"=some (.ref t.a_36)
 F_36:Fun K "is_shared" "is_shared" s_36 t.a_36 t.d_36
 b_36:zaS K t.d_36 yaa []
 m_30:mg "is_sharing"=some (.ref t.a_30)
 F_30:Fun K "is_sharing" "is_sharing" s_30 t.a_30 t.d_30
 b_30:zaS K t.d_30 yb []
 m_32:mg "shared_price"=some (.ref t.a_32)
 F_32:Fun K "shared_price" "shared_price" s_32 t.a_32 t.d_32
 b_32:zaS K t.d_32 yac []
 m_46:mg "_law_bearing"=some (.ref t.a_46)
 F_46:Fun K "_law_bearing" "_law_bearing" s_46 t.a_46 t.d_46
 b_46:zaS K t.d_46 yi []
 m_42:mg "_law_has"=some (.ref t.a_42)
 F_42:Fun K "_law_has" "_law_has" s_42 t.a_42 t.d_42
 b_42:zaS K t.d_42 ya []
 m_43:mg "_law_cover"=some (.ref t.a_43)
 F_43:Fun K "_law_cover" "_law_cover" s_43 t.a_43 t.d_43
 b_43:zaS K t.d_43 yi []
 m_47:mg "_law_sharing"=some (.ref t.a_47)
 F_47:Fun K "_law_sharing" "_law_sharing" s_47 t.a_47 t.d_47
 b_47:zaS K t.d_47 yi []
 m_48:mg "_law_less"=some (.ref t.a_48)
 F_48:Fun K "_law_less" "_law_less" s_48 t.a_48 t.d_48
 b_48:zaS K t.d_48 yav []
 m_2:mg "is_rising"=some (.ref t.a_2)
 F_2:Fun K "is_rising" "is_rising" s_2 t.a_2 t.d_2
 b_2:zaS K t.d_2 yax []
 m_12:mg "is_lot"=some (.ref t.a_12)
 F_12:Fun K "is_lot" "is_lot" s_12 t.a_12 t.d_12
 b_12:zaS K t.d_12 yb []
 m_16:mg "need_lot"=some (.ref t.a_16)
 F_16:Fun K "need_lot" "need_lot" s_16 t.a_16 t.d_16
 b_16:zaS K t.d_16 ya []
 m_17:mg "offers_of"=some (.ref t.a_17)
 F_17:Fun K "offers_of" "offers_of" s_17 t.a_17 t.d_17
 b_17:zaS K t.d_17 ya []
 m_14:mg "price_of"=some (.ref t.a_14)
 F_14:Fun K "price_of" "price_of" s_14 t.a_14 t.d_14
 b_14:zaS K t.d_14 ya []
 m_50:mg "_law_drawn_right"=some (.ref t.a_50)
 F_50:Fun K "_law_drawn_right" "_law_drawn_right" s_50 t.a_50 t.d_50
 b_50:zaS K t.d_50 yat []
 m_51:mg "law"=some (.ref t.a_51)
 F_51:Fun K "law" "law" s_51 t.a_51 t.d_51
 b_51:zaS K t.d_51 ybi []
section
variable {P:Program} {w:World} {K:W.Frag} {mg:Str->Option Value} {base:Heap} {t:Ad}
theorem sc_37:zau yt yt (zaf s_37):=⟨rfl,rfl,rfl,⋯,rfl,⋯,⋯⟩
theorem ok_37 (T:Tx K mg t):zbP P w K mg base CX0 1 t.a_37 t.d_37 yt (zbY K 2 F_37):=by
 refine za1 (k:=0) (G:=G_37) (N:=yt) (ps:=yt) (st:=s_37) T.F_37 sc_37 λcdv A outer s H E hr=> ?_
 ext bf;ext o
 exact zel
 ext k;ext aQ;ext aE;ext bk;ext aC;ext k;ext bl;ext aF;ext f
 exact zd4
 ext j;ext k;ext j
theorem nd_38:(yal:List Str).Nodup:=⋯
theorem sc_38:zau yal yt (zaf s_38):=⟨rfl,rfl,rfl,⋯,rfl,⋯,⋯⟩
theorem ok_38 (T:Tx K mg t):zbP P w K mg base CX0 2 t.a_38 t.d_38 yt (zbY K 2 F_38):=by
 have G_37:=ok_37 (P:=P) (w:=w) (base:=base) T
 refine za1 (k:=1) (G:=G_38) (N:=yal) (ps:=yt) (st:=s_38) T.F_38 sc_38 λcdv A outer s H E hr=> ?_
 ext bg
 exact nd_38
 refine zak (k:=1) (g:=t.a_37) (fd:=t.d_37) (ps:=yt) ?_ ?_ ?_ ?_ ?_ ?_
 exact G_37
 ext b
 exact T.m_37
 exact T.F_37.kp
 exact T.b_37
 ext aW;ext bf;ext o;ext ae;ext f
 exact zd7
 ext q;ext j;ext j;ext aA
 refine zgg ?_
 ext a;ext f
 exact ziQ
 ext q;ext aB;ext aq;ext bh
 exact nd_38
 ext j;ext d;ext aj
 exact nd_38
 ext f
 exact zd7
 ext q;ext j;ext aZ;ext aR;ext aG
 exact zam 5 nd_38
 ext d;ext aj
 exact nd_38
 ext f
 exact zd7
 ext aF;ext aF;ext aF;ext f
 exact zd4
 ext af;ext j;ext f
 exact zd4
 ext f
 exact zd4
 ext j;ext ah;ext ah;ext f
 exact zd4
 ext j;ext k;ext j;ext j;ext i;ext N
 exact nd_38
 ext aF;ext f
 exact zd4
 ext bi;ext af;ext aA
 refine zgg ?_
 ext aI;ext g
theorem nd_39:(ybj:List Str).Nodup:=⋯
theorem sc_39:zau ybj yab (zaf s_39):=⟨rfl,rfl,rfl,⋯,rfl,⋯,⋯⟩
theorem ok_39 (T:Tx K mg t):zbP P w K mg base CX0 1 t.a_39 t.d_39 yab (zbY K 2 F_39):=by
 refine za1 (k:=0) (G:=G_39) (N:=ybj) (ps:=yab) (st:=s_39) T.F_39 sc_39 λcdv A outer s H E hr=> ?_
 ext bg
 exact nd_39
 ext f
 exact zd7
 ext aM;ext k;ext d;ext as;ext f
 exact ziQ
 ext aM;ext k
 refine zjq ?_ ?_
 ext h;ext j;ext aA;ext q
theorem nd_40:(yam:List Str).Nodup:=⋯
theorem zrQ:(["thing","bits"]:List Str).Nodup:=⋯
theorem zta:(["k","first","step","many"]:List Str).Nodup:=⋯
theorem sc_40:zau yam yab (zaf s_40):=⟨rfl,rfl,rfl,⋯,rfl,⋯,⋯⟩
theorem ok_40 (T:Tx K mg t):zbP P w K mg base CX0 2 t.a_40 t.d_40 yab (zbY K 2 F_40):=by
 have G_39:=ok_39 (P:=P) (w:=w) (base:=base) T
 refine za1 (k:=1) (G:=G_40) (N:=yam) (ps:=yab) (st:=s_40) T.F_40 sc_40 λcdv A outer s H E hr=> ?_
 ext bg
 exact nd_40
 ext e
 exact G_39
 ext bc;ext aE;ext aG;ext bf;ext o;ext ae;ext q;ext j;ext bh
 exact nd_40
 ext aF;ext j;ext e
 exact G_39
 ext bc;ext aE;ext a;ext f
 exact zfw
 ext f
 exact zoP
 ext j;ext k;ext aB;ext aA;ext r
 exact zaU
 exact zbc
 ext W;ext a
 refine zbt (N:=["thing","bits"]) ?_ ?_ ?_ ?_ ?_ ?_ ?_
 ext B;ext I;ext bm;ext aK
 intro _ _ _
 exact zam 0 zrQ
 intro _ _ _
 refine zf8 ?_
 ext o;ext ae;ext f
 exact zqE
 ext f
 exact zp4
 ext k;ext h;ext j;ext j
 intro _ _ _
 ext h;ext g;ext aq;ext d;ext as;ext aL;ext e
 exact G_39
 ext bc;ext aW;ext a;ext c
 refine zgy ?_
 ext a;ext j;ext a;ext aF;ext j;ext e
 exact G_39
 ext bc;ext aE;ext aG;ext g;ext f
 exact zfw
 ext q;ext aB;ext be
 exact zam 4 nd_40
 ext w
 exact zam 5 nd_40
 exact zbK
 ext aA;ext r
 exact zaU
 exact zbc
 ext W;ext a
 refine zhN ?_ ?_ ?_ ?_
 ext B
 exact T.n_sorted
 exact T.n_set
 refine zbt (N:=["k","first","step","many"]) ?_ ?_ ?_ ?_ ?_ ?_ ?_
 ext B;ext I;ext bm;ext a;ext aF;ext j;ext e
 exact G_39
 ext bc;ext aE;ext aG;ext g
 intro _ _ _
 exact zam 0 zta
 intro _ _ _
 ext au
 intro _ _ _
 ext f
 exact zd7
 ext aF;ext k;ext f
 exact zd4
 ext q;ext h;ext v;ext g
theorem nd_41:(yx:List Str).Nodup:=⋯
theorem zti:(["k","box","many","far"]:List Str).Nodup:=⋯
theorem zrm:(["row","thing"]:List Str).Nodup:=⋯
theorem zre:(["row"]:List Str).Nodup:=⋯
theorem sc_41:zau yx yak (zaf s_41):=⟨rfl,rfl,rfl,⋯,rfl,⋯,⋯⟩
theorem ok_41 (T:Tx K mg t):zbP P w K mg base CX0 3 t.a_41 t.d_41 yak (zbY K 3 F_41):=by
 have G_39:=ok_39 (P:=P) (w:=w) (base:=base) T
 have G_40:=ok_40 (P:=P) (w:=w) (base:=base) T
 refine za1 (k:=2) (G:=G_41) (N:=yx) (ps:=yak) (st:=s_41) T.F_41 sc_41 λcdv A outer s H E hr=> ?_
 ext bh
 exact nd_41
 ext aF;ext j;ext e
 exact G_39
 ext bc;ext aW;ext d;ext aj
 exact nd_41
 ext c
 refine zgy ?_
 ext a;ext j;ext a;ext j;ext a;ext j;ext a;ext f
 exact zqI
 ext j;ext aB;ext e
 exact G_39
 ext bc;ext aE;ext aG;ext d
 refine zet 5 (N:=["k","box","many","far"]) ?_ ?_ ?_ ?_ ?_ ?_ ?_ ?_
 ext B
 exact nd_41
 ext t;ext bm;ext a;ext aF;ext j;ext e
 exact G_39
 ext bc;ext aE;ext aJ;ext aS
 intro _ _ _
 exact zam 0 zti
 intro _ _ _
 ext au
 intro _ _ _
 refine zgg ?_
 ext a
 refine zak (k:=2) (g:=t.a_40) (fd:=t.d_40) (ps:=yab) ?_ ?_ ?_ ?_ ?_ ?_
 exact G_40
 ext b
 exact T.m_40
 exact T.F_40.kp
 exact T.b_40
 ext aD;ext aJ;ext g;ext a;ext aF;ext j;ext e
 exact G_39
 ext bc;ext aD;ext aI;ext aS;ext aZ;ext aR;ext aI;ext g
 exact zam 6 nd_41
 ext i;ext u;ext o
 exact (zq9 (zeX hr))
 refine zbt (N:=["row","thing"]) ?_ ?_ ?_ ?_ ?_ ?_ ?_
 ext B;ext t;ext m;ext ai;ext ah
 intro _ _ _
 exact zam 0 zrm
 intro _ _ _
 refine zf8 ?_
 ext o;ext ao;ext k;ext aM
 intro _ _ _
 ext h
 refine zgy ?_
 ext g;ext d
 refine zaG 7 ?_ ?_
 exact nd_41
 ext c;ext ah;ext e
 exact G_39
 ext bc;ext aE;ext bj;ext a;ext ah;ext aS;ext i;ext as;ext r
 exact zaU
 exact zbc
 ext W;ext a
 refine zaK (id:="sorted") ?_ ?_ ?_ ?_
 exact (zdC rfl)
 exact zfy
 exact T.n_sorted
 ext a;ext aF;ext c
 exact zab 7
 ext j;ext aL
 exact zab 6
 ext aS;ext g
 refine zjq ?_ ?_
 exact zab 7
 ext j;ext bl;ext J;ext aI;ext a;ext r
 exact zaU
 exact zbc
 ext W;ext a
 refine zbt (N:=["row"]) ?_ ?_ ?_ ?_ ?_ ?_ ?_
 ext B;ext t;ext m;ext ai;ext ah
 intro _ _ _
 exact zam 0 zre
 intro _ _ _
 ext au
 intro _ _ _
 ext aL;ext aM;ext aU;ext aS
theorem nd_18:(ybe:List Str).Nodup:=⋯
theorem sc_18:zau ybe ybl (zaf s_18):=⟨rfl,rfl,rfl,⋯,rfl,⋯,⋯⟩
theorem ok_18 (T:Tx K mg t):zbP P w K mg base CX0 1 t.a_18 t.d_18 ybl (zbY K 1 F_18):=by
 refine za1 (k:=0) (G:=G_18) (N:=ybe) (ps:=ybl) (st:=s_18) T.F_18 sc_18 λcdv A outer s H E hr=> ?_
 ext d;ext aw
 exact nd_18
 refine zgg ?_
 ext g;ext aZ;ext ai;ext h
 exact zam 2 nd_18
 ext i
 refine zgh ?_
 refine zmR ?_ ?_
 ext k;ext c;ext q;ext j;ext aA;ext r
 exact zaU
 exact zbc
 ext W;ext a
 refine zhN ?_ ?_ ?_ ?_
 ext B
 exact T.n_sorted
 exact T.n_set
 ext k;ext g
theorem sc_19:zau yaf yaf (zaf s_19):=⟨rfl,rfl,rfl,⋯,rfl,⋯,⋯⟩
theorem ok_19 (T:Tx K mg t):zbP P w K mg base CX0 2 t.a_19 t.d_19 yaf (zbY K 2 F_19):=by
 have G_18:=ok_18 (P:=P) (w:=w) (base:=base) T
 refine za1 (k:=1) (G:=G_19) (N:=yaf) (ps:=yaf) (st:=s_19) T.F_19 sc_19 λcdv A outer s H E hr=> ?_
 ext aA;ext T;ext ae;ext aQ;ext a
 refine zak (k:=1) (g:=t.a_18) (fd:=t.d_18) (ps:=ybl) ?_ ?_ ?_ ?_ ?_ ?_
 exact G_18
 ext b
 exact T.m_18
 exact T.F_18.kp
 exact T.b_18
 ext aK;ext g;ext aM
theorem sc_13:zau yh yh (zaf s_13):=⟨rfl,rfl,rfl,⋯,rfl,⋯,⋯⟩
theorem ok_13 (T:Tx K mg t):zbP P w K mg base CX0 3 t.a_13 t.d_13 yh (zbY K 1 F_13):=by
 have G_19:=ok_19 (P:=P) (w:=w) (base:=base) T
 refine za1 (k:=2) (G:=G_13) (N:=yh) (ps:=yh) (st:=s_13) T.F_13 sc_13 λcdv A outer s H E hr=> ?_
 ext aA
 refine zak (k:=2) (g:=t.a_19) (fd:=t.d_19) (ps:=yaf) ?_ ?_ ?_ ?_ ?_ ?_
 exact G_19
 ext b
 exact T.m_19
 exact T.F_19.kp
 exact T.b_19
 ext aE;ext aU
theorem sc_15:zau yh yh (zaf s_15):=⟨rfl,rfl,rfl,⋯,rfl,⋯,⋯⟩
theorem ok_15 (T:Tx K mg t):zbP P w K mg base CX0 4 t.a_15 t.d_15 yh (zbY K 1 F_15):=by
 have G_13:=ok_13 (P:=P) (w:=w) (base:=base) T
 refine za1 (k:=3) (G:=G_15) (N:=yh) (ps:=yh) (st:=s_15) T.F_15 sc_15 λcdv A outer s H E hr=> ?_
 ext i;ext u;ext aV
 refine zak (k:=3) (g:=t.a_13) (fd:=t.d_13) (ps:=yh) ?_ ?_ ?_ ?_ ?_ ?_
 exact G_13
 ext b
 exact T.m_13
 exact T.F_13.kp
 exact T.b_13
 ext aE;ext g;ext i
 exact zmP
 ext aq
theorem nd_21:(yae:List Str).Nodup:=⋯
theorem zuN:(["thing","offer"]:List Str).Nodup:=⋯
theorem zt3:(["other","number"]:List Str).Nodup:=⋯
theorem sc_21:zau yae yh (zaf s_21):=⟨rfl,rfl,rfl,⋯,rfl,⋯,⋯⟩
theorem ok_21 (T:Tx K mg t):zbP P w K mg base CX0 1 t.a_21 t.d_21 yh (zbY K 1 F_21):=by
 refine za1 (k:=0) (G:=G_21) (N:=yae) (ps:=yh) (st:=s_21) T.F_21 sc_21 λcdv A outer s H E hr=> ?_
 ext d;ext aw
 exact nd_21
 refine zgg ?_
 ext g;ext bg
 exact nd_21
 ext aQ;ext aU;ext aZ
 refine zrD ?_ ?_
 exact T.n_enumerate
 ext aM;ext be
 exact zam 3 nd_21
 ext w
 exact zam 4 nd_21
 exact zbK
 ext d
 refine zet 5 (N:=["thing","offer"]) ?_ ?_ ?_ ?_ ?_ ?_ ?_ ?_
 ext B
 exact nd_21
 ext F;ext bm;ext aU
 intro _ _ _
 exact zam 0 zuN
 intro _ _ _
 ext au
 intro _ _ _
 refine zpH ?_ ?_ ?_
 ext o;ext ao;ext h;ext bn;ext j;ext j;ext i
 refine zgh ?_
 refine zgs ?_ ?_
 ext k;ext aF;ext aF;ext ah
 refine zbt (N:=["other","number"]) ?_ ?_ ?_ ?_ ?_ ?_ ?_
 ext B;ext F;ext bm;ext aJ;ext g
 intro _ _ _
 exact zam 0 zt3
 intro _ _ _
 ext au
 intro _ _ _
 refine zpH ?_ ?_ ?_
 ext o;ext ae;ext h;ext k;ext j;ext j
 refine zgy ?_
 ext a;ext c;ext af;ext aB;ext d
 refine zgh ?_
 refine zgs ?_ ?_
 ext k;ext aF;ext f
 exact zk0
 refine zgy ?_
 ext a
 refine zjR ?_
 ext aB;ext aM;ext f
 exact zk0
 refine zgy ?_
 ext aG;ext aF;ext q;ext j;ext aA
 refine zty ?_
 ext k
theorem nd_22:(ybg:List Str).Nodup:=⋯
theorem sc_22:zau ybg ["rows"] (zaf s_22):=⟨rfl,rfl,rfl,⋯,rfl,⋯,⋯⟩
theorem ok_22 (T:Tx K mg t):zbP P w K mg base CX0 1 t.a_22 t.d_22 ["rows"] (zbY K 1 F_22):=by
 refine za1 (k:=0) (G:=G_22) (N:=ybg) (ps:=["rows"]) (st:=s_22) T.F_22 sc_22 λcdv A outer s H E hr=> ?_
 ext d;ext aw
 exact nd_22
 ext aC
 refine zjR ?_
 ext j;ext aZ;ext aR;ext a;ext f
 exact zfw
 ext aQ;ext aK;ext aB
 exact zam 2 nd_22
 ext i;ext u;ext o
 exact zel
 ext aH;ext q;ext j;ext aA;ext q;ext bl
 exact zh4
theorem nd_24:(yy:List Str).Nodup:=⋯
theorem sc_24:zau yy yk (zaf s_24):=⟨rfl,rfl,rfl,⋯,rfl,⋯,⋯⟩
theorem ok_24 (T:Tx K mg t):zbP P w K mg base CX0 1 t.a_24 t.d_24 yk (zbY K 5 F_24):=by
 refine za1 (k:=0) (G:=G_24) (N:=yy) (ps:=yk) (st:=s_24) T.F_24 sc_24 λcdv A outer s H E hr=> ?_
 ext d
 refine zaG 5 ?_ ?_
 exact nd_24
 ext aN;ext c;ext aC;ext v
 refine zjR ?_
 ext j;ext c;ext aC;ext af;ext q;ext d
 refine zaG 6 ?_ ?_
 exact nd_24
 ext aN;ext c;ext aC;ext af
 refine zjR ?_
 ext j;ext c;ext aC;ext v;ext q;ext aA
 refine zvV ?_ ?_
 ext T
 exact zel
 ext ah
 exact zab 6
 refine zhn ?_
 refine zie ?_ ?_
 ext T;ext ae;ext ah
 exact zab 6
 refine zhn ?_
 ext T
 exact zel
 ext aH;ext v;ext aH;ext af
theorem nd_23:(yap:List Str).Nodup:=⋯
theorem sc_23:zau yap yad (zaf s_23):=⟨rfl,rfl,rfl,⋯,rfl,⋯,⋯⟩
theorem ok_23 (T:Tx K mg t):zbP P w K mg base CX0 2 t.a_23 t.d_23 yad (zbY K 3 F_23):=by
 have G_24:=ok_24 (P:=P) (w:=w) (base:=base) T
 refine za1 (k:=1) (G:=G_23) (N:=yap) (ps:=yad) (st:=s_23) T.F_23 sc_23 λcdv A outer s H E hr=> ?_
 ext bh
 exact nd_23
 exact zh4
 ext aZ;ext aR;ext bj;ext aK;ext g
 exact zam 4 nd_23
 ext i;ext u;ext av
 refine zkM ?_ ?_
 ext o
 exact zf9
 ext c;ext aC;ext af;ext q;ext j
 refine zid ?_
 ext av;ext al;ext o
 exact zk4
 ext v
 exact zh4
 refine zem ?_
 ext ac
 refine zak (k:=1) (g:=t.a_24) (fd:=t.d_24) (ps:=yk) ?_ ?_ ?_ ?_ ?_ ?_
 exact G_24
 ext b
 exact T.m_24
 exact T.F_24.kp
 exact T.b_24
 ext aE;ext aD;ext aJ;ext a;ext af;ext aI;ext g;ext i;ext N
 exact nd_23
 ext af;ext bl;ext v
theorem zr5:(yba:List Str).Nodup:=⋯
theorem sc_26:zau yc yc (zaf s_26):=⟨rfl,rfl,rfl,⋯,rfl,⋯,⋯⟩
theorem ok_26 (T:Tx K mg t):zbP P w K mg base CX0 1 t.a_26 t.d_26 yc (zbY K 4 F_26):=by
 refine za1 (k:=0) (G:=G_26) (N:=yc) (ps:=yc) (st:=s_26) T.F_26 sc_26 λcdv A outer s H E hr=> ?_
 ext aA
 refine zbt (N:=yba) ?_ ?_ ?_ ?_ ?_ ?_ ?_
 ext B
 exact (BOk.of (Xn:=(zaf s_26).names) (XN:=yc) rfl rfl rfl ⋯)
 ext p
 refine zsO ?_ ?_
 exact T.n_zip
 ext aW
 intro _ _ _
 ext be
 exact zam 0 zr5
 ext w
 exact zam 1 zr5
 exact zbK
 intro _ _ _
 ext au
 intro _ _ _
 ext f
 exact zeo
 ext f
 exact zfw
 ext aN;ext h;ext c;ext q;ext v;ext aN;ext k;ext c;ext af;ext v;ext ah
theorem nd_25:(yu:List Str).Nodup:=⋯
theorem ztA:(yay:List Str).Nodup:=⋯
theorem sc_25:zau yu yp (zaf s_25):=⟨rfl,rfl,rfl,⋯,rfl,⋯,⋯⟩
theorem ok_25 (T:Tx K mg t):zbP P w K mg base CX0 2 t.a_25 t.d_25 yp (zbY K 4 F_25):=by
 have G_26:=ok_26 (P:=P) (w:=w) (base:=base) T
 refine za1 (k:=1) (G:=G_25) (N:=yu) (ps:=yp) (st:=s_25) T.F_25 sc_25 λcdv A outer s H E hr=> ?_
 ext d;ext aj
 exact nd_25
 ext aC;ext k;ext aA
 refine zbt (N:=yay) ?_ ?_ ?_ ?_ ?_ ?_ ?_
 ext B
 exact (BOk.of (Xn:=(zaf s_25).names) (XN:=yu) rfl rfl rfl ⋯)
 ext p
 refine zlt ?_ ?_
 exact T.n_enumerate
 ext h
 intro _ _ _
 ext be
 exact zam 0 ztA
 ext w
 exact zam 1 ztA
 exact zbK
 intro _ _ _
 ext au
 intro _ _ _
 refine zpH ?_ ?_ ?_
 ext o;ext ae;ext h;ext q;ext k
 refine zak (k:=1) (g:=t.a_26) (fd:=t.d_26) (ps:=yc) ?_ ?_ ?_ ?_ ?_ ?_
 exact G_26
 ext b
 exact T.m_26
 exact T.F_26.kp
 exact T.b_26
 ext aD;ext aI;ext a;ext af;ext a;ext ah;ext g
theorem nd_4:(yas:List Str).Nodup:=⋯
theorem sc_4:zau yas yn (zaf s_4):=⟨rfl,rfl,rfl,⋯,rfl,⋯,⋯⟩
theorem ok_4 (T:Tx K mg t):zbP P w K mg base CX0 1 t.a_4 t.d_4 yn (zbY K 2 F_4):=by
 refine za1 (k:=0) (G:=G_4) (N:=yas) (ps:=yn) (st:=s_4) T.F_4 sc_4 λcdv A outer s H E hr=> ?_
 ext bg
 exact nd_4
 ext h;ext bh
 exact nd_4
 ext k;ext d
 refine zfC 20000 ?_ ?_ ?_
 ext y;ext o
 exact zf9
 ext bi;ext d;ext aj
 exact nd_4
 ext f
 exact zd7
 ext q;ext v;ext bg
 exact nd_4
 ext v;ext i;ext N
 exact nd_4
 ext af;ext aA;ext q
theorem nd_3:(ybf:List Str).Nodup:=⋯
theorem sc_3:zau ybf yn (zaf s_3):=⟨rfl,rfl,rfl,⋯,rfl,⋯,⋯⟩
theorem ok_3 (T:Tx K mg t):zbP P w K mg base CX0 2 t.a_3 t.d_3 yn (zbY K 2 F_3):=by
 have G_4:=ok_4 (P:=P) (w:=w) (base:=base) T
 refine za1 (k:=1) (G:=G_3) (N:=ybf) (ps:=yn) (st:=s_3) T.F_3 sc_3 λcdv A outer s H E hr=> ?_
 ext bg
 exact nd_3
 ext ad
 exact G_4
 ext b
 exact T.m_4
 exact T.F_4.kp
 exact T.b_4
 ext aW;ext aA;ext aL;ext f
 exact zeo
 ext h;ext q;ext a;ext f
 exact zeo
 ext k;ext q;ext g
theorem nd_27:(yao:List Str).Nodup:=⋯
theorem ztD:(["place","column","rows"]:List Str).Nodup:=⋯
theorem zux:(["thing","borne","bottom"]:List Str).Nodup:=⋯
theorem sc_27:zau yao yr (zaf s_27):=⟨rfl,rfl,rfl,⋯,rfl,⋯,⋯⟩
theorem ok_27 (T:Tx K mg t):zbP P w K mg base CX0 3 t.a_27 t.d_27 yr (zbY K 4 F_27):=by
 have G_3:=ok_3 (P:=P) (w:=w) (base:=base) T
 refine za1 (k:=2) (G:=G_27) (N:=yao) (ps:=yr) (st:=s_27) T.F_27 sc_27 λcdv A outer s H E hr=> ?_
 ext d;ext aj
 exact nd_27
 refine zbi (T:="dict") ?_ ?_ ?_ ?_
 exact (zjB rfl)
 exact zpL
 exact T.n_dict
 ext a
 refine zbt (N:=["place","column","rows"]) ?_ ?_ ?_ ?_ ?_ ?_ ?_
 ext B;ext K;ext p
 refine zlt ?_ ?_
 exact T.n_enumerate
 ext q
 intro _ _ _
 ext be
 exact zam 0 ztD
 ext w
 exact zam 1 ztD
 exact zbK
 intro _ _ _
 ext au
 intro _ _ _
 ext J;ext aD;ext a;ext c;ext c;ext q;ext h
 refine zjR ?_
 ext aB;ext bk;ext r
 exact zaU
 exact zbc
 ext W;ext a
 refine zbt (N:=["thing","borne","bottom"]) ?_ ?_ ?_ ?_ ?_ ?_ ?_
 ext B;ext K;ext bm;ext aU
 intro _ _ _
 exact zam 0 zux
 intro _ _ _
 ext au
 intro _ _ _
 ext H
 exact G_3
 ext b
 exact T.m_3
 exact T.F_3.kp
 exact T.b_3
 ext a
 refine zsk ?_ ?_
 ext k;ext aE;ext aG;ext aJ;ext aS
theorem zqS:(["number","rows","stock","bottom"]:List Str).Nodup:=⋯
theorem sc_28:zau yo yo (zaf s_28):=⟨rfl,rfl,rfl,⋯,rfl,⋯,⋯⟩
theorem ok_28 (T:Tx K mg t):zbP P w K mg base CX0 3 t.a_28 t.d_28 yo (zbY K 3 F_28):=by
 have G_3:=ok_3 (P:=P) (w:=w) (base:=base) T
 refine za1 (k:=2) (G:=G_28) (N:=yo) (ps:=yo) (st:=s_28) T.F_28 sc_28 λcdv A outer s H E hr=> ?_
 ext aA;ext r
 exact zaU
 exact zbc
 ext W;ext a
 refine zbt (N:=["number","rows","stock","bottom"]) ?_ ?_ ?_ ?_ ?_ ?_ ?_
 ext B
 exact (BOk.of (Xn:=(zaf s_28).names) (XN:=yo) rfl rfl rfl ⋯)
 ext bm;ext bj;ext aU;ext g
 intro _ _ _
 exact zam 0 zqS
 intro _ _ _
 ext au
 intro _ _ _
 ext H
 exact G_3
 ext b
 exact T.m_3
 exact T.F_3.kp
 exact T.b_3
 ext a;ext c;ext aH
 refine zjR ?_
 ext j;ext aF;ext c;ext q;ext j;ext h;ext aI;ext aS
theorem nd_20:(yq:List Str).Nodup:=⋯
theorem zt0:(ybh:List Str).Nodup:=⋯
theorem sc_20:zau yq yh (zaf s_20):=⟨rfl,rfl,rfl,⋯,rfl,⋯,⋯⟩
theorem ok_20 (T:Tx K mg t):zbP P w K mg base CX0 5 t.a_20 t.d_20 yh (zbY K 1 F_20):=by
 have G_15:=ok_15 (P:=P) (w:=w) (base:=base) T
 have G_21:=ok_21 (P:=P) (w:=w) (base:=base) T
 have G_22:=ok_22 (P:=P) (w:=w) (base:=base) T
 have G_23:=ok_23 (P:=P) (w:=w) (base:=base) T
 have G_25:=ok_25 (P:=P) (w:=w) (base:=base) T
 have G_27:=ok_27 (P:=P) (w:=w) (base:=base) T
 have G_28:=ok_28 (P:=P) (w:=w) (base:=base) T
 refine za1 (k:=4) (G:=G_20) (N:=yq) (ps:=yh) (st:=s_20) T.F_20 sc_20 λcdv A outer s H E hr=> ?_
 ext d
 refine zgh ?_
 refine zak (k:=4) (g:=t.a_15) (fd:=t.d_15) (ps:=yh) ?_ ?_ ?_ ?_ ?_ ?_
 exact G_15
 ext b
 exact T.m_15
 exact T.F_15.kp
 exact T.b_15
 ext aE;ext g;ext d;ext aw
 exact nd_20
 refine zak (k:=1) (g:=t.a_21) (fd:=t.d_21) (ps:=yh) ?_ ?_ ?_ ?_ ?_ ?_
 exact G_21
 ext b
 exact T.m_21
 exact T.F_21.kp
 exact T.b_21
 ext aE;ext g;ext d
 refine zj2 2 (N:=ybh) ?_ ?_ ?_ ?_ ?_ ?_ ?_ ?_
 ext B
 exact nd_20
 exact (BOk.of (Xn:=(zaf s_20).names) (XN:=yq) rfl rfl rfl ⋯)
 ext bm;ext bj;ext aU;ext g
 intro _ _ _
 exact zam 0 zt0
 intro _ _ _
 ext au
 intro _ _ _
 ext aF;ext bn;ext h;ext bh
 exact nd_20
 ext j;ext d;ext aj
 exact nd_20
 refine zak (k:=1) (g:=t.a_22) (fd:=t.d_22) (ps:=["rows"]) ?_ ?_ ?_ ?_ ?_ ?_
 exact G_22
 ext b
 exact T.m_22
 exact T.F_22.kp
 exact T.b_22
 ext aK;ext d
 refine zfC 100000000000000000 ?_ ?_ ?_
 ext y;ext o
 exact zkb
 ext af
 exact zh4
 ext d
 refine zaG 5 ?_ ?_
 exact nd_20
 refine zak (k:=2) (g:=t.a_23) (fd:=t.d_23) (ps:=yad) ?_ ?_ ?_ ?_ ?_ ?_
 exact G_23
 ext b
 exact T.m_23
 exact T.F_23.kp
 exact T.b_23
 ext aD;ext aJ;ext a;ext af;ext g;ext d;ext aw
 exact nd_20
 refine zak (k:=2) (g:=t.a_25) (fd:=t.d_25) (ps:=yp) ?_ ?_ ?_ ?_ ?_ ?_
 exact G_25
 ext b
 exact T.m_25
 exact T.F_25.kp
 exact T.b_25
 ext aD;ext a;ext ah;ext a;ext af;ext aI;ext g;ext bh
 exact nd_20
 ext c;ext aH;ext ah;ext af;ext d;ext as;ext af
 refine zjq ?_ ?_
 ext q;ext ah;ext i;ext aj
 exact nd_20
 refine zak (k:=1) (g:=t.a_22) (fd:=t.d_22) (ps:=["rows"]) ?_ ?_ ?_ ?_ ?_ ?_
 exact G_22
 ext b
 exact T.m_22
 exact T.F_22.kp
 exact T.b_22
 ext aK;ext aA;ext aL
 refine zak (k:=3) (g:=t.a_27) (fd:=t.d_27) (ps:=yr) ?_ ?_ ?_ ?_ ?_ ?_
 exact G_27
 ext b
 exact T.m_27
 exact T.F_27.kp
 exact T.b_27
 ext aE;ext aD;ext a
 refine zty ?_
 ext q;ext aI;ext g;ext a
 refine zak (k:=3) (g:=t.a_28) (fd:=t.d_28) (ps:=yo) ?_ ?_ ?_ ?_ ?_ ?_
 exact G_28
 ext b
 exact T.m_28
 exact T.F_28.kp
 exact T.b_28
 ext aE;ext aD;ext aI;ext aS
theorem nd_7:(yar:List Str).Nodup:=⋯
theorem sc_7:zau yar ybk (zaf s_7):=⟨rfl,rfl,rfl,⋯,rfl,⋯,⋯⟩
theorem ok_7 (T:Tx K mg t):zbP P w K mg base CX0 3 t.a_7 t.d_7 ybk (zbY K 1 F_7):=by
 have G_3:=ok_3 (P:=P) (w:=w) (base:=base) T
 refine za1 (k:=2) (G:=G_7) (N:=yar) (ps:=ybk) (st:=s_7) T.F_7 sc_7 λcdv A outer s H E hr=> ?_
 ext d;ext aw
 exact nd_7
 ext j;ext bg
 exact nd_7
 ext j;ext aZ;ext ai;ext h
 exact zam 3 nd_7
 ext d;ext aw
 exact nd_7
 ext aF;ext aN;ext k;ext c;ext bi;ext aN;ext c;ext bi;ext q;ext i;ext M
 exact nd_7
 ext aN;ext q;ext c;ext bi;ext aA;ext H
 exact G_3
 ext b
 exact T.m_3
 exact T.F_3.kp
 exact T.b_3
 ext aD;ext aJ;ext g
theorem sc_5:zau yag yag (zaf s_5):=⟨rfl,rfl,rfl,⋯,rfl,⋯,⋯⟩
theorem ok_5 (T:Tx K mg t):zbP P w K mg base CX0 1 t.a_5 t.d_5 yag (zbY K 2 F_5):=by
 refine za1 (k:=0) (G:=G_5) (N:=yag) (ps:=yag) (st:=s_5) T.F_5 sc_5 λcdv A outer s H E hr=> ?_
 ext aA;ext T
 exact zel
 ext aN;ext aM;ext bn;ext aN;ext bn;ext aM
theorem nd_35:(yaw:List Str).Nodup:=⋯
theorem zsv:(["thing","shares"]:List Str).Nodup:=⋯
theorem sc_35:zau yaw yau (zaf s_35):=⟨rfl,rfl,rfl,⋯,rfl,⋯,⋯⟩
theorem ok_35 (T:Tx K mg t):zbP P w K mg base CX0 4 t.a_35 t.d_35 yau (zbY K 2 F_35):=by
 have G_7:=ok_7 (P:=P) (w:=w) (base:=base) T
 have G_5:=ok_5 (P:=P) (w:=w) (base:=base) T
 refine za1 (k:=3) (G:=G_35) (N:=yaw) (ps:=yau) (st:=s_35) T.F_35 sc_35 λcdv A outer s H E hr=> ?_
 ext bg
 exact nd_35
 ext A
 exact G_7
 ext b
 exact T.m_7
 exact T.F_7.kp
 exact T.b_7
 ext a
 refine zbt (N:=["thing","shares"]) ?_ ?_ ?_ ?_ ?_ ?_ ?_
 ext B
 exact (BOk.of (Xn:=(zaf s_35).names) (XN:=yaw) rfl rfl rfl ⋯)
 ext m;ext ai;ext aM
 intro _ _ _
 exact zam 0 zsv
 intro _ _ _
 ext au
 intro _ _ _
 ext aH;ext h;ext bk
 refine znr ?_
 ext X
 exact G_5
 ext b
 exact T.m_5
 exact T.F_5.kp
 exact T.b_5
 ext a;ext aL;ext aM;ext aG;ext aJ;ext g
theorem sc_0:zau ye ye (zaf s_0):=⟨rfl,rfl,rfl,⋯,rfl,⋯,⋯⟩
theorem ok_0 (T:Tx K mg t):zbP P w K mg base CX0 1 t.a_0 t.d_0 ye (zbY K 1 F_0):=by
 refine za1 (k:=0) (G:=G_0) (N:=ye) (ps:=ye) (st:=s_0) T.F_0 sc_0 λcdv A outer s H E hr=> ?_
 ext aA
 refine zie ?_ ?_
 ext ar
 exact zpB
 exact zoI
 exact T.n_isinstance
 exact T.n_int
 ext h
 refine zhn ?_
 refine znr ?_
 ext ar
 exact zm8
 exact zqA
 exact T.n_isinstance
 exact T.n_bool
 ext h
theorem sc_1:zau ye ye (zaf s_1):=⟨rfl,rfl,rfl,⋯,rfl,⋯,⋯⟩
theorem ok_1 (T:Tx K mg t):zbP P w K mg base CX0 1 t.a_1 t.d_1 ye (zbY K 1 F_1):=by
 refine za1 (k:=0) (G:=G_1) (N:=ye) (ps:=ye) (st:=s_1) T.F_1 sc_1 λcdv A outer s H E hr=> ?_
 ext aA
 refine zie ?_ ?_
 ext ar
 exact zfm
 exact zbc
 exact T.n_isinstance
 ext W;ext h
 refine zhn ?_
 ext T;ext ae;ext aQ;ext aE;ext g;ext j
theorem sc_6:zau ye ye (zaf s_6):=⟨rfl,rfl,rfl,⋯,rfl,⋯,⋯⟩
theorem ok_6 (T:Tx K mg t):zbP P w K mg base CX0 2 t.a_6 t.d_6 ye (zbY K 1 F_6):=by
 have G_0:=ok_0 (P:=P) (w:=w) (base:=base) T
 have G_1:=ok_1 (P:=P) (w:=w) (base:=base) T
 have G_4:=ok_4 (P:=P) (w:=w) (base:=base) T
 refine za1 (k:=1) (G:=G_6) (N:=ye) (ps:=ye) (st:=s_6) T.F_6 sc_6 λcdv A outer s H E hr=> ?_
 ext bf;ext av;ext al;ext aV
 refine zak (k:=1) (g:=t.a_1) (fd:=t.d_1) (ps:=ye) ?_ ?_ ?_ ?_ ?_ ?_
 exact G_1
 ext b
 exact T.m_1
 exact T.F_1.kp
 exact T.b_1
 ext aE;ext g;ext al;ext aV;ext R
 exact G_0
 ext b
 exact T.m_0
 exact T.F_0.kp
 exact T.b_0
 ext aU
 refine zem ?_
 ext aV;ext R
 exact G_0
 ext b
 exact T.m_0
 exact T.F_0.kp
 exact T.b_0
 ext aU;ext aA
 exact zh8
 ext bl
 refine zie ?_ ?_
 ext T
 exact zf9
 ext aM;ext j
 refine zhn ?_
 ext T;ext ae;ext ad
 exact G_4
 ext b
 exact T.m_4
 exact T.F_4.kp
 exact T.b_4
 ext a;ext aM;ext aU;ext j
theorem sc_34:zau ye ye (zaf s_34):=⟨rfl,rfl,rfl,⋯,rfl,⋯,⋯⟩
theorem ok_34 (T:Tx K mg t):zbP P w K mg base CX0 3 t.a_34 t.d_34 ye (zbY K 1 F_34):=by
 have G_6:=ok_6 (P:=P) (w:=w) (base:=base) T
 refine za1 (k:=2) (G:=G_34) (N:=ye) (ps:=ye) (st:=s_34) T.F_34 sc_34 λcdv A outer s H E hr=> ?_
 ext aA
 refine zie ?_ ?_
 refine zak (k:=2) (g:=t.a_6) (fd:=t.d_6) (ps:=ye) ?_ ?_ ?_ ?_ ?_ ?_
 exact G_6
 ext b
 exact T.m_6
 exact T.F_6.kp
 exact T.b_6
 ext aE;ext g
 refine zhn ?_
 ext T
 exact zox
 ext aM;ext j
theorem zte:(["share"]:List Str).Nodup:=⋯
theorem sc_33:zau yai yai (zaf s_33):=⟨rfl,rfl,rfl,⋯,rfl,⋯,⋯⟩
theorem ok_33 (T:Tx K mg t):zbP P w K mg base CX0 4 t.a_33 t.d_33 yai (zbY K 2 F_33):=by
 have G_34:=ok_34 (P:=P) (w:=w) (base:=base) T
 refine za1 (k:=3) (G:=G_33) (N:=yai) (ps:=yai) (st:=s_33) T.F_33 sc_33 λcdv A outer s H E hr=> ?_
 ext bf;ext av;ext al;ext aV;ext ar
 exact zfm
 exact zbc
 exact T.n_isinstance
 ext W;ext h
 refine zem ?_
 ext o
 exact (zhm (zeX hr))
 ext aQ;ext aE;ext g;ext k;ext aA
 exact zh8
 ext bl
 refine zaK (id:="all") ?_ ?_ ?_ ?_
 exact (zfh rfl)
 exact zl8
 exact T.n_all
 ext a
 refine zbt (N:=["share"]) ?_ ?_ ?_ ?_ ?_ ?_ ?_
 ext B
 exact (BOk.of (Xn:=(zaf s_33).names) (XN:=yai) rfl rfl rfl ⋯)
 ext m;ext ai;ext h
 intro _ _ _
 exact zam 0 zte
 intro _ _ _
 ext au
 intro _ _ _
 refine zak (k:=3) (g:=t.a_34) (fd:=t.d_34) (ps:=ye) ?_ ?_ ?_ ?_ ?_ ?_
 exact G_34
 ext b
 exact T.m_34
 exact T.F_34.kp
 exact T.b_34
 ext aE;ext aS
theorem zrr:(["offer","thing"]:List Str).Nodup:=⋯
theorem sc_29:zau yb yb (zaf s_29):=⟨rfl,rfl,rfl,⋯,rfl,⋯,⋯⟩
theorem ok_29 (T:Tx K mg t):zbP P w K mg base CX0 5 t.a_29 t.d_29 yb (zbY K 2 F_29):=by
 have G_35:=ok_35 (P:=P) (w:=w) (base:=base) T
 have G_33:=ok_33 (P:=P) (w:=w) (base:=base) T
 refine za1 (k:=4) (G:=G_29) (N:=yb) (ps:=yb) (st:=s_29) T.F_29 sc_29 λcdv A outer s H E hr=> ?_
 ext aA
 refine zie ?_ ?_
 ext aa
 exact G_33
 ext b
 exact T.m_33
 exact T.F_33.kp
 exact T.b_33
 ext aD;ext aU
 refine zhn ?_
 refine zaK (id:="all") ?_ ?_ ?_ ?_
 exact (zfh rfl)
 exact zl8
 exact T.n_all
 ext a
 refine zbt (N:=["offer","thing"]) ?_ ?_ ?_ ?_ ?_ ?_ ?_
 ext B
 exact (BOk.of (Xn:=(zaf s_29).names) (XN:=yb) rfl rfl rfl ⋯)
 ext m;ext ai;ext aM
 intro _ _ _
 exact zam 0 zrr
 intro _ _ _
 ext au
 intro _ _ _
 refine zak (k:=4) (g:=t.a_35) (fd:=t.d_35) (ps:=yau) ?_ ?_ ?_ ?_ ?_ ?_
 exact G_35
 ext b
 exact T.m_35
 exact T.F_35.kp
 exact T.b_35
 ext aW;ext g
theorem sc_31:zau yah yah (zaf s_31):=⟨rfl,rfl,rfl,⋯,rfl,⋯,⋯⟩
theorem ok_31 (T:Tx K mg t):zbP P w K mg base CX0 6 t.a_31 t.d_31 yah (zbY K 2 F_31):=by
 have G_29:=ok_29 (P:=P) (w:=w) (base:=base) T
 have G_7:=ok_7 (P:=P) (w:=w) (base:=base) T
 refine za1 (k:=5) (G:=G_31) (N:=yah) (ps:=yah) (st:=s_31) T.F_31 sc_31 λcdv A outer s H E hr=> ?_
 ext bf;ext aV;ext Y
 exact G_29
 ext b
 exact T.m_29
 exact T.F_29.kp
 exact T.b_29
 ext aW;ext i
 exact zmP
 ext bl;ext A
 exact G_7
 ext b
 exact T.m_7
 exact T.F_7.kp
 exact T.b_7
 ext aK
theorem nd_44:(ybb:List Str).Nodup:=⋯
theorem sc_44:zau ybb yn (zaf s_44):=⟨rfl,rfl,rfl,⋯,rfl,⋯,⋯⟩
theorem ok_44 (T:Tx K mg t):zbP P w K mg base CX0 1 t.a_44 t.d_44 yn (zbY K 2 F_44):=by
 refine za1 (k:=0) (G:=G_44) (N:=ybb) (ps:=yn) (st:=s_44) T.F_44 sc_44 λcdv A outer s H E hr=> ?_
 ext d
 refine zsl 2 3 ?_ ?_ ?_
 ext B
 exact nd_44
 ext a
 refine zaK (id:="abs") ?_ ?_ ?_ ?_
 exact zhg
 exact zn8
 exact T.n_abs
 ext aE;ext g;ext a
 refine zaK (id:="abs") ?_ ?_ ?_ ?_
 exact zhg
 exact zn8
 exact T.n_abs
 ext aK;ext g;ext d
 refine zfC 20000 ?_ ?_ ?_
 ext y;ext o
 exact zf9
 ext bi;ext i
 refine zsl 2 3 ?_ ?_ ?_
 ext B
 exact nd_44
 ext aI;ext a;ext f
 exact zd7
 ext q;ext v;ext bk;ext aL;ext f
 exact zeo
 ext h;ext q;ext a;ext f
 exact zeo
 ext k;ext q;ext g
theorem nd_45:(ybd:List Str).Nodup:=⋯
theorem sc_45:zau ybd ["some"] (zaf s_45):=⟨rfl,rfl,rfl,⋯,rfl,⋯,⋯⟩
theorem ok_45 (T:Tx K mg t):zbP P w K mg base CX0 2 t.a_45 t.d_45 ["some"] (zbY K 1 F_45):=by
 have G_44:=ok_44 (P:=P) (w:=w) (base:=base) T
 refine za1 (k:=1) (G:=G_45) (N:=ybd) (ps:=["some"]) (st:=s_45) T.F_45 sc_45 λcdv A outer s H E hr=> ?_
 ext d;ext as;ext aL;ext j;ext aG;ext be
 exact zam 1 nd_45
 ext w
 exact zam 2 nd_45
 exact zbK
 ext aZ;ext ai;ext h
 exact zam 3 nd_45
 ext i;ext as;ext s
 exact G_44
 ext b
 exact T.m_44
 exact T.F_44.kp
 exact T.b_44
 ext a;ext aF;ext aN;ext k;ext c;ext bi;ext aN;ext c;ext bi;ext q;ext a;ext aN;ext q;ext c;ext v;ext aB;ext be
 exact zam 1 nd_45
 ext w
 exact zam 2 nd_45
 exact zbK
 ext aA;ext J;ext aD;ext aJ;ext g
theorem nd_49:(yw:List Str).Nodup:=⋯
theorem zsJ:(["thing","bears"]:List Str).Nodup:=⋯
theorem zoC:(["share","offer","thing"]:List Str).Nodup:=⋯
theorem sc_49:zau yw yz (zaf s_49):=⟨rfl,rfl,rfl,⋯,rfl,⋯,⋯⟩
theorem ok_49 (T:Tx K mg t):zbP P w K mg base CX0 3 t.a_49 t.d_49 yz (zbY K 3 F_49):=by
 have G_45:=ok_45 (P:=P) (w:=w) (base:=base) T
 refine za1 (k:=2) (G:=G_49) (N:=yw) (ps:=yz) (st:=s_49) T.F_49 sc_49 λcdv A outer s H E hr=> ?_
 ext aZ
 refine znx ?_ ?_
 exact T.n_zip
 ext aJ;ext aU;ext be
 exact zam 3 nd_49
 ext w
 exact zam 4 nd_49
 exact zbK
 ext i;ext u;ext av
 refine zkM ?_ ?_
 ext o
 exact zf9
 ext c;ext bi;ext j
 refine zid ?_
 ext o
 exact (zhm (zeX hr))
 ext P
 exact G_45
 ext b
 exact T.m_45
 exact T.F_45.kp
 exact T.b_45
 ext a
 refine zbt (N:=["thing","bears"]) ?_ ?_ ?_ ?_ ?_ ?_ ?_
 ext B;ext C;ext m;ext ai;ext c;ext af;ext j
 intro _ _ _
 exact zam 0 zsJ
 intro _ _ _
 ext au
 intro _ _ _
 ext aH;ext h;ext g;ext aL;ext c;ext af;ext j;ext aG;ext aA
 exact zh8
 ext aq;ext aZ;ext aR;ext aU
 exact zam 5 nd_49
 ext d
 refine zet 6 (N:=["share","offer","thing"]) ?_ ?_ ?_ ?_ ?_ ?_ ?_ ?_
 ext B
 exact nd_49
 ext C;ext p
 refine znx ?_ ?_
 exact T.n_zip
 ext aJ;ext aU
 intro _ _ _
 ext be
 exact zam 0 zoC
 ext w
 exact zam 1 zoC
 exact zbK
 intro _ _ _
 refine zf8 ?_
 ext o;ext ao;ext q;ext bn
 intro _ _ _
 ext h;ext i;ext u;ext av
 refine zkM ?_ ?_
 ext o
 exact zf9
 ext c;ext aH;ext ah;ext j;ext j
 refine zid ?_
 ext o
 exact (zhm (zeX hr))
 ext P
 exact G_45
 ext b
 exact T.m_45
 exact T.F_45.kp
 exact T.b_45
 ext a
 exact zab 6
 ext g;ext aL;ext j;ext aG;ext aA
 exact zh8
 ext bl
 exact zh8
theorem nd_36:(yaj:List Str).Nodup:=⋯
theorem zol:(["offer","share","thing"]:List Str).Nodup:=⋯
theorem sc_36:zau yaj yaa (zaf s_36):=⟨rfl,rfl,rfl,⋯,rfl,⋯,⋯⟩
theorem ok_36 (T:Tx K mg t):zbP P w K mg base CX0 4 t.a_36 t.d_36 yaa (zbY K 3 F_36):=by
 have G_7:=ok_7 (P:=P) (w:=w) (base:=base) T
 have G_5:=ok_5 (P:=P) (w:=w) (base:=base) T
 refine za1 (k:=3) (G:=G_36) (N:=yaj) (ps:=yaa) (st:=s_36) T.F_36 sc_36 λcdv A outer s H E hr=> ?_
 ext bh
 exact nd_36
 ext A
 exact G_7
 ext b
 exact T.m_7
 exact T.F_7.kp
 exact T.b_7
 ext a
 refine zbt (N:=["offer","share","thing"]) ?_ ?_ ?_ ?_ ?_ ?_ ?_
 ext B
 exact (BOk.of (Xn:=(zaf s_36).names) (XN:=yaj) rfl rfl rfl ⋯)
 ext p
 refine znx ?_ ?_
 exact T.n_zip
 ext a;ext aM;ext aJ;ext g
 intro _ _ _
 ext be
 exact zam 0 zol
 ext w
 exact zam 1 zol
 exact zbK
 intro _ _ _
 refine zf8 ?_
 ext o;ext ao;ext q;ext aM
 intro _ _ _
 ext k;ext bk
 refine znr ?_
 ext X
 exact G_5
 ext b
 exact T.m_5
 exact T.F_5.kp
 exact T.b_5
 ext aI;ext a;ext aL;ext j;ext aG;ext g
theorem zsF:(["number","stock","thing"]:List Str).Nodup:=⋯
theorem sc_30:zau yb yb (zaf s_30):=⟨rfl,rfl,rfl,⋯,rfl,⋯,⋯⟩
theorem ok_30 (T:Tx K mg t):zbP P w K mg base CX0 5 t.a_30 t.d_30 yb (zbY K 2 F_30):=by
 have G_33:=ok_33 (P:=P) (w:=w) (base:=base) T
 have G_36:=ok_36 (P:=P) (w:=w) (base:=base) T
 refine za1 (k:=4) (G:=G_30) (N:=yb) (ps:=yb) (st:=s_30) T.F_30 sc_30 λcdv A outer s H E hr=> ?_
 ext bf;ext aV;ext aa
 exact G_33
 ext b
 exact T.m_33
 exact T.F_33.kp
 exact T.b_33
 ext aD;ext bj;ext aU;ext bk
 exact zh8
 ext bl
 refine zaK (id:="all") ?_ ?_ ?_ ?_
 exact (zfh rfl)
 exact zl8
 exact T.n_all
 ext a
 refine zbt (N:=["number","stock","thing"]) ?_ ?_ ?_ ?_ ?_ ?_ ?_
 ext B
 exact (BOk.of (Xn:=(zaf s_30).names) (XN:=yb) rfl rfl rfl ⋯)
 ext bm;ext aU
 intro _ _ _
 exact zam 0 zsF
 intro _ _ _
 ext au
 intro _ _ _
 refine zak (k:=4) (g:=t.a_36) (fd:=t.d_36) (ps:=yaa) ?_ ?_ ?_ ?_ ?_ ?_
 exact G_36
 ext b
 exact T.m_36
 exact T.F_36.kp
 exact T.b_36
 ext aD;ext aE;ext aJ;ext aS
theorem zoh:(["offer","share"]:List Str).Nodup:=⋯
theorem sc_32:zau yac yac (zaf s_32):=⟨rfl,rfl,rfl,⋯,rfl,⋯,⋯⟩
theorem ok_32 (T:Tx K mg t):zbP P w K mg base CX0 6 t.a_32 t.d_32 yac (zbY K 2 F_32):=by
 have G_30:=ok_30 (P:=P) (w:=w) (base:=base) T
 have G_7:=ok_7 (P:=P) (w:=w) (base:=base) T
 refine za1 (k:=5) (G:=G_32) (N:=yac) (ps:=yac) (st:=s_32) T.F_32 sc_32 λcdv A outer s H E hr=> ?_
 ext bf;ext aV;ext Z
 exact G_30
 ext b
 exact T.m_30
 exact T.F_30.kp
 exact T.b_30
 ext aW;ext i
 exact zmP
 ext bl;ext A
 exact G_7
 ext b
 exact T.m_7
 exact T.F_7.kp
 exact T.b_7
 ext a
 refine zbt (N:=["offer","share"]) ?_ ?_ ?_ ?_ ?_ ?_ ?_
 ext B
 exact (BOk.of (Xn:=(zaf s_32).names) (XN:=yac) rfl rfl rfl ⋯)
 ext p
 refine znx ?_ ?_
 exact T.n_zip
 ext a;ext aM;ext aK
 intro _ _ _
 ext be
 exact zam 0 zoh
 ext w
 exact zam 1 zoh
 exact zbK
 intro _ _ _
 ext au
 intro _ _ _
 ext aL;ext aN;ext aM;ext bn;ext a;ext aH;ext aB;ext g
theorem nd_46:(yg:List Str).Nodup:=⋯
theorem zrN:(ye:List Str).Nodup:=⋯
theorem ztq:(["one","found"]:List Str).Nodup:=⋯
theorem sc_46:zau yg yi (zaf s_46):=⟨rfl,rfl,rfl,⋯,rfl,⋯,⋯⟩
theorem ok_46 (T:Tx K mg t):zbP P w K mg base CX0 3 t.a_46 t.d_46 yi (zbY K 2 F_46):=by
 have G_39:=ok_39 (P:=P) (w:=w) (base:=base) T
 have G_45:=ok_45 (P:=P) (w:=w) (base:=base) T
 have G_44:=ok_44 (P:=P) (w:=w) (base:=base) T
 refine za1 (k:=2) (G:=G_46) (N:=yg) (ps:=yi) (st:=s_46) T.F_46 sc_46 λcdv A outer s H E hr=> ?_
 ext bg
 exact nd_46
 refine zqs (N:=ye) ?_ ?_ ?_ ?_ ?_ ?_ ?_
 ext B;ext x;ext bm;ext a;ext aH;ext aB
 intro _ _ _
 exact zam 0 zrN
 intro _ _ _
 ext au
 intro _ _ _
 ext aL;ext j;ext aG;ext bh
 exact nd_46
 refine zjA ?_ ?_ ?_ ?_
 ext B
 exact T.n_list
 ext O;ext bn;ext d
 refine zfC 1000 ?_ ?_ ?_
 ext y;ext o
 exact (zr4 (zeX hr))
 ext v
 refine zgy ?_
 ext g;ext d;ext aj
 exact nd_46
 refine zra ?_ ?_
 ext v;ext e
 exact G_39
 ext bc;ext aE;ext bj;ext aI;ext aS;ext d
 refine zaG 5 ?_ ?_
 exact nd_46
 exact zh4
 ext aZ;ext ai;ext bn;ext be
 exact zam 6 nd_46
 ext w
 exact zam 7 nd_46
 exact zbK
 ext i;ext u;ext o;ext ao;ext af
 exact zab 6
 ext d;ext as;ext P
 exact G_45
 ext b
 exact T.m_45
 exact T.F_45.kp
 exact T.b_45
 ext a
 refine zbt (N:=["one","found"]) ?_ ?_ ?_ ?_ ?_ ?_ ?_
 ext B;ext x;ext m;ext ai
 exact zab 6
 intro _ _ _
 exact zam 0 ztq
 intro _ _ _
 ext au
 intro _ _ _
 ext aH;ext h;ext g;ext be
 exact zam 8 nd_46
 ext w
 exact zam 9 nd_46
 exact zbK
 ext d
 refine zaG 10 ?_ ?_
 exact nd_46
 ext s
 exact G_44
 ext b
 exact T.m_44
 exact T.F_44.kp
 exact T.b_44
 ext a;ext f
 exact zfw
 ext aN
 exact zab 7
 exact zab 9
 exact zab 8
 ext a
 exact zab 9
 ext g;ext i;ext u;ext av;ext al;ext o
 exact zk4
 ext ah
 exact zh4
 refine zem ?_
 ext o
 exact zel
 ext aN;ext c
 exact zab 10
 ext j;ext c;ext ah;ext j;ext aN;ext c;ext ah;ext j;ext c
 exact zab 10
 ext j;ext i
 refine zaG 5 ?_ ?_
 exact nd_46
 exact zab 10
 ext aq;ext aq;ext d
 refine zaG 11 ?_ ?_
 exact nd_46
 ext c
 refine zgy ?_
 ext a;ext aL;ext j;ext aG;ext a;ext aL;ext j;ext aG;ext a;ext aL;ext j;ext aG;ext a;ext aL;ext j;ext aG;ext a;ext aL;ext j;ext aG;ext g;ext e
 exact G_39
 ext bc;ext aE;ext aG;ext i;ext u;ext o
 exact zkb
 ext ah
 exact zh4
 ext i;ext as;ext s
 exact G_44
 ext b
 exact T.m_44
 exact T.F_44.kp
 exact T.b_44
 ext a;ext aN;ext c;ext ah;ext j;ext c
 exact zab 11
 ext j;ext a;ext aN;ext c;ext ah;ext j;ext c
 exact zab 11
 ext aB
 refine zjq ?_ ?_
 ext q;ext af;ext bl;ext r
 exact zaU
 exact zbc
 ext W;ext aJ;ext g
theorem nd_42:(yan:List Str).Nodup:=⋯
theorem zrB:(["thing","found"]:List Str).Nodup:=⋯
theorem sc_42:zau yan ya (zaf s_42):=⟨rfl,rfl,rfl,⋯,rfl,⋯,⋯⟩
theorem ok_42 (T:Tx K mg t):zbP P w K mg base CX0 1 t.a_42 t.d_42 ya (zbY K 2 F_42):=by
 refine za1 (k:=0) (G:=G_42) (N:=yan) (ps:=ya) (st:=s_42) T.F_42 sc_42 λcdv A outer s H E hr=> ?_
 ext bg
 exact nd_42
 refine zgy ?_
 ext g;ext aZ;ext ai;ext k
 exact zam 3 nd_42
 ext i;ext M
 exact nd_42
 ext aF;ext q
 refine zbt (N:=["thing","found"]) ?_ ?_ ?_ ?_ ?_ ?_ ?_
 ext B
 exact (BOk.of (Xn:=(zaf s_42).names) (XN:=yan) rfl rfl rfl ⋯)
 ext m;ext ai;ext c;ext c;ext aM;ext bi
 intro _ _ _
 exact zam 0 zrB
 intro _ _ _
 refine zf8 ?_
 ext o
 exact (zk1 (zeX hr))
 ext h;ext k
 intro _ _ _
 ext h;ext aA;ext r
 exact zaU
 exact zbc
 ext W;ext a
 refine zaK (id:="sorted") ?_ ?_ ?_ ?_
 exact (zdC rfl)
 exact zfy
 exact T.n_sorted
 ext aJ;ext aS
theorem nd_43:(ybc:List Str).Nodup:=⋯
theorem sc_43:zau ybc yi (zaf s_43):=⟨rfl,rfl,rfl,⋯,rfl,⋯,⋯⟩
theorem ok_43 (T:Tx K mg t):zbP P w K mg base CX0 2 t.a_43 t.d_43 yi (zbY K 2 F_43):=by
 have G_42:=ok_42 (P:=P) (w:=w) (base:=base) T
 have G_39:=ok_39 (P:=P) (w:=w) (base:=base) T
 refine za1 (k:=1) (G:=G_43) (N:=ybc) (ps:=yi) (st:=s_43) T.F_43 sc_43 λcdv A outer s H E hr=> ?_
 ext bg
 exact nd_43
 refine zjA ?_ ?_ ?_ ?_
 ext B
 exact T.n_list
 ext O;ext aQ;ext a;ext aH;ext aB;ext bh
 exact nd_43
 ext J;ext g;ext d
 refine zfC 1000 ?_ ?_ ?_
 ext y;ext o
 exact zel
 ext aQ;ext a
 refine zak (k:=1) (g:=t.a_42) (fd:=t.d_42) (ps:=ya) ?_ ?_ ?_ ?_ ?_ ?_
 exact G_42
 ext b
 exact T.m_42
 exact T.F_42.kp
 exact T.b_42
 ext aD;ext aI;ext aS;ext bn;ext i;ext N
 exact nd_43
 ext aF;ext v;ext aL
 refine zra ?_ ?_
 ext q;ext e
 exact G_39
 ext bc;ext aE;ext bj;ext aJ;ext aS;ext bk;ext r
 exact zaU
 exact zbc
 ext W;ext a
 refine zaK (id:="sorted") ?_ ?_ ?_ ?_
 exact (zdC rfl)
 exact zfy
 exact T.n_sorted
 ext aI;ext aS
theorem nd_47:(yaq:List Str).Nodup:=⋯
theorem ztn:(["turn","box","stock"]:List Str).Nodup:=⋯
theorem zs8:(["cover","offer"]:List Str).Nodup:=⋯
theorem sc_47:zau yaq yi (zaf s_47):=⟨rfl,rfl,rfl,⋯,rfl,⋯,⋯⟩
theorem ok_47 (T:Tx K mg t):zbP P w K mg base CX0 3 t.a_47 t.d_47 yi (zbY K 2 F_47):=by
 have G_39:=ok_39 (P:=P) (w:=w) (base:=base) T
 have G_43:=ok_43 (P:=P) (w:=w) (base:=base) T
 have G_44:=ok_44 (P:=P) (w:=w) (base:=base) T
 refine za1 (k:=2) (G:=G_47) (N:=yaq) (ps:=yi) (st:=s_47) T.F_47 sc_47 λcdv A outer s H E hr=> ?_
 ext d
 refine zet 2 (N:=["turn","box","stock"]) ?_ ?_ ?_ ?_ ?_ ?_ ?_ ?_
 ext B
 exact nd_47
 ext L;ext bm;ext a;ext aF;ext j;ext e
 exact G_39
 ext bc;ext aE;ext aG;ext g
 intro _ _ _
 exact zam 0 ztn
 intro _ _ _
 ext au
 intro _ _ _
 ext ab
 exact G_43
 ext b
 exact T.m_43
 exact T.F_43.kp
 exact T.b_43
 ext aD;ext aJ;ext g;ext bh
 exact nd_47
 refine zgg ?_
 ext g;ext aZ;ext aR;ext bj;ext a;ext aH;ext aB;ext g
 exact zam 4 nd_47
 ext i
 refine zgh ?_
 refine zgs ?_ ?_
 ext v;ext s
 exact G_44
 ext b
 exact T.m_44
 exact T.F_44.kp
 exact T.b_44
 ext bj;ext a
 refine zbt (N:=["cover","offer"]) ?_ ?_ ?_ ?_ ?_ ?_ ?_
 ext B;ext L;ext m;ext ai;ext q
 intro _ _ _
 exact zam 0 zs8
 intro _ _ _
 refine zf8 ?_
 ext o;ext ao;ext k;ext h
 intro _ _ _
 ext h;ext g;ext bj;ext aJ;ext aS;ext aA;ext r
 exact zaU
 exact zbc
 ext W;ext aI;ext g
theorem sc_48:zau yav yav (zaf s_48):=⟨rfl,rfl,rfl,⋯,rfl,⋯,⋯⟩
theorem ok_48 (T:Tx K mg t):zbP P w K mg base CX0 1 t.a_48 t.d_48 yav (zbY K 2 F_48):=by
 refine za1 (k:=0) (G:=G_48) (N:=yav) (ps:=yav) (st:=s_48) T.F_48 sc_48 λcdv A outer s H E hr=> ?_
 ext aA;ext T
 exact zel
 ext aN;ext aM;ext bn;ext aN;ext bn;ext aM
theorem nd_2:(yaz:List Str).Nodup:=⋯
theorem sc_2:zau yaz yax (zaf s_2):=⟨rfl,rfl,rfl,⋯,rfl,⋯,⋯⟩
theorem ok_2 (T:Tx K mg t):zbP P w K mg base CX0 2 t.a_2 t.d_2 yax (zbY K 2 F_2):=by
 have G_0:=ok_0 (P:=P) (w:=w) (base:=base) T
 refine za1 (k:=1) (G:=G_2) (N:=yaz) (ps:=yax) (st:=s_2) T.F_2 sc_2 λcdv A outer s H E hr=> ?_
 ext bf;ext aV;ext ar
 exact zfm
 exact zbc
 exact T.n_isinstance
 ext W;ext h;ext aA
 exact zh8
 ext aq;ext bg
 exact nd_2
 ext j;ext aZ;ext ai;ext h
 exact zam 3 nd_2
 ext bf;ext av;ext al;ext aV;ext R
 exact G_0
 ext b
 exact T.m_0
 exact T.F_0.kp
 exact T.b_0
 ext aI;ext g;ext al;ext o
 exact zel
 ext v;ext q
 refine zem ?_
 ext o
 exact zox
 ext v;ext k;ext aA
 exact zh8
 ext aq;ext i;ext M
 exact nd_2
 ext aF;ext bi;ext aA
 exact zh8
theorem sc_12:zau yb yb (zaf s_12):=⟨rfl,rfl,rfl,⋯,rfl,⋯,⋯⟩
theorem ok_12 (T:Tx K mg t):zbP P w K mg base CX0 3 t.a_12 t.d_12 yb (zbY K 2 F_12):=by
 have G_2:=ok_2 (P:=P) (w:=w) (base:=base) T
 refine za1 (k:=2) (G:=G_12) (N:=yb) (ps:=yb) (st:=s_12) T.F_12 sc_12 λcdv A outer s H E hr=> ?_
 ext aA
 refine zak (k:=2) (g:=t.a_2) (fd:=t.d_2) (ps:=yax) ?_ ?_ ?_ ?_ ?_ ?_
 exact G_2
 ext b
 exact T.m_2
 exact T.F_2.kp
 exact T.b_2
 ext aD;ext bj;ext aU;ext g
theorem sc_16:zau ya ya (zaf s_16):=⟨rfl,rfl,rfl,⋯,rfl,⋯,⋯⟩
theorem ok_16 (T:Tx K mg t):zbP P w K mg base CX0 4 t.a_16 t.d_16 ya (zbY K 2 F_16):=by
 have G_12:=ok_12 (P:=P) (w:=w) (base:=base) T
 refine za1 (k:=3) (G:=G_16) (N:=ya) (ps:=ya) (st:=s_16) T.F_16 sc_16 λcdv A outer s H E hr=> ?_
 ext i;ext u;ext aV
 refine zak (k:=3) (g:=t.a_12) (fd:=t.d_12) (ps:=yb) ?_ ?_ ?_ ?_ ?_ ?_
 exact G_12
 ext b
 exact T.m_12
 exact T.F_12.kp
 exact T.b_12
 ext aW;ext i
 exact zmP
 ext aq
theorem zuU:(ybh:List Str).Nodup:=⋯
theorem sc_17:zau ya ya (zaf s_17):=⟨rfl,rfl,rfl,⋯,rfl,⋯,⋯⟩
theorem ok_17 (T:Tx K mg t):zbP P w K mg base CX0 5 t.a_17 t.d_17 ya (zbY K 2 F_17):=by
 have G_16:=ok_16 (P:=P) (w:=w) (base:=base) T
 refine za1 (k:=4) (G:=G_17) (N:=ya) (ps:=ya) (st:=s_17) T.F_17 sc_17 λcdv A outer s H E hr=> ?_
 ext d
 refine zgh ?_
 refine zak (k:=4) (g:=t.a_16) (fd:=t.d_16) (ps:=ya) ?_ ?_ ?_ ?_ ?_ ?_
 exact G_16
 ext b
 exact T.m_16
 exact T.F_16.kp
 exact T.b_16
 ext aW;ext aA
 refine zbt (N:=ybh) ?_ ?_ ?_ ?_ ?_ ?_ ?_
 ext B
 exact (BOk.of (Xn:=(zaf s_17).names) (XN:=ya) rfl rfl rfl ⋯)
 ext m;ext ai;ext k
 intro _ _ _
 exact zam 0 zuU
 intro _ _ _
 ext au
 intro _ _ _
 ext c;ext bn;ext h
theorem zuV:(["offer"]:List Str).Nodup:=⋯
theorem sc_14:zau ya ya (zaf s_14):=⟨rfl,rfl,rfl,⋯,rfl,⋯,⋯⟩
theorem ok_14 (T:Tx K mg t):zbP P w K mg base CX0 6 t.a_14 t.d_14 ya (zbY K 2 F_14):=by
 have G_17:=ok_17 (P:=P) (w:=w) (base:=base) T
 refine za1 (k:=5) (G:=G_14) (N:=ya) (ps:=ya) (st:=s_14) T.F_14 sc_14 λcdv A outer s H E hr=> ?_
 ext aA
 refine zaK (id:="sum") ?_ ?_ ?_ ?_
 exact (zlu rfl)
 exact zrI
 exact T.n_sum
 ext a
 refine zbt (N:=["offer"]) ?_ ?_ ?_ ?_ ?_ ?_ ?_
 ext B
 exact (BOk.of (Xn:=(zaf s_14).names) (XN:=ya) rfl rfl rfl ⋯)
 ext m;ext ai
 refine zak (k:=5) (g:=t.a_17) (fd:=t.d_17) (ps:=ya) ?_ ?_ ?_ ?_ ?_ ?_
 exact G_17
 ext b
 exact T.m_17
 exact T.F_17.kp
 exact T.b_17
 ext aW
 intro _ _ _
 exact zam 0 zuV
 intro _ _ _
 ext au
 intro _ _ _
 ext aT
theorem nd_50:(yj:List Str).Nodup:=⋯
theorem zsg:(["offer","cover"]:List Str).Nodup:=⋯
theorem sc_50:zau yj yat (zaf s_50):=⟨rfl,rfl,rfl,⋯,rfl,⋯,⋯⟩
theorem ok_50 (T:Tx K mg t):zbP P w K mg base CX0 7 t.a_50 t.d_50 yat (zbY K 3 F_50):=by
 have G_46:=ok_46 (P:=P) (w:=w) (base:=base) T
 have G_47:=ok_47 (P:=P) (w:=w) (base:=base) T
 have G_43:=ok_43 (P:=P) (w:=w) (base:=base) T
 have G_30:=ok_30 (P:=P) (w:=w) (base:=base) T
 have G_29:=ok_29 (P:=P) (w:=w) (base:=base) T
 have G_48:=ok_48 (P:=P) (w:=w) (base:=base) T
 have G_32:=ok_32 (P:=P) (w:=w) (base:=base) T
 have G_31:=ok_31 (P:=P) (w:=w) (base:=base) T
 have G_14:=ok_14 (P:=P) (w:=w) (base:=base) T
 refine za1 (k:=6) (G:=G_50) (N:=yj) (ps:=yat) (st:=s_50) T.F_50 sc_50 λcdv A outer s H E hr=> ?_
 ext bh
 exact nd_50
 refine zak (k:=3) (g:=t.a_46) (fd:=t.d_46) (ps:=yi) ?_ ?_ ?_ ?_ ?_ ?_
 exact G_46
 ext b
 exact T.m_46
 exact T.F_46.kp
 exact T.b_46
 ext aW;ext d;ext aj
 exact nd_50
 refine zak (k:=3) (g:=t.a_47) (fd:=t.d_47) (ps:=yi) ?_ ?_ ?_ ?_ ?_ ?_
 exact G_47
 ext b
 exact T.m_47
 exact T.F_47.kp
 exact T.b_47
 ext aW;ext d
 refine zaG 5 ?_ ?_
 exact nd_50
 ext ab
 exact G_43
 ext b
 exact T.m_43
 exact T.F_43.kp
 exact T.b_43
 ext aW;ext bf;ext av;ext al;ext aV;ext Y
 exact G_29
 ext b
 exact T.m_29
 exact T.F_29.kp
 exact T.b_29
 ext aD;ext aI;ext g
 refine zem ?_
 ext aV;ext Z
 exact G_30
 ext b
 exact T.m_30
 exact T.F_30.kp
 exact T.b_30
 ext aD;ext a;ext af;ext bk
 exact zh8
 ext aq;ext bf;ext av;ext al;ext ac;ext G
 exact G_48
 ext b
 exact T.m_48
 exact T.F_48.kp
 exact T.b_48
 ext aJ;ext a;ext D
 exact G_31
 ext b
 exact T.m_31
 exact T.F_31.kp
 exact T.b_31
 ext aD;ext aI;ext aS
 refine zem ?_
 ext ac;ext G
 exact G_48
 ext b
 exact T.m_48
 exact T.F_48.kp
 exact T.b_48
 ext a;ext E
 exact G_32
 ext b
 exact T.m_32
 exact T.F_32.kp
 exact T.b_32
 ext aD;ext a;ext af;ext g;ext aJ;ext bk
 exact zh8
 ext aq;ext d
 refine zaG 6 ?_ ?_
 exact nd_50
 ext r
 exact zaU
 exact zbc
 ext W;ext a
 refine zbt (N:=["offer","cover"]) ?_ ?_ ?_ ?_ ?_ ?_ ?_
 ext B
 exact (BOk.of (Xn:=(zaf s_50).names) (XN:=yj) rfl rfl rfl ⋯)
 ext bm;ext bj;ext a;ext aH;ext aB;ext g
 intro _ _ _
 exact zam 0 zsg
 intro _ _ _
 ext au
 intro _ _ _
 ext aL
 refine zbi (T:="int") ?_ ?_ ?_ ?_
 exact zjO
 exact zoI
 exact T.n_int
 ext a;ext T;ext ao;ext h;ext k;ext g;ext aG;ext g;ext d
 refine zaG 7 ?_ ?_
 exact nd_50
 refine zak (k:=6) (g:=t.a_14) (fd:=t.d_14) (ps:=ya) ?_ ?_ ?_ ?_ ?_ ?_
 exact G_14
 ext b
 exact T.m_14
 exact T.F_14.kp
 exact T.b_14
 ext aD;ext a;ext ah;ext bk
 refine zie ?_ ?_
 ext T;ext ae;ext E
 exact G_32
 ext b
 exact T.m_32
 exact T.F_32.kp
 exact T.b_32
 ext aD;ext a
 exact zab 6
 ext g;ext aL
 exact zab 7
 ext aG
 refine zhn ?_
 refine znr ?_
 ext G
 exact G_48
 ext b
 exact T.m_48
 exact T.F_48.kp
 exact T.b_48
 ext a;ext aL
 exact zab 7
 ext aG;ext aJ;ext g
theorem nd_51:(yf:List Str).Nodup:=⋯
theorem zon:(["things","price","often"]:List Str).Nodup:=⋯
theorem sc_51:zau yf ybi (zaf s_51):=⟨rfl,rfl,rfl,⋯,rfl,⋯,⋯⟩
theorem ok_51 (T:Tx K mg t):zbP P w K mg base CX0 8 t.a_51 t.d_51 ybi (zbY K 1 F_51):=by
 have G_38:=ok_38 (P:=P) (w:=w) (base:=base) T
 have G_41:=ok_41 (P:=P) (w:=w) (base:=base) T
 have G_20:=ok_20 (P:=P) (w:=w) (base:=base) T
 have G_31:=ok_31 (P:=P) (w:=w) (base:=base) T
 have G_49:=ok_49 (P:=P) (w:=w) (base:=base) T
 have G_32:=ok_32 (P:=P) (w:=w) (base:=base) T
 have G_50:=ok_50 (P:=P) (w:=w) (base:=base) T
 have G_39:=ok_39 (P:=P) (w:=w) (base:=base) T
 have G_44:=ok_44 (P:=P) (w:=w) (base:=base) T
 refine za1 (k:=7) (G:=G_51) (N:=yf) (ps:=ybi) (st:=s_51) T.F_51 sc_51 λcdv A outer s H E hr=> ?_
 ext aZ;ext aR;ext a
 refine zaK (id:="max") ?_ ?_ ?_ ?_
 exact (zj7 rfl)
 exact ztr
 exact T.n_max
 ext a;ext j;ext a
 refine zaK (id:="min") ?_ ?_ ?_ ?_
 exact (zjK rfl)
 exact zrh
 exact T.n_min
 ext bj;ext aE;ext g;ext aG;ext aS
 exact zam 1 nd_51
 ext bg
 exact nd_51
 refine zak (k:=2) (g:=t.a_38) (fd:=t.d_38) (ps:=yt) ?_ ?_ ?_ ?_ ?_ ?_
 exact G_38
 ext b
 exact T.m_38
 exact T.F_38.kp
 exact T.b_38
 ext aW;ext bh
 exact nd_51
 refine zak (k:=3) (g:=t.a_41) (fd:=t.d_41) (ps:=yak) ?_ ?_ ?_ ?_ ?_ ?_
 exact G_41
 ext b
 exact T.m_41
 exact T.F_41.kp
 exact T.b_41
 ext aJ;ext a;ext j;ext aG;ext d;ext as
 refine zak (k:=5) (g:=t.a_20) (fd:=t.d_20) (ps:=yh) ?_ ?_ ?_ ?_ ?_ ?_
 exact G_20
 ext b
 exact T.m_20
 exact T.F_20.kp
 exact T.b_20
 ext aI;ext g;ext be
 exact zam 4 nd_51
 ext w
 exact zam 5 nd_51
 exact zbK
 ext d
 refine zaG 6 ?_ ?_
 exact nd_51
 ext D
 exact G_31
 ext b
 exact T.m_31
 exact T.F_31.kp
 exact T.b_31
 ext aI;ext a;ext af;ext g;ext bf;ext av;ext al;ext o
 exact (zhm (zeX hr))
 exact zab 6
 ext E
 exact G_32
 ext b
 exact T.m_32
 exact T.F_32.kp
 exact T.b_32
 ext aI;ext a;ext ah;ext g
 refine zem ?_
 ext aV
 refine zak (k:=3) (g:=t.a_49) (fd:=t.d_49) (ps:=yz) ?_ ?_ ?_ ?_ ?_ ?_
 exact G_49
 ext b
 exact T.m_49
 exact T.F_49.kp
 exact T.b_49
 ext aI;ext a;ext af;ext a;ext ah;ext bk
 exact zh8
 ext aq;ext bf;ext av;ext al;ext aV;ext U
 exact G_50
 ext b
 exact T.m_50
 exact T.F_50.kp
 exact T.b_50
 ext aJ;ext aI;ext a
 exact zab 6
 ext g
 refine zem ?_
 ext aV;ext U
 exact G_50
 ext b
 exact T.m_50
 exact T.F_50.kp
 exact T.b_50
 ext aJ;ext aI;ext a
 exact zab 6
 ext bk
 exact zh8
 ext aq;ext d
 refine zaG 7 ?_ ?_
 exact nd_51
 ext aF;ext j;ext e
 exact G_39
 ext bc;ext aJ;ext aG;ext d
 refine zaG 8 ?_ ?_
 exact nd_51
 ext aL;ext c;ext bi;ext a;ext r
 exact zaU
 exact zbc
 ext W;ext a
 refine zbt (N:=["things","price","often"]) ?_ ?_ ?_ ?_ ?_ ?_ ?_
 ext B
 exact (BOk.of (Xn:=(zaf s_51).names) (XN:=yf) rfl rfl rfl ⋯)
 ext p;ext ai;ext c;ext bi
 intro _ _ _
 ext be
 exact zam 0 zon
 ext w
 exact zam 1 zon
 exact zbK
 intro _ _ _
 ext au
 intro _ _ _
 ext J;ext aE;ext a;ext aN;ext k;ext q;ext aS;ext g;ext i;ext u;ext o
 exact (zhm (zeX hr))
 ext D
 exact G_31
 ext b
 exact T.m_31
 exact T.F_31.kp
 exact T.b_31
 ext a
 exact zab 8
 ext a;ext c
 refine zak (k:=5) (g:=t.a_20) (fd:=t.d_20) (ps:=yh) ?_ ?_ ?_ ?_ ?_ ?_
 exact G_20
 ext b
 exact T.m_20
 exact T.F_20.kp
 exact T.b_20
 ext a
 exact zab 8
 ext g;ext aB;ext s
 exact G_44
 ext b
 exact T.m_44
 exact T.F_44.kp
 exact T.b_44
 ext a;ext aN;ext c
 exact zab 6
 ext j
 exact zab 7
 ext a;ext c
 exact zab 6
 ext aB;ext aA
 exact zh8
 ext bl
 exact zh8
end
end K34
set_option exponentiation.threshold 8000
namespace L3
open L2 LT
section
theorem zdh {n:Nat} {tc:FT} {gb:FS} {sd:Sd}:zbJ tc gb (n+1) sd=(do let b<-tc sd;if b=true then (do let o<-gb sd;match o with | .nx sd'=>zbJ tc gb n sd' | .ct sd'=>zbJ tc gb n sd' | .bk sd'=>pure (.nx sd') | .rt d=>pure (.rt d)) else pure (.nx sd)):=rfl
theorem zcF {k:Int} {xs:List Int}:xs.any (· == k)=true↔k∈xs:=by
 rw [any_eq_true]
 constructor
 ·rintro ⟨x,hx,e⟩
  rw [beq_iff_eq] at e
  exact e▸hx
 ·intro h
  exact ⟨k,h,by simp⟩
theorem zcK {α β:Type} {p:α->Bool} {g:α->β}: ∀ xs:List α,xs.filterMap (λx=>if p x=true then some (g x) else none)=(xs.filter p).map g
 | []=>rfl
 | x::r=>by
  rw [qat,filter_cons,zcK r]
  cases p x<;>simp
theorem zaY {α:Type} {g':α->D} {fi:FA} {g:D->Sd->M Sd} {tc:FT} {te:FE} {src:List (Option Nat)} {sd:Sd} {xs:List α} {k:α->Option D} (hi:fi sd=pure (xs.map g')) (hl:xs.length<=1000) (hf: ∀ x∈xs,zaZ g tc te (zap src sd) (g' x)=pure (k x)):zaH fi g tc te src sd=pure (.lst (xs.filterMap k)):=by
 unfold zaH
 rw [hi]
 simp only [pure_bind]
 rw [zaL (by rw [qaH];exact hl)]
 simp only [pure_bind]
 have: ∀ {ys:List α},(∀ x∈ys,zaZ g tc te (zap src sd) (g' x)=pure (k x))->zbk (zaZ g tc te (zap src sd)) (ys.map g')=pure (ys.filterMap k):=by
  intro ys
  induction ys with
  | nil=>intro _;rfl
  | cons x r ih=>
   intro hf
   rw [qaM,zbk,hf x qau,ih λy hy=>hf y (qan _ hy)]
   simp only [pure_bind]
   cases e:k x<;>simp [qat,e]
 rw [this hf]
 simp only [pure_bind]
theorem ztE {x y:D} {a b:PyData} (e1:pd x=some a) (e2:pd y=some b) (h:zgY a b=true):dNe x y=pure (.bl (!PyData.eqv a b)):=by
 show zmk true x y=_
 unfold zmk
 rw [e1,e2]
 simp only [h,if_true]
theorem zrb (xs ys:List Int):dNe (tI xs) (tI ys)=pure (.bl (!(xs==ys))):=by
 rw [ztE (zmZ xs) (zmZ ys) (by unfold zgY;simp [PyData.canLay0,zbL,PyData.depth,zc6])]
 simp only [PyData.eqv,zgV]
theorem zq1 {i j:Nat} {f g:FE} {sd:Sd}:zqP i j (zac f (zac g zar)) sd=(do let x<-f sd;let y<-g sd;pure (.nx ((sd.set i (some x)).set j (some y)))):=by
 unfold zqP
 simp only [zaO,za3,bind_assoc,pure_bind]
def bb:Nat:=2^7000
theorem zfV {n:Nat} (h:n<=7000):2^n<=bb:=pow_le_pow_right (by decide) h
theorem zdy {i:Int} {k:Nat} (h0:0<k) (h1:k<=bb):zeq (.int i) (.int (k:Int))=pure (.int (i / (k:Int))):=by
 have hb:bb<2^8000:=pow_lt_pow_right (by decide) (by decide)
 have h2:((k:Int):Int)<2^8000:=by
  have:((k:Nat):Int)<((2^8000:Nat):Int):=Int.ofNat_lt.mpr (lt_of_le_of_lt h1 hb)
  rw [Int.natCast_pow] at this
  exact this
 unfold zeq dII
 simp only
 rw [qa4]
 rw [qaG,qaD,qaD]
 exact ⟨⋯,h2⟩
theorem euc {a b n:Nat} (hb:b≠0) (hab:b<=a) (h:a*b<2^(n+1)):b*(a % b)<2^n:=by
 have hp:0<b:=pos_of_ne_zero hb
 have h1:=Nat.div_add_mod a b
 have h2:1<=a / b:=(Nat.one_le_div_iff hp).mpr hab
 have h3:=mod_lt a hp
 have h4:b+a % b<=a:=by
  have:b*1<=b*(a / b):=mul_le_mul_left b h2
  omega
 have h5:(b+a % b)*b<=a*b:=mul_le_mul_right b h4
 have h6:b*(a % b)+b*(a % b)<=(b+a % b)*b:=by
  rw [add_mul,Nat.mul_comm (a % b) b]
  have:b*(a % b)<=b*b:=mul_le_mul_left b (le_of_lt h3)
  omega
 rw [pow_succ] at h
 omega
def qD (r:Rat):D:= .tup [.int r.num,.int (r.den:Int)]
theorem zqj (a:Int) {b:Nat} (hb:0<b):gcd b (a % (b:Int)).toNat=gcd a.natAbs b:=by
 have h0:0<=a % (b:Int):=emod_nonneg _ ⋯
 have e:(((a % (b:Int)).toNat:Nat):Int)=a % (b:Int):=Int.toNat_of_nonneg h0
 have key: ∀ d:Nat,(d ∣ b/\d ∣ (a % (b:Int)).toNat)↔(d ∣ a.natAbs/\d ∣ b):=λd=>by
  rw [<- Int.natCast_dvd_natCast (m:=d) (n:=(a % (b:Int)).toNat),e, <-Int.natCast_dvd_natCast (m:=d) (n:=b), <-Int.ofNat_dvd_left (n:=d) (z:=a)]
  constructor
  ·rintro ⟨h1,h2⟩
   refine ⟨?_,h1⟩
   have:=Int.dvd_add (Int.dvd_mul_of_dvd_left (c:=a / (b:Int)) h1) h2
   rwa [Int.mul_ediv_add_emod] at this
  ·rintro ⟨h1,h2⟩
   refine ⟨h2,?_⟩
   rw [Int.emod_def]
   exact Int.dvd_sub h1 (Int.dvd_mul_of_dvd_left h2)
 refine Nat.dvd_antisymm (Nat.dvd_gcd ((key _).mp ⟨Nat.gcd_dvd_left _ _,Nat.gcd_dvd_right _ _⟩).1 (Nat.gcd_dvd_left _ _)) (Nat.dvd_gcd (Nat.gcd_dvd_right _ _) ((key _).mpr ⟨Nat.gcd_dvd_left _ _,Nat.gcd_dvd_right _ _⟩).2)
end
section
def pF:D->Bool
 | .tup [.int a,.int b]=>decide (0<b) && (gcd a.natAbs b.toNat==1)
 | _=>false
def pS:D->Bool
 | .tup [.int a,.int b]=>decide (0<b) && (gcd a.natAbs b.toNat==1) && decide (0<=a)
 | _=>false
def sv (d:D):Prop:=kn d=true/\ ∀ ds,d= .tup ds->(∀ x∈ds,kn x=true)/\ ∀ a b:Int,ds=[.int a,.int b]->b.toNat<bb
theorem zv9 (r:Rat):pF (qD r)=true:=by
 unfold qD pF
 have:=r.den_pos
 rw [qaG,qaD,beq_iff_eq,qaB]
 exact ⟨⋯,r.reduced⟩
end
section
theorem zmC {i j:Int} (h:(zbA i || zbA j || zjJ i j)=true):zcg (.int i) (.int j)=pure (.int (i*j)):=by
 show (if (zbA i || zbA j || zjJ i j)=true then _ else _)=_
 rw [qa4 h]
theorem zlH {x:Int} {n:Nat} (h:x.natAbs<2^n):Builtin.Int.intBits x<=n:=by
 unfold Builtin.Int.intBits
 split
 ·exact zero_le _
 ·rename_i c
  have h0:x.natAbs≠0:=λz=>c (by simp;omega)
  exact (Nat.log2_lt h0).mpr h
theorem ze1 {a b:Int} (ha:a.natAbs<2^6000) (hb:b.natAbs<2^6000):zcg (.int a) (.int b)=pure (.int (a*b)):=by
 refine zmC ?_
 have h1:=zlH ha
 have h2:=zlH hb
 rw [Bool.or_eq_true]
 right
 unfold zjJ
 rw [qaD]
 have:(2:Nat)^26=67108864:=by decide
 omega
def tt:Nat:=2^1800
def pD (p:Int×Nat):D:= .tup [.int p.1,.int (p.2:Int)]
def rq (p:Int×Nat):Rat:=mkRat p.1 p.2
def nd (r:Rat):Int×Nat:=(r.num,r.den)
def dpp (ps:List (Int×Nat)):Nat:=ps.foldr (λp n=>p.2*n) 1
def dp (rs:List Rat):Nat:=rs.foldr (λr n=>r.den*n) 1
theorem zi4: ∀ rs:List Rat,0<dp rs
 | []=>by decide
 | r::rs=>mul_pos r.den_pos (zi4 rs)
theorem zhS: ∀ ps:List (Int×Nat),(∀ p∈ps,0<p.2)->0<dpp ps
 | [],_=>by decide
 | p::ps,h=>mul_pos (h p qau) (zhS ps λq hq=>h q (qan _ hq))
theorem zob: ∀ rs:List Rat,dpp (rs.map nd)=dp rs
 | []=>rfl
 | r::rs=>by
  show r.den*dpp (rs.map nd)=r.den*dp rs
  rw [zob rs]
theorem zmS (rs:List Rat):(rs.map nd).map rq=rs:=by
 rw [qaT]
 conv=>rhs;rw [<- List.map_id rs]
 exact map_congr_left λr _=>mkRat_self r
theorem zr2 (rs:List Rat):(rs.map nd).map pD=rs.map qD:=by
 rw [qaT]
 rfl
theorem zgf (a:Int) {b:Nat} (hb:0<b):(mkRat a b).num.natAbs<=a.natAbs:=by
 rw [num_mkRat,qa5 ⋯]
 exact Int.natAbs_ediv_le_natAbs _ _
theorem zef (a:Int) {b:Nat} (hb:0<b):(mkRat a b).den<=b:=by
 rw [Rat.den_mkRat,qa5 ⋯]
 exact Nat.div_le_self _ _
theorem zfI {a b x y:Nat} (ha:a<=2^x) (hb:b<=2^y):a*b<=2^(x+y):=by
 rw [Nat.pow_add]
 exact mul_le_mul ha hb
structure Sz (A:Int) (B k:Nat) (rs:List (Int×Nat)):Prop where
 b0:0<B
 b1:B*dpp rs<=2^2000
 a1:A.natAbs<=k*(tt*B)
 k1:k+rs.length<=14
 r1: ∀ r∈rs,r.1.natAbs<=tt
 p0: ∀ r∈rs,0<r.2
theorem Sz.B_le {A:Int} {B k:Nat} {rs:List (Int×Nat)} (z:Sz A B k rs):B<=2^2000:=by
 have h:=z.b1
 have h1:B*1<=B*dpp rs:=mul_le_mul_left B (zhS rs z.p0)
 omega
theorem Sz.A_le {A:Int} {B k:Nat} {rs:List (Int×Nat)} (z:Sz A B k rs):A.natAbs<=2^3804:=by
 have hB:=z.B_le
 have hk:k<=2^4:=by
  have:=z.k1
  have:(2:Nat)^4=16:=by decide
  omega
 have h1:tt*B<=2^(1800+2000):=zfI (qaV _) hB
 have h2:k*(tt*B)<=2^(4+(1800+2000)):=zfI hk h1
 exact qaS z.a1 h2
theorem Sz.d_le {A:Int} {B k:Nat} {r:Int×Nat} {rs:List (Int×Nat)} (z:Sz A B k (r::rs)):B*r.2<=2^2000/\r.2<=2^2000:=by
 have h:=z.b1
 have h0:=z.b0
 have e:B*dpp (r::rs)=B*r.2*dpp rs:=by
  show B*(r.2*dpp rs)=_
  rw [Nat.mul_assoc]
 rw [e] at h
 have h1:B*r.2*1<=B*r.2*dpp rs:=mul_le_mul_left _ (zhS rs λq hq=>z.p0 q (qan _ hq))
 have h2:1*r.2<=B*r.2:=mul_le_mul_right _ h0
 omega
theorem Sz.next {A:Int} {B k:Nat} {r:Int×Nat} {rs:List (Int×Nat)} (z:Sz A B k (r::rs)):Sz (A*(r.2:Int)+r.1*(B:Int)) (B*r.2) (k+1) rs where
 b0:=mul_pos z.b0 (z.p0 r qau)
 b1:=by
  have h:=z.b1
  have e:B*dpp (r::rs)=B*r.2*dpp rs:=by
   show B*(r.2*dpp rs)=_
   rw [Nat.mul_assoc]
  rw [<- e]
  exact h
 a1:=by
  have h1:=Int.natAbs_add_le (A*(r.2:Int)) (r.1*(B:Int))
  rw [natAbs_mul,natAbs_mul,natAbs_natCast,natAbs_natCast] at h1
  have h2:A.natAbs*r.2<=k*(tt*B)*r.2:=mul_le_mul_right _ z.a1
  have h3:r.1.natAbs*B<=tt*B:=mul_le_mul_right _ (z.r1 r qau)
  have h4:tt*B*1<=tt*B*r.2:=mul_le_mul_left _ (z.p0 r qau)
  have e1:k*(tt*B)*r.2=k*(tt*(B*r.2)):=by rw [Nat.mul_assoc,Nat.mul_assoc]
  have e2:(k+1)*(tt*(B*r.2))=k*(tt*(B*r.2))+tt*(B*r.2):=by rw [add_mul,one_mul]
  have e3:tt*B*r.2=tt*(B*r.2):=Nat.mul_assoc _ _ _
  omega
 k1:=by
  have:=z.k1
  rw [qaE] at this
  omega
 r1:=λx hx=>z.r1 x (qan _ hx)
 p0:=λx hx=>z.p0 x (qan _ hx)
theorem zax {n:Nat} (h:n<6000) {a:Nat} (ha:a<=2^n):a<2^6000:=lt_of_le_of_lt ha (pow_lt_pow_right (by decide) h)
theorem zdM {A:Int} {B:Nat} (h0:0<B) {p:Int×Nat} (hp:0<p.2):mkRat A B+rq p=mkRat (A*(p.2:Int)+p.1*(B:Int)) (B*p.2):=by
 exact Rat.mkRat_add_mkRat A p.1 (d₁:=B) (d₂:=p.2) ⋯ ⋯
end
section
theorem zqX {d:D} (h:pF d=true): ∃ a b:Int,d= .tup [.int a,.int b]:=by
 unfold pF at h
 split at h
 ·exact ⟨_,_,rfl⟩
 ·cases h
theorem zuj {d:D} (h:pF d=false):pS d=false:=by
 unfold pS
 split
 ·rename_i a b
  have h:(decide (0<b) && (gcd a.natAbs b.toNat==1))=false:=h
  rw [h]
  rfl
 ·rfl
theorem zrA {a b:Int} (h:pF (.tup [.int a,.int b])=true):pS (.tup [.int a,.int b])=decide (0<=a):=by
 have h:(decide (0<b) && (gcd a.natAbs b.toNat==1))=true:=h
 show (decide (0<b) && (gcd a.natAbs b.toNat==1) && decide (0<=a))=_
 rw [h,Bool.true_and]
end
section
theorem zou {fo fe:FE} {sd:Sd}:ztM fo fe sd=(do let x<-fo sd;zcZ x;let y<-fe sd;zfq x y):=rfl
theorem zok {c:Nat} {h:Hh} {ds:List D} {i:Int} {d:D} {P:D->Hh->Prop} (e:h[c]? = some (.lst ds)) (i0:0<=i) (i1:i<1000) (ed:ds[i.toNat]? = some d) (k:P d (h.set c (.lst (ds.eraseIdx i.toNat)))):wp (zfq (.cel c) (.int i)) h P:=by
 show wp (zaq c>>=_) h P
 rw [zal,zbd e]
 rw [qa4 ⟨i0,i1⟩,ed]
 simp only [zal,zen,zan]
 exact k
theorem zjy {xs:List Int} {i:Nat} {x:Int} (e:xs[i]? = some x):List.Perm (x::xs.eraseIdx i) xs:=by
 obtain ⟨h,rfl⟩:=qac.mp e
 have e2:xs=xs.take i++xs[i]::xs.drop (i+1):=by simp
 rw [List.eraseIdx_eq_take_drop_succ]
 conv=>rhs;rw [e2]
 exact List.perm_middle.symm
end
section
theorem zpi {α:Type} {g':α->D} {f:D->M (Option D)} {k:α->Option D} {h:Hh}: ∀ {xs:List α} {P:List D->Hh->Prop},(∀ x∈xs,wp (f (g' x)) h λo h'=>o=k x/\h'=h)->P (xs.filterMap k) h->wp (zbk f (xs.map g')) h P
 | [],P,_,q=>by rw [map_nil,zbk,zan];exact q
 | x::r,P,hf,q=>by
  rw [qaM,zbk,zal]
  refine zgl (hf x qau) ?_
  rintro o h' ⟨rfl,rfl⟩
  rw [zal]
  refine zpi (λy hy=>hf y (qan _ hy)) ?_
  rw [zan]
  rw [qat] at q
  cases hk:k x<;>rw [hk] at q<;>exact q
theorem zrV {n:Nat} {k:Int} (h0:0<=k) (h1:k<(n:Int)):ixN n k=some k.toNat:=by
 unfold ixN
 split<;>first | rfl | (split<;>first | rfl | omega) | omega
theorem zm0 {h:Hh} {c:Nat} {xs:List Int} {P:D->Hh->Prop} (e:h[c]? = some (.lst (xs.map D.int))) (q:P (.bl (!xs.isEmpty)) h):wp (zqR (.cel c) (.lst [])) h P:=by
 refine ⟨.bl (!xs.isEmpty),h,?_,q⟩
 unfold zqR
 have a1:pdH h (.cel c)=some (.list (xs.map PyData.int)):=by
  unfold pdH
  rw [e]
  show (pdL (xs.map D.int)).map PyData.list=_
  rw [zdL]
  rfl
 have a2:pdH h (.lst [])=some (.list []):=by simp only [pdH,zjM,Option.map]
 rw [a1,a2]
 have c:zgY (.list (xs.map PyData.int)) (.list [])=true:=by
  unfold zgY
  simp [PyData.canLay0,PyData.canLayAll0,zbL,PyData.depth,PyData.depthAll]
 simp only [c,if_true]
 cases xs with
 | nil=>rfl
 | cons _ _=>rfl
end
section
theorem zpS {F:List D->M D} {x y z w:D}:zav 4 F [x,y,z,w]=F [x,y,z,w]:=rfl
theorem zpg {F:List D->M D} {x y z w v:D}:zav 5 F [x,y,z,w,v]=F [x,y,z,w,v]:=rfl
theorem zfd {α:Type} {n:Nat} {f:Nat->α} {k:Nat} (h:k<n):atI ((List.range n).map f) (k:Int)=some (f k):=by
 unfold atI ixN
 rw [qa4 ⋯,qa4 (by rw [qaH,length_range];omega)]
 simp [h]
theorem ziw {α:Type} {n:Nat} {f:Nat->α}:atI ((List.range (n+1)).map f) (-1)=some (f n):=by
 unfold atI ixN
 rw [qa5 ⋯,qa4 (by rw [qaH,length_range];omega)]
 rw [qaH,length_range]
 show ((List.range (n+1)).map f)[(-1+((n+1:Nat):Int)).toNat]? = _
 rw [show (-1+((n+1:Nat):Int)).toNat=n by omega]
 simp
def zcd (n:Nat) (f:Nat->Int):D:= .lst ((List.range n).map λx=> .int (f x))
def zbC (n k:Nat) (T:Nat->Nat->Int):D:= .lst ((List.range n).map λj=>zcd k (T j))
theorem zwf (n:Nat):zdp 0 n=(List.range n).map λ(k:Nat)=>D.int (k:Int):=by
 unfold zdp
 exact map_congr_left λk _=>by rw [zero_add]
theorem zhj {n:Nat} (h:n<=1000):zir [.int (n:Int)]=pure ((List.range n).map λ(k:Nat)=>D.int (k:Int)):=by
 rw [<- zwf]
 show (if zdd (n:Int)=true then (pure (zdp 0 (n:Int).toNat):M (List D)) else M.bad)=_
 rw [qa4 (by unfold zdd;simp;omega)]
 rfl
theorem zlX {f:FE} {sd:Sd}:zh9 f sd=(do let d<-f sd;match d with | .lst ds=>pure (zg0 ds) | _=>M.bad):=rfl
theorem zlY {n:Nat} {f:Nat->D}:zg0 ((List.range n).map f)=(List.range n).map λ(k:Nat)=> .tup [.int k,f k]:=by
 unfold zg0
 rw [qaH,length_range]
 refine map_congr_left λk hk=> ?_
 have hk:=mem_range.mp hk
 rw [show ((List.range n).map f).getD k .non=f k by simp [List.getD,hk]]
theorem zp9 {n:Nat} {f g:Nat->D}:zf0 ((List.range n).map f) ((List.range n).map g)=(List.range n).map λk=> .tup [f k,g k]:=by
 unfold zf0
 rw [List.zip_map,qaT]
 have:(List.range n).zip (List.range n)=(List.range n).map λk=>(k,k):=by
  refine List.ext_getElem? λj=> ?_
  simp only [List.getElem?_zip_eq_some,List.getElem?_map]
  by_cases hj:j<n
  ·simp [List.getElem?_range hj,List.zip,List.getElem?_zipWith,hj]
  ·simp [List.zip,List.getElem?_zipWith,hj]
 rw [this,qaT]
 rfl
end
section
def Kp (N:Nat) (h h':Hh):Prop:=N<=h'.length/\ ∀ k,k<N->h'[k]? = h[k]?
theorem Kp.gro {h h':Hh} (k:Kp h.length h h'):Gro h h':=by
 refine ⟨h'.drop h.length,List.ext_getElem? λj=> ?_⟩
 by_cases hj:j<h.length
 ·rw [qad hj,k.2 j hj]
 ·rw [qaa ⋯,List.getElem?_drop]
  congr 1
  omega
theorem zoo {n:Nat} {h:Hh} {ds:List D} {P:D->Hh->Prop} (e:h[n]? = some (.lst ds)) (k:P (.lst ds) (h.set n .dead)):wp (zs4 (.cel n)) h P:=by
 refine ⟨.lst ds,h.set n .dead,?_,k⟩
 unfold zs4
 simp only
 rw [e]
theorem zhs (d:D) {n:Nat} (h:n<1000):zhX (.lst [d]) (.int (n:Int))=pure (.lst (replicate n d)):=by
 show (if _ then _ else _)=_
 rw [qa4 ⟨⋯,⋯,by
   have hsl:(sizeLine:Nat)=16777216:=by decide
   show 1*(n:Int).toNat<=_
   omega⟩]
 congr 2
 refine List.eq_replicate_iff.mpr ⟨by simp,λx hx=> ?_⟩
 obtain ⟨l,hl,hx⟩:=List.mem_flatten.mp hx
 rw [(List.mem_replicate.mp hl).2] at hx
 exact mem_singleton.mp hx
theorem zfs {α:Type} (f:Nat->α) (m n:Nat):(List.range (m+n)).map f=(List.range m).map f++(List.range n).map λj=>f (m+j):=by
 induction n with
 | zero=>simp
 | succ n ih=>rw [<- Nat.add_assoc,range_succ,map_append,ih,range_succ,map_append];simp
end
section
theorem zqv {fo:FE} {fs:FA} {sd:Sd}:zoQ fo fs sd=(fo sd>>=λx=>zgo x>>=λ_=>fs sd>>=λys=>zii x ys):=rfl
theorem zp0 (kvs:List (Int×D)) (k:Int) (d:D) (j:Int):atK (zqN kvs k d) j=if k=j then some d else atK kvs j:=by
 unfold zqN atK
 split
 ·rename_i e
  induction kvs with
  | nil=>simp at e
  | cons p r ih=>
   rw [qaM,List.find?_cons,List.find?_cons]
   by_cases h1:p.1=k
   ·rw [qa4 h1]
    by_cases h2:k=j
    ·rw [qa4 h2]
     dsimp only
     rw [decide_eq_true (h1.trans h2)]
     rfl
    ·rw [qa5 h2]
     dsimp only
     rw [decide_eq_false (λz=>h2 (h1.symm.trans z))]
     dsimp only
     by_cases h3:(r.any λp=>decide (p.1=k))=true
     ·rw [ih h3,qa5 h2]
     ·congr 1
      have:r.map (λp=>if p.1=k then (p.1,d) else p)=r:=by
       refine (map_congr_left λq hq=> ?_).trans (List.map_id _)
       rw [qa5 λz=>h3 (any_eq_true.mpr ⟨q,hq,decide_eq_true z⟩)]
       rfl
      rw [this]
   ·rw [qa5 h1]
    have h3:(r.any λp=>decide (p.1=k))=true:=by
     rw [any_cons,decide_eq_false h1] at e
     simpa using e
    by_cases h4:p.1=j
    ·rw [decide_eq_true h4,qa5 (λz=>h1 (h4.trans z.symm))]
    ·rw [decide_eq_false h4]
     exact ih h3
 ·rename_i e
  rw [List.find?_append]
  by_cases h2:k=j
  ·subst h2
   rw [qa4 rfl]
   have:kvs.find? (λp=>decide (p.1=k))=none:=by
    rw [List.find?_eq_none]
    intro p hp hd
    exact e (any_eq_true.mpr ⟨p,hp,hd⟩)
   rw [this]
   simp
  ·rw [qa5 h2]
   have:[(k,d)].find? (λp=>decide (p.1=j))=none:=by simp [h2]
   rw [this]
   simp
section
variable {n:Nat} {d:D} {h:Hh}
theorem ztm {kvs:List (Int×D)} {k:Int} {P:D->Hh->Prop} (e:h[n]? = some (.dic kvs)) (q:P ((atK kvs k).getD d) h):wp (zii (.cel n) [.int k,d]) h P:=by
 refine ⟨_,h,?_,q⟩
 show M.bind (zc5 n) _ h=_
 unfold M.bind zc5
 rw [e]
 rfl
theorem zlq {kvs:List (Int×D)} {P:Unit->Hh->Prop} (e:h[n]? = some (.dic kvs)) (q:P () h):wp (zgo (.cel n)) h P:=by
 refine ⟨_,h,?_,q⟩
 show M.bind (zc5 n) _ h=_
 unfold M.bind zc5
 rw [e]
 rfl
theorem zks {kvs:List (Int×D)} {P:D->Hh->Prop} (q:P (.cel h.length) (h++[.dic kvs])):wp (ziB kvs) h P:=⟨_,_,rfl,q⟩
end
theorem zl2 {α:Type} {f:α->Int×D}: ∀ xs:List α,prs (xs.map λx=> .tup [.int (f x).1,(f x).2])=some (xs.map f)
 | []=>rfl
 | x::xs=>by
  rw [qaM,prs,zl2 xs]
  rfl
end
section
end
end L3
namespace K34
open L2 L3 LT
set_option hygiene false in
local macro_rules | `(tactic| ac_nf0)=> `(tactic| simp only [za5,zcX,zjm,zc3,zgp,zg7,ziq,zeU,zbx,zaO,za3,zcB,zm4,zeY,zaE,zaR,pure_bind,bind_assoc,zgn,ztG,zgJ,zu8,List.set,zev,zji,ziK,zoq,zqD,znU,zt7,zog,zus,zf2,zi7,zgO,zdk,zgM,zb0,zp2,zdX,ztV,zfg,zkv,zrj,zfO,zr8,zlz,zsn,ztu,zpm,zhJ,zdl,zkp,zjb,zlZ,zg5,zsN,zal,zan,ziZ,qaE,qaJ,qaH,Nat.zero_add,Nat.reduceAdd,Nat.reduceLeDiff,zaL,zbZ,tI,zlN,zpe,zne,zs0,znK,zjC,zmz,zue,zpo,zqn,zr0,zvg,zvf,zuJ,zoc,zlD,ztv,zul,zoU,zvw,if_true,Bool.not_true,Bool.not_false,qax,if_false,qav,cons_append,nil_append,zth,zq6,zpS,zpg])
variable {m:Int} {os:List (List Int×Int)} {i:Nat}
def zg1 (m:Int):D->Bool
 | .tup [.tup ts,.int p]=>zcb m 0 ts && decide (0<(ts.length:Int)) && decide (0<p/\p<2^64)
 | _=>false
theorem zbM {h:Hh} {b:Nat} {m:Int} {P:D->Hh->Prop} (q:Bx b h) (h0:0<m) (h1:m<2^64) (k: ∀ t h',0<=t->t<m->Ext b h h'->P (.int t) h'):wp (F_39 [.cel b,.int m]) h P:=by
 obtain ⟨z,e⟩:=id q
 rw [d_39]
 simp only [G_39,za5,zcX,zcB,zaE,zaR,pure_bind,bind_assoc,zeY,zhU,zal,zbd e,zkv,zfO,zan,zdD h0,zgn,List.set,zjm,zi2 h0 h1,zgN,zjg]
 have e2:ixN ([D.int z]:List D).length 0=some 0:=rfl
 simp only [zal,zbd e,e2,zfO,zan,zen,zgn,zc3,zaR,zaE,zgJ,List.set]
 exact k _ _ (emod_nonneg _ ⋯) (Int.emod_lt_of_pos _ h0) q.set
theorem zpY {ns:List Int} {k:Int} (h0:0<=k): ∃ c:Int,F_37 [.scr (ns.map D.int),.int k]=pure (.int c):=by
 rw [d_37]
 simp only [G_37,za5,zgp,zev,zaR,zaE,pure_bind,bind_assoc,zbx,zaO,za3,zn2,zmm,zdk]
 by_cases hk:k<((ns.map D.int).length:Int)
 ·have hk':k.toNat<ns.length:=by simp at hk;omega
  have ea:atI (ns.map D.int) k=some (.int ns[k.toNat]):=by
   have:=zfD (xs:=ns.map D.int) (j:=k.toNat) (v:= .int ns[k.toNat]) (by simp [hk'])
   rw [<- this]
   congr 1
   omega
  simp only [hk,decide_true,if_true,zc3,zcB,zaE,zaR,pure_bind,zuv,ea,zfO,ztG,zgJ]
  exact ⟨_,rfl⟩
 ·simp only [hk,decide_false,qax,if_false,zeU,pure_bind,zgn,zc3,zcB,zeY,zaR,zaE,zhk (show (-1000000000000000:Int)<6151 by decide) (show (6151:Int)<1000000000000000 by decide),zdX,zgJ]
  exact ⟨_,rfl⟩
theorem zjn {s0 s2:Option D} {k:Int} (k0:0<=k) (k5:k<5): ∀ (ds:List D) (n mx:Int) (x5:Option D),(∀ d∈ds, ∃ j:Int,d= .int j/\0<=j/\j<24)->0<=mx->mx<2147483647->
  ∃ (n' mx':Int) (x5':Option D),za2 (λx sd=>do let sd1<-zaC 5 x sd;zdx sd1) ds [s0,some (.int k),s2,some (.int n),some (.int mx),x5]=pure (.nx [s0,some (.int k),s2,some (.int n'),some (.int mx'),x5'])
 | [],n,mx,x5,_,_,_=>⟨n,mx,x5,rfl⟩
 | d::r,n,mx,x5,hd,m0,m1=>by
  obtain ⟨j,rfl,j0,j1⟩:=hd _ qau
  obtain ⟨n',mx',x5',ih⟩:=zjn k0 k5 r (n*2147483647+(mx*48271+7*j*j+11*k+1) % 2147483647) ((mx*48271+7*j*j+11*k+1) % 2147483647) (some (.int j)) (λy hy=>hd y (qan _ hy)) (emod_nonneg _ (by decide)) (Int.emod_lt_of_pos _ (by decide))
  refine ⟨n',mx',x5',?_⟩
  rw [zbB, <-ih]
  simp only [zdx,zdl,List.set,pure_bind,bind_assoc,za5,zcX,zcB,zaR,zaE,zeY,zhk (show -1000000000000000<mx by omega) (show mx<1000000000000000 by omega),zhk (show (-1000000000000000:Int)<7 by decide) (show (7:Int)<1000000000000000 by decide),
    zow (i:=7*j) (show -1000000000000000<j by omega) (show j<1000000000000000 by omega),zhk (show (-1000000000000000:Int)<11 by decide) (show (11:Int)<1000000000000000 by decide),zdX,zdD (show (0:Int)<2147483647 by decide),zgn,zow (i:=n) (show (-1000000000000000:Int)<2147483647 by decide) (show (2147483647:Int)<1000000000000000 by decide)]
theorem zs5 {h:Hh} {ns:List Int} {k:Int} {P:D->Hh->Prop} (k0:0<=k) (k5:k<5) (q: ∀ z:Int,P (.cel h.length) (h++[.lst [.int z]])):wp (F_38 [.scr (ns.map D.int),.int k]) h P:=by
 obtain ⟨c,ec⟩:=zpY (ns:=ns) k0
 rw [d_38]
 simp only [G_38,za5,zcX,zbx,zaO,za3,zaE,zaR,pure_bind,bind_assoc,zb0,ec,zgn,List.set,zgp,zev,zcB,zeY,zdD (show (0:Int)<2 by decide),znm,zdk]
 by_cases hc:(c % 2==0)=true
 ·simp only [hc,if_true,zc3,zgO,zaO,za3,zcB,zaR,zaE,zeY,pure_bind,bind_assoc,zi2 (show (0:Int)<2 by decide) (show (2:Int)<2^64 by decide),qaE,qaJ,zaL (show 0+1<=1000 by decide),zal,ziZ,zan,ztG,zgJ]
  exact q _
 ·obtain ⟨n',mx',x5',el⟩:=zjn (s0:=some (.scr (ns.map D.int))) (s2:=some (.int c)) k0 k5 (zdp 0 24) 0 (c % 2147483647) none (λd hd=>by
    obtain ⟨i,e,i0,i1⟩:=zgP hd
    exact ⟨i,e,i0,⋯⟩) (emod_nonneg _ (by decide)) (Int.emod_lt_of_pos _ (by decide))
  have er:zir [.int 24]=pure (zdp 0 24):=zcw (by decide) (by decide)
  simp only [hc,if_false,zeU,pure_bind,zgn,za5,zcX,zeY,List.set,zcB,zaR,zaE,zdD (show (0:Int)<2147483647 by decide),zg7,zhJ,zaO,za3,er,bind_assoc,el,zc3,zgO,qaE,qaJ,zaL (show 0+1<=1000 by decide),zal,ziZ,zan,zgJ,qax]
  exact q _
theorem zg8 {a b:Nat} (h:a<=b):(2:Int)^a<=2^b:=by
 have:(2:Nat)^a<=2^b:=pow_le_pow_right (by decide) h
 exact_mod_cast this
theorem zi8 {bits:Int}: ∀ (m:Nat),0<bits->bits<2^m-> ∃ j:Nat,j<m/\(bits / 2^j) % 2=1
 | 0,h0,h1=>by simp at h1;omega
 | m+1,h0,h1=>by
  by_cases c:bits<2^m
  ·obtain ⟨j,a,b⟩:=zi8 m h0 c
   exact ⟨j,⋯,b⟩
  ·refine ⟨m,⋯,?_⟩
   have hp:(0:Int)<2^m:=Int.pow_pos (by decide)
   have e:bits / 2^m=1:=by
    have h2:(2:Int)^(m+1)=2*2^m:=by rw [Int.pow_succ];omega
    have a1:1<=bits / 2^m:=(Int.le_ediv_iff_mul_le hp).mpr ⋯
    have a2:bits / 2^m<2:=(Int.ediv_lt_iff_lt_mul hp).mpr ⋯
    omega
   rw [e]
   decide
def zqQ (bits:Int) (d:D):Option D:=match d with
 | .int j=>if ((bits / 2^j.toNat) % 2==1)=true then some d else none
 | _=>none
theorem zhd (bits:Int): ∀ xs:List Int,(xs.map D.int).filterMap (zqQ bits)=(xs.filter λj=>(bits / 2^j.toNat) % 2==1).map D.int
 | []=>rfl
 | x::r=>by
  rw [qaM,qat,filter_cons,zhd bits r]
  unfold zqQ
  dsimp only
  split<;>simp_all
theorem zkG {bits:Int} {m:Nat} (h0:0<bits) (h1:bits<2^m):zcb m 0 ((zdp 0 m).filterMap (zqQ bits))=true/\(zdp 0 m).filterMap (zqQ bits)≠[]:=by
 rw [zdJ,zhd]
 constructor
 ·rw [zbQ]
  constructor
  ·refine List.Pairwise.filter _ ?_
   rw [List.pairwise_map]
   exact pairwise_lt_range.imp λh=>by omega
  ·intro x hx
   obtain ⟨k,hk,e⟩:=qaU.mp (mem_filter.mp hx).1
   have:=mem_range.mp hk
   omega
 ·obtain ⟨j,a,b⟩:=zi8 m h0 h1
  intro z
  have:((j:Int))∈((List.range m).map λ(k:Nat)=>(k:Int)).filter λj=>(bits / 2^j.toNat) % 2==1:=by
   refine mem_filter.mpr ⟨qaU.mpr ⟨j,mem_range.mpr a,rfl⟩,?_⟩
   rw [qaB,b]
   rfl
  have z':=List.map_eq_nil_iff.mp z
  rw [z'] at this
  cases this
theorem zlS {h:Hh} {b:Nat} {m:Int} {P:D->Hh->Prop} (q:Bx b h) (h0:1<=m) (h1:m<=10) (k: ∀ ts h',zcb m 0 ts=true->ts≠[]->Ext b h h'->P (.tup ts) h'):wp (F_40 [.cel b,.int m]) h P:=by
 rw [d_40]
 simp only [G_40,za5,zcX,zbx,zaO,za3,zaE,zaR,pure_bind,bind_assoc,zb0,zeY,zal]
 refine zbM q (by decide) (by decide) λway h2 w0 w1 x2=> ?_
 simp only [zan,zal,zgn,List.set,za5,zgp,zev,zaR,zaE,pure_bind,bind_assoc,zeY,znm,zdk]
 by_cases hw:(way==0)=true
 ·rw [qa4 hw]
  simp only [za5,zcX,zcB,zeY,zaR,zaE,pure_bind,bind_assoc,zbx,zaO,za3,zpb (show 0<=m by omega) (show m<=1000 by omega),zoU,zb0,zal]
  have hp:(2:Int)<=2^m.toNat:=by
   have:(2:Int)^1<=2^m.toNat:=zg8 ⋯
   simpa using this
  have hp':(2:Int)^m.toNat<=2^10:=zg8 ⋯
  refine zbM x2.1 ⋯ ⋯ λt h3 t0 t1 x3=> ?_
  have ed:zaH (zei (zac (zae 1) zar)) (zaC 0) zcC zcy [none,some 3] [some (.cel b),some (.int m),some (.int way),some (.int (1+t)),none,none]=pure (.lst ((zdp 0 m.toNat).filterMap (zqQ (1+t)))):=by
   refine zeB (by simp [zcw (show 0<=m by omega) (show m<1000 by omega)]) (by rw [zd3];omega) λx hx=> ?_
   obtain ⟨i,rfl,i0,i1⟩:=zgP hx
   have eb:zap [none,some 3] [some (.cel b),some (.int m),some (.int way),some (.int (1+t)),none,none]=[none,some (D.int (1+t))]:=rfl
   rw [eb]
   simp only [zaZ,zdl,List.set,pure_bind,zcC,zev,zcB,zaR,zaE,zeY,zpj i0,zut,zpR,znm,zdk,zcy,zqQ]
   split<;>rfl
  simp only [zan,zal,zgn,List.set,zdX,pure_bind,zc3,zbx,zaO,za3,bind_assoc,ed,zg5,ztG,zgJ]
  have hm:((m.toNat:Nat):Int)=m:=Int.toNat_of_nonneg ⋯
  have:=zkG (bits:=1+t) (m:=m.toNat) ⋯ ⋯
  rw [hm] at this
  exact k _ _ this.1 this.2 (x2.trans x3)
 ·rw [qa5 hw]
  have hw': ¬way=0:=by simpa using hw
  simp only [zeU,zan,zgn,za5,zjm,zf2,zaO,za3,zbx,zaE,zaR,pure_bind,bind_assoc,zb0,zal]
  refine zbM x2.1 ⋯ ⋯ λfirst h3 f0 f1 x3=> ?_
  simp only [zcB,zi7,zaO,za3,zeY,zbx,zaE,zaR,pure_bind,bind_assoc,zb0,zal,zan]
  refine zbM x3.1 (by decide) (by decide) λt h4 t0 t1 x4=> ?_
  simp only [zdX,pure_bind,zan,zal,qaE,qaJ,zaL (show 0+1+1<=1000 by decide),zaR,zaE,zoU,zfg,bind_assoc]
  obtain ⟨step,es,s0,s1⟩: ∃ s:Int,atI [D.int 1,D.int (1+t)] (way - 1)=some (.int s)/\1<=s/\s<=3:=by
   by_cases c:way=1
   ·subst c
    exact ⟨1,rfl,by decide,by decide⟩
   ·have c:way=2:=by omega
    subst c
    exact ⟨1+t,rfl,⋯,⋯⟩
  simp only [es,zfO,zan,zal,zkp,zjb,zdl,List.set,pure_bind,zlZ,zgn,zc3,zbx,zaO,za3,zm4,bind_assoc]
  unfold zaH
  simp only [zhJ,zaO,za3,zcB,zeY,zbx,zaE,zaR,pure_bind,bind_assoc,zb0,zal]
  refine zbM x4.1 (by decide) (by decide) λu h5 u0 u1 x5=> ?_
  have eb:zap [none,some 4,some 5,some 1] [some (.cel b),some (.int m),some (.int way),none,some (.int first),some (.int step)]=[none,some (D.int first),some (.int step),some (.int m)]:=rfl
  have hl:zbk (zaZ (zaC 0) (λ_=>pure true) zcz [none,some (D.int first),some (.int step),some (.int m)]) (zdp 0 (1+u).toNat)=pure ((((List.range (1+u).toNat).map λ(k:Nat)=>(first+step*(k:Int)) % m)).map D.int):=by
   rw [zdJ]
   rw [zeE (k:=λd=>match d with | .int j=>some (.int ((first+step*j) % m)) | _=>none)]
   ·congr 1
    rw [List.filterMap_map]
    simp [Function.comp_def]
   ·intro x hx
    obtain ⟨j,_,rfl⟩:=qaU.mp hx
    simp only [zaZ,zdl,List.set,pure_bind,if_true,zcz,zcB,zaR,zaE,zhk (show -1000000000000000<step by omega) (show step<1000000000000000 by omega),zdX,zdD (show 0<m by omega)]
  simp only [zdX,pure_bind,zcw (show 0<=1+u by omega) (show 1+u<1000 by omega),zd3,zaL (show (1+u).toNat<=1000 by omega),eb,hl,zan,zal]
  generalize hy:((List.range (1+u).toNat).map λ(k:Nat)=>(first+step*(k:Int)) % m)=ys
  have yl:ys.length=(1+u).toNat:=by rw [<- hy];simp
  have ym: ∀ y∈ys,0<=y/\y<m:=λy h=>by
   rw [<- hy] at h
   obtain ⟨k,_,rfl⟩:=qaU.mp h
   exact ⟨emod_nonneg _ ⋯,Int.emod_lt_of_pos _ ⋯⟩
  simp only [zhI (show ys.length<64 by omega),zan,zg5,zgJ,pure_bind,zal]
  refine k _ _ (zbQ.mpr ⟨zdB ys,λx hx=>ym x (zb8.mp hx)⟩) (λz=> ?_) (((x2.trans x3).trans x4).trans x5)
  have z':=List.map_eq_nil_iff.mp z
  have hy0: ∃ y,y∈ys:=List.exists_mem_of_length_pos ⋯
  obtain ⟨y,hy0⟩:=hy0
  have:=zb8.mpr hy0
  rw [z'] at this
  cases this
def Row (m:Int) (h:Hh) (d:D):Prop:= ∃ (n:Nat) (xs:List Int) (p:Int),d= .cel n/\h[n]? = some (.lst [.tup (xs.map D.int),.int p])/\zcb m 0 (xs.map D.int)=true/\xs≠[]/\(0<p/\p<2^64)
theorem Row.ext {m:Int} {b:Nat} {h h':Hh} {d:D} (q:Bx b h) (x:Ext b h h') (r:Row m h d):Row m h' d:=by
 obtain ⟨n,ts,p,e,e2,r⟩:=r
 have hn:n≠b:=λz=>by
  subst z
  obtain ⟨y,e3⟩:=q
  rw [e3] at e2
  cases e2
 exact ⟨n,ts,p,e,x.2 n _ hn e2,r⟩
theorem zli {b:Nat} {m far:Int} (m0:1<=m) (m1:m<=10) (f0:0<far) (f1:far<2^64): ∀ (ds:List D) {h:Hh} {P:List D->Hh->Prop},Bx b h->(∀ rs h',Ext b h h'->rs.length=ds.length->(∀ r∈rs,Row m h' r)->P rs h')->
  wp (zbk (zaZ (zaC 0) (λ_=>pure true) zdf [none,some (.cel b),some (.int m),some (.int far)]) ds) h P
 | [],h,P,q,k=>by
  rw [zbk,zan]
  exact k [] h (Ext.refl q) rfl λr hr=>by cases hr
 | d::r,h,P,q,k=>by
  rw [zbk]
  simp only [zal,zaZ,zdl,List.set,pure_bind,if_true,zdf,zgO,zaO,za3,zbx,zaR,zaE,bind_assoc,zb0]
  refine zlS q m0 m1 λts h2 hr hne x2=> ?_
  simp only [zal,zcB,zeY,zbx,zaO,za3,zaR,zaE,pure_bind,bind_assoc,zb0]
  refine zbM x2.1 f0 f1 λt h3 t0 t1 x3=> ?_
  simp only [zdX,pure_bind,zan,zal,qaE,qaJ,zaL (show 0+1+1<=1000 by decide),ziZ]
  have x4:=x3.1.push (c:= .lst [.tup ts,.int (1+t)])
  obtain ⟨xs,rfl⟩:=zib (zgk hr)
  refine zli m0 m1 f0 f1 r x4.1 λrs h' x5 hl hr'=> ?_
  refine k (.cel h3.length::rs) h' (((x2.trans x3).trans x4).trans x5) (by simp [hl]) λy hy=> ?_
  rcases qaP.mp hy with rfl | hy
  ·exact Row.ext x4.1 x5 ⟨h3.length,xs,1+t,rfl,by simp,hr,λz=>hne (by rw [z];rfl),⟨⋯,⋯⟩⟩
  ·exact hr' y hy
def zoa (h:Hh) (i:Int) (d:D):Bool:=match d with
 | .cel n=>match h[n]? with
  | some (.lst (.tup ts::_))=>match zdY ts with
   | some xs=>xs.any (· == i)
   | none=>false
  | _=>false
 | _=>false
def zjX (h:Hh) (d:D):D:=match d with
 | .cel n=>match h[n]? with
  | some (.lst ds)=> .tup ds
  | _=> .non
 | _=> .non
theorem zoO {m:Int} {h:Hh}: ∀ {rs:List D},(∀ r∈rs,Row m h r)-> ∃ ps,zjM h rs=some ps/\PyData.canLayAll0 ps=true/\ps.length=rs.length
 | [],_=>⟨[],rfl,rfl,rfl⟩
 | d::r,hr=>by
  obtain ⟨n,xs,p,rfl,e,_⟩:=hr d qau
  obtain ⟨ps,e1,e2,e3⟩:=zoO λy hy=>hr y (qan _ hy)
  refine ⟨.list [.tuple (xs.map .int),.int p]::ps,?_,?_,by simp [e3]⟩
  ·simp only [zjM,pdH,e,pdL,pd,zdL,Option.map,e1]
  ·simp [PyData.canLayAll0,PyData.canLay0,zbL,e2]
theorem zpu {m:Int} {h:Hh} {rs:List D} {P:D->Hh->Prop} (hr: ∀ r∈rs,Row m h r) (q:P (.bl rs.isEmpty) h):wp (zst (.lst rs) (.lst [])) h P:=by
 obtain ⟨ps,e1,e2,e3⟩:=zoO hr
 refine ⟨.bl rs.isEmpty,h,?_,q⟩
 unfold zst
 have a1:pdH h (.lst rs)=some (.list ps):=by simp only [pdH,e1,Option.map]
 have a2:pdH h (.lst [])=some (.list []):=by simp only [pdH,zjM,Option.map]
 rw [a1,a2]
 have c:zgY (.list ps) (.list [])=true:=by
  unfold zgY
  simp [PyData.canLay0,PyData.canLayAll0,e2,PyData.depth,PyData.depthAll]
 simp only [c,if_true]
 cases ps with
 | nil=>
  cases rs with
  | nil=>rfl
  | cons _ _=>cases e3
 | cons _ _=>
  cases rs with
  | nil=>cases e3
  | cons _ _=>rfl
def Cov (rows:List D) (h:Hh) (j:Int):Prop:= ∃ r∈rows, ∃ (n:Nat) (xs:List Int) (p:Int),r= .cel n/\h[n]? = some (.lst [.tup (xs.map D.int),.int p])/\j∈xs
theorem Cov.ext {b:Nat} {rows:List D} {h h':Hh} {j:Int} (q:Bx b h) (x:Ext b h h') (r:Cov rows h j):Cov rows h' j:=by
 obtain ⟨d,hd,n,ts,p,e,e2,r⟩:=r
 have hn:n≠b:=λz=>by
  subst z
  obtain ⟨y,e3⟩:=q
  rw [e3] at e2
  cases e2
 exact ⟨d,hd,n,ts,p,e,x.2 n _ hn e2,r⟩
theorem zhu {b:Nat} {m far:Int} {s1 s2:Option D} {rows:List D} (m0:1<=m) (m1:m<=10) (hne:rows≠[]) (hl:rows.length<=12): ∀ (ds:List D) (dn:List Int) {h:Hh} {x6 x7:Option D} {P:Out->Hh->Prop},Bx b h->(∀ d∈ds, ∃ i:Int,d= .int i/\0<=i/\i<m)->(∀ r∈rows,Row m h r)->(∀ j∈dn,Cov rows h j)->
  (∀ x6' x7' h',Bx b h'->(∀ r∈rows,Row m h' r)->(∀ j,j∈dn\/D.int j∈ds->Cov rows h' j)->P (.nx [some (.cel b),s1,s2,some (.int m),some (.int far),some (.lst rows),x6',x7']) h')->
  wp (za2 (λx sd=>do let sd1<-zaC 6 x sd;zbS sd1) ds [some (.cel b),s1,s2,some (.int m),some (.int far),some (.lst rows),x6,x7]) h P
 | [],dn,h,x6,x7,P,q,_,hr,hc,k=>by
  rw [zdi,zan]
  exact k _ _ h q hr λj hj=>hc j (hj.elim id λz=>by cases z)
 | d::r,dn,h,x6,x7,P,q,hd,hr,hc,k=>by
  obtain ⟨i,rfl,i0,i1⟩:=hd _ qau
  have hd':=λy hy=>hd y (qan _ hy)
  have ih: ∀ {h:Hh} {x6 x7:Option D},Bx b h->(∀ r∈rows,Row m h r)->(∀ j∈i::dn,Cov rows h j)->wp (za2 (λx sd=>do let sd1<-zaC 6 x sd;zbS sd1) r [some (.cel b),s1,s2,some (.int m),some (.int far),some (.lst rows),x6,x7]) h P:=λq hr hc=>zhu m0 m1 hne hl r (i::dn) q hd' hr hc λx6' x7' h' q' hr' hc'=>k x6' x7' h' q' hr' λj hj=>hc' j (by
    rcases hj with hj | hj
    · exact .inl (qan _ hj)
    · rcases qaP.mp hj with z | z
      · cases z;exact .inl qau
      · exact .inr z)
  rw [zbB]
  generalize za2 (λx sd=>do let sd1<-zaC 6 x sd;zbS sd1) r=zbz at ih ⊢
  simp only [zdl,List.set,pure_bind,zbS,zgp,zev,zal]
  refine zjW (k:=λd=>if zoa h i d=true then some d else none) (ds:=rows) (by simp) ⋯ (λx hx=> ?_) ?_
  ·obtain ⟨n,xs,p,rfl,e,_⟩:=hr x hx
   have eb:zap [none,some 6] [some (.cel b),s1,s2,some (.int m),some (.int far),some (.lst rows),some (.int i),x7]=[none,some (D.int i)]:=rfl
   rw [eb]
   simp only [zaZ,zdl,List.set,pure_bind,zeh,zev,zaR,zaE,zcB,zeY,zhU,bind_assoc,zal,zbd e,zkv,zfO,zan,zbH,zdk,zeb,zoa,e,zbT]
   rw [zoz]
   split
   ·simp_all [zan,zaE,zal]
   ·simp_all [zan]
  ·simp only [zi7,za3,pure_bind,qaJ,zaL (show 0<=1000 by decide),zal,zan]
   refine zpu (m:=m) (λy hy=> ?_) ?_
   ·obtain ⟨z,hz,ez⟩:=mem_filterMap.mp hy
    split at ez
    ·cases ez;exact hr _ hz
    ·cases ez
   simp only [zdk,zan]
   rw [zoz]
   split
   ·rename_i c
    have none_has: ∀ y∈rows,zoa h i y=false:=λy hy=>by
     cases z:zoa h i y with
     | false=>rfl
     | true=>
      have:y∈rows.filterMap λd=>if zoa h i d=true then some d else none:=mem_filterMap.mpr ⟨y,hy,by rw [z];rfl⟩
      rw [List.isEmpty_iff.mp c] at this
      cases this
    have hpos:0<rows.length:=List.length_pos_iff.mpr hne
    simp only [za5,zcX,zcB,zaR,zaE,pure_bind,bind_assoc,zbx,zaO,za3,zlz,zb0,zal]
    refine zbM q ⋯ ⋯ λt h2 t0 t1 x2=> ?_
    have ht:t.toNat<rows.length:=by omega
    have ea:atI rows t=some rows[t.toNat]:=by
     have:=zfD (xs:=rows) (j:=t.toNat) (v:=rows[t.toNat]) (by simp [ht])
     rw [<- this]
     congr 1
     omega
    have hrow:=hr rows[t.toNat] (getElem_mem ht)
    have hno:=none_has rows[t.toNat] (getElem_mem ht)
    have hmem:rows[t.toNat]∈rows:=getElem_mem ht
    generalize rows[t.toNat]=row at ea hrow hno hmem
    obtain ⟨n,xs,p,rfl,e,hrs,hx0,hp0⟩:=hrow
    have hni:i∉xs:=λz=>by
     simp only [zoa,e,zbT] at hno
     have:xs.any (· == i)=true:=any_eq_true.mpr ⟨i,z,by simp⟩
     rw [this] at hno
     cases hno
    have hnb:n≠b:=λz=>by
     subst z
     obtain ⟨y,e3⟩:=q
     rw [e3] at e
     cases e
    have e2:=x2.2 n _ hnb e
    obtain ⟨hpw,hbd⟩:=zbQ.mp hrs
    have hxl:(xs.length:Int)<=m:=by have:=ze4 hrs ⋯;simpa using this
    have esn:((xs.map D.int)++[D.int i])=(xs++[i]).map D.int:=by simp
    simp only [zfg,ea,zfO,zan,zgn,List.set,zjm,zbx,zaO,za3,zcB,zaR,zaE,zeY,pure_bind,bind_assoc,zhU,zal,zbd e2,zkv,zf2,qaE,qaJ,zaL (show 0+1<=1000 by decide),zoc,qaH,
      zaL (show xs.length+(0+1)<=1000 by omega),esn,zga (show (xs++[i]).length<64 by simp;omega),zg5,zgN,zjg]
    have e3:ixN (0+1+1) 0=some 0:=rfl
    simp only [zal,zbd e2,qaE,qaJ,e3,zfO,zan,zen,List.set]
    have hlt:n<h2.length:=(qac.mp e2).1
    refine ih ?_ ?_ ?_
    ·obtain ⟨y,ey⟩:=x2.1
     exact ⟨y,by rw [qao hnb];exact ey⟩
    ·intro y hy
     obtain ⟨n',xs',p',rfl,e',r1,r2,r3⟩:=Row.ext q x2 (hr y hy)
     by_cases hnn:n'=n
     ·subst hnn
      refine ⟨n',zb2 (xs++[i]),p,rfl,qai hlt,zbQ.mpr ⟨zo5 hpw hni,λz hz=> ?_⟩,λz=> ?_,hp0⟩
      ·have:=(zaF (xs++[i])).mem_iff.mp hz
       rcases qaK.mp this with w | w
       ·exact hbd z w
       ·simp at w;omega
      ·have:=(zaF (xs++[i])).length_eq
       rw [z] at this
       simp at this
     ·exact ⟨n',xs',p',rfl,by rw [qao (Ne.symm hnn)];exact e',r1,r2,r3⟩
    ·intro j hj
     rcases qaP.mp hj with rfl | hj
     ·exact ⟨.cel n,hmem,n,zb2 (xs++[j]),p,rfl,qai hlt,(zaF (xs++[j])).mem_iff.mpr (by simp)⟩
     ·obtain ⟨y,hy,n',xs',p',rfl,e',hj'⟩:=Cov.ext q x2 (hc j hj)
      by_cases hnn:n'=n
      ·subst hnn
       rw [e2] at e'
       have exs:xs=xs':=by
        have z:xs.map D.int=xs'.map D.int:=by injection (Option.some.inj e') with z;simpa using (List.cons.inj z).1
        exact (List.map_inj_right λa b h=>by injection h).mp z
       subst exs
       exact ⟨_,hy,n',zb2 (xs++[i]),p,rfl,qai hlt,(zaF (xs++[i])).mem_iff.mpr (mem_append_left _ hj')⟩
      ·exact ⟨_,hy,n',xs',p',rfl,by rw [qao (Ne.symm hnn)];exact e',hj'⟩
   ·rename_i c
    simp only [zeU,zan]
    refine ih q hr λj hj=> ?_
    rcases qaP.mp hj with rfl | hj
    ·obtain ⟨y,hy⟩:=List.exists_mem_of_ne_nil (rows.filterMap λd=>if zoa h j d=true then some d else none) (λz=>c (by rw [z];rfl))
     obtain ⟨z,hz,ez⟩:=mem_filterMap.mp hy
     split at ez
     ·rename_i c2
      obtain ⟨n,xs,p,rfl,e,_⟩:=hr z hz
      simp only [zoa,e,zbT] at c2
      obtain ⟨k,hk,ek⟩:=any_eq_true.mp c2
      exact ⟨_,hz,n,xs,p,rfl,e,(show k=j by simpa using ek)▸hk⟩
     ·cases ez
    ·exact hc j hj
theorem zo2 {h:Hh} {b:Nat} {lots:Int} {P:D->Hh->Prop} (z0:1<=lots) (z1:lots<=12) (q:Bx b h) (k: ∀ (m:Int) (os:List D) h',Bx b h'->1<=m->m<=10->1<=os.length->(os.length:Int)<=lots->(∀ o∈os,zg1 m o=true)->(∀ i:Int,0<=i->i<m-> ∃ o∈os, ∃ (xs:List Int) (p:Int),o= .tup [.tup (xs.map D.int),.int p]/\i∈xs)->P (.tup [.int m,.tup os]) h'):wp (F_41 [.cel b,.int 10,.int lots]) h P:=by
 rw [d_41]
 simp only [G_41,za5,zcX,zcB,zeY,zbx,zaO,za3,zaE,zaR,pure_bind,bind_assoc,zb0,zal]
 refine zbM q (by decide) (by decide) λt h2 t0 t1 x2=> ?_
 simp only [zdX,pure_bind,zan,zgn,List.set,za5,zcX,zcB,zi7,zaO,za3,zeY,zoZ,bind_assoc,zal,qaE,qaJ,zaL (show 0+1+1+1+1<=1000 by decide),zbx,zaE,zaR,zb0]
 refine zbM x2.1 (by decide) (by decide) λf h3 f0 f1 x3=> ?_
 obtain ⟨far,ef,g0,g1⟩: ∃ far:Int,atI [D.int 3,.int 9,.int 50,.int 1000000000000] f=some (.int far)/\0<far/\far<2^64:=by
  have:f=0\/f=1\/f=2\/f=3:=by omega
  rcases this with rfl | rfl | rfl | rfl
  ·exact ⟨3,rfl,by decide,by decide⟩
  ·exact ⟨9,rfl,by decide,by decide⟩
  ·exact ⟨50,rfl,by decide,by decide⟩
  ·exact ⟨1000000000000,rfl,by decide,by decide⟩
 simp only [zfg,ef,zfO,zan,zgn,List.set,za5,zcX,zal]
 unfold zaH
 simp only [zhJ,zaO,za3,zcB,zeY,zbx,zaE,zaR,pure_bind,bind_assoc,zb0,zal]
 refine zbM x3.1 ⋯ ⋯ λu h4 u0 u1 x4=> ?_
 have eb:zap [none,some 0,some 3,some 4] [some (.cel b),some (.int 10),some (.int lots),some (.int (1+t)),some (.int far),none,none,none]=[none,some (D.cel b),some (.int (1+t)),some (.int far)]:=rfl
 simp only [zdX,pure_bind,zcw (show 0<=1+u by omega) (show 1+u<1000 by omega),zd3,zaL (show (1+u).toNat<=1000 by omega),eb,zal,zan]
 refine zli ⋯ ⋯ g0 g1 _ x4.1 λrows h5 x5 hl hr=> ?_
 rw [zd3] at hl
 simp only [zan,zgn,List.set,za5,zg7,zhJ,zaO,za3,zaR,zaE,pure_bind,zcw (show 0<=1+t by omega) (show 1+t<1000 by omega),zal]
 refine zhu ⋯ ⋯ (λz=>by rw [z] at hl;simp at hl;omega) ⋯ _ [] x5.1 (λd hd=> ?_) hr (λj hj=>by cases hj) λx6 x7 h6 q6 hr6 hc6=> ?_
 ·obtain ⟨i,e,i0,i1⟩:=zgP hd
  exact ⟨i,e,i0,⋯⟩
 simp only [zgn,zc3,zf2,zaO,za3,zaR,zaE,pure_bind,bind_assoc,zbx,zal]
 have eb6:zap [none] [some (.cel b),some (.int 10),some (.int lots),some (.int (1+t)),some (.int far),some (.lst rows),x6,x7]=[none]:=rfl
 simp only [zpm,zaR,zaE,pure_bind,ztu,zan,zaL (show rows.length<=1000 by omega),eb6]
 refine zeG (k:=λd=>some (zjX h6 d)) (λx hx=> ?_) ?_
 ·obtain ⟨n,xs,p,rfl,e,_⟩:=hr6 x hx
  simp only [zaZ,zdl,List.set,pure_bind,if_true,zed,zf2,zaO,za3,zcB,zaE,zeY,zhU,bind_assoc,zal,zbd e,zkv,zrj,zfO,zan,qaE,qaJ,zaL (show 0+1+1<=1000 by decide),zjX,e]
  exact ⟨trivial,trivial⟩
 ·simp only [zg5,zan,pure_bind,qaE,qaJ,zaL (show 0+1+1<=1000 by decide),zgJ,zal]
  have em:(rows.filterMap λd=>some (zjX h6 d))=rows.map (zjX h6):=by simp
  rw [em]
  refine k (1+t) _ h6 q6 ⋯ ⋯ (by simp;omega) (by simp;omega) (λo ho=> ?_) λi i0 i1=> ?_
  rotate_left
  ·obtain ⟨r,hr',n,xs,p,rfl,e,hi⟩:=hc6 i (.inr (by rw [zdJ,qaU];exact ⟨i,qaU.mpr ⟨i.toNat,mem_range.mpr ⋯,⋯⟩,rfl⟩))
   exact ⟨_,qaU.mpr ⟨_,hr',rfl⟩,xs,p,by simp only [zjX,e],hi⟩
  obtain ⟨r,hr',rfl⟩:=qaU.mp ho
  obtain ⟨n,xs,p,rfl,e,r1,r2,r3⟩:=hr6 r hr'
  have hx:0<(xs.length:Int):=by
   have:=List.length_pos_iff.mpr r2
   omega
  simp only [zjX,e,zg1,r1,qaH]
  simp [hx,r3]
  exact ⟨List.length_pos_iff.mpr r2,r3.2⟩
theorem zk8 {m:Int} {o:D} (h:zg1 m o=true): ∃ (xs:List Int) (p:Int),o=zbZ (xs,p)/\(xs.Pairwise (· < ·)/\ ∀ x∈xs,0<=x/\x<m)/\xs≠[]/\(0<p/\p<2^64):=by
 unfold zg1 at h
 split at h
 ·rename_i ts p
  simp only [qaG,qaD] at h
  obtain ⟨⟨h1,h2⟩,h3⟩:=h
  obtain ⟨xs,rfl⟩:=zib (zgk h1)
  exact ⟨xs,p,rfl,zbQ.mp h1,λz=>by rw [z] at h2;simp at h2,h3⟩
 ·cases h
theorem zos {m:Int} (m0:1<=m) (m1:m<=10): ∀ {ds:List D},ds.length<=12->(∀ o∈ds,zg1 m o=true)-> ∃ os,ds=os.map zbZ/\Stk m os/\ ∀ o∈os,o.2<2^64
 | [],_,_=>⟨[],rfl,⟨m0,m1,by simp,by simp,by simp,by simp,by simp⟩,by simp⟩
 | d::r,hl,h=>by
  obtain ⟨os,e,s,hP⟩:=zos m0 m1 (ds:=r) (by simp at hl;omega) λo ho=>h o (qan _ ho)
  obtain ⟨xs,p,e1,⟨h1,h2⟩,h3,h4,h5⟩:=zk8 (h d qau)
  have hlen:((xs,p)::os).length<=12:=by rw [e] at hl;simpa using hl
  refine ⟨(xs,p)::os,by rw [qaM,e,e1],⟨m0,m1,hlen,?_,?_,?_,?_⟩,λo ho=>by
    rcases qaP.mp ho with rfl | ho
    · exact h5
    · exact hP o ho⟩
  ·intro o ho
   rcases qaP.mp ho with rfl | ho
   ·exact h1
   ·exact s.up o ho
  ·intro o ho
   rcases qaP.mp ho with rfl | ho
   ·exact h2
   ·exact s.bd o ho
  ·intro o ho
   rcases qaP.mp ho with rfl | ho
   ·exact h3
   ·exact s.ne o ho
  ·intro o ho
   rcases qaP.mp ho with rfl | ho
   ·exact h4
   ·exact s.pos o ho
theorem ziN:dIx (za7 m os) (.int 1)=pure (.tup (os.map zbZ)):=rfl
theorem zl7:dIx (za7 m os) (.int 0)=pure (.int m):=rfl
theorem zjf {n:Nat} {s0:Option D}: ∀ (os:List (List Int×Int)) {h:Hh} {xs:List Int} {x2:Option D} {P:Out->Hh->Prop},h[n]? = some (.lst (xs.map D.int))->xs.length+(os.flatMap (·.1)).length<=1000->
  (∀ x2' h',(∀ k,k≠n->h'[k]? = h[k]?)->h'.length=h.length->h'[n]? = some (.lst ((xs++os.flatMap (·.1)).map D.int))->P (.nx [s0,some (.cel n),x2']) h')->
  wp (za2 (λx sd=>do let sd1<-zaC 2 x sd;zbg sd1) (os.map zbZ) [s0,some (.cel n),x2]) h P
 | [],h,xs,x2,P,e,_,k=>by
  rw [map_nil,zdi,zan]
  exact k x2 h (λ_ _=>rfl) rfl (by simpa using e)
 | o::os,h,xs,x2,P,e,hl,k=>by
  have hln:=(qac.mp e).1
  rw [flatMap_cons,qav] at hl
  have ih:=λ(x2':Option D)=>zjf (s0:=s0) (n:=n) os (h:=h.set n (.lst ((xs++o.1).map D.int))) (xs:=xs++o.1) (x2:=x2') (P:=P) (qai hln) (by rw [qav];omega) λx2'' h' h1 h2 h3=>k x2'' h' (λj hj=>(h1 j hj).trans (qao (Ne.symm hj))) (h2.trans (qaI ..)) (by rw [h3,flatMap_cons,List.append_assoc])
  rw [qaM,zbB]
  generalize za2 (λx sd=>do let sd1<-zaC 2 x sd;zbg sd1) (os.map zbZ)=zbz at ih ⊢
  have f:=zaL (show (xs.map D.int).length+(o.1.map D.int).length<=1000 by rw [qaH,qaH];omega)
  simp only [qaH] at f
  simp only [zbg]
  ac_nf0
  simp only [zal,zbd e,zan,qaH,f,zen, <-map_append]
  exact ih _
theorem zq0 {d:D} {os:List (List Int×Int)} {m:Int} (hd:zdu d=pure (os.map zbZ)) (m0:0<=m) (m1:m<=60) (hl:(os.flatMap (·.1)).length<=1000) (b: ∀ o∈os, ∀ x∈o.1,0<=x/\x<m):Ev (F_18 [d]) (tI (zdO (os.flatMap (·.1)))):=by
 refine .of_wp λh=> ?_
 rw [d_18]
 simp only [G_18]
 ac_nf0
 simp only [hd,zan]
 refine zjf os (xs:=[]) (by simp) (by simpa using hl) λx2 h' h1 h2 h3=> ?_
 ac_nf0
 have bb: ∀ x∈os.flatMap (·.1),0<=x/\x<m:=λx hx=>by
  obtain ⟨o,ho,hx⟩:=mem_flatMap.mp hx
  exact b o ho x hx
 refine zhE (by simpa using h3) (zif m0 m1 bb) ⋯ ?_
 ac_nf0
 refine ⟨trivial,⟨[.lst ((os.flatMap (·.1)).map D.int)],List.ext_getElem? λj=> ?_⟩⟩
 by_cases hj:j=h.length
 ·subst hj
  rw [h3]
  simp
 ·rw [h1 j hj]
  by_cases hlt:j<h.length
  ·rw [qad hlt,qad hlt]
  ·rw [List.getElem?_eq_none (by simp;omega),List.getElem?_eq_none (by simp;omega)]
theorem zm9 {os:List (List Int×Int)} {n:Nat} (h: ∀ o∈os,o.1.length<=n):(os.flatMap (·.1)).length<=os.length*n:=by
 induction os with
 | nil=>simp
 | cons o r ih=>
  rw [flatMap_cons,qav,qaE,Nat.succ_mul]
  have a1:=h o qau
  have a2:=ih λx hx=>h x (qan _ hx)
  omega
theorem zrw (s:Stk m os) {d:D} {os':List (List Int×Int)} (hd:zdu d=pure (os'.map zbZ)) (hl:os'.length<=12) (hs: ∀ o∈os',o∈os):Ev (F_19 [za7 m os,d]) (.bl (((zdO (os'.flatMap (·.1))).length:Int)==m)):=by
 have tg:=zq0 hd (m:=m) (by have:=s.m0;omega) (by have:=s.m1;omega) (by have:=zm9 (os:=os') (n:=10) λo ho=>s.olen o (hs o ho);omega) λo ho=>s.bd o (hs o ho)
 refine .of_wp λh=> ?_
 rw [d_19]
 simp only [G_19,za7]
 ac_nf0
 refine tg.wp λh' g=> ?_
 ac_nf0
 rw [znm]
 ac_nf0
 exact ⟨trivial,g⟩
theorem ziR (s:Stk m os) {s1:Option D}: ∀ (ls fs:List Int) (x3:Option D),(∀ x∈ls,0<=x/\x<os.length)->fs.Nodup->(∀ x∈fs,0<=x/\x<m)->
  ∃ (gs:List Int) (x3':Option D),za2 (λx sd=>do let sd1<-zaC 3 x sd;zdq sd1) (ls.map D.int) [some (za7 m os),s1,some (.lst (fs.map D.int)),x3]=pure (.nx [some (za7 m os),s1,some (.lst (gs.map D.int)),x3'])/\gs.Nodup/\(∀ x∈gs,0<=x/\x<m)/\ ∀ k,k∈gs↔k∈fs\/k∈(zb9 os ls).flatMap (·.1)
 | [],fs,x3,_,hn,hb=>⟨fs,x3,rfl,hn,hb,λk=>by simp [zb9]⟩
 | i::r,fs,x3,hl,hn,hb=>by
  have hi:=hl i qau
  have ho:os.getD i.toNat ([],0)∈os:=by
   have h1:i.toNat<os.length:=by omega
   simp [List.getD,h1]
  generalize eo:os.getD i.toNat ([],0)=o at ho
  have m0:=s.m0
  have m1:=s.m1
  have hnew:(fs++o.1.filter λt=> !fs.any (· == t)).Nodup:=by
   rw [nodup_append]
   refine ⟨hn,((s.up o ho).imp λz=>by omega).filter _,λa ha b hb e=> ?_⟩
   subst e
   have:=(mem_filter.mp hb).2
   simp at this
   exact this a ha rfl
  have hbn: ∀ x∈fs++o.1.filter λt=> !fs.any (· == t),0<=x/\x<m:=λx hx=>(qaK.mp hx).elim (hb x) λz=>s.bd o ho x (mem_filter.mp z).1
  obtain ⟨gs,y3,ih,g1,g2,g3⟩:=ziR s r (fs++o.1.filter λt=> !fs.any (· == t)) (some (.int i)) (λx hx=>hl x (qan _ hx)) hnew hbn
  refine ⟨gs,y3,?_,g1,g2,λk=> ?_⟩
  ·rw [qaM,zbB, <-ih]
   have ec:zaH (iSq (cOp dIx (cOp dIx (cOp dIx (zae 0) (cK (.int 1))) (zae 3)) (cK (.int 0)))) (zaC 0) zdv zdr [none,some 2] [some (za7 m os),s1,some (.lst (fs.map D.int)),some (.int i)]=pure (.lst ((o.1.filter λt=> !fs.any (· == t)).map D.int)):=by
    rw [<- zdW (k:=λd=>match d with | .int t=>if (!fs.any (· == t))=true then some (.int t) else none | d=>none) λ_=>rfl]
    refine zeB ?_ (by rw [qaH];have:=s.olen o ho;omega) ?_
    ·simp only [za7]
     ac_nf0
     rw [zmh hi.1 hi.2,eo]
     ac_nf0
    ·intro x hx
     obtain ⟨t,_,rfl⟩:=qaU.mp hx
     have eb:zap [none,some 2] [some (za7 m os),s1,some (.lst (fs.map D.int)),some (.int i)]=[none,some (.lst (fs.map D.int))]:=rfl
     rw [eb]
     simp only [zaZ,zdv,zdr]
     ac_nf0
     rw [zih]
     ac_nf0
     split<;>rfl
   simp only [zdq]
   ac_nf0
   rw [ec]
   have f1:=zdz ⋯ hnew hbn
   rw [qav] at f1
   have f:=zaL (show fs.length+(o.1.filter λt=> !fs.any (· == t)).length<=1000 by omega)
   ac_nf0
   simp only [zlD,qaH,f]
   ac_nf0
   rw [map_append]
  ·rw [g3 k]
   have eo2:zb9 os (i::r)=o::zb9 os r:=by unfold zb9;rw [qaM,eo]
   rw [eo2,flatMap_cons,qaK,qaK,mem_filter]
   constructor
   ·rintro ((h | h) | h)
    ·exact .inl h
    ·exact .inr (.inl h.1)
    ·exact .inr (.inr h)
   ·rintro (h | h | h)
    ·exact .inl (.inl h)
    ·by_cases c:k∈fs
     ·exact .inl (.inl c)
     ·exact .inl (.inr ⟨h,by simp;exact λx hx e=>c (e▸hx)⟩)
    ·exact .inr h
theorem ztc (s:Stk m os) {ls:List Int} (b: ∀ x∈ls,0<=x/\x<os.length):F_42 [za7 m os,tI ls]=pure (tI (zdO ((zb9 os ls).flatMap (·.1)))):=by
 obtain ⟨gs,x3,el,g1,g2,g3⟩:=ziR s (s1:=some (tI ls)) ls [] none b .nil (λx hx=>by cases hx)
 have:=s.m0
 have:=s.m1
 have hl:=zdz ⋯ g1 g2
 rw [d_42]
 simp only [G_42]
 unfold tI at el
 simp only [map_nil,zdl,pure_bind] at el
 ac_nf0
 rw [el]
 ac_nf0
 rw [ziv ⋯]
 ac_nf0
 have e3: ∀ k,k∈gs↔k∈(zb9 os ls).flatMap (·.1):=λk=>by rw [g3 k];simp
 rw [zh5 g1 e3]
theorem zgw (a b:Nat):gcd a b=gcd b (a % b):=by rw [Nat.gcd_comm a b,Nat.gcd_rec b a,Nat.gcd_comm]
theorem zpZ {s0 s1:Option D} {n a:Nat} {x4:Option D}:zbJ zaj zao (n+1) [s0,s1,some (.int (a:Int)),some (.int ((0:Nat):Int)),x4]=pure (.nx [s0,s1,some (.int (a:Int)),some (.int 0),x4]):=by
 rw [zdh]
 simp only [zaj]
 ac_nf0
 rfl
theorem zpK {s0 s1:Option D} {n a b:Nat} {x4:Option D} (hb:b≠0):zbJ zaj zao (n+1) [s0,s1,some (.int (a:Int)),some (.int (b:Int)),x4]=zbJ zaj zao n [s0,s1,some (.int (b:Int)),some (.int ((a % b:Nat):Int)),some (.int ((a % b:Nat):Int))]:=by
 rw [zdh]
 generalize zbJ zaj zao n=zbz
 simp only [zaj,zao]
 ac_nf0
 rw [show decide ((0:Int)<(b:Int))=true by rw [qaD];omega]
 ac_nf0
 rw [zdD ⋯]
 ac_nf0
 rfl
theorem zld {s0 s1:Option D}: ∀ (k n a b:Nat) (x4:Option D),b<=a->a*b<2^k->k<n-> ∃ y4,zbJ zaj zao n [s0,s1,some (.int (a:Int)),some (.int (b:Int)),x4]=pure (.nx [s0,s1,some (.int (gcd a b:Int)),some (.int 0),y4])
 | k,0,a,b,x4,_,_,h=>by omega
 | k,n+1,a,b,x4,hab,hk,h=>by
  by_cases hb:b=0
  ·subst hb
   exact ⟨x4,by rw [zpZ,Nat.gcd_zero_right]⟩
  ·cases k with
   | zero=>
    have:1<=a*b:=mul_pos ⋯ (pos_of_ne_zero hb)
    omega
   | succ k=>
    obtain ⟨y4,ih⟩:=zld (s0:=s0) (s1:=s1) k n b (a % b) (some (.int ((a % b:Nat):Int))) (le_of_lt (mod_lt a (pos_of_ne_zero hb))) (euc hb hab hk) ⋯
    exact ⟨y4,by rw [zpK hb,ih,zgw a b]⟩
theorem zrl {b r:Nat} (hb:b<bb) (h:r<=b):b*r<2^14000:=by
 have h1:b*r<=b*b:=mul_le_mul_left b h
 have h2:b*b<bb*bb:=Nat.mul_lt_mul'' hb hb
 have h3:bb*bb=2^14000:=by
  unfold bb
  rw [<- Nat.pow_add]
 omega
theorem zmO {s0 s1:Option D} {n:Nat} {a:Int} {b:Nat} {x4:Option D} (hb:b≠0):zbJ zaj zao (n+1) [s0,s1,some (.int a),some (.int (b:Int)),x4]=zbJ zaj zao n [s0,s1,some (.int (b:Int)),some (.int (((a % (b:Int)).toNat:Nat):Int)),some (.int (((a % (b:Int)).toNat:Nat):Int))]:=by
 have e:(((a % (b:Int)).toNat:Nat):Int)=a % (b:Int):=Int.toNat_of_nonneg (emod_nonneg _ ⋯)
 rw [zdh,e]
 generalize zbJ zaj zao n=zbz
 simp only [zaj,zao]
 ac_nf0
 rw [show decide ((0:Int)<(b:Int))=true by rw [qaD];omega]
 ac_nf0
 rw [zdD ⋯]
 ac_nf0
theorem zrp (a:Int) {b:Nat} (hb:0<b):(a % (b:Int)).toNat<=b:=by
 have h1:=Int.emod_lt_of_pos a (b:=(b:Int)) ⋯
 have h0:=emod_nonneg a (b:=(b:Int)) ⋯
 omega
theorem zrO {a:Int} {b:Nat} (h0:0<b) (hb:b<bb):F_4 [.int a,.int (b:Int)]=pure (.int (gcd a.natAbs b:Int)):=by
 have hr:=zrp a h0
 obtain ⟨y4,ih⟩:=zld (s0:=some (.int a)) (s1:=some (.int (b:Int))) 14000 19999 b (a % (b:Int)).toNat (some (.int (((a % (b:Int)).toNat:Nat):Int))) hr (zrl hb hr) (by decide)
 have e:zbJ zaj zao 20000 [some (.int a),some (.int (b:Int)),some (.int a),some (.int (b:Int)),none]=pure (.nx [some (.int a),some (.int (b:Int)),some (.int (gcd a.natAbs b:Int)),some (.int 0),y4]):=by
  rw [show (20000:Nat)=19999+1 from rfl,zmO ⋯,ih,zqj a h0]
 rw [d_4]
 simp only [G_4]
 ac_nf0
 rw [show zdT 20000 zaj zao [some (.int a),some (.int (b:Int)),some (.int a),some (.int (b:Int)),none]=zbJ zaj zao 20000 [some (.int a),some (.int (b:Int)),some (.int a),some (.int (b:Int)),none] from rfl,e]
 ac_nf0
theorem zvk {a:Int} {b:Nat} (h0:0<b):qD (mkRat a b)= .tup [.int (a / (gcd a.natAbs b:Int)),.int ((b:Int) / (gcd a.natAbs b:Int))]:=by
 unfold qD
 rw [num_mkRat,Rat.den_mkRat,qa5 ⋯,qa5 ⋯,Nat.gcd_comm b,Int.natCast_ediv]
theorem zgi {a:Int} {b:Nat} (h0:0<b) (h1:b<bb):F_3 [.int a,.int (b:Int)]=pure (qD (mkRat a b)):=by
 have g0:=Nat.gcd_pos_of_pos_right a.natAbs h0
 have g1:=Nat.gcd_le_right a.natAbs h0
 rw [zvk h0,d_3]
 simp only [G_3]
 ac_nf0
 rw [zrO h0 h1]
 ac_nf0
 rw [zdy g0 ⋯,zdy g0 ⋯]
 ac_nf0
theorem zps {s0 s1:Option D} {n a:Nat}:zbJ zaP zaV (n+1) [s0,s1,some (.int (a:Int)),some (.int ((0:Nat):Int))]=pure (.nx [s0,s1,some (.int (a:Int)),some (.int 0)]):=by
 rw [zdh]
 simp only [zaP]
 ac_nf0
 rfl
theorem zkT {s0 s1:Option D} {n a b:Nat} (hb:b≠0):zbJ zaP zaV (n+1) [s0,s1,some (.int (a:Int)),some (.int (b:Int))]=zbJ zaP zaV n [s0,s1,some (.int (b:Int)),some (.int ((a % b:Nat):Int))]:=by
 rw [zdh]
 generalize zbJ zaP zaV n=zbz
 simp only [zaP,zaV,zqP]
 ac_nf0
 rw [show decide ((0:Int)<(b:Int))=true by rw [qaD];omega]
 ac_nf0
 rw [zdD ⋯]
 ac_nf0
 rfl
theorem zkt {s0 s1:Option D}: ∀ (k n a b:Nat),b<=a->a*b<2^k->k<n->zbJ zaP zaV n [s0,s1,some (.int (a:Int)),some (.int (b:Int))]=pure (.nx [s0,s1,some (.int (gcd a b:Int)),some (.int 0)])
 | k,0,a,b,_,_,h=>by omega
 | k,n+1,a,b,hab,hk,h=>by
  by_cases hb:b=0
  ·subst hb
   rw [zps,Nat.gcd_zero_right]
  ·cases k with
   | zero=>
    have:1<=a*b:=mul_pos ⋯ (pos_of_ne_zero hb)
    omega
   | succ k=>
    have ih:=zkt (s0:=s0) (s1:=s1) k n b (a % b) (le_of_lt (mod_lt a (pos_of_ne_zero hb))) (euc hb hab hk) ⋯
    rw [zkT hb,ih,zgw a b]
theorem zfM {a:Int} {b:Nat} (h0:0<b) (h1:b<bb):F_44 [.int a,.int (b:Int)]=pure (qD (mkRat a b)):=by
 have g0:=Nat.gcd_pos_of_pos_right a.natAbs h0
 have g1:=Nat.gcd_le_right a.natAbs h0
 have hr:=le_of_lt (mod_lt a.natAbs h0)
 have e:zbJ zaP zaV 20000 [some (.int a),some (.int (b:Int)),some (.int (a.natAbs:Int)),some (.int (b:Int))]=pure (.nx [some (.int a),some (.int (b:Int)),some (.int (gcd a.natAbs b:Int)),some (.int 0)]):=by
  rw [show (20000:Nat)=19999+1 from rfl,zkT ⋯,zkt 14000 19999 b (a.natAbs % b) hr (zrl h1 hr) (by decide),zgw a.natAbs b]
 have a1: ∀ z:Int,zsa [.int z]=pure (.int (z.natAbs:Int)):=λz=>by
  show pure (D.int (if z<0 then -z else z))=_
  congr 2
  split<;>omega
 rw [zvk h0,d_44]
 simp only [G_44]
 ac_nf0
 rw [zq1]
 ac_nf0
 rw [a1,a1]
 ac_nf0
 rw [natAbs_natCast]
 rw [show zdT 20000 zaP zaV [some (.int a),some (.int (b:Int)),some (.int (a.natAbs:Int)),some (.int (b:Int))]=zbJ zaP zaV 20000 [some (.int a),some (.int (b:Int)),some (.int (a.natAbs:Int)),some (.int (b:Int))] from rfl,e]
 ac_nf0
 rw [zdy g0 ⋯,zdy g0 ⋯]
 ac_nf0
theorem ze6 {d:D} (k:kn d=true):F_0 [d]=pure (.bl (isI d)):=by
 rw [d_0]
 simp only [G_0,zc3,znU,zm4,zaE,pure_bind,bind_assoc,zpa k,zsb k,zdk,zog]
 cases d<;>simp [isI]
theorem zpy {d:D} (k:kn d=true):F_1 [d]=pure (.bl (match d with | .tup [_,_]=>true | _=>false)):=by
 have et:=zl9 k
 rw [d_1]
 simp only [G_1]
 ac_nf0
 rw [et]
 cases d with
 | tup ds=>
  simp only [isT]
  ac_nf0
  rw [znm]
  ac_nf0
  match ds with
  | []=>rfl
  | [x]=>rfl
  | [x,y]=>rfl
  | x::y::z::r=>
   rw [show (((x::y::z::r).length:Int)==2)=false by rw [beq_eq_false_iff_ne];simp;omega]
 | _=>simp only [isT];ac_nf0
theorem zhY {d:D} (g:sv d):F_6 [d]=pure (.bl (pF d)):=by
 obtain ⟨k,g⟩:=g
 have ep:=zpy k
 rw [d_6]
 simp only [G_6]
 ac_nf0
 rw [ep]
 cases d with
 | tup ds=>
  obtain ⟨kd,hb⟩:=g ds rfl
  match ds,kd,hb with
  | [],_,_=>ac_nf0;rfl
  | [x],_,_=>ac_nf0;cases x<;>rfl
  | x::y::z::r,_,_=>ac_nf0;cases x<;>cases y<;>rfl
  | [x,y],kd,hb=>
   have kx:=kd x (by simp)
   have ky:=kd y (by simp)
   ac_nf0
   rw [ze6 kx]
   cases x with
   | int a=>
    simp only [isI]
    ac_nf0
    rw [ze6 ky]
    cases y with
    | int b=>
     simp only [isI]
     ac_nf0
     have hbb:=hb a b rfl
     by_cases h0:0<b
     ·have ef:=zrO (a:=a) (b:=b.toNat) ⋯ hbb
      rw [show ((b.toNat:Nat):Int)=b by omega] at ef
      rw [decide_eq_true h0]
      ac_nf0
      rw [ef]
      ac_nf0
      rw [znm]
      show _=(pure (.bl (decide (0<b) && (gcd a.natAbs b.toNat==1))):M D)
      rw [decide_eq_true h0,Bool.true_and]
      ac_nf0
      congr 2
      rw [Bool.eq_iff_iff,beq_iff_eq,beq_iff_eq]
      omega
     ·rw [decide_eq_false h0]
      ac_nf0
      show (pure (D.bl false):M D)=pure (.bl (decide (0<b) && (gcd a.natAbs b.toNat==1)))
      rw [decide_eq_false h0]
      rfl
    | _=>simp only [isI];ac_nf0;rfl
   | _=>simp only [isI];ac_nf0;cases y<;>rfl
 | _=>ac_nf0;rfl
theorem ziP {s0:Option D}: ∀ (rs:List (Int×Nat)) (A:Int) (B k:Nat) (x3:Option D),Sz A B k rs-> ∃ (A':Int) (B':Nat) (y3:Option D),0<B'/\B'<=2^2000/\mkRat A' B'=(rs.map rq).foldl (· + ·) (mkRat A B)/\za2 (λx sd=>zcJ (List.set sd 3 (some x))) (rs.map pD) [s0,some (.int A),some (.int (B:Int)),x3]=pure (.nx [s0,some (.int A'),some (.int (B':Int)),y3])
 | [],A,B,k,x3,z=>⟨A,B,x3,z.b0,z.B_le,rfl,rfl⟩
 | r::rs,A,B,k,x3,z=>by
  obtain ⟨A',B',y3,h1,h2,h3,ih⟩:=ziP (s0:=s0) rs _ _ _ (some (pD r)) z.next
  refine ⟨A',B',y3,h1,h2,?_,?_⟩
  ·rw [h3,qaM,foldl_cons,zdM z.b0 (z.p0 r qau)]
  ·have hA:=z.A_le
   have hB:=z.B_le
   obtain ⟨d1,d2⟩:=z.d_le
   have hn:=z.r1 r qau
   rw [qaM,zbB, <-ih]
   generalize za2 (λx sd=>zcJ (List.set sd 3 (some x))) (rs.map pD)=zbz
   simp only [zcJ]
   unfold pD
   ac_nf0
   rw [ze1 (zax (by decide) hA) (by rw [natAbs_natCast];exact zax (by decide) d2),ze1 (zax (n:=1800) (by decide) hn) (by rw [natAbs_natCast];exact zax (by decide) hB)]
   ac_nf0
   rw [ze1 (by rw [natAbs_natCast];exact zax (by decide) hB) (by rw [natAbs_natCast];exact zax (by decide) d2)]
   ac_nf0
   rw [natCast_mul]
def qs (rs:List Rat):Rat:=rs.foldl (· + ·) 0
theorem ztC:mkRat 0 1=0:=by decide +kernel
theorem zla {s0:Option D}: ∀ (rs:List (Int×Nat)) (A:Int) (B k:Nat) (x3:Option D),Sz A B k rs-> ∃ y3,za2 (λx sd=>zcM (List.set sd 3 (some x))) (rs.map pD) [s0,some (.int (mkRat A B).num),some (.int ((mkRat A B).den:Int)),x3]=pure (.nx [s0,some (.int ((rs.map rq).foldl (· + ·) (mkRat A B)).num),some (.int (((rs.map rq).foldl (· + ·) (mkRat A B)).den:Int)),y3])
 | [],A,B,k,x3,z=>⟨x3,rfl⟩
 | r::rs,A,B,k,x3,z=>by
  obtain ⟨y3,ih⟩:=zla (s0:=s0) rs _ _ _ (some (pD r)) z.next
  refine ⟨y3,?_⟩
  have hr0:=z.p0 r qau
  have hA:=qaS (zgf A z.b0) z.A_le
  have hd:=zef A z.b0
  have hB:=qaS hd z.B_le
  obtain ⟨d1,d2⟩:=z.d_le
  have hn:=z.r1 r qau
  have hdp:=(mkRat A B).den_pos
  have hbb:(mkRat A B).den*r.2<bb:=lt_of_le_of_lt (qaS (mul_le_mul_right _ hd) d1) (qaw (pow_lt_pow_right (by decide) (by decide:2000<2001)) (zfV (by decide)))
  have ef:=zfM (a:=(mkRat A B).num*(r.2:Int)+r.1*((mkRat A B).den:Int)) (b:=(mkRat A B).den*r.2) (mul_pos hdp hr0) hbb
  have er:mkRat ((mkRat A B).num*(r.2:Int)+r.1*((mkRat A B).den:Int)) ((mkRat A B).den*r.2)=mkRat (A*(r.2:Int)+r.1*(B:Int)) (B*r.2):=by
   rw [<- zdM hdp hr0,mkRat_self,zdM z.b0 hr0]
  rw [er,natCast_mul] at ef
  have e2:((r::rs).map rq).foldl (· + ·) (mkRat A B)=(rs.map rq).foldl (· + ·) (mkRat (A*(r.2:Int)+r.1*(B:Int)) (B*r.2)):=by
   rw [qaM,foldl_cons,zdM z.b0 hr0]
  rw [e2,qaM (f:=pD),zbB, <-ih]
  generalize za2 (λx sd=>zcM (List.set sd 3 (some x))) (rs.map pD)=zbz
  generalize mkRat (A*(r.2:Int)+r.1*(B:Int)) (B*r.2)=q at ef
  generalize mkRat A B=p at hA hB ef
  simp only [zcM]
  unfold qD at ef
  unfold pD
  ac_nf0
  rw [ze1 (zax (by decide) hA) (by rw [natAbs_natCast];exact zax (by decide) d2),ze1 (zax (n:=1800) (by decide) hn) (by rw [natAbs_natCast];exact zax (by decide) hB)]
  ac_nf0
  rw [ze1 (by rw [natAbs_natCast];exact zax (by decide) hB) (by rw [natAbs_natCast];exact zax (by decide) d2)]
  ac_nf0
  rw [ef]
  ac_nf0
structure Pz (ps:List (Int×Nat)):Prop where
 dp1:dpp ps<=2^2000
 ln:ps.length<=14
 r1: ∀ r∈ps,r.1.natAbs<=tt
 p0: ∀ r∈ps,0<r.2
theorem Pz.sz {ps:List (Int×Nat)} (z:Pz ps):Sz 0 1 0 ps:=⟨by decide,by rw [one_mul];exact z.dp1,by simp,by rw [Nat.zero_add];exact z.ln,z.r1,z.p0⟩
theorem zuo {ps:List (Int×Nat)} (z:Pz ps) {d:D} (hd:zdu d=pure (ps.map pD)):F_45 [d]=pure (qD (qs (ps.map rq))):=by
 obtain ⟨y3,e⟩:=zla (s0:=some d) ps 0 1 0 none z.sz
 rw [ztC] at e
 rw [show (0:Rat).num=0 from rfl,show (0:Rat).den=1 from rfl] at e
 rw [d_45]
 simp only [G_45]
 unfold qs
 ac_nf0
 rw [hd]
 ac_nf0
 rw [show D.int ((1:Nat):Int)= .int 1 from rfl] at e
 rw [e]
 ac_nf0
 rfl
theorem zvi {ps:List (Int×Nat)} (z:Pz ps) {d:D} (hd:zdu d=pure (ps.map pD)):F_7 [d]=pure (qD (qs (ps.map rq))):=by
 obtain ⟨A',B',y3,h1,h2,h3,e⟩:=ziP (s0:=some d) ps 0 1 0 none z.sz
 rw [ztC] at h3
 have hbb:B'<bb:=lt_of_le_of_lt h2 (qaw (pow_lt_pow_right (by decide) (by decide:2000<2001)) (zfV (by decide)))
 have er:=zgi (a:=A') h1 hbb
 rw [h3] at er
 rw [d_7]
 simp only [G_7]
 ac_nf0
 rw [hd]
 ac_nf0
 rw [show D.int ((1:Nat):Int)= .int 1 from rfl] at e
 rw [e]
 ac_nf0
 rw [er]
 ac_nf0
 rfl
structure Rz (rs:List Rat):Prop where
 dp1:dp rs<=2^2000
 ln:rs.length<=14
 r1: ∀ r∈rs,r.num.natAbs<=2^1700
theorem Rz.pz {rs:List Rat} (z:Rz rs):Pz (rs.map nd):=⟨by rw [zob];exact z.dp1,by rw [qaH];exact z.ln,λp hp=>by
  obtain ⟨r,hr,rfl⟩:=qaU.mp hp
  exact qaS (z.r1 r hr) (pow_le_pow_right (by decide) (by decide)),λp hp=>by
  obtain ⟨r,hr,rfl⟩:=qaU.mp hp
  exact r.den_pos⟩
theorem zio {rs:List Rat} (z:Rz rs) {d:D} (hd:zdu d=pure (rs.map qD)):F_45 [d]=pure (qD (qs rs)):=by
 have:=zuo z.pz (d:=d) (by rw [zr2];exact hd)
 rw [zmS] at this
 exact this
theorem zlO {rs:List Rat} (z:Rz rs) {d:D} (hd:zdu d=pure (rs.map qD)):F_7 [d]=pure (qD (qs rs)):=by
 have:=zvi z.pz (d:=d) (by rw [zr2];exact hd)
 rw [zmS] at this
 exact this
theorem qsP {ps:List (Int×Nat)} (z:Pz ps):(qs (ps.map rq)).num.natAbs<2^6000/\(qs (ps.map rq)).den<2^6000:=by
 have key: ∀ (ps:List (Int×Nat)) (A:Int) (B k:Nat),Sz A B k ps-> ∃ (A':Int) (B':Nat) (k':Nat),Sz A' B' k' []/\mkRat A' B'=(ps.map rq).foldl (· + ·) (mkRat A B):=by
  intro ps
  induction ps with
  | nil=>exact λA B k z=>⟨A,B,k,z,rfl⟩
  | cons r ps ih=>
   intro A B k z
   obtain ⟨A',B',k',z',e⟩:=ih _ _ _ z.next
   exact ⟨A',B',k',z',by rw [e,qaM,foldl_cons,zdM z.b0 (z.p0 r qau)]⟩
 obtain ⟨A',B',k',z',e⟩:=key ps 0 1 0 z.sz
 rw [ztC] at e
 unfold qs
 rw [<- e]
 exact ⟨zax (n:=3804) (by decide) (qaS (zgf A' z'.b0) z'.A_le),zax (n:=2000) (by decide) (qaS (zef A' z'.b0) z'.B_le)⟩
theorem ziY {rs:List Rat} (z:Rz rs):(qs rs).num.natAbs<2^6000/\(qs rs).den<2^6000:=by
 have:=qsP z.pz
 rw [zmS] at this
 exact this
theorem zk5 {a b:List Rat} (h:a.Sublist b):dp a<=dp b:=by
 induction h with
 | slnil=>exact qaV _
 | @cons l1 l2 r _ ih=>
  have h1:1*dp l2<=r.den*dp l2:=mul_le_mul_right _ r.den_pos
  show dp l1<=r.den*dp l2
  omega
 | @cons_cons l1 l2 r _ ih=>exact mul_le_mul_left _ ih
def pk (rs:List Rat) (ts:List Int):List Rat:=ts.map λt=>rs.getD t.toNat 0
theorem znT {rs:List Rat} {ts:List Int} (hu:ts.Pairwise (· < ·)) (hb: ∀ t∈ts,0<=t/\t<(rs.length:Int)):(pk rs ts).Sublist rs:=by
 have e:ts=((List.range rs.length).filter λ(k:Nat)=>ts.any (· == (k:Int))).map λ(k:Nat)=>(k:Int):=by
  refine zmX hu ?_ λt=> ?_
  ·rw [List.pairwise_map]
   exact (pairwise_lt_range.filter _).imp λh=>by omega
  ·rw [qaU]
   constructor
   ·intro ht
    have:=hb t ht
    refine ⟨t.toNat,mem_filter.mpr ⟨mem_range.mpr ⋯,?_⟩,⋯⟩
    rw [show ((t.toNat:Nat):Int)=t by omega]
    exact zcF.mpr ht
   ·rintro ⟨k,hk,rfl⟩
    exact zcF.mp (mem_filter.mp hk).2
 have e2:rs=(List.range rs.length).map λk=>rs.getD k 0:=by
  refine List.ext_getElem (by simp) λi h1 h2=> ?_
  simp [List.getD,h1]
 unfold pk
 rw [e,qaT]
 conv=>rhs;rw [e2]
 exact (List.filter_sublist.map _)
theorem Rz.sub {rs xs:List Rat} (z:Rz rs) (h:xs.Sublist rs):Rz xs:=⟨qaS (zk5 h) z.dp1,qaS h.length_le z.ln,λr hr=>z.r1 r (h.subset hr)⟩
theorem Rz.pick {rs:List Rat} (z:Rz rs) {ts:List Int} (hu:ts.Pairwise (· < ·)) (hb: ∀ t∈ts,0<=t/\t<(rs.length:Int)):Rz (pk rs ts):=z.sub (znT hu hb)
def bB (rs:List Rat) (o:List Int×Int):Bool:= !decide (o.2*((qs (pk rs o.1)).den:Int)<(qs (pk rs o.1)).num)
theorem zuC {rs:List Rat} {t:Int} (h0:0<=t) (h1:t<(rs.length:Int)):atI (rs.map qD) t=some (qD (rs.getD t.toNat 0)):=by
 have hl:t.toNat<rs.length:=by omega
 have:=zfD (xs:=rs.map qD) (j:=t.toNat) (v:=qD (rs.getD t.toNat 0)) (by simp [List.getD,hl])
 rw [<- this]
 congr 1
 omega
theorem zkC {fi:FA} {src:List (Option Nat)} {sd:Sd} {te:FE} {rs:List Rat} {ts:List Int} (he:te=cOp dIx (zae 1) (zae 0)) (hl:ts.length<=1000) (hb: ∀ t∈ts,0<=t/\t<(rs.length:Int)) (hi:fi sd=pure (ts.map D.int)) (eb:zap src sd=[none,some (.tup (rs.map qD))]):
  zaH fi (zaC 0) (λ_=>pure true) te src sd=pure (.lst ((pk rs ts).map qD)):=by
 unfold pk
 rw [qaT,show ts.map (qD∘λt=>rs.getD t.toNat 0)=ts.filterMap λt=>some (qD (rs.getD t.toNat 0)) by simp [Function.comp_def]]
 refine zaY (g':=D.int) hi hl λt ht=> ?_
 rw [eb,he]
 simp only [zaZ]
 ac_nf0
 rw [zuC (hb t ht).1 (hb t ht).2]
 ac_nf0
theorem zmN {o:List Int×Int} {rs:List Rat} (z:Rz rs) (hu:o.1.Pairwise (· < ·)) (hb: ∀ t∈o.1,0<=t/\t<(rs.length:Int)) (hl:o.1.length<=12) (hp:o.2.natAbs<2^6000):F_35 [zbZ o,.tup (rs.map qD)]=pure (.bl (bB rs o)):=by
 have zp:=z.pick hu hb
 obtain ⟨n1,n2⟩:=ziY zp
 have et:=zlO zp (d:= .lst ((pk rs o.1).map qD)) rfl
 have ec: ∀ {s2:Option D},zaH (iSq (cOp dIx (zae 0) (cK (.int 0)))) (zaC 0) (λ_=>pure true) zeT [none,some 1] [some (.tup [.tup (o.1.map D.int),.int o.2]),some (.tup (rs.map qD)),s2]=pure (.lst ((pk rs o.1).map qD)):=λ{s2}=>zkC rfl ⋯ hb (by ac_nf0) rfl
 have el:F_5 [.tup [.int o.2,.int 1],qD (qs (pk rs o.1))]=pure (.bl (decide (o.2*((qs (pk rs o.1)).den:Int)<(qs (pk rs o.1)).num))):=by
  rw [d_5]
  simp only [G_5]
  unfold qD
  ac_nf0
  rw [ze1 hp (by rw [natAbs_natCast];exact n2),ze1 n1 ⋯]
  ac_nf0
  simp only [zmm]
  ac_nf0
  rw [mul_one]
 rw [d_35]
 simp only [G_35]
 unfold zbZ tI bB
 generalize (pk rs o.1).map qD=ps at et ec
 generalize qs (pk rs o.1)=q at et el
 ac_nf0
 rw [ec]
 ac_nf0
 rw [et]
 ac_nf0
 rw [el]
 ac_nf0
theorem zjo {f g:FE} {sd:Sd}:zmp (zac f (zac g zar)) sd=(do let x<-f sd;let y<-g sd;ztK [x,y]):=by
 unfold zmp
 simp only [zaO,za3,bind_assoc,pure_bind]
theorem ziI {ds es:List D}:ztK [.tup ds,.tup es]=pure (zf0 ds es):=rfl
def zO (p:(List Int×Int)×Rat):D:= .tup [zbZ p.1,qD p.2]
def zR (p:(List Int×Int)×Rat):D:= .tup [qD p.2,zbZ p.1]
theorem zrx (os:List (List Int×Int)) (rs:List Rat):zf0 (os.map zbZ) (rs.map qD)=(os.zip rs).map zO:=by
 unfold zf0
 rw [List.zip_map,qaT]
 rfl
theorem zqz: ∀ (os:List (List Int×Int)) (rs:List Rat),zf0 (rs.map qD) (os.map zbZ)=(os.zip rs).map zR
 | [],rs=>by cases rs<;>rfl
 | _::_,[]=>rfl
 | o::os,r::rs=>by
  have:=zqz os rs
  unfold zf0 at this ⊢
  rw [qaM,qaM,List.zip_cons_cons,qaM,this]
  rfl
def sl (t:Int) (os:List (List Int×Int)) (rs:List Rat):List Rat:=((os.zip rs).filter λp=>p.1.1.any (· == t)).map (·.2)
theorem zoF (t:Int) {os:List (List Int×Int)} {rs:List Rat} (h:rs.length=os.length):(sl t os rs).Sublist rs:=by
 unfold sl
 have e:(os.zip rs).map (·.2)=rs:=List.map_snd_zip ⋯
 conv=>rhs;rw [<- e]
 exact List.filter_sublist.map _
def sB (os:List (List Int×Int)) (rs:List Rat) (t:Int):Bool:= !decide ((qs (sl t os rs)).num<((qs (sl t os rs)).den:Int))
theorem zmD {fi:FA} {src:List (Option Nat)} {sd:Sd} {os:List (List Int×Int)} {rs:List Rat} {t:Int} (hl:os.length<=1000) (hi:fi sd=pure ((os.zip rs).map zO)) (eb:zap src sd=[none,none,some (.int t)]):
  zaH fi (zbn 2 (zat (zaC 0) (zat (zaC 1) zbp))) zcs zcu src sd=pure (.lst ((sl t os rs).map qD)):=by
 have e:(sl t os rs).map qD=(os.zip rs).filterMap λp=>if p.1.1.any (· == t)=true then some (qD p.2) else none:=by
  rw [zcK (p:=λp:(List Int×Int)×Rat=>p.1.1.any (· == t)) (g:=λp=>qD p.2)]
  unfold sl
  rw [qaT]
  rfl
 rw [e]
 refine zaY (g':=zO) hi (by rw [length_zip];omega) λp hp=> ?_
 rw [eb]
 simp only [zaZ,zcs,zcu]
 unfold zO
 generalize qD p.2=q
 cases h:p.1.1.any (· == t) with
 | true=>
  ac_nf0
  rw [zbH,h]
  ac_nf0
 | false=>
  ac_nf0
  rw [zbH,h]
  ac_nf0
theorem zmH {fi:FA} {src:List (Option Nat)} {sd:Sd} {os:List (List Int×Int)} {rs:List Rat} {t:Int} (hl:os.length<=1000) (hi:fi sd=pure ((os.zip rs).map zR)) (eb:zap src sd=[none,none,some (.int t)]):
  zaH fi (zbn 2 (zat (zaC 0) (zat (zaC 1) zbp))) zcN zcP src sd=pure (.lst ((sl t os rs).map qD)):=by
 have e:(sl t os rs).map qD=(os.zip rs).filterMap λp=>if p.1.1.any (· == t)=true then some (qD p.2) else none:=by
  rw [zcK (p:=λp:(List Int×Int)×Rat=>p.1.1.any (· == t)) (g:=λp=>qD p.2)]
  unfold sl
  rw [qaT]
  rfl
 rw [e]
 refine zaY (g':=zR) hi (by rw [length_zip];omega) λp hp=> ?_
 rw [eb]
 simp only [zaZ,zcN,zcP]
 unfold zR
 generalize qD p.2=q
 cases h:p.1.1.any (· == t) with
 | true=>
  ac_nf0
  rw [zbH,h]
  ac_nf0
 | false=>
  ac_nf0
  rw [zbH,h]
  ac_nf0
theorem zkF {os:List (List Int×Int)} {rs:List Rat} {t:Int} (z:Rz rs) (hl:rs.length=os.length) (hl2:os.length<=1000):F_36 [za7 m os,.int t,.tup (rs.map qD)]=pure (.bl (sB os rs t)):=by
 have zp:=z.sub (zoF t hl)
 obtain ⟨n1,n2⟩:=ziY zp
 have et:=zlO zp (d:= .lst ((sl t os rs).map qD)) rfl
 have ec: ∀ {s3:Option D},zaH (zmp (zac (cOp dIx (zae 0) (cK (.int 1))) (zac (zae 2) zar))) (zbn 2 (zat (zaC 0) (zat (zaC 1) zbp))) zcs zcu [none,none,some 1] [some (za7 m os),some (.int t),some (.tup (rs.map qD)),s3]=pure (.lst ((sl t os rs).map qD)):=λ{s3}=>zmD hl2 (by rw [zjo];ac_nf0;rw [ziN];ac_nf0;rw [ziI,zrx]) rfl
 have el:F_5 [qD (qs (sl t os rs)),.tup [.int 1,.int 1]]=pure (.bl (decide ((qs (sl t os rs)).num<((qs (sl t os rs)).den:Int)))):=by
  rw [d_5]
  simp only [G_5]
  unfold qD
  ac_nf0
  rw [ze1 n1 ⋯,ze1 ⋯ (by rw [natAbs_natCast];exact n2)]
  ac_nf0
  simp only [zmm]
  ac_nf0
  rw [mul_one,Int.one_mul]
 rw [d_36]
 simp only [G_36]
 unfold sB
 generalize (sl t os rs).map qD=ps at et ec
 generalize qs (sl t os rs)=q at et el
 ac_nf0
 rw [ec]
 ac_nf0
 rw [et]
 ac_nf0
 rw [el]
 ac_nf0
theorem znw {d:D} (g:sv d):F_34 [d]=pure (.bl (pS d)):=by
 have ef:=zhY g
 rw [d_34]
 simp only [G_34]
 ac_nf0
 rw [ef]
 ac_nf0
 cases hp:pF d with
 | false=>
  rw [zuj hp]
  ac_nf0
 | true=>
  obtain ⟨a,b,rfl⟩:=zqX hp
  rw [zrA hp]
  ac_nf0
  rw [zvu]
  ac_nf0
theorem zit {fi:FA} {sd:Sd} {te:FE} {ds:List D} (hi:fi sd=pure ds) (hl:ds.length<=60) (he: ∀ x∈ds,te [some x]=pure (.bl (pS x))):zaH fi (zaC 0) (λ_=>pure true) te [none] sd=pure (.lst ((ds.map pS).map D.bl)):=by
 rw [zhq (ds:=ds) (k:=λd=> .bl (pS d)) hi ⋯ ?_]
 ·rw [qaT]
  rfl
 ·intro x hx
  rw [show zap [none] sd=[none] from rfl]
  simp only [zaZ]
  ac_nf0
  rw [he x hx]
  ac_nf0
theorem all_map (ds:List D):((ds.map pS).all id)=ds.all pS:=by
 rw [List.all_map]
 rfl
theorem zvP {q:Rat} (h:q.den<2^6000):sv (qD q):=⟨rfl,λds e=>by
  unfold qD at e
  cases e
  refine ⟨λx hx=> ?_,λa b e=> ?_⟩
  · simp only [qaP,qaF,or_false] at hx
    rcases hx with rfl | rfl<;>rfl
  · simp only [List.cons.injEq,D.int.injEq,and_true] at e
    rw [<- e.2,qaB]
    exact qaw h (zfV (by decide))⟩
theorem zv6 {r:Rat} (h:0<=r):pS (qD r)=true:=by
 have h1:=zv9 r
 unfold qD at h1 ⊢
 rw [zrA h1,qaD]
 exact num_nonneg.mpr h
theorem znY {rs:List Rat} (hl:rs.length<=60) (hd: ∀ r∈rs,r.den<2^6000) (hn: ∀ r∈rs,0<=r):F_33 [.tup (rs.map qD),.int (rs.length:Int)]=pure (.bl true):=by
 have hall:(rs.map qD).all pS=true:=all_eq_true.mpr λd h=>by
  obtain ⟨r,hr,rfl⟩:=qaU.mp h
  exact zv6 (hn r hr)
 have hs: ∀ x∈rs.map qD,sv x:=λx h=>by
  obtain ⟨r,hr,rfl⟩:=qaU.mp h
  exact zvP (hd r hr)
 have et:=zl9 (d:= .tup (rs.map qD)) rfl
 have ec:zaH (iSq (zae 0)) (zaC 0) (λ_=>pure true) zcT [none] [some (.tup (rs.map qD)),some (.int (rs.length:Int))]=pure (.lst (((rs.map qD).map pS).map D.bl)):=zit (by ac_nf0) (by rw [qaH];omega) λx hx=>by
  simp only [zcT]
  ac_nf0
  rw [znw (hs x hx)]
 rw [d_33]
 simp only [G_33]
 ac_nf0
 rw [et]
 simp only [isT]
 ac_nf0
 rw [zvO,beq_self_eq_true]
 ac_nf0
 rw [ec]
 ac_nf0
 rw [zil,all_map,hall]
 ac_nf0
theorem zi3 (s:Stk m os) (hp: ∀ o∈os,o.2<2^70) {rs:List Rat} (z:Rz rs) (hl:(rs.length:Int)=m) (hd: ∀ r∈rs,r.den<2^6000) (hn: ∀ r∈rs,0<=r) (hb:os.all (bB rs)=true):F_29 [za7 m os,.tup (rs.map qD)]=pure (.bl true):=by
 have ol:=s.len
 have m1:=s.m1
 have ea:=znY (rs:=rs) ⋯ hd hn
 rw [hl] at ea
 have ec:zaH (iSq (cOp dIx (zae 0) (cK (.int 1)))) (zaC 0) (λ_=>pure true) zcV [none,some 1] [some (za7 m os),some (.tup (rs.map qD))]=pure (.lst ((os.map (bB rs)).map D.bl)):=by
  rw [qaT,show os.map (D.bl∘bB rs)=os.filterMap λo=>some (.bl (bB rs o)) by simp [Function.comp_def]]
  refine zaY (g':=zbZ) (by ac_nf0;rw [ziN];ac_nf0) ⋯ λo ho=> ?_
  have eb:=zmN z (s.up o ho) (λt ht=>by have:=s.bd o ho t ht;omega) (by have:=s.olen o ho;omega) (by
    have h1:=s.pos o ho
    have h2:=hp o ho
    have h3:o.2.natAbs<=2^70:=by omega
    exact zax (n:=70) (by decide) h3)
  rw [show zap [none,some 1] [some (za7 m os),some (.tup (rs.map qD))]=[none,some (.tup (rs.map qD))] from rfl]
  simp only [zaZ,zcV]
  generalize bB rs o=bo at eb
  generalize zbZ o=d at eb
  ac_nf0
  rw [eb]
  ac_nf0
 rw [d_29]
 simp only [G_29]
 ac_nf0
 rw [zl7]
 ac_nf0
 rw [ea]
 ac_nf0
 rw [ec]
 ac_nf0
 rw [zil,List.all_map]
 rw [show (os.all (id∘bB rs))=os.all (bB rs) from rfl,hb]
 ac_nf0
theorem zg2 (s:Stk m os) {rs:List Rat} (z:Rz rs) (hb:F_29 [za7 m os,.tup (rs.map qD)]=pure (.bl true)):F_31 [za7 m os,.tup (rs.map qD)]=pure (qD (qs rs)):=by
 have et:=zlO z (d:= .tup (rs.map qD)) rfl
 generalize qD (qs rs)=q at et
 rw [d_31]
 simp only [G_31]
 ac_nf0
 rw [hb]
 ac_nf0
 rw [et]
 ac_nf0
def tsI (m:Int):List Int:=(List.range m.toNat).map λ(k:Nat)=>(k:Int)
theorem znV (m:Int):zdp 0 m.toNat=(tsI m).map D.int:=by
 unfold zdp tsI
 rw [qaT]
 exact map_congr_left λk _=>by simp
def pr (os:List (List Int×Int)) (rs:List Rat):List (Int×Nat):=(os.zip rs).map λp=>(p.1.2*p.2.num,p.2.den)
theorem zom: ∀ (os:List (List Int×Int)) (rs:List Rat),dpp (pr os rs)<=dp rs
 | [],rs=>zi4 rs
 | _::_,[]=>qaV _
 | o::os,r::rs=>mul_le_mul_left _ (zom os rs)
theorem zn6 {os:List (List Int×Int)} {rs:List Rat} (z:Rz rs) (hp: ∀ o∈os,o.2.natAbs<=2^70): ∀ p∈os.zip rs,p.1.2.natAbs<2^6000/\p.2.num.natAbs<2^6000/\(p.1.2*p.2.num).natAbs<=tt/\p.2.den<bb:=λp h=>by
 obtain ⟨h1,h2⟩:=of_mem_zip (a:=p.1) (b:=p.2) h
 have a1:=hp _ h1
 have a2:=z.r1 _ h2
 refine ⟨zax (n:=70) (by decide) a1,zax (n:=1700) (by decide) a2,?_,?_⟩
 ·rw [natAbs_mul]
  have h3:=zfI a1 a2
  exact qaS h3 (pow_le_pow_right (by decide) (by decide))
 ·have h3:p.2.den<=dp rs:=by
   have:=zk5 (List.singleton_sublist.mpr h2)
   have e:dp [p.2]=p.2.den:=Nat.mul_one _
   omega
  exact lt_of_le_of_lt (qaS h3 z.dp1) (qaw (pow_lt_pow_right (by decide) (by decide:2000<2001)) (zfV (by decide)))
theorem zuS {os:List (List Int×Int)} {rs:List Rat} (z:Rz rs) (hp: ∀ o∈os,o.2.natAbs<=2^70):Pz (pr os rs) where
 dp1:=qaS (zom os rs) z.dp1
 ln:=by
  have:=z.ln
  unfold pr
  rw [qaH,length_zip]
  omega
 r1:=λr hr=>by
  obtain ⟨p,h,rfl⟩:=qaU.mp hr
  exact (zn6 z hp p h).2.2.1
 p0:=λr hr=>by
  obtain ⟨p,h,rfl⟩:=qaU.mp hr
  exact p.2.den_pos
theorem zqG {fi:FA} {sd:Sd} {os:List (List Int×Int)} {rs:List Rat} (z:Rz rs) (hp: ∀ o∈os,o.2.natAbs<=2^70) (hl:os.length<=1000) (hi:fi sd=pure ((os.zip rs).map zO)) (eb:zap [none,none] sd=[none,none]):
  zaH fi (zbn 2 (zat (zaC 0) (zat (zaC 1) zbp))) (λ_=>pure true) zcf [none,none] sd=pure (.lst ((pr os rs).map pD)):=by
 have e:(pr os rs).map pD=(os.zip rs).filterMap λp=>some (pD (p.1.2*p.2.num,p.2.den)):=by
  unfold pr
  rw [qaT]
  simp [Function.comp_def]
 rw [e]
 refine zaY (g':=zO) hi (by rw [length_zip];omega) λp hpp=> ?_
 obtain ⟨a1,a2,_,_⟩:=zn6 z hp p hpp
 have em:=ze1 a1 a2
 rw [eb]
 simp only [zaZ,zcf]
 unfold zO qD pD
 ac_nf0
 rw [em]
 ac_nf0
theorem zhT (s:Stk m os) {rs:List Rat} (z:Rz rs) (hl:rs.length=os.length) (hd: ∀ r∈rs,r.den<2^6000) (hn: ∀ r∈rs,0<=r) (hb:(tsI m).all (sB os rs)=true):F_30 [za7 m os,.tup (rs.map qD)]=pure (.bl true):=by
 have ol:=s.len
 have m0:=s.m0
 have m1:=s.m1
 have ea:=znY (rs:=rs) ⋯ hd hn
 rw [hl] at ea
 have ec:zaH (zei (zac (cOp dIx (zae 0) (cK (.int 0))) zar)) (zaC 0) (λ_=>pure true) zcR [none,some 0,some 1] [some (za7 m os),some (.tup (rs.map qD))]=pure (.lst (((tsI m).map (sB os rs)).map D.bl)):=by
  rw [qaT,show (tsI m).map (D.bl∘sB os rs)=(tsI m).filterMap λt=>some (.bl (sB os rs t)) by simp [Function.comp_def]]
  refine zaY (g':=D.int) (by ac_nf0;rw [zl7];ac_nf0;rw [zcw ⋯ ⋯,znV]) (by unfold tsI;simp;omega) λt ht=> ?_
  have eb:=zkF (m:=m) (t:=t) z hl ⋯
  rw [show zap [none,some 0,some 1] [some (za7 m os),some (.tup (rs.map qD))]=[none,some (za7 m os),some (.tup (rs.map qD))] from rfl]
  simp only [zaZ,zcR]
  generalize sB os rs t=bo at eb
  ac_nf0
  rw [eb]
  ac_nf0
 rw [d_30]
 simp only [G_30]
 ac_nf0
 rw [ziN]
 ac_nf0
 rw [ea]
 ac_nf0
 rw [ec]
 ac_nf0
 rw [zil,List.all_map]
 rw [show ((tsI m).all (id∘sB os rs))=(tsI m).all (sB os rs) from rfl,hb]
 ac_nf0
theorem zeL (s:Stk m os) (hp: ∀ o∈os,o.2.natAbs<=2^70) {rs:List Rat} (z:Rz rs) (hb:F_30 [za7 m os,.tup (rs.map qD)]=pure (.bl true)):F_32 [za7 m os,.tup (rs.map qD)]=pure (qD (qs ((pr os rs).map rq))):=by
 have ol:=s.len
 have et:=zvi (zuS z hp) (d:= .lst ((pr os rs).map pD)) rfl
 have ec:=zqG (fi:=zmp (zac (cOp dIx (zae 0) (cK (.int 1))) (zac (zae 1) zar))) (sd:=[some (za7 m os),some (.tup (rs.map qD))]) z hp ⋯ (by
   rw [zjo]
   ac_nf0
   rw [ziN]
   ac_nf0
   rw [ziI,zrx]) rfl
 generalize qD (qs ((pr os rs).map rq))=q at et
 rw [d_32]
 simp only [G_32]
 ac_nf0
 rw [hb]
 ac_nf0
 rw [ec]
 ac_nf0
 rw [et]
 ac_nf0
def zkh (m:Int) (os:List (List Int×Int)):Bool:=((zdO (os.flatMap (·.1))).length:Int)==m
theorem zo9 (s:Stk m os):Ev (F_13 [za7 m os]) (.bl (zkh m os)):=by
 have e:=zrw s (d:= .tup (os.map zbZ)) (os':=os) rfl s.len λo ho=>ho
 refine .of_wp λh=> ?_
 rw [d_13]
 simp only [G_13]
 ac_nf0
 rw [ziN]
 ac_nf0
 refine e.wp λh' g=> ?_
 ac_nf0
 first | exact ⟨g,rfl⟩ | exact ⟨trivial,g⟩ | exact ⟨g,trivial⟩ | exact g
theorem zh3 (s:Stk m os):zkh m os=true↔ ∀ t:Int,0<=t->t<m-> ∃ o∈os,t∈o.1:=by
 have m0:=s.m0
 have hbd: ∀ x∈zdO (os.flatMap (·.1)),0<=x/\x<m:=λx hx=>by
  obtain ⟨o,ho,hx⟩:=mem_flatMap.mp (zb8.mp hx)
  exact s.bd o ho x hx
 have hf:=zpN ⋯ (zdB _) hbd
 unfold zkh
 rw [<- hf,beq_iff_eq]
 constructor
 ·intro e t t0 t1
  have:t∈zdO (os.flatMap (·.1)):=by
   rw [e]
   exact qaU.mpr ⟨t.toNat,mem_range.mpr ⋯,⋯⟩
  exact mem_flatMap.mp (zb8.mp this)
 ·intro h
  refine List.Perm.eq_of_pairwise (le:=λa b:Int=>a<b) (λa b _ _ h1 h2=>by omega) (zdB _) (zc7 _) ?_
  refine (List.perm_ext_iff_of_nodup ((zdB _).imp λz=>by omega) ((zc7 _).imp λz=>by omega)).mpr λx=> ?_
  constructor
  ·intro hx
   have:=hbd x hx
   exact qaU.mpr ⟨x.toNat,mem_range.mpr ⋯,⋯⟩
  ·intro hx
   have:=zc2 x hx
   obtain ⟨o,ho,h2⟩:=h x ⋯ ⋯
   exact zb8.mpr (mem_flatMap.mpr ⟨o,ho,h2⟩)
theorem zqF (s:Stk m os) (hf:zkh m os=true):Ev (F_15 [za7 m os]) .non:=by
 refine .of_wp λh=> ?_
 rw [d_15]
 simp only [G_15]
 ac_nf0
 refine (zo9 s).wp λh' g=> ?_
 rw [hf]
 ac_nf0
 exact ⟨trivial,g⟩
theorem zrR (s:Stk m os) (hc: ∀ i:Int,0<=i->i<m-> ∃ o∈os.map zbZ, ∃ (xs:List Int) (p:Int),o= .tup [.tup (xs.map D.int),.int p]/\i∈xs):zkh m os=true:=by
 refine (zh3 s).mpr λt t0 t1=> ?_
 obtain ⟨o,ho,xs,p,rfl,hx⟩:=hc t t0 t1
 obtain ⟨o',ho',e⟩:=qaU.mp ho
 refine ⟨o',ho',?_⟩
 have e1:o'.1.map D.int=xs.map D.int:=by
  simp only [zbZ,tI] at e
  injection e with e
  injection e with e _
  injection e
 have e2:o'.1=xs:=(List.map_inj_right λa b h=>by injection h).mp e1
 rw [e2]
 exact hx
def pc (os:List (List Int×Int)) (ls:List Int):Int:=(ls.map λi=>(os.getD i.toNat ([],0)).2).sum
theorem zht {m:Int} {x0:Option D}: ∀ {ds:List D} {l:Int} {x3:Option D},(∀ d∈ds,kn d=true)->
  (zcb m l ds=true-> ∃ sd',za2 (λx sd=>do let sd1<-zaC 3 x sd;zbv sd1) ds [x0,some (.int m),some (.int l),x3]=pure (.nx sd'))/\
  (zcb m l ds=false->za2 (λx sd=>do let sd1<-zaC 3 x sd;zbv sd1) ds [x0,some (.int m),some (.int l),x3]=pure (.rt (.bl false)))
 | [],l,x3,_=>⟨λ_=>⟨_,rfl⟩,λh=>by simp [zcb] at h⟩
 | d::r,l,x3,hk=>by
  have kd:=hk d qau
  have step: ∀ {i:Int},d= .int i->(do let sd1<-zaC 3 d [x0,some (.int m),some (.int l),x3];zbv sd1)=if (decide (l<=i) && decide (i<m))=true then pure (.nx [x0,some (.int m),some (.int (i+1)),some (.int i)]) else pure (.rt (.bl false)):=by
   intro i e
   subst e
   simp only [zbv,zdl,List.set,pure_bind,bind_assoc,za5,zgp,zqD,ziK,zji,zbx,zaO,za3,zaR,zaE,zgM,ze6 (show kn (.int i)=true from rfl),zdk,isI,zev,zmm,zvu,zc3,zeY,zeU]
   by_cases h1:l<=i
   ·by_cases h2:i<m
    ·have h1': ¬i<l:=by omega
     have h2': ¬m<=i:=by omega
     simp [h1,h2,h1',h2']
    ·have h1': ¬i<l:=by omega
     have h2':m<=i:=by omega
     simp [h1,h2,h1',h2']
   ·have h1':i<l:=by omega
    simp [h1,h1']
  by_cases hi:isI d=true
  ·obtain ⟨i,e⟩: ∃ i,d= .int i:=by cases d<;>simp [isI] at hi;exact ⟨_,rfl⟩
   have s1:=step e
   subst e
   have ih:=zht (m:=m) (x0:=x0) (ds:=r) (l:=i+1) (x3:=some (.int i)) λy hy=>hk y (qan _ hy)
   rw [zbB,s1]
   by_cases c:(decide (l<=i) && decide (i<m))=true
   ·have er:zcb m l (.int i::r)=zcb m (i+1) r:=by rw [zcb,c];simp
    rw [er]
    simp only [c,if_true,pure_bind]
    exact ih
   ·have er:zcb m l (.int i::r)=false:=by rw [zcb,Bool.eq_false_iff.mpr c];simp
    rw [er]
    simp only [Bool.eq_false_iff.mpr c,if_false,pure_bind,qax]
    simp
  ·have hi':isI d=false:=Bool.eq_false_iff.mpr hi
   have er:zcb m l (d::r)=false:=by cases d<;>simp [isI] at hi'<;>rfl
   rw [er,zbB]
   refine ⟨λh=>(by cases h),λ_=> ?_⟩
   simp only [zbv,zdl,List.set,pure_bind,bind_assoc,za5,zgp,zqD,ziK,zji,zbx,zaO,za3,zaR,zaE,zgM,ze6 kd,zdk,hi',zc3,zeY,zeU]
   simp
theorem zkN {d:D} {m:Int} (k:kn d=true) (hk: ∀ ds,d= .tup ds-> ∀ x∈ds,kn x=true):F_2 [d,.int m]=pure (.bl (match d with | .tup ds=>zcb m 0 ds | _=>false)):=by
 rw [d_2]
 simp only [G_2,za5,zgp,ziK,zji,zm4,zaE,pure_bind,bind_assoc,zl9 k,zdk]
 cases d with
 | tup ds=>
  simp only [isT,Bool.not_true,qax,if_false,zeU,pure_bind,zgn,za5,zcX,zeY,List.set,zg7,zpm,zaE,zsn,bind_assoc]
  have:=zht (m:=m) (x0:=some (.tup ds)) (ds:=ds) (l:=0) (x3:=none) (hk ds rfl)
  cases c:zcb m 0 ds with
  | true=>
   obtain ⟨sd',e⟩:=this.1 c
   rw [e]
   simp
  | false=>
   rw [this.2 c]
   simp
 | _=>simp [isT]
theorem zto (s:Stk m os) {d:D} (g:gk d):F_12 [za7 m os,d]=pure (.bl (zt8 os.length d)):=by
 rw [d_12]
 simp only [G_12,za7]
 ac_nf0
 rw [zkN g.1 λds e=>(g.2 ds e).2]
 ac_nf0
 cases d<;>rfl
theorem zpA (s:Stk m os) {d:D} (g:gk d) (hp:zt8 os.length d=true):F_16 [za7 m os,d]=pure .non:=by
 rw [d_16]
 simp only [G_16]
 ac_nf0
 rw [zto s g,hp]
 ac_nf0
def Lt (os:List (List Int×Int)) (ls:List Int):Prop:=ls.Pairwise (· < ·)/\ ∀ x∈ls,0<=x/\x<os.length
theorem Lt.len {ls:List Int} (h:Lt os ls) (s:Stk m os):ls.length<=12:=by
 have:=zjj (m:=os.length) ⋯ h.1 h.2
 have:=s.len
 omega
theorem zku (s:Stk m os) {ls:List Int} (hu:ls.Pairwise (· < ·)) (b: ∀ x∈ls,0<=x/\x<os.length):F_17 [za7 m os,tI ls]=pure (.lst ((zb9 os ls).map zbZ)):=by
 have hl:=zjj (m:=os.length) ⋯ hu b
 have hls:ls.length<=12:=by have:=s.len;omega
 have hp:zt8 os.length (tI ls)=true:=zbQ.mpr ⟨hu,b⟩
 rw [d_17]
 simp only [G_17]
 ac_nf0
 have e:=zpA s (d:=tI ls) (zuI ⋯) hp
 unfold tI at e
 rw [e]
 ac_nf0
 rw [zhq (ds:=ls.map D.int) (k:=λd=>match d with | .int i=>zbZ (os.getD i.toNat ([],0)) | d=>d) rfl (by rw [qaH];omega) ?_]
 ·ac_nf0
  unfold zb9
  rw [qaT,qaT]
  rfl
 ·intro x hx
  obtain ⟨i,hi,rfl⟩:=qaU.mp hx
  have eb:zap [none,some 0] [some (za7 m os),some (D.tup (ls.map D.int))]=[none,some (za7 m os)]:=rfl
  rw [eb]
  simp only [zaZ,zeg,za7]
  ac_nf0
  rw [zmh (b i hi).1 (b i hi).2]
  ac_nf0
theorem zni (s:Stk m os) {ls:List Int} (L:Lt os ls):F_14 [za7 m os,tI ls]=pure (.int (pc os ls)):=by
 have ll:=L.len s
 have e2:=zku s L.1 L.2
 have h3:(zb9 os ls).length=ls.length:=by unfold zb9;simp
 have ec:zaH (iSq (zaB (zav 2 F_17) (zac (zae 0) (zac (zae 1) zar)))) (zaC 0) (λ_=>pure true) zdt [none] [some (za7 m os),some (tI ls)]=pure (.lst (((zb9 os ls).map (·.2)).map D.int)):=by
  rw [show ((zb9 os ls).map (·.2)).map D.int=(zb9 os ls).filterMap λo=>some (.int o.2) by simp]
  refine zaY (g':=zbZ) ?_ ⋯ λo _=> ?_
  ·simp only [tI] at e2
   ac_nf0
   rw [e2]
   ac_nf0
  ·have eb:zap [none] [some (za7 m os),some (tI ls)]=[none]:=rfl
   rw [eb]
   simp only [zaZ,zdt]
   ac_nf0
 rw [d_14]
 simp only [G_14,zc3,zbx,zaO,za3]
 rw [ec]
 simp only [pure_bind]
 rw [zqp]
 unfold pc zb9
 rw [qaT]
 rfl
theorem zo7 (s:Stk m os) (hf: ∀ i:Int,0<=i->i<m-> ∃ o∈os,i∈o.1) {fs:List Int} (hp:List.Perm fs ((List.range os.length).map λ(k:Nat)=>(k:Int))):((zdO ((zb9 os fs).flatMap (·.1))).length:Int)=m:=by
 have m0:=s.m0
 have hb: ∀ x∈fs,0<=x/\x<(os.length:Int):=λx hx=>zc2 x (hp.mem_iff.mp hx)
 have e:zdO ((zb9 os fs).flatMap (·.1))=(List.range m.toNat).map λ(k:Nat)=>(k:Int):=by
  refine zmX (zdB _) (zc7 _) λk=> ?_
  rw [zb8]
  constructor
  ·intro hk
   obtain ⟨o,ho,hk⟩:=mem_flatMap.mp hk
   have:=s.bd o (zhF hb o ho) k hk
   exact qaU.mpr ⟨k.toNat,mem_range.mpr ⋯,⋯⟩
  ·intro hk
   have hk:=zc2 k hk
   obtain ⟨o,ho,hko⟩:=hf k hk.1 ⋯
   obtain ⟨j,hj,rfl⟩:=List.getElem_of_mem ho
   refine mem_flatMap.mpr ⟨os[j],qaU.mpr ⟨(j:Int),hp.mem_iff.mpr (qaU.mpr ⟨j,mem_range.mpr hj,rfl⟩),?_⟩,hko⟩
   simp [List.getD,hj]
 rw [e]
 simp
 omega
structure Cv (m:Int) (os:List (List Int×Int)) (ls:List Int):Prop where
 up:ls.Pairwise (· < ·)
 bd: ∀ x∈ls,0<=x/\x<(os.length:Int)
 cv: ∀ t,0<=t->t<m-> ∃ i∈ls,t∈(os.getD i.toNat ([],0)).1
theorem zj6 (s:Stk m os) {fs:List Int} (hb: ∀ x∈fs,0<=x/\x<(os.length:Int)) (hm:m<=((zdO ((zb9 os fs).flatMap (·.1))).length:Int)) (t:Int) (t0:0<=t) (t1:t<m): ∃ i∈fs,t∈(os.getD i.toNat ([],0)).1:=by
 have hnd:(zdO ((zb9 os fs).flatMap (·.1))).Nodup:=(zdB _).imp λz=>by omega
 have hbd: ∀ x∈zdO ((zb9 os fs).flatMap (·.1)),0<=x/\x<m:=λx hx=>by
  rw [zb8] at hx
  obtain ⟨o,ho,hx⟩:=mem_flatMap.mp hx
  exact s.bd o (zhF hb o ho) x hx
 have ht:t∈zdO ((zb9 os fs).flatMap (·.1)):=by
  by_cases h:t∈zdO ((zb9 os fs).flatMap (·.1))
  ·exact h
  ·have:=zdz (m:=m) ⋯ (nodup_cons.mpr ⟨h,hnd⟩) (λx hx=>by
     rcases qaP.mp hx with rfl | hx
     · exact ⟨t0,t1⟩
     · exact hbd x hx)
   rw [qaE] at this
   omega
 rw [zb8] at ht
 obtain ⟨o,ho,ht⟩:=mem_flatMap.mp ht
 unfold zb9 at ho
 obtain ⟨i,hi,rfl⟩:=qaU.mp ho
 exact ⟨i,hi,ht⟩
theorem zf6 (s:Stk m os) (hf: ∀ i:Int,0<=i->i<m-> ∃ o∈os,i∈o.1) {b c:Nat} (hbc:c≠b): ∀ (n:Nat) (lf fs:List Int) {h:Hh} {P:Out->Hh->Prop},Bx b h->h[c]? = some (.lst (lf.map D.int))->lf.length<n->
  List.Perm (fs++lf) ((List.range os.length).map λ(k:Nat)=>(k:Int))->
  (∀ fs' x2' h',Bx b h'->fs'.Nodup->(∀ x∈fs',0<=x/\x<(os.length:Int))->m<=((zdO ((zb9 os fs').flatMap (·.1))).length:Int)->P (.nx [some (.cel b),some (za7 m os),x2',some (tI fs')]) h')->
  wp (zbJ zb3 zb7 n [some (.cel b),some (za7 m os),some (.cel c),some (tI fs)]) h P
 | 0,lf,fs,h,P,q,ec,hn,hp,k=>by omega
 | n+1,lf,fs,h,P,q,ec,hn,hp,k=>by
  have m0:=s.m0
  have m1:=s.m1
  have ol:=s.len
  have hbs: ∀ x∈fs++lf,0<=x/\x<(os.length:Int):=λx hx=>zc2 x (hp.mem_iff.mp hx)
  have hnd:(fs++lf).Nodup:=hp.nodup_iff.mpr ((zc7 _).imp λz=>by omega)
  have hb: ∀ x∈fs,0<=x/\x<(os.length:Int):=λx hx=>hbs x (mem_append_left _ hx)
  have hlen:fs.length+lf.length=os.length:=by
   have:=hp.length_eq
   simpa using this
  have e1:=ztc s hb
  have zl7:dIx (za7 m os) (.int 0)=pure (.int m):=rfl
  have ih:=λlf' fs' (h':Hh)=>zf6 s hf hbc n lf' fs' (h:=h') (P:=P)
  rw [zdh]
  generalize zbJ zb3 zb7 n=go at ih ⊢
  simp only [zb3]
  simp only [tI] at e1 ih k ⊢
  ac_nf0
  rw [e1]
  ac_nf0
  rw [zl7]
  ac_nf0
  simp only [zmm]
  ac_nf0
  by_cases hc:((zdO ((zb9 os fs).flatMap (·.1))).length:Int)<m
  ·have hlf:lf≠[]:=λz=>by
    subst z
    have:=zo7 s hf (by simpa using hp)
    omega
   have hpos:0<lf.length:=List.length_pos_iff.mpr hlf
   simp only [hc,decide_true,if_true]
   simp only [zb7]
   ac_nf0
   simp only [zou]
   ac_nf0
   simp only [zal,zbd ec,zan]
   show wp (zdG [.cel c]) h _
   have el:zdG [.cel c]=(zaq c>>=λds=>pure (.int ds.length):M D):=rfl
   rw [el]
   simp only [zal,zbd ec,zan,qaH]
   refine zbM q ⋯ ⋯ λt h2 t0 t1 x2=> ?_
   have ht:t.toNat<lf.length:=by omega
   have ec2:=x2.2 c _ hbc ec
   have hlt:=(qac.mp ec2).1
   refine zok ec2 t0 ⋯ (d:= .int lf[t.toNat]) (by simp [ht]) ?_
   have f:=zaL (show fs.length+1<=1000 by omega)
   ac_nf0
   simp only [qaH,f]
   ac_nf0
   have epp:=zjy (xs:=lf) (i:=t.toNat) (x:=lf[t.toNat]) (by simp [ht])
   have:=ih (lf.eraseIdx t.toNat) (fs++[lf[t.toNat]]) (h2.set c (.lst ((lf.map D.int).eraseIdx t.toNat))) ?_ ?_ ?_ ?_ k
   ·simpa using this
   ·obtain ⟨y,ey⟩:=x2.1
    exact ⟨y,by rw [qao hbc];exact ey⟩
   ·rw [qai hlt,List.eraseIdx_eq_take_drop_succ,List.eraseIdx_eq_take_drop_succ,map_append,List.map_take,List.map_drop]
   ·rw [List.length_eraseIdx_of_lt ht];omega
   ·refine List.Perm.trans ?_ hp
    rw [List.append_assoc]
    exact List.Perm.append_left _ epp
  ·simp only [hc,decide_false,qax,if_false]
   ac_nf0
   exact k fs _ h q (nodup_append.mp hnd).1 hb ⋯
theorem zjs (s:Stk m os) (hf: ∀ i:Int,0<=i->i<m-> ∃ o∈os,i∈o.1) {h:Hh} {b:Nat} {P:D->Hh->Prop} (q:Bx b h) (k: ∀ ls h',Cv m os ls->Bx b h'->P (tI ls) h'):wp (F_43 [.cel b,za7 m os]) h P:=by
 have ol:=s.len
 have est:dIx (za7 m os) (.int 1)=pure (.tup (os.map zbZ)):=rfl
 rw [d_43]
 simp only [G_43]
 ac_nf0
 rw [est]
 ac_nf0
 have er:zfn (.int (os.length:Int))=zbq (zdp 0 os.length):=by
  show (if 0<=(os.length:Int)/\(os.length:Int)<1000 then _ else _)=_
  rw [qa4 ⟨⋯,⋯⟩,qaB]
 rw [er]
 ac_nf0
 have qb:=q.push (c:= .lst (zdp 0 os.length))
 have hbc:h.length≠b:=λz=>by
  obtain ⟨y,ey⟩:=q
  have:=(qac.mp ey).1
  omega
 simp only [zdT]
 have cl:=λ(P:Out->Hh->Prop)=>zf6 s hf hbc 1000 ((List.range os.length).map λ(k:Nat)=>(k:Int)) [] (P:=P) qb.1 (by rw [<- zdJ];simp) (by simp;omega) (by simp)
 simp only [tI,map_nil] at cl
 refine cl _ λfs x2' h' q' hn hb hm=> ?_
 have fl:=zdz (m:=os.length) ⋯ hn hb
 ac_nf0
 rw [zga ⋯]
 ac_nf0
 refine k (zb2 fs) h' ⟨zeD hn,λx hx=>hb x ((zaF fs).mem_iff.mp hx),λt t0 t1=> ?_⟩ q'
 obtain ⟨i,hi,ht⟩:=zj6 s hb hm t t0 t1
 exact ⟨i,(zaF fs).mem_iff.mpr hi,ht⟩
theorem Cv.lt {ls:List Int} (c:Cv m os ls):Lt os ls:=⟨c.up,c.bd⟩
theorem zgq: ∀ (xs:List Rat) (a:Rat),xs.foldl (· + ·) a=a+xs.foldl (· + ·) 0
 | [],a=>by rw [foldl_nil,foldl_nil,add_zero]
 | x::r,a=>by
  rw [foldl_cons,foldl_cons,zgq r (a+x),zgq r (0+x),Rat.zero_add,Rat.add_assoc]
theorem zka:qs []=0:=rfl
theorem zcU (x:Rat) (r:List Rat):qs (x::r)=x+qs r:=by
 unfold qs
 rw [foldl_cons,Rat.zero_add,zgq]
def wt (t:Int):List (List Int×Int)->(Nat->Nat)->Nat
 | [],_=>0
 | o::os,f=>(if o.1.any (· == t) then f 0 else 0)+wt t os λi=>f (i+1)
theorem zoj (t:Int): ∀ (os:List (List Int×Int)) (f g:Nat->Nat),wt t os (λi=>f i+g i)=wt t os f+wt t os g
 | [],_,_=>rfl
 | o::os,f,g=>by
  have:=zoj t os (λi=>f (i+1)) (λi=>g (i+1))
  simp only [wt]
  rw [this]
  split<;>omega
theorem zoG (t:Int): ∀ (os:List (List Int×Int)) (f:Nat->Nat) (i:Nat),i<os.length->t∈(os.getD i ([],0)).1->f i<=wt t os f
 | [],_,_,h,_=>by simp at h
 | o::os,f,0,h,ht=>by
  simp only [wt]
  have ht:t∈o.1:=ht
  rw [qa4 (zcF.mpr ht)]
  omega
 | o::os,f,i+1,h,ht=>by
  have:=zoG t os (λi=>f (i+1)) i (by simpa using h) ht
  simp only [wt]
  omega
theorem zro (a b:Nat) {n:Nat} (hn:n≠0):mkRat a n+mkRat b n=mkRat ((a+b:Nat):Int) n:=by
 have e:=Rat.mkRat_add_mkRat (a:Int) (b:Int) hn hn
 rw [e, <-Int.add_mul,Rat.mkRat_mul_right hn]
 congr 1
theorem zse (t:Int) {n:Nat} (hn:n≠0): ∀ (os:List (List Int×Int)) (f:Nat->Nat),qs (sl t os ((List.range os.length).map λi=>mkRat (f i) n))=mkRat (wt t os f) n
 | [],f=>by
  show qs []=mkRat 0 n
  rw [zka,Rat.zero_mkRat]
 | o::os,f=>by
  have ih:=zse t hn os λi=>f (i+1)
  have e:(List.range (o::os).length).map (λi=>mkRat (f i) n)=mkRat (f 0) n::(List.range os.length).map λi=>mkRat (f (i+1)) n:=by
   rw [qaE,List.range_succ_eq_map,qaM,qaT]
   rfl
  rw [e]
  unfold sl at ih ⊢
  rw [List.zip_cons_cons,filter_cons]
  simp only [wt]
  cases h:o.1.any (· == t) with
  | true=>
   rw [qa4 rfl,qa4 rfl,qaM,zcU,ih,zro _ _ hn]
  | false=>
   simp only [qax,if_false,Nat.zero_add]
   exact ih
def cnt (cs:List (List Int)) (i:Nat):Nat:=(cs.filter λc=>c.any (· == (i:Int))).length
theorem znq (c:List Int) (cs:List (List Int)) (i:Nat):cnt (c::cs) i=(if c.any (· == (i:Int)) then 1 else 0)+cnt cs i:=by
 unfold cnt
 rw [filter_cons]
 cases h:c.any (· == (i:Int)) with
 | true=>simp only [if_true,qaE];omega
 | false=>simp only [qax,if_false];omega
theorem zn4 {t:Int} (t0:0<=t) (t1:t<m): ∀ {cs:List (List Int)},(∀ c∈cs,Cv m os c)->cs.length<=wt t os (cnt cs)
 | [],_=>zero_le _
 | c::cs,h=>by
  have ih:=zn4 t0 t1 (cs:=cs) λd hd=>h d (qan _ hd)
  have g:=h c qau
  obtain ⟨i,hi,ht⟩:=g.cv t t0 t1
  have hb:=g.bd i hi
  have e:cnt (c::cs)=λ(i:Nat)=>(if c.any (· == (i:Int)) then 1 else 0)+cnt cs i:=funext λi=>znq c cs i
  rw [e,zoj,qaE]
  have:=zoG t os (λ(i:Nat)=>if c.any (· == (i:Int)) then 1 else 0) i.toNat ⋯ ht
  have e2:c.any (· == ((i.toNat:Nat):Int))=true:=zcF.mpr (by rw [show ((i.toNat:Nat):Int)=i by omega];exact hi)
  simp only [e2,if_true] at this
  omega
def shr (os:List (List Int×Int)) (cs:List (List Int)):List Rat:=(List.range os.length).map λi=>mkRat (cnt cs i) cs.length
theorem zgK (os:List (List Int×Int)) (cs:List (List Int)):(shr os cs).length=os.length:=by unfold shr;simp
theorem zp1 {a n:Nat} (hn:0<n) (h:n<=a):((mkRat a n).den:Int)<=(mkRat a n).num:=by
 rw [num_mkRat,Rat.den_mkRat,qa5 ⋯,qa5 ⋯,natAbs_natCast, <-Int.natCast_ediv]
 exact Int.ofNat_le.mpr (Nat.div_le_div_right h)
theorem ztf {cs:List (List Int)} (h: ∀ c∈cs,Cv m os c) (hc:0<cs.length) {t:Int} (t0:0<=t) (t1:t<m):sB os (shr os cs) t=true:=by
 unfold sB shr
 rw [zse t ⋯]
 have:=zp1 hc (zn4 t0 t1 h)
 rw [decide_eq_false ⋯]
 rfl
theorem zqY (cs:List (List Int)) (i:Nat):cnt cs i<=cs.length:=List.length_filter_le _ _
theorem zrt {cs:List (List Int)} (h0:0<cs.length) (h3:cs.length<=3): ∀ r∈shr os cs,0<=r.num/\r.num.natAbs<=3/\r.den<=3:=λr hr=>by
 unfold shr at hr
 obtain ⟨i,_,rfl⟩:=qaU.mp hr
 have h1:=zqY cs i
 have h2:=zgf ((cnt cs i:Nat):Int) h0
 have h4:=zef ((cnt cs i:Nat):Int) h0
 rw [natAbs_natCast] at h2
 refine ⟨?_,⋯,⋯⟩
 rw [num_mkRat,qa5 ⋯,natAbs_natCast, <-Int.natCast_ediv]
 exact Int.natCast_nonneg _
theorem ziL (s:Stk m os) (hf: ∀ i:Int,0<=i->i<m-> ∃ o∈os,i∈o.1) {b:Nat}: ∀ (ds:List D) {h:Hh} {P:List D->Hh->Prop},Bx b h->(∀ (cs:List (List Int)) h',cs.length=ds.length->(∀ c∈cs,Cv m os c)->Bx b h'->P (cs.map tI) h')->
  wp (zbk (zaZ (zaC 0) (λ_=>pure true) zcp [none,some (.cel b),some (za7 m os)]) ds) h P
 | [],h,P,q,k=>by
  rw [zbk,zan]
  exact k [] h rfl (λy hy=>by cases hy) q
 | d::r,h,P,q,k=>by
  rw [zbk,zal]
  simp only [zaZ,zcp]
  ac_nf0
  refine zjs s hf q λc h1 g q1=> ?_
  refine ziL s hf r q1 λcs h2 hl hy q2=> ?_
  exact k (c::cs) h2 (by simp [hl]) (λw hw=>by
    rcases qaP.mp hw with rfl | hw
    · exact g
    · exact hy w hw) q2
theorem znB {cs:List (List Int)} {s0 s1 s3:Option D} {i:Nat} (hl:cs.length<=3):zaH (iSq (zae 2)) (zaC 0) zcn zch [none,some 4] [s0,s1,some (.lst (cs.map tI)),s3,some (.int (i:Int))]=pure (.lst ((cs.filter λc=>c.any (· == (i:Int))).map tI)):=by
 rw [<- zcK (p:=λc:List Int=>c.any (· == (i:Int))) (g:=tI)]
 refine zaY (g':=tI) (by ac_nf0) ⋯ λc hc=> ?_
 rw [show zap [none,some 4] [s0,s1,some (.lst (cs.map tI)),s3,some (.int (i:Int))]=[none,some (.int (i:Int))] from rfl]
 simp only [zaZ,zcn,zch]
 cases h:c.any (· == (i:Int)) with
 | true=>
  ac_nf0
  rw [zbH,h]
  ac_nf0
 | false=>
  ac_nf0
  rw [zbH,h]
  ac_nf0
theorem zlg {cs:List (List Int)} (h0:0<cs.length) (h3:cs.length<=3) {b c:Nat} (hbc:c≠b) {s0 s1:Option D}: ∀ (is:List Nat) (rs:List Rat) {h:Hh} {x4:Option D} {P:Out->Hh->Prop},Bx b h->h[c]? = some (.lst (rs.map qD))->rs.length+is.length<=100->
  (∀ y4 h',Bx b h'->h'[c]? = some (.lst ((rs++is.map λ(i:Nat)=>mkRat (cnt cs i) cs.length).map qD))->P (.nx [s0,s1,some (.lst (cs.map tI)),some (.cel c),y4]) h')->
  wp (za2 (λx sd=>zbI (List.set sd 4 (some x))) (is.map λ(i:Nat)=> .int (i:Int)) [s0,s1,some (.lst (cs.map tI)),some (.cel c),x4]) h P
 | [],rs,h,x4,P,q,e,hl,k=>by
  rw [map_nil,zdi,zan]
  exact k x4 h q (by simpa using e)
 | i::is,rs,h,x4,P,q,e,hl,k=>by
  have hlt:=(qac.mp e).1
  have hl':rs.length+(is.length+1)<=100:=hl
  have ih:=zlg h0 h3 hbc (s0:=s0) (s1:=s1) is (rs++[mkRat (cnt cs i) cs.length]) (h:=h.set c (.lst ((rs++[mkRat (cnt cs i) cs.length]).map qD))) (x4:=some (.int (i:Int))) (P:=P)
   (by obtain ⟨y,ey⟩:=q;exact ⟨y,by rw [qao hbc];exact ey⟩) (by rw [qai hlt]) (by rw [qav,length_singleton];omega) (λy4 h' q' e'=>k y4 h' q' (by rw [e',List.append_assoc];rfl))
  have ec:=znB (s0:=s0) (s1:=s1) (s3:=some (.cel c)) (i:=i) h3
  have hbb:cs.length<bb:=qaw (show cs.length<2^2 by omega) (zfV (by decide))
  have ef:=zfM (a:=((cnt cs i:Nat):Int)) h0 hbb
  have el:((cs.filter λc=>c.any (· == (i:Int))).map tI).length=cnt cs i:=by rw [qaH];rfl
  have f1:=zaL (show rs.length+1<=1000 by omega)
  rw [map_append] at ih
  rw [qaM,zbB]
  generalize za2 (λx sd=>zbI (List.set sd 4 (some x))) (is.map λ(i:Nat)=> .int (i:Int))=zbz at ih ⊢
  generalize (cs.filter λc=>c.any (· == (i:Int))).map tI=ys at ec el
  have ecl:(cs.map tI).length=cs.length:=qaH _
  generalize cs.map tI=cd at ec ecl ih k ⊢
  generalize mkRat ((cnt cs i:Nat):Int) cs.length=r at ef ih
  rw [List.map_singleton] at ih
  generalize qD r=q1 at ef ih
  simp only [zbI]
  ac_nf0
  simp only [zd0,zcZ,zde,zaR,zaE,pure_bind,bind_assoc,zal,zbd e,zan]
  ac_nf0
  rw [ec]
  ac_nf0
  rw [el,ecl,ef]
  ac_nf0
  simp only [zbd e,zal,zan,qaH,f1,zen,pure_bind,zcZ,zde]
  exact ih
theorem zj4 (s:Stk m os) (hf: ∀ i:Int,0<=i->i<m-> ∃ o∈os,i∈o.1) {h:Hh} {b:Nat} {P:D->Hh->Prop} (q:Bx b h) (k: ∀ cs h',0<cs.length->cs.length<=3->(∀ c∈cs,Cv m os c)->Bx b h'->P (.tup ((shr os cs).map qD)) h'):wp (F_47 [.cel b,za7 m os]) h P:=by
 have ol:=s.len
 rw [d_47]
 simp only [G_47]
 unfold zaH
 ac_nf0
 refine zbM q (by decide) (by decide) λt h1 t0 t1 x1=> ?_
 ac_nf0
 rw [zcw ⋯ ⋯]
 ac_nf0
 rw [zd3,zaL (show (1+t).toNat<=1000 by omega)]
 ac_nf0
 refine ziL s hf _ x1.1 λcs h2 hl hc q2=> ?_
 rw [zd3] at hl
 have h0:0<cs.length:=by omega
 have h3:cs.length<=3:=by omega
 have qb:=q2.push (c:= .lst [])
 have hbc:h2.length≠b:=λz=>by
  obtain ⟨y,ey⟩:=q2
  have:=(qac.mp ey).1
  omega
 have er:zdp 0 os.length=(List.range os.length).map λ(i:Nat)=> .int (i:Int):=by
  unfold zdp
  exact map_congr_left λk _=>by simp
 have cl:=λ(x4:Option D) (P:Out->Hh->Prop)=>zlg h0 h3 hbc (s0:=some (.cel b)) (s1:=some (za7 m os)) (List.range os.length) [] (h:=h2++[.lst []]) (x4:=x4) (P:=P) qb.1 (by simp) (by simp;omega)
 generalize cs.map tI=cd at cl ⊢
 ac_nf0
 rw [ziN]
 ac_nf0
 rw [zcw ⋯ ⋯,qaB,er]
 ac_nf0
 refine cl _ _ λy4 h3' q3 e3=> ?_
 ac_nf0
 rw [nil_append] at e3
 have et:zbX [.cel h2.length]=(zaq h2.length>>=λds=>pure (.tup ds):M D):=rfl
 rw [et]
 simp only [zal,zbd e3,zan]
 ac_nf0
 exact k cs h3' h0 h3 hc q3
theorem zim {rs:List Rat} (t:Int) (ts:List Int):pk rs (t::ts)=rs.getD t.toNat 0::pk rs ts:=rfl
theorem znX {rs:List Rat} {t:Nat} (ht:t<rs.length) (h0:rs.getD t 0=0) (v:Rat): ∀ ts:List Int,ts.Pairwise (· < ·)->(∀ x∈ts,0<=x)->qs (pk (rs.set t v) ts)=qs (pk rs ts)+(if (t:Int)∈ts then v else 0)
 | [],_,_=>by rw [qa5 (by simp),add_zero];rfl
 | x::r,hu,hb=>by
  have hx:=hb x qau
  obtain ⟨h1,h2⟩:=qay.mp hu
  have ih:=znX ht h0 v r h2 λy hy=>hb y (qan _ hy)
  rw [zim,zim,zcU,zcU,ih]
  by_cases e:x=(t:Int)
  ·subst e
   have hn: ¬(t:Int)∈r:=λz=>by
    have:=h1 _ z
    omega
   rw [qa5 hn,qa4 qau,qaB,h0]
   have es:(rs.set t v).getD t 0=v:=by simp [List.getD,ht]
   rw [es,add_zero,Rat.zero_add,Rat.add_comm]
  ·have hne:x.toNat≠t:=by omega
   have es:(rs.set t v).getD x.toNat 0=rs.getD x.toNat 0:=by
    simp only [List.getD]
    rw [qao (Ne.symm hne)]
   have hm:((t:Int)∈x::r)↔(t:Int)∈r:=by
    rw [qaP]
    constructor
    ·rintro (h | h)
     ·exact absurd h.symm e
     ·exact h
    ·exact .inr
   rw [es]
   by_cases hr:(t:Int)∈r
   ·rw [qa4 hr,qa4 (hm.mpr hr),Rat.add_assoc]
   ·rw [qa5 hr,qa5 (λz=>hr (hm.mp z)),add_zero,add_zero]
theorem zn9: ∀ (rs:List Rat) (t:Nat) (v:Rat),dp (rs.set t v)<=v.den*dp rs
 | [],t,v=>by
  have:=v.den_pos
  simp [dp]
  omega
 | r::rs,0,v=>by
  show v.den*dp rs<=v.den*(r.den*dp rs)
  refine mul_le_mul_left _ ?_
  have:1*dp rs<=r.den*dp rs:=mul_le_mul_right _ r.den_pos
  omega
 | r::rs,t+1,v=>by
  have ih:=zn9 rs t v
  show r.den*dp (rs.set t v)<=v.den*(r.den*dp rs)
  have h1:r.den*dp (rs.set t v)<=r.den*(v.den*dp rs):=mul_le_mul_left _ ih
  have e:r.den*(v.den*dp rs)=v.den*(r.den*dp rs):=by rw [<- Nat.mul_assoc, <-Nat.mul_assoc,Nat.mul_comm r.den]
  omega
theorem zop {A:Int} {B:Nat} (h0:0<B) (r:Rat):mkRat A B+r=mkRat (A*(r.den:Int)+r.num*(B:Int)) (B*r.den):=by
 have:=Rat.mkRat_add_mkRat A r.num (d₁:=B) (d₂:=r.den) ⋯ r.den_nz
 rw [mkRat_self] at this
 exact this
def zd1 (p:Int) (q:Rat):Rat:=mkRat (p*(q.den:Int) - q.num) q.den
theorem zlf (p:Int) (q:Rat):zd1 p q+q=(p:Rat):=by
 unfold zd1
 rw [zop q.den_pos q]
 have e:(p:Rat)=mkRat p 1:=by
  rw [Rat.mkRat_one]
 rw [e,Rat.mkRat_eq_iff (Nat.mul_ne_zero q.den_nz q.den_nz) (by decide)]
 rw [natCast_mul]
 have:(p*(q.den:Int) - q.num)*(q.den:Int)+q.num*(q.den:Int)=p*((q.den:Int)*(q.den:Int)):=by
  rw [Int.sub_mul,Int.sub_add_cancel,mul_assoc]
 rw [this]
 simp
def btQ (acc:Option Rat) (q:Rat):Option Rat:=match acc with
 | none=>some q
 | some r=>if q<r then some q else some r
def rmD:Option Rat->D
 | none=> .non
 | some q=>qD q
def rmF (rs:List Rat) (t:Int) (acc:Option Rat) (o:List Int×Int):Option Rat:=if o.1.any (· == t) then btQ acc (zd1 o.2 (qs (pk rs o.1))) else acc
def aOk (acc:Option Rat):Prop:= ∀ r,acc=some r->r.num.natAbs<2^6000/\r.den<=2^2000
theorem zrC {rs:List Rat} (z:Rz rs):(qs rs).num.natAbs<=2^3804/\(qs rs).den<=2^2000:=by
 have key: ∀ (ps:List (Int×Nat)) (A:Int) (B k:Nat),Sz A B k ps-> ∃ (A':Int) (B':Nat) (k':Nat),Sz A' B' k' []/\mkRat A' B'=(ps.map rq).foldl (· + ·) (mkRat A B):=by
  intro ps
  induction ps with
  | nil=>exact λA B k z=>⟨A,B,k,z,rfl⟩
  | cons r ps ih=>
   intro A B k z
   obtain ⟨A',B',k',z',e⟩:=ih _ _ _ z.next
   exact ⟨A',B',k',z',by rw [e,qaM,foldl_cons,zdM z.b0 (z.p0 r qau)]⟩
 obtain ⟨A',B',k',z',e⟩:=key (rs.map nd) 0 1 0 z.pz.sz
 rw [ztC,zmS] at e
 unfold qs
 rw [<- e]
 exact ⟨qaS (zgf A' z'.b0) z'.A_le,qaS (zef A' z'.b0) z'.B_le⟩
theorem zqo {rs:List Rat} (z:Rz rs) {p:Int} (hp:p.natAbs<=2^64):(zd1 p (qs rs)).num.natAbs<2^6000/\(zd1 p (qs rs)).den<=2^2000:=by
 obtain ⟨n1,n2⟩:=zrC z
 have hd:=(qs rs).den_pos
 refine ⟨?_,qaS (zef _ hd) n2⟩
 refine lt_of_le_of_lt (zgf _ hd) ?_
 have h1:=Int.natAbs_sub_le (p*((qs rs).den:Int)) (qs rs).num
 rw [natAbs_mul,natAbs_natCast] at h1
 have h2:p.natAbs*(qs rs).den<=2^(64+2000):=zfI hp n2
 have h3:(2:Nat)^(64+2000)<=2^3804:=pow_le_pow_right (by decide) (by decide)
 have h4:(2:Nat)^3804+2^3804=2^3805:=by rw [<- Nat.two_mul, <-Nat.pow_succ']
 have h5:(2:Nat)^3805<2^6000:=pow_lt_pow_right (by decide) (by decide)
 omega
theorem zsX {acc:Option Rat} {q:Rat} (h:aOk acc) (hq:q.num.natAbs<2^6000/\q.den<=2^2000):aOk (btQ acc q):=λr e=>by
 unfold btQ at e
 split at e
 ·cases e
  exact hq
 ·split at e
  ·cases e
   exact hq
  ·cases e
   exact h _ rfl
theorem pkc {c:Nat} {h:Hh} {rs:List Rat} {ts:List Int} (e:h[c]? = some (.lst (rs.map qD))) (hl:ts.length<=1000) (hb: ∀ t∈ts,0<=t/\t<(rs.length:Int)) {sd:Sd} {fi:FA} (hi:fi sd=pure (ts.map D.int)) {src:List (Option Nat)} (eb:zap src sd=[none,some (.cel c)]) {P:D->Hh->Prop} (k:P (.lst ((pk rs ts).map qD)) h):wp (zaH fi (zaC 0) (λ_=>pure true) zce src sd) h P:=by
 unfold zaH
 rw [hi,pure_bind,qaH,zaL hl,pure_bind,zal,eb]
 refine zpi (g':=D.int) (k:=λt=>some (qD (rs.getD t.toNat 0))) (λt ht=> ?_) ?_
 ·simp only [zaZ,zce]
  ac_nf0
  simp only [zhU,bind_assoc,zal,zbd e]
  rw [zuC (hb t ht).1 (hb t ht).2]
  ac_nf0
  exact ⟨trivial,trivial⟩
 ·rw [zan]
  have:ts.filterMap (λt=>some (qD (rs.getD t.toNat 0)))=(pk rs ts).map qD:=by
   unfold pk
   rw [qaT]
   simp [Function.comp_def]
  rw [this]
  exact k
theorem zvv (a b:Rat):decide (a.num*(b.den:Int)<b.num*(a.den:Int))=decide (a<b):=by
 rw [decide_eq_decide]
 exact (Rat.lt_iff a b).symm
structure Oz (n:Nat) (o:List Int×Int):Prop where
 up:o.1.Pairwise (· < ·)
 bd: ∀ t∈o.1,0<=t/\t<(n:Int)
 ln:o.1.length<=12
 pp:o.2.natAbs<2^6000
theorem zfk {rs:List Rat} (z:Rz rs) {c:Nat} {h:Hh} (e:h[c]? = some (.lst (rs.map qD))) {t:Int} {s0 s1 s3 s11:Option D}: ∀ (os:List (List Int×Int)) (acc:Option Rat) (x6 x7 x8 x9 x10:Option D) {P:Out->Hh->Prop},(∀ o∈os,Oz rs.length o/\o.2.natAbs<=2^64)->aOk acc->
  (∀ y6 y7 y8 y9 y10,P (.nx [s0,s1,some (.cel c),s3,some (.int t),some (rmD (os.foldl (rmF rs t) acc)),y6,y7,y8,y9,y10,s11]) h)->
  wp (za2 (λx sd=>do let sd1<-zbn 2 (zat (zaC 6) (zat (zaC 7) zbp)) x sd;za8 sd1) (os.map zbZ) [s0,s1,some (.cel c),s3,some (.int t),some (rmD acc),x6,x7,x8,x9,x10,s11]) h P
 | [],acc,x6,x7,x8,x9,x10,P,_,_,k=>by
  rw [map_nil,zdi,zan]
  exact k _ _ _ _ _
 | o::r,acc,x6,x7,x8,x9,x10,P,ho,ha,k=>by
  obtain ⟨g,hp64⟩:=ho o qau
  have hr:=λy hy=>ho y (qan _ hy)
  rw [foldl_cons] at k
  rw [qaM,zbB]
  cases hin:o.1.any (· == t) with
  | false=>
   rw [show rmF rs t acc o=acc by unfold rmF;rw [hin];rfl] at k
   have ih:=λ(x6 x7 x8 x9 x10:Option D)=>zfk z e (t:=t) (s0:=s0) (s1:=s1) (s3:=s3) (s11:=s11) r acc x6 x7 x8 x9 x10 (P:=P) hr ha k
   generalize za2 (λx sd=>do let sd1<-zbn 2 (zat (zaC 6) (zat (zaC 7) zbp)) x sd;za8 sd1) (r.map zbZ)=zbz at ih ⊢
   simp only [za8]
   ac_nf0
   rw [zbH,hin]
   ac_nf0
   exact ih _ _ _ _ _
  | true=>
   have zp:=z.pick g.up g.bd
   obtain ⟨n1,n2⟩:=zrC zp
   have hsz:=zqo zp hp64
   rw [show rmF rs t acc o=btQ acc (zd1 o.2 (qs (pk rs o.1))) by unfold rmF;rw [hin];rfl] at k
   have ih:=λ(x6 x7 x8 x9 x10:Option D)=>zfk z e (t:=t) (s0:=s0) (s1:=s1) (s3:=s3) (s11:=s11) r (btQ acc (zd1 o.2 (qs (pk rs o.1)))) x6 x7 x8 x9 x10 (P:=P) hr (zsX ha hsz) k
   have es:=zio zp (d:= .lst ((pk rs o.1).map qD)) rfl
   have hm:=ze1 g.pp (b:=((qs (pk rs o.1)).den:Int)) (by rw [natAbs_natCast];exact zax (n:=2000) (by decide) n2)
   have ef:=zfM (a:=o.2*((qs (pk rs o.1)).den:Int) - (qs (pk rs o.1)).num) (qs (pk rs o.1)).den_pos (lt_of_le_of_lt n2 (qaw (pow_lt_pow_right (by decide) (by decide:2000<2001)) (zfV (by decide))))
   rw [show mkRat (o.2*((qs (pk rs o.1)).den:Int) - (qs (pk rs o.1)).num) (qs (pk rs o.1)).den=zd1 o.2 (qs (pk rs o.1)) from rfl] at ef
   generalize za2 (λx sd=>do let sd1<-zbn 2 (zat (zaC 6) (zat (zaC 7) zbp)) x sd;za8 sd1) (r.map zbZ)=zbz at ih ⊢
   generalize zd1 o.2 (qs (pk rs o.1))=hq at ef ih hsz
   simp only [za8]
   ac_nf0
   rw [zbH,hin]
   ac_nf0
   refine pkc e (by have:=g.ln;omega) g.bd (by ac_nf0) rfl ?_
   generalize (pk rs o.1).map qD=ps at es
   generalize qs (pk rs o.1)=q at es hm ef
   unfold qD at es
   ac_nf0
   rw [es]
   ac_nf0
   rw [hm]
   ac_nf0
   rw [ef]
   ac_nf0
   cases acc with
   | none=>
    have n2':zpw .non .non=pure (.bl true):=rfl
    simp only [rmD,btQ] at ih ⊢
    rw [n2']
    ac_nf0
    exact ih _ _ _ _ _
   | some r0=>
    obtain ⟨a1,a2⟩:=ha r0 rfl
    have n3:zpw (qD r0) .non=pure (.bl false):=rfl
    simp only [rmD,btQ] at ih ⊢
    rw [n3]
    unfold qD at ih ⊢
    ac_nf0
    rw [ze1 hsz.1 (by rw [natAbs_natCast];exact zax (n:=2000) (by decide) a2),ze1 a1 (by rw [natAbs_natCast];exact zax (n:=2000) (by decide) hsz.2)]
    ac_nf0
    simp only [zmm]
    ac_nf0
    rw [zvv]
    by_cases hlt:hq<r0
    ·rw [qa4 hlt] at ih
     rw [decide_eq_true hlt]
     ac_nf0
     exact ih _ _ _ _ _
    ·rw [qa5 hlt] at ih
     rw [decide_eq_false hlt]
     ac_nf0
     exact ih _ _ _ _ _
theorem zi1: ∀ (rs:List Rat) (A:Int) (B:Nat),0<B-> ∃ A',rs.foldl (· + ·) (mkRat A B)=mkRat A' (B*dp rs)
 | [],A,B,h=>⟨A,by show mkRat A B=mkRat A (B*1);rw [Nat.mul_one]⟩
 | r::rs,A,B,h=>by
  obtain ⟨A',e⟩:=zi1 rs (A*(r.den:Int)+r.num*(B:Int)) (B*r.den) (mul_pos h r.den_pos)
  refine ⟨A',?_⟩
  rw [foldl_cons,zop h,e]
  show _=mkRat A' (B*(r.den*dp rs))
  rw [Nat.mul_assoc]
theorem zrZ (rs:List Rat):(qs rs).den<=dp rs:=by
 obtain ⟨A',e⟩:=zi1 rs 0 1 (by decide)
 rw [ztC,one_mul] at e
 unfold qs
 rw [e]
 exact zef A' (zi4 rs)
theorem zrL: ∀ {rs:List Rat},(∀ r∈rs,0<=r)->0<=qs rs
 | [],_=>by rw [zka];exact le_refl
 | r::rs,h=>by
  have h1:=h r qau
  have h2:=zrL λy hy=>h y (qan _ hy)
  rw [zcU]
  grind
structure Bz (m:Int) (os:List (List Int×Int)) (rs:List Rat) (j:Nat):Prop where
 ln:rs.length=m.toNat
 nn: ∀ r∈rs,0<=r
 bd: ∀ o∈os,qs (pk rs o.1)<=(o.2:Rat)
 le: ∀ r∈rs,r<=((2^64:Int):Rat)
 dd:dp rs<=3^(2^j - 1)
theorem zoH {r:Rat} (h0:0<=r) (h:r<=((2^64:Int):Rat)):r.num.natAbs<=2^64*r.den:=by
 have h1:=(Rat.le_iff r ((2^64:Int):Rat)).mp h
 rw [Rat.num_intCast,Rat.den_intCast] at h1
 have h2:=num_nonneg.mpr h0
 have h3:r.num<=2^64*(r.den:Int):=by simpa using h1
 omega
theorem zkY: ∀ {rs:List Rat} {r:Rat},r∈rs->r.den<=dp rs
 | x::rs,r,h=>by
  have hp:=zi4 rs
  have hx:=x.den_pos
  show r.den<=x.den*dp rs
  rcases qaP.mp h with rfl | h
  ·have:r.den*1<=r.den*dp rs:=mul_le_mul_left _ hp
   omega
  ·have h1:=zkY h
   have:1*dp rs<=x.den*dp rs:=mul_le_mul_right _ hx
   omega
theorem ze7 {j:Nat} (h:j<=10):3^(2^j - 1)<=2^1624:=by
 have h1:2^j<=2^10:=pow_le_pow_right (by decide) h
 have h2:3^(2^j - 1)<=3^1024:=pow_le_pow_right (by decide) ⋯
 have h3:(3:Nat)^1024<=2^1624:=by decide +kernel
 omega
theorem Bz.rz {rs:List Rat} {j:Nat} (b:Bz m os rs j) (hm:m<=10) (hj:j<=10):Rz rs where
 dp1:=qaS (qaS b.dd (ze7 hj)) (pow_le_pow_right (by decide) (by decide))
 ln:=by rw [b.ln];omega
 r1:=λr hr=>by
  have h1:=zoH (b.nn r hr) (b.le r hr)
  have h2:=qaS (zkY hr) (qaS b.dd (ze7 hj))
  have h3:2^64*r.den<=2^(64+1624):=zfI (qaV _) h2
  have h4:(2:Nat)^(64+1624)<=2^1700:=pow_le_pow_right (by decide) (by decide)
  omega
theorem zpG {rs:List Rat} {t:Int}: ∀ (os:List (List Int×Int)) (acc:Option Rat) {q:Rat},os.foldl (rmF rs t) acc=some q->(∀ r,acc=some r->q<=r)/\(∀ o∈os,t∈o.1->q<=zd1 o.2 (qs (pk rs o.1)))/\(acc=some q\/ ∃ o∈os,t∈o.1/\q=zd1 o.2 (qs (pk rs o.1)))
 | [],acc,q,e=>by
  rw [foldl_nil] at e
  refine ⟨λr h=> ?_,λo ho _=> ?_,.inl e⟩
  ·rw [h] at e
   rw [Option.some.inj e]
   exact le_refl
  ·cases ho
 | o::os,acc,q,e=>by
  rw [foldl_cons] at e
  obtain ⟨h1,h2,h3⟩:=zpG os _ e
  by_cases hin:o.1.any (· == t)=true
  ·have er:rmF rs t acc o=btQ acc (zd1 o.2 (qs (pk rs o.1))):=by unfold rmF;rw [qa4 hin]
   rw [er] at h1 h3
   have hmem:t∈o.1:=zcF.mp hin
   generalize hg:zd1 o.2 (qs (pk rs o.1))=g at h1 h3
   cases acc with
   | none=>
    have hb:btQ none g=some g:=rfl
    rw [hb] at h1 h3
    refine ⟨λr h=>(by cases h),λo' ho' ht=> ?_,?_⟩
    ·rcases qaP.mp ho' with rfl | ho'
     ·rw [hg];exact h1 _ rfl
     ·exact h2 o' ho' ht
    ·rcases h3 with h | ⟨o',ho',ht,hq⟩
     ·exact .inr ⟨o,qau,hmem,by rw [hg];exact (Option.some.inj h).symm⟩
     ·exact .inr ⟨o',qan _ ho',ht,hq⟩
   | some r0=>
    by_cases hlt:g<r0
    ·have hb:btQ (some r0) g=some g:=qa4 hlt
     rw [hb] at h1 h3
     refine ⟨λr h=>by rw [<- Option.some.inj h];exact Rat.le_trans (h1 _ rfl) (Rat.le_of_lt hlt),λo' ho' ht=> ?_,?_⟩
     ·rcases qaP.mp ho' with rfl | ho'
      ·rw [hg];exact h1 _ rfl
      ·exact h2 o' ho' ht
     ·rcases h3 with h | ⟨o',ho',ht,hq⟩
      ·exact .inr ⟨o,qau,hmem,by rw [hg];exact (Option.some.inj h).symm⟩
      ·exact .inr ⟨o',qan _ ho',ht,hq⟩
    ·have hb:btQ (some r0) g=some r0:=qa5 hlt
     rw [hb] at h1 h3
     refine ⟨λr h=>by rw [<- Option.some.inj h];exact h1 _ rfl,λo' ho' ht=> ?_,?_⟩
     ·rcases qaP.mp ho' with rfl | ho'
      ·rw [hg];exact Rat.le_trans (h1 _ rfl) (not_lt.mp hlt)
      ·exact h2 o' ho' ht
     ·rcases h3 with h | ⟨o',ho',ht,hq⟩
      ·exact .inl h
      ·exact .inr ⟨o',qan _ ho',ht,hq⟩
  ·have er:rmF rs t acc o=acc:=by unfold rmF;rw [qa5 hin]
   rw [er] at h1 h3
   refine ⟨h1,λo' ho' ht=> ?_,?_⟩
   ·rcases qaP.mp ho' with rfl | ho'
    ·exact absurd (zcF.mpr ht) hin
    ·exact h2 o' ho' ht
   ·rcases h3 with h | ⟨o',ho',ht,hq⟩
    ·exact .inl h
    ·exact .inr ⟨o',qan _ ho',ht,hq⟩
theorem zqH (q:Rat) (a:Int) (c:Nat):mkRat (q.num*a) (q.den*c)=q*mkRat a c:=by
 have:=Rat.mkRat_mul_mkRat q.num a q.den c
 rw [mkRat_self] at this
 exact this.symm
theorem zlQ {a:Int} {c:Nat} (h:(a,c)∈[((1:Int),1),(1,2),(2,3),(0,1)]):0<=mkRat a c/\mkRat a c<=1/\0<c/\c<=3/\0<=a/\a<=2:=by
 simp only [qaP,Prod.mk.injEq,qaF,or_false] at h
 rcases h with ⟨rfl,rfl⟩ | ⟨rfl,rfl⟩ | ⟨rfl,rfl⟩ | ⟨rfl,rfl⟩<;>decide +kernel
structure Oc (m:Int) (os:List (List Int×Int)):Prop where
 up: ∀ o∈os,o.1.Pairwise (· < ·)
 bd: ∀ o∈os, ∀ t∈o.1,0<=t/\t<m
 pp: ∀ o∈os,0<o.2/\o.2<2^64
theorem zlw {rs:List Rat} {j:Nat} (b:Bz m os rs j) (c:Oc m os) (m0:0<=m) {t:Int} {q:Rat} (e:os.foldl (rmF rs t) none=some q):0<=q/\q<=((2^64:Int):Rat)/\q.den<=dp rs:=by
 obtain ⟨_,_,h3⟩:=zpG os none e
 rcases h3 with h | ⟨o,ho,ht,hq⟩
 ·cases h
 ·have h1:=zlf o.2 (qs (pk rs o.1))
  have h2:=b.bd o ho
  have hs:=znT (rs:=rs) (c.up o ho) λt ht=>by
   have:=c.bd o ho t ht
   have:=b.ln
   omega
  have h3:=zrL (rs:=pk rs o.1) λr hr=>b.nn r (hs.subset hr)
  have h4:(o.2:Rat)<=((2^64:Int):Rat):=Rat.intCast_le_intCast.mpr (by have:=(c.pp o ho).2;omega)
  have h5:=zrZ (pk rs o.1)
  have h6:=zk5 hs
  have h7:(zd1 o.2 (qs (pk rs o.1))).den<=(qs (pk rs o.1)).den:=zef _ (qs (pk rs o.1)).den_pos
  subst hq
  refine ⟨by grind,by grind,⋯⟩
theorem Bz.next {rs:List Rat} {j:Nat} (b:Bz m os rs j):Bz m os rs (j+1) where
 ln:=b.ln
 nn:=b.nn
 bd:=b.bd
 le:=b.le
 dd:=qaS b.dd (pow_le_pow_right (by decide) (by have:2^(j+1)=2^j*2:=pow_succ 2 j;omega))
theorem Bz.step {rs:List Rat} {j:Nat} (b:Bz m os rs j) (cc:Oc m os) {t:Int} (ht:0<=t/\t<m) (h0:rs.getD t.toNat 0=0) {q:Rat} (e:os.foldl (rmF rs t) none=some q) {a:Int} {c:Nat} (hac:(a,c)∈[((1:Int),1),(1,2),(2,3),(0,1)]):Bz m os (rs.set t.toNat (mkRat (q.num*a) (q.den*c))) (j+1):=by
 obtain ⟨p1,p2,c0,c3,_,_⟩:=zlQ hac
 obtain ⟨q0,q1,q2⟩:=zlw b cc ⋯ e
 obtain ⟨_,r2,_⟩:=zpG os none e
 have hlt:t.toNat<rs.length:=by have:=b.ln;omega
 have v0:0<=q*mkRat a c:=Rat.mul_nonneg q0 p1
 have v1:q*mkRat a c<=q:=by
  have:=Rat.mul_le_mul_of_nonneg_left p2 q0
  rw [Rat.mul_one] at this
  exact this
 have vd:(mkRat (q.num*a) (q.den*c)).den<=q.den*c:=zef _ (mul_pos q.den_pos c0)
 rw [zqH] at vd ⊢
 generalize q*mkRat a c=v at v0 v1 vd
 refine ⟨by rw [qaI];exact b.ln,λr hr=> ?_,λo ho=> ?_,λr hr=> ?_,?_⟩
 ·rcases List.mem_or_eq_of_mem_set hr with h | rfl
  ·exact b.nn r h
  ·exact v0
 ·have hq:=znX hlt h0 v o.1 (cc.up o ho) (λx hx=>(cc.bd o ho x hx).1)
  have h1:=b.bd o ho
  rw [hq]
  rw [show ((t.toNat:Nat):Int)=t by omega]
  by_cases hin:t∈o.1
  ·rw [qa4 hin]
   have h2:=r2 o ho hin
   have h3:=zlf o.2 (qs (pk rs o.1))
   generalize zd1 o.2 (qs (pk rs o.1))=hh at h2 h3
   generalize qs (pk rs o.1)=s at h1 h3 ⊢
   grind
  ·rw [qa5 hin,add_zero]
   exact h1
 ·rcases List.mem_or_eq_of_mem_set hr with h | rfl
  ·exact b.le r h
  ·exact Rat.le_trans v1 q1
 ·have h1:=zn9 rs t.toNat v
  have h2:v.den*dp rs<=(q.den*c)*dp rs:=mul_le_mul_right _ vd
  have h3:(q.den*c)*dp rs<=(dp rs*3)*dp rs:=mul_le_mul_right _ (mul_le_mul q2 c3)
  have h4:(dp rs*3)*dp rs<=(3^(2^j - 1)*3)*3^(2^j - 1):=mul_le_mul (mul_le_mul_right _ b.dd) b.dd
  have hp:0<2^j:=Nat.pow_pos (by decide)
  have h5:(3^(2^j - 1)*3)*3^(2^j - 1)=3^(2^(j+1) - 1):=by
   rw [<- pow_succ, <-Nat.pow_add]
   congr 1
   have:2^(j+1)=2^j*2:=pow_succ 2 j
   omega
  omega
theorem zkz: ∀ {rs:List Rat},(∀ r∈rs,r=0)->qs rs=0
 | [],_=>zka
 | r::rs,h=>by
  rw [zcU,h r qau,Rat.zero_add]
  exact zkz λy hy=>h y (qan _ hy)
theorem zkQ {n:Nat} (k:Nat):(replicate n (0:Rat)).getD k 0=0:=by
 simp only [List.getD,List.getElem?_replicate]
 split<;>rfl
theorem zl5: ∀ n,dp (replicate n (0:Rat))=1
 | 0=>rfl
 | n+1=>by
  show 1*dp (replicate n 0)=1
  rw [zl5 n]
theorem Bz.init (cc:Oc m os):Bz m os (replicate m.toNat 0) 0 where
 ln:=List.length_replicate
 nn:=λr hr=>by rw [(List.mem_replicate.mp hr).2];exact le_refl
 bd:=λo ho=>by
  rw [zkz]
  ·exact Rat.le_of_lt (Rat.intCast_pos.mpr (cc.pp o ho).1)
  ·intro r hr
   unfold pk at hr
   obtain ⟨t,_,rfl⟩:=qaU.mp hr
   exact zkQ _
 le:=λr hr=>by rw [(List.mem_replicate.mp hr).2];decide +kernel
 dd:=by rw [zl5];decide
theorem zoM (rs:List Rat) (o:List Int×Int):bB rs o=true↔qs (pk rs o.1)<=(o.2:Rat):=by
 unfold bB
 rw [Bool.not_eq_true',decide_eq_false_iff_not,Rat.le_iff,Rat.num_intCast,Rat.den_intCast]
 constructor
 ·intro h;simp;omega
 ·intro h;simp at h;omega
theorem zhH (s:Stk m os) (cc:Oc m os) {b c l:Nat} (hbc:c≠b) (hbl:l≠b) (hcl:c≠l): ∀ (n j:Nat) (lf:List Int) (rs:List Rat) {h:Hh} {x4 x5 x6 x7 x8 x9 x10 x11:Option D} {P:Out->Hh->Prop},Bx b h->h[c]? = some (.lst (rs.map qD))->h[l]? = some (.lst (lf.map D.int))->lf.length<n->j+lf.length<=m.toNat->lf.Nodup->(∀ t∈lf,(0<=t/\t<m)/\rs.getD t.toNat 0=0)->Bz m os rs j->
  (∀ rs' y4 y5 y6 y7 y8 y9 y10 y11 h',Bz m os rs' m.toNat->Bx b h'->h'[c]? = some (.lst (rs'.map qD))->P (.nx [some (.cel b),some (za7 m os),some (.cel c),some (.cel l),y4,y5,y6,y7,y8,y9,y10,y11]) h')->
  wp (zbJ zbl zbG n [some (.cel b),some (za7 m os),some (.cel c),some (.cel l),x4,x5,x6,x7,x8,x9,x10,x11]) h P
 | 0,j,lf,rs,h,x4,x5,x6,x7,x8,x9,x10,x11,P,q,ec,el,hn,hj,nd,hz,bz,k=>by omega
 | n+1,j,lf,rs,h,x4,x5,x6,x7,x8,x9,x10,x11,P,q,ec,el,hn,hj,nd,hz,bz,k=>by
  have m0:=s.m0
  have m1:=s.m1
  have ol:=s.len
  rw [zdh,zal]
  have tst: ∀ {Q:Bool->Hh->Prop},Q (!lf.isEmpty) h->wp (zbl [some (.cel b),some (za7 m os),some (.cel c),some (.cel l),x4,x5,x6,x7,x8,x9,x10,x11]) h Q:=λ{Q} kq=>by
   simp only [zbl]
   ac_nf0
   refine zm0 el ?_
   ac_nf0
   exact kq
  refine tst ?_
  clear tst
  cases hlf:lf.isEmpty with
  | true=>
   ac_nf0
   have hb: ∀ d,Bz m os rs (j+d):=λd=>by
    induction d with
    | zero=>exact bz
    | succ d ih=>exact ih.next
   have:=hb (m.toNat - j)
   rw [show j+(m.toNat - j)=m.toNat by omega] at this
   exact k rs _ _ _ _ _ _ _ _ h this q ec
  | false=>
   have hpos:0<lf.length:=by
    cases lf with
    | nil=>cases hlf
    | cons _ _=>simp
   have ih:=λ(j':Nat) (lf':List Int) (rs':List Rat) (h':Hh) (x4 x5 x6 x7 x8 x9 x10 x11:Option D)=>zhH s cc hbc hbl hcl n j' lf' rs' (h:=h') (x4:=x4) (x5:=x5) (x6:=x6) (x7:=x7) (x8:=x8) (x9:=x9) (x10:=x10) (x11:=x11) (P:=P)
   rw [Bool.not_false,qa4 rfl]
   generalize zbJ zbl zbG n=go at ih ⊢
   simp only [zbG]
   ac_nf0
   simp only [zou]
   ac_nf0
   simp only [zal,zbd el,zan]
   rw [show zdG [.cel l]=(zaq l>>=λds=>pure (.int ds.length):M D) from rfl]
   simp only [zal,zbd el,zan,qaH]
   refine zbM q ⋯ ⋯ λt h2 t0 t1 x2=> ?_
   have ht:t.toNat<lf.length:=by omega
   have el2:=x2.2 l _ hbl el
   have ec2:=x2.2 c _ hbc ec
   have hlt:=(qac.mp el2).1
   refine zok el2 t0 ⋯ (d:= .int lf[t.toNat]) (by simp [ht]) ?_
   obtain ⟨ht1,ht2⟩:=hz lf[t.toNat] (getElem_mem ht)
   have epp:=zjy (xs:=lf) (i:=t.toNat) (x:=lf[t.toNat]) (by simp [ht])
   have hnd2:=epp.nodup_iff.mpr nd
   rw [nodup_cons] at hnd2
   have hz2: ∀ y∈lf.eraseIdx t.toNat,(0<=y/\y<m)/\rs.getD y.toNat 0=0:=λy hy=>hz y (epp.mem_iff.mp (qan _ hy))
   have hlen:(lf.eraseIdx t.toNat).length+1=lf.length:=by rw [List.length_eraseIdx_of_lt ht];omega
   have em:(lf.map D.int).eraseIdx t.toNat=(lf.eraseIdx t.toNat).map D.int:=by rw [List.eraseIdx_eq_take_drop_succ,List.eraseIdx_eq_take_drop_succ,map_append,List.map_take,List.map_drop]
   rw [em]
   generalize lf[t.toNat]=th at ht1 ht2 hnd2 ⊢
   generalize lf.eraseIdx t.toNat=lf2 at hnd2 hz2 hlen ⊢
   have q3:Bx b (h2.set l (.lst (lf2.map D.int))):=by
    obtain ⟨y,ey⟩:=x2.1
    exact ⟨y,by rw [qao hbl];exact ey⟩
   have ec3:(h2.set l (.lst (lf2.map D.int)))[c]? = some (.lst (rs.map qD)):=by rw [qao (Ne.symm hcl)];exact ec2
   have el3:(h2.set l (.lst (lf2.map D.int)))[l]? = some (.lst (lf2.map D.int)):=qai hlt
   generalize h2.set l (.lst (lf2.map D.int))=h3 at q3 ec3 el3 ⊢
   have z:=bz.rz m1 ⋯
   have rl:=λ(Q:Out->Hh->Prop)=>zfk z ec3 (t:=th) (s0:=some (.cel b)) (s1:=some (za7 m os)) (s3:=some (.cel l)) (s11:=x11) os none x6 x7 x8 x9 x10 (P:=Q) (λo ho=>⟨⟨cc.up o ho,λy hy=>by
       have:=cc.bd o ho y hy
       have:=bz.ln
       omega,by have:=s.olen o ho;omega,by
       have h1:=cc.pp o ho
       have h3:o.2.natAbs<=2^64:=by omega
       exact zax (n:=64) (by decide) h3⟩,by have h1:=cc.pp o ho;omega⟩) (λr h=>by cases h)
   have rs1:dIx (za7 m os) (.int 1)=pure (.tup (os.map zbZ)):=rfl
   ac_nf0
   rw [rs1]
   ac_nf0
   rw [show some (D.non)=some (rmD none) from rfl]
   refine rl _ λy6 y7 y8 y9 y10=> ?_
   ac_nf0
   refine zbM q3 ⋯ ⋯ λu h4 u0 u1 x4'=> ?_
   have ec4:=x4'.2 c _ hbc ec3
   have el4:=x4'.2 l _ hbl el3
   ac_nf0
   have hpk: ∃ (a:Int) (e:Nat),(a,e)∈[((1:Int),1),(1,2),(2,3),(0,1)]/\atI [D.tup [.int 1,.int 1],.tup [.int 1,.int 1],.tup [.int 1,.int 2],.tup [.int 2,.int 3],.tup [.int 0,.int 1]] u=some (.tup [.int a,.int (e:Int)]):=by
    have:u=0\/u=1\/u=2\/u=3\/u=4:=by omega
    rcases this with rfl | rfl | rfl | rfl | rfl
    ·exact ⟨1,1,by decide,rfl⟩
    ·exact ⟨1,1,by decide,rfl⟩
    ·exact ⟨1,2,by decide,rfl⟩
    ·exact ⟨2,3,by decide,rfl⟩
    ·exact ⟨0,1,by decide,rfl⟩
   obtain ⟨a,e,hae,epk⟩:=hpk
   rw [epk]
   ac_nf0
   cases hroom:os.foldl (rmF rs th) none with
   | none=>
    have n2':zin .non .non=pure (.bl false):=rfl
    simp only [rmD]
    rw [n2']
    ac_nf0
    exact ih (j+1) lf2 rs h4 _ _ _ _ _ _ _ _ x4'.1 ec4 el4 ⋯ ⋯ hnd2.2 hz2 bz.next k
   | some room=>
    have n3:zin (qD room) .non=pure (.bl true):=rfl
    obtain ⟨r0,r1,r2⟩:=zlw bz cc ⋯ hroom
    obtain ⟨p1,p2,e0,e3,a0,a2⟩:=zlQ hae
    have dd:=qaS r2 (qaS bz.dd (ze7 (j:=j) ⋯))
    have nn:=zoH r0 r1
    have nn2:2^64*room.den<=2^(64+1624):=zfI (qaV _) dd
    have m1':=ze1 (a:=room.num) (b:=a) (zax (n:=64+1624) (by decide) (qaS nn nn2)) (zax (n:=2) (by decide) ⋯)
    have m2':=ze1 (a:=(room.den:Int)) (b:=(e:Int)) (by rw [natAbs_natCast];exact zax (n:=1624) (by decide) dd) (by rw [natAbs_natCast];exact zax (n:=2) (by decide) ⋯)
    have hdb:room.den*e<bb:=by
     have h1:room.den*e<=2^(1624+2):=zfI dd ⋯
     exact lt_of_le_of_lt h1 (qaw (pow_lt_pow_right (by decide) (by decide:1624+2<2001)) (zfV (by decide)))
    have ef:=zfM (a:=room.num*a) (b:=room.den*e) (mul_pos room.den_pos e0) hdb
    rw [natCast_mul] at ef
    have bz2:=bz.step cc ht1 ht2 hroom hae
    simp only [rmD]
    rw [n3]
    unfold qD at ef ⊢
    ac_nf0
    rw [m1',m2']
    ac_nf0
    rw [ef]
    ac_nf0
    simp only [zgN,zjg,zaR,zaE,pure_bind,bind_assoc,zal,zbd ec4]
    rw [qaH,zrV ht1.1 (by have:=bz.ln;omega)]
    ac_nf0
    simp only [zen]
    have hlc:=(qac.mp ec4).1
    have esm:(rs.map qD).set th.toNat (qD (mkRat (room.num*a) (room.den*e)))=(rs.set th.toNat (mkRat (room.num*a) (room.den*e))).map qD:=by rw [List.map_set]
    refine ih (j+1) lf2 _ _ _ _ _ _ _ _ _ _ ?_ (by
      show (h4.set c (.lst ((rs.map qD).set th.toNat (qD (mkRat (room.num*a) (room.den*e))))))[c]? = _
      rw [esm]
      exact qai hlc) (by rw [qao hcl];exact el4) ⋯ ⋯ hnd2.2 (λy hy=> ?_) bz2 k
    ·obtain ⟨y,ey⟩:=x4'.1
     exact ⟨y,by rw [qao hbc];exact ey⟩
    ·obtain ⟨g1,g2⟩:=hz2 y hy
     refine ⟨g1,?_⟩
     have hne:th≠y:=λz=>hnd2.1 (z▸hy)
     refine Eq.trans ?_ g2
     simp only [List.getD]
     rw [qao ⋯]
theorem zj5 (s:Stk m os) (cc:Oc m os) {h:Hh} {b:Nat} {P:D->Hh->Prop} (q:Bx b h) (k: ∀ rs h',Bz m os rs m.toNat->Bx b h'->P (.tup (rs.map qD)) h'):wp (F_46 [.cel b,za7 m os]) h P:=by
 have m0:=s.m0
 have m1:=s.m1
 have ecl: ∀ {sd:Sd},zbk (zaZ (zaC 0) (λ_=>pure true) zbE [none]) (zdp 0 m.toNat)=pure ((replicate m.toNat (0:Rat)).map qD):=λ{sd}=>by
  have key: ∀ ds:List D,zbk (zaZ (zaC 0) (λ_=>pure true) zbE [none]) ds=pure (ds.map λ_=>qD 0):=λds=>by
   induction ds with
   | nil=>rfl
   | cons d r ih=>
    rw [zbk,ih]
    simp only [zaZ,zbE]
    ac_nf0
    rfl
  rw [key]
  congr 1
  rw [zdJ,qaT,qaT,List.map_replicate]
  refine List.eq_replicate_iff.mpr ⟨by simp,λx hx=> ?_⟩
  obtain ⟨_,_,rfl⟩:=qaU.mp hx
  rfl
 have hb:b<h.length:=by
  obtain ⟨y,ey⟩:=q
  exact (qac.mp ey).1
 rw [d_46]
 simp only [G_46]
 ac_nf0
 unfold zew
 ac_nf0
 rw [show dIx (za7 m os) (.int 0)=pure (.int m) from rfl]
 ac_nf0
 rw [zcw ⋯ ⋯]
 ac_nf0
 rw [zd3,zaL ⋯]
 ac_nf0
 rw [show zap [none] [some (.cel b),some (za7 m os),none,none,none,none,none,none,none,none,none,none]=[none] from rfl,ecl (sd:=[])]
 ac_nf0
 have er:zfn (.int m)=zbq (zdp 0 m.toNat):=by
  show (if 0<=m/\m<1000 then _ else _)=_
  rw [qa4 ⟨⋯,⋯⟩]
 rw [er]
 ac_nf0
 simp only [zdT]
 refine zhH s cc (b:=b) (c:=h.length) (l:=h.length+1) ⋯ ⋯ ⋯ 1000 0 ((List.range m.toNat).map λ(k:Nat)=>(k:Int)) (replicate m.toNat 0) ?_ ?_ ?_ ?_ ?_ ?_ ?_ (Bz.init cc) ?_
 ·exact (q.push).1.push.1
 ·simp
 ·rw [<- zdJ]
  simp
 ·simp;omega
 ·simp
 ·exact (zc7 _).imp λz=>by omega
 ·intro t ht
  have:=zc2 t ht
  exact ⟨⋯,zkQ _⟩
 ·intro rs' y4 y5 y6 y7 y8 y9 y10 y11 h' bz qb ec
  have hl:=bz.ln
  ac_nf0
  rw [show zbX [.cel h.length]=(do let ds<-zaq h.length;pure (.tup ds):M D) from rfl]
  simp only [zal,zbd ec,zan]
  ac_nf0
  exact k rs' h' bz qb
def zmo:Option Nat->D
 | some c=> .int (c:Int)
 | none=> .non
def ent (n q:Nat) (T:Nat->Nat->Int):Option Nat:=(List.range q).find? λx=>decide (T n x<0)
theorem zf7 {n q:Nat} {T:Nat->Nat->Int} {s0:Option D}: ∀ (ks:List Nat) (x2:Option D),(∀ k∈ks,k<q+1)-> ∃ y2,za2 (λx sd=>zbh (List.set sd 2 (some x))) (ks.map λ(k:Nat)=>D.int (k:Int)) [s0,some (zcd (q+1) (T n)),x2]
   = pure (match ks.find? λx=>decide (T n x<0) with | some c=> .rt (.int (c:Int)) | none=> .nx [s0,some (zcd (q+1) (T n)),y2])
 | [],x2,_=>⟨x2,rfl⟩
 | k::ks,x2,h=>by
  obtain ⟨y2,ih⟩:=zf7 (n:=n) (T:=T) (s0:=s0) ks (some (.int (k:Int))) λj hj=>h j (qan _ hj)
  have ea:atI ((List.range (q+1)).map λx=>D.int (T n x)) (k:Int)=some (.int (T n k)):=zfd (h k qau)
  refine ⟨y2,?_⟩
  rw [qaM,zbB]
  generalize za2 (λx sd=>zbh (List.set sd 2 (some x))) (ks.map λ(k:Nat)=>D.int (k:Int))=zbz at ih ⊢
  rw [List.find?_cons]
  simp only [zbh]
  unfold zcd at ih ⊢
  ac_nf0
  rw [ea]
  ac_nf0
  rw [zmm]
  ac_nf0
  by_cases hn:T n k<0
  ·rw [decide_eq_true hn]
   ac_nf0
  ·rw [decide_eq_false hn]
   ac_nf0
   exact ih
theorem zjx {n q:Nat} {T:Nat->Nat->Int} (hq:q<=100):F_22 [zbC (n+1) (q+1) T]=pure (zmo (ent n q T)):=by
 obtain ⟨y2,e⟩:=zf7 (n:=n) (q:=q) (T:=T) (s0:=some (zbC (n+1) (q+1) T)) (List.range q) none λk hk=>by have:=mem_range.mp hk;omega
 have el:atI ((List.range (n+1)).map λj=>zcd (q+1) (T j)) (-1)=some (zcd (q+1) (T n)):=ziw
 have en:zdG [zcd (q+1) (T n)]=pure (.int ((q+1:Nat):Int)):=by unfold zcd;rw [zlz,qaH,length_range]
 have er:(((q+1:Nat):Int) - 1)=(q:Int):=by omega
 rw [d_22]
 simp only [G_22]
 have ei:dIx (zbC (n+1) (q+1) T) (.int (-1))=pure (zcd (q+1) (T n)):=by unfold zbC;rw [zfg,el];rfl
 ac_nf0
 rw [ei]
 ac_nf0
 rw [en]
 ac_nf0
 rw [er,zhj ⋯]
 ac_nf0
 rw [e]
 unfold ent
 generalize (List.range q).find? (λx=>decide (T n x<0))=r
 cases r with
 | none=>ac_nf0;rfl
 | some c=>ac_nf0;rfl
def ahd (bs:Nat->Nat) (T:Nat->Nat->Int) (q c k b:Nat):Bool:=decide (T k q*T b c<T b q*T k c) || (decide (T k q*T b c=T b q*T k c) && decide (bs k<bs b))
def lvF (bs:Nat->Nat) (T:Nat->Nat->Int) (q c:Nat) (acc:Option Nat) (k:Nat):Option Nat:=if 0<T k c then (match acc with | none=>some k | some b=>if ahd bs T q c k b=true then some k else some b) else acc
def Sm (n q:Nat) (T:Nat->Nat->Int):Prop:= ∀ k,k<n+1-> ∀ x,x<q+1->(T k x).natAbs<2^6000
theorem ix2 {n q:Nat} {T:Nat->Nat->Int} {k x:Nat} (hk:k<n+1) (hx:x<q+1):dIx (zbC (n+1) (q+1) T) (.int (k:Int))=pure (zcd (q+1) (T k))/\dIx (zcd (q+1) (T k)) (.int (x:Int))=pure (.int (T k x))/\dIx (zcd (q+1) (T k)) (.int (-1))=pure (.int (T k q)):=by
 have e1:atI ((List.range (n+1)).map λj=>zcd (q+1) (T j)) (k:Int)=some (zcd (q+1) (T k)):=zfd hk
 have e2:atI ((List.range (q+1)).map λx=>D.int (T k x)) (x:Int)=some (.int (T k x)):=zfd hx
 have e3:atI ((List.range (q+1)).map λx=>D.int (T k x)) (-1)=some (.int (T k q)):=ziw
 refine ⟨?_,?_,?_⟩
 ·unfold zbC;rw [zfg,e1];rfl
 ·unfold zcd;rw [zfg,e2];rfl
 ·unfold zcd;rw [zfg,e3];rfl
theorem znO {n q:Nat} {T:Nat->Nat->Int} {bs:Nat->Nat} (z:Sm n q T) {c k b a:Nat} (hc:c<q) (hk:k<n) (hb:b<n) {h:Hh} (e:h[a]? = some (.lst ((List.range n).map λk=>D.int (bs k:Int)))) {P:D->Hh->Prop} (p:P (.bl (ahd bs T q c k b)) h):
  wp (F_24 [zbC (n+1) (q+1) T,.cel a,.int (c:Int),.int (k:Int),.int (b:Int)]) h P:=by
 obtain ⟨k1,k2,k3⟩:=ix2 (n:=n) (q:=q) (T:=T) (k:=k) (x:=c) ⋯ ⋯
 obtain ⟨b1,b2,b3⟩:=ix2 (n:=n) (q:=q) (T:=T) (k:=b) (x:=c) ⋯ ⋯
 have m1:=ze1 (z k ⋯ q ⋯) (z b ⋯ c ⋯)
 have m2:=ze1 (z b ⋯ q ⋯) (z k ⋯ c ⋯)
 have a1:atI ((List.range n).map λk=>D.int (bs k:Int)) (k:Int)=some (.int (bs k:Int)):=zfd hk
 have a2:atI ((List.range n).map λk=>D.int (bs k:Int)) (b:Int)=some (.int (bs b:Int)):=zfd hb
 rw [d_24]
 simp only [G_24]
 ac_nf0
 rw [k1]
 ac_nf0
 rw [k3]
 ac_nf0
 rw [b1]
 ac_nf0
 rw [b2]
 ac_nf0
 rw [m1]
 ac_nf0
 rw [b3]
 ac_nf0
 rw [k2]
 ac_nf0
 rw [m2]
 ac_nf0
 rw [zmm]
 ac_nf0
 unfold ahd at p
 by_cases h1:T k q*T b c<T b q*T k c
 ·rw [decide_eq_true h1] at p ⊢
  ac_nf0
  exact p
 ·rw [decide_eq_false h1] at p ⊢
  ac_nf0
  rw [znm]
  ac_nf0
  by_cases h2:T k q*T b c=T b q*T k c
  ·rw [decide_eq_true h2] at p
   rw [show (T k q*T b c==T b q*T k c)=true from beq_iff_eq.mpr h2]
   ac_nf0
   simp only [zhU,zal,zbd e]
   rw [a1]
   ac_nf0
   simp only [zhU,zal,zbd e]
   rw [a2]
   ac_nf0
   rw [zmm]
   ac_nf0
   have:decide ((bs k:Int)<(bs b:Int))=decide (bs k<bs b):=by simp
   rw [this]
   simpa using p
  ·rw [decide_eq_false h2] at p
   rw [show (T k q*T b c==T b q*T k c)=false from beq_eq_false_iff_ne.mpr h2]
   ac_nf0
   simpa using p
theorem zf3 {n q:Nat} {T:Nat->Nat->Int} {bs:Nat->Nat} (z:Sm n q T) {c a:Nat} (hc:c<q) {h:Hh} (e:h[a]? = some (.lst ((List.range n).map λk=>D.int (bs k:Int)))): ∀ (ks:List Nat) (acc:Option Nat) (x4:Option D) {P:Out->Hh->Prop},(∀ k∈ks,k<n)->(∀ b,acc=some b->b<n)->
   (∀ y4,P (.nx [some (zbC (n+1) (q+1) T),some (.cel a),some (.int (c:Int)),some (zmo (ks.foldl (lvF bs T q c) acc)),y4]) h)->
   wp (za2 (λx sd=>zbr (List.set sd 4 (some x))) (ks.map λ(k:Nat)=>D.int (k:Int)) [some (zbC (n+1) (q+1) T),some (.cel a),some (.int (c:Int)),some (zmo acc),x4]) h P
 | [],acc,x4,P,_,_,p=>by
  rw [map_nil,zdi,zan]
  exact p x4
 | k::ks,acc,x4,P,hk,ha,p=>by
  have hkn:=hk k qau
  obtain ⟨k1,k2,_⟩:=ix2 (n:=n) (q:=q) (T:=T) (k:=k) (x:=c) ⋯ ⋯
  have ih:=λ(acc':Option Nat) (hacc:acc'=lvF bs T q c acc k) (hb: ∀ b,acc'=some b->b<n)=>zf3 z hc e ks acc' (some (.int (k:Int))) (P:=P) (λj hj=>hk j (qan _ hj)) hb (by rw [hacc];exact p)
  have hb: ∀ b,lvF bs T q c acc k=some b->b<n:=λb hb=>by
   unfold lvF at hb
   split at hb
   ·split at hb
    ·cases hb;exact hkn
    ·rename_i b' _
     split at hb
     ·cases hb;exact hkn
     ·cases hb;exact ha _ rfl
   ·exact ha b hb
  rw [qaM,zbB]
  generalize za2 (λx sd=>zbr (List.set sd 4 (some x))) (ks.map λ(k:Nat)=>D.int (k:Int))=zbz at ih ⊢
  simp only [zbr]
  ac_nf0
  rw [k1]
  ac_nf0
  rw [k2]
  ac_nf0
  by_cases hp:0<T k c
  ·rw [decide_eq_true hp]
   ac_nf0
   cases acc with
   | none=>
    rw [show zmo none= .non from rfl,show zpw .non .non=pure (.bl true) from rfl]
    ac_nf0
    exact ih (some k) (by unfold lvF;rw [qa4 hp]) (λb hb=>by cases hb;exact hkn)
   | some b=>
    rw [show zmo (some b)= .int (b:Int) from rfl,show zpw (.int (b:Int)) .non=pure (.bl false) from rfl]
    ac_nf0
    refine znO z hc hkn (ha b rfl) e ?_
    ac_nf0
    by_cases hh:ahd bs T q c k b=true
    ·rw [hh]
     ac_nf0
     exact ih (some k) (by unfold lvF;rw [qa4 hp];simp [hh]) (λb hb=>by cases hb;exact hkn)
    ·rw [Bool.not_eq_true] at hh
     rw [hh]
     ac_nf0
     exact ih (some b) (by unfold lvF;rw [qa4 hp];simp [hh]) ha
  ·rw [decide_eq_false hp]
   ac_nf0
   exact ih acc (by unfold lvF;rw [qa5 hp]) ha
def lv (n:Nat) (bs:Nat->Nat) (T:Nat->Nat->Int) (q c:Nat):Option Nat:=(List.range n).foldl (lvF bs T q c) none
theorem znC {n q:Nat} {T:Nat->Nat->Int} {bs:Nat->Nat} (z:Sm n q T) {c a:Nat} (hc:c<q) (hn:n<=100) {h:Hh} (e:h[a]? = some (.lst ((List.range n).map λk=>D.int (bs k:Int)))) {P:D->Hh->Prop} (p:P (zmo (lv n bs T q c)) h):
  wp (F_23 [zbC (n+1) (q+1) T,.cel a,.int (c:Int)]) h P:=by
 rw [d_23]
 simp only [G_23]
 have el:wp (zdG [.cel a]) h λd h'=>d= .int (n:Int)/\h'=h:=by
  show wp (do let ds<-zaq a;pure (D.int ds.length)) h _
  simp only [zal,zbd e,zan,qaH,length_range,and_self]
 ac_nf0
 refine zgl el λd h' ⟨ed,eh⟩=> ?_
 subst ed eh
 ac_nf0
 rw [zhj ⋯]
 ac_nf0
 refine zf3 z hc e (List.range n) none none (λk hk=>mem_range.mp hk) (λb hb=>by cases hb) λy4=> ?_
 ac_nf0
 exact p
theorem fdB {i j:Int} (h0:0<j) (h1:j.natAbs<2^6000):zeq (.int i) (.int j)=pure (.int (i / j)):=by
 obtain ⟨k,rfl⟩: ∃ k:Nat,j=(k:Int):=⟨j.toNat,⋯⟩
 rw [natAbs_natCast] at h1
 exact zdy ⋯ (qaS (le_of_lt h1) (zfV (by decide)))
theorem zqC {f g:FE} {sd:Sd}:zl1 (zac f (zac g zar)) sd=(do let x<-f sd;let y<-g sd;zmA [x,y]):=by
 unfold zl1
 simp only [zaO,za3,bind_assoc,pure_bind]
theorem znd {C:Nat} {f g:Nat->Int} {c:Nat} {d:Int} (hC:C<=100) (hc:c<C) (hf: ∀ x,x<C->(f x).natAbs<2^6000) (hg: ∀ x,x<C->(g x).natAbs<2^6000) (d0:0<d) (d1:d.natAbs<2^6000):
  F_26 [zcd C f,zcd C g,.int (c:Int),.int d]=pure (zcd C λx=>(f x*g c - g x*f c) / d):=by
 have af:dIx (zcd C f) (.int (c:Int))=pure (.int (f c)):=by unfold zcd;rw [zfg,zfd (f:=λx=>D.int (f x)) hc];rfl
 have ag:dIx (zcd C g) (.int (c:Int))=pure (.int (g c)):=by unfold zcd;rw [zfg,zfd (f:=λx=>D.int (g x)) hc];rfl
 have ez:zmA [zcd C f,zcd C g]=pure ((List.range C).map λk=> .tup [.int (f k),.int (g k)]):=by
  unfold zcd
  show (pure (zf0 _ _):M (List D))=_
  rw [zp9]
 have e:=zaY (g':=λ(k:Nat)=>D.tup [.int (f k),.int (g k)]) (fi:=zl1 (zac (zae 0) (zac (zae 1) zar))) (g:=zbn 2 (zat (zaC 0) (zat (zaC 1) zbp))) (tc:=λ_=>pure true) (te:=zft) (src:=[none,none,some 1,some 2,some 0,some 3]) (sd:=[some (zcd C f),some (zcd C g),some (.int (c:Int)),some (.int d)]) (xs:=List.range C)
  (k:=λx=>some (.int ((f x*g c - g x*f c) / d))) (by rw [zqC];ac_nf0;exact ez) (by rw [length_range];omega) λx hx=>by
   have hx:=mem_range.mp hx
   have m1:=ze1 (hf x hx) (hg c hc)
   have m2:=ze1 (hg x hx) (hf c hc)
   have m3:=fdB (i:=f x*g c - g x*f c) d0 d1
   simp only [zaZ,zft]
   rw [show zap [none,none,some 1,some 2,some 0,some 3] [some (zcd C f),some (zcd C g),some (.int (c:Int)),some (.int d)]=[none,none,some (zcd C g),some (.int (c:Int)),some (zcd C f),some (.int d)] from rfl]
   ac_nf0
   rw [ag]
   ac_nf0
   rw [m1]
   ac_nf0
   rw [af]
   ac_nf0
   rw [m2]
   ac_nf0
   rw [m3]
   ac_nf0
 rw [d_26]
 simp only [G_26]
 ac_nf0
 rw [e]
 ac_nf0
 rw [filterMap_eq_map']
 rfl
theorem znG {n q:Nat} {T:Nat->Nat->Int} (z:Sm n q T) (hn:n<=90) (hq:q<=90) {pl c:Nat} (hp:pl<n) (hc:c<q) {d:Int} (d0:0<d) (d1:d.natAbs<2^6000):
  F_25 [zbC (n+1) (q+1) T,.int (pl:Int),.int (c:Int),.int d]=pure (zbC (n+1) (q+1) (SX.piv T d pl c)):=by
 have k1:=(ix2 (n:=n) (q:=q) (T:=T) (k:=pl) (x:=c) ⋯ ⋯).1
 have ez:zh9 (zae 0) [some (zbC (n+1) (q+1) T),some (.int (pl:Int)),some (.int (c:Int)),some (.int d),some (zcd (q+1) (T pl))]=pure ((List.range (n+1)).map λ(k:Nat)=> .tup [.int k,zcd (q+1) (T k)]):=by
  rw [zlX]
  ac_nf0
  unfold zbC
  show (pure (zg0 _):M (List D))=_
  rw [zlY]
 have e:=zaY (g':=λ(k:Nat)=>D.tup [.int k,zcd (q+1) (T k)]) (fi:=zh9 (zae 0)) (g:=zbn 2 (zat (zaC 0) (zat (zaC 1) zbp))) (tc:=λ_=>pure true) (te:=zd2) (src:=[none,none,some 1,some 4,some 2,some 3]) (sd:=[some (zbC (n+1) (q+1) T),some (.int (pl:Int)),some (.int (c:Int)),some (.int d),some (zcd (q+1) (T pl))]) (xs:=List.range (n+1))
  (k:=λx=>some (zcd (q+1) (SX.piv T d pl c x))) ez (by rw [length_range];omega) λx hx=>by
   have hx:=mem_range.mp hx
   have es:=znd (C:=q+1) (f:=T x) (g:=T pl) (c:=c) (d:=d) ⋯ ⋯ (z x hx) (z pl ⋯) d0 d1
   simp only [zaZ,zd2]
   rw [show zap [none,none,some 1,some 4,some 2,some 3] [some (zbC (n+1) (q+1) T),some (.int (pl:Int)),some (.int (c:Int)),some (.int d),some (zcd (q+1) (T pl))]=[none,none,some (.int (pl:Int)),some (zcd (q+1) (T pl)),some (.int (c:Int)),some (.int d)] from rfl]
   ac_nf0
   rw [znm]
   ac_nf0
   by_cases h:x=pl
   ·rw [show ((x:Int)==(pl:Int))=true from beq_iff_eq.mpr ⋯]
    ac_nf0
    have:SX.piv T d pl c x=T x:=by funext y;unfold SX.piv;rw [qa4 h,h]
    rw [this]
   ·rw [show ((x:Int)==(pl:Int))=false from beq_eq_false_iff_ne.mpr ⋯]
    ac_nf0
    rw [es]
    ac_nf0
    have:SX.piv T d pl c x=λy=>(T x y*T pl c - T pl y*T x c) / d:=by funext y;unfold SX.piv;rw [qa5 h]
    rw [this]
 rw [d_25]
 simp only [G_25]
 ac_nf0
 rw [k1]
 ac_nf0
 rw [e]
 ac_nf0
 rw [filterMap_eq_map']
 rfl
theorem zoB {n q:Nat} {T:Nat->Nat->Int} {bs:Nat->Nat} {c:Nat}: ∀ (ks done:List Nat) (acc:Option Nat),(∀ k∈done,k<n)->(∀ k∈ks,k<n)->
  (acc=none-> ∀ k∈done, ¬0<T k c)->(∀ b,acc=some b->b<n/\0<T b c/\ ∀ k∈done,0<T k c->T b q*T k c<T k q*T b c\/(T b q*T k c=T k q*T b c/\bs b<=bs k))->
  (ks.foldl (lvF bs T q c) acc=none-> ∀ k∈done++ks, ¬0<T k c)/\(∀ b,ks.foldl (lvF bs T q c) acc=some b->b<n/\0<T b c/\ ∀ k∈done++ks,0<T k c->T b q*T k c<T k q*T b c\/(T b q*T k c=T k q*T b c/\bs b<=bs k))
 | [],done,acc,_,_,h1,h2=>by rw [foldl_nil,append_nil];exact ⟨h1,h2⟩
 | k::ks,done,acc,hd,hk,h1,h2=>by
  have hkn:=hk k qau
  rw [foldl_cons,show done++k::ks=(done++[k])++ks by simp]
  refine zoB ks (done++[k]) (lvF bs T q c acc k) (λj hj=>by
    rcases qaK.mp hj with z | z
    · exact hd j z
    · rw [mem_singleton.mp z];exact hkn) (λj hj=>hk j (qan _ hj)) ?_ ?_
  ·intro e j hj
   unfold lvF at e
   split at e
   ·split at e
    ·cases e
    ·split at e<;>cases e
   ·rename_i hp
    rcases qaK.mp hj with z | z
    ·exact h1 e j z
    ·rw [mem_singleton.mp z];exact hp
  ·intro b e
   unfold lvF at e
   split at e
   ·rename_i hp
    have self: ∀ j,j∈[k]->0<T j c->T k q*T j c<T j q*T k c\/(T k q*T j c=T j q*T k c/\bs k<=bs j):=λj hj _=>by
     rw [mem_singleton.mp hj]
     exact .inr ⟨rfl,qaV _⟩
    split at e
    ·cases e
     refine ⟨hkn,hp,λj hj hjp=> ?_⟩
     rcases qaK.mp hj with z | z
     ·exact absurd hjp (h1 rfl j z)
     ·exact self j z hjp
    ·rename_i b' 
     obtain ⟨g1,g2,g3⟩:=h2 b' rfl
     split at e
     ·rename_i ha
      cases e
      refine ⟨hkn,hp,λj hj hjp=> ?_⟩
      rcases qaK.mp hj with z | z
      ·have g4:=g3 j z hjp
       unfold ahd at ha
       rw [Bool.or_eq_true,qaG,qaD,qaD,qaD] at ha
       rcases ha with a1 | ⟨a1,a2⟩
       ·left
        refine SX.zig hp g2 hjp a1 ?_
        rcases g4 with g5 | ⟨g5,_⟩
        ·exact Int.le_of_lt g5
        ·exact le_of_eq g5
       ·rcases g4 with g5 | ⟨g5,g6⟩
        ·left
         have:=SX.zig (a:= -(T j q)) (b:=T j c) (c:= -(T b' q)) (d:=T b' c) (e:= -(T k q)) (f:=T k c) hjp g2 hp (by rw [neg_mul,neg_mul];omega) (by rw [neg_mul,neg_mul];omega)
         rw [neg_mul,neg_mul] at this
         omega
        ·right
         refine ⟨?_,⋯⟩
         have l1:=SX.zoY (a:=T k q) (b:=T k c) (c:=T b' q) (d:=T b' c) (e:=T j q) (f:=T j c) hp g2 hjp (le_of_eq a1) (le_of_eq g5)
         have l2:=SX.zoY (a:=T j q) (b:=T j c) (c:=T b' q) (d:=T b' c) (e:=T k q) (f:=T k c) hjp g2 hp (le_of_eq g5.symm) (le_of_eq a1.symm)
         omega
      ·exact self j z hjp
     ·rename_i ha
      cases e
      refine ⟨g1,g2,λj hj hjp=> ?_⟩
      rcases qaK.mp hj with z | z
      ·exact g3 j z hjp
      ·rw [mem_singleton.mp z]
       rw [Bool.not_eq_true] at ha
       unfold ahd at ha
       rw [Bool.or_eq_false_iff,Bool.and_eq_false_iff,decide_eq_false_iff_not,decide_eq_false_iff_not,decide_eq_false_iff_not] at ha
       obtain ⟨a1,a2⟩:=ha
       by_cases a3:T k q*T b c=T b q*T k c
       ·right
        refine ⟨a3.symm,?_⟩
        rcases a2 with a2 | a2
        ·exact absurd a3 a2
        ·omega
       ·left
        omega
   ·rename_i hp
    obtain ⟨g1,g2,g3⟩:=h2 b e
    refine ⟨g1,g2,λj hj hjp=> ?_⟩
    rcases qaK.mp hj with z | z
    ·exact g3 j z hjp
    ·rw [mem_singleton.mp z] at hjp
     exact absurd hjp hp
theorem zsG {n q:Nat} {T:Nat->Nat->Int} {bs:Nat->Nat} {c:Nat} (he:ent n q T=some c) (hx: ∃ k,k<n/\0<T k c): ∃ pl,lv n bs T q c=some pl/\SX.Stp n q bs T c pl:=by
 obtain ⟨i1,i2⟩:=zoB (n:=n) (q:=q) (T:=T) (bs:=bs) (c:=c) (List.range n) [] none (by simp) (λk hk=>mem_range.mp hk) (by simp) (by simp)
 have hent:=List.find?_eq_some_iff_getElem.mp he
 unfold lv
 generalize hr:(List.range n).foldl (lvF bs T q c) none=r at i1 i2 ⊢
 obtain ⟨h1,j,hj,h2,h3⟩:=hent
 have hjq:j<q:=by simpa using hj
 have hjc:j=c:=by simpa using h2
 subst hjc
 cases r with
 | none=>
  obtain ⟨k,hk,hp⟩:=hx
  exact absurd hp (i1 rfl k (by simpa using hk))
 | some pl=>
  obtain ⟨g1,g2,g3⟩:=i2 pl rfl
  refine ⟨pl,rfl,⟨hjq,by simpa using h1,λx hx=> ?_,g1,g2,λk hk hp=>g3 k (by simpa using hk) hp⟩⟩
  have:=h3 x hx
  simp at this
  exact this
theorem zm2 {n q:Nat} {T:Nat->Nat->Int} (he:ent n q T=none): ∀ x,x<q->0<=T n x:=λx hx=>by
 have:=List.find?_eq_none.mp he x (mem_range.mpr hx)
 simp at this
 exact this
def lpA (m:Nat) (os:List (List Int×Int)) (i x:Nat):Int:=if i<os.length then (if x<m then (if (os.getD i ([],0)).1.any (· == (x:Int))=true then 1 else 0) else if x<m+os.length then (if x=m+i then 1 else 0) else (os.getD i ([],0)).2) else (if x<m then -1 else 0)
theorem zsE {k:Nat} {i:Nat} (hi:i<os.length):zcd (k+os.length+1) (lpA k os i)= .lst ((List.range k).map (λ(x:Nat)=>D.int (if (os.getD i ([],0)).1.any (· == (x:Int))=true then 1 else 0))++(List.range os.length).map (λ(j:Nat)=>D.int (if j=i then 1 else 0))++[.int (os.getD i ([],0)).2]):=by
 unfold zcd
 rw [zfs (λx=>D.int (lpA k os i x)) (k+os.length) 1,zfs (λx=>D.int (lpA k os i x)) k os.length]
 congr 2
 ·congr 1
  ·refine map_congr_left λx hx=> ?_
   have hx:=mem_range.mp hx
   unfold lpA
   rw [qa4 hi,qa4 hx]
  ·refine map_congr_left λj hj=> ?_
   have hj:=mem_range.mp hj
   unfold lpA
   rw [qa4 hi,qa5 ⋯,qa4 ⋯]
   by_cases h:j=i
   ·rw [qa4 ⋯,qa4 h]
   ·rw [qa5 ⋯,qa5 h]
 ·show [D.int (lpA k os i (k+os.length+0))]=_
  unfold lpA
  rw [qa4 hi,qa5 ⋯,qa5 ⋯]
theorem zph {k:Nat}:zcd (k+os.length+1) (lpA k os os.length)= .lst (replicate k (.int (-1))++replicate (os.length+1) (.int 0)):=by
 unfold zcd
 rw [Nat.add_assoc,zfs (λx=>D.int (lpA k os os.length x)) k (os.length+1)]
 congr 2
 ·rw [List.eq_replicate_iff]
  refine ⟨by simp,λd hd=> ?_⟩
  obtain ⟨x,hx,rfl⟩:=qaU.mp hd
  have hx:=mem_range.mp hx
  unfold lpA
  rw [qa5 (qaN _),qa4 hx]
 ·rw [List.eq_replicate_iff]
  refine ⟨by simp,λd hd=> ?_⟩
  obtain ⟨x,hx,rfl⟩:=qaU.mp hd
  unfold lpA
  rw [qa5 (qaN _),qa5 ⋯]
theorem zms {o:List Int×Int} {k:Nat} (hk:k<=100) {fi:FA} {src:List (Option Nat)} {sd:Sd} (hi:fi sd=pure ((List.range k).map λ(x:Nat)=>D.int (x:Int))) (eb:zap src sd=[none,some (zbZ o)]):
  zaH fi (zaC 0) (λ_=>pure true) zcS src sd=pure (.lst ((List.range k).map λ(x:Nat)=>D.int (if o.1.any (· == (x:Int))=true then 1 else 0))):=by
 rw [<- filterMap_eq_map']
 refine zaY (g':=λ(x:Nat)=>D.int (x:Int)) hi (by rw [length_range];omega) λx hx=> ?_
 rw [eb]
 simp only [zaZ,zcS]
 cases h:o.1.any (· == (x:Int)) with
 | true=>
  ac_nf0
  rw [zbH,h]
  ac_nf0
 | false=>
  ac_nf0
  rw [zbH,h]
  ac_nf0
theorem zmB {j k:Nat} (hk:k<=100) {fi:FA} {src:List (Option Nat)} {sd:Sd} (hi:fi sd=pure ((List.range k).map λ(x:Nat)=>D.int (x:Int))) (eb:zap src sd=[none,some (.int (j:Int))]):
  zaH fi (zaC 0) (λ_=>pure true) zcO src sd=pure (.lst ((List.range k).map λ(x:Nat)=>D.int (if x=j then 1 else 0))):=by
 rw [<- filterMap_eq_map']
 refine zaY (g':=λ(x:Nat)=>D.int (x:Int)) hi (by rw [length_range];omega) λx hx=> ?_
 rw [eb]
 simp only [zaZ,zcO]
 ac_nf0
 rw [znm]
 ac_nf0
 by_cases h:x=j
 ·rw [show ((x:Int)==(j:Int))=true from beq_iff_eq.mpr ⋯,qa4 h]
  ac_nf0
 ·rw [show ((x:Int)==(j:Int))=false from beq_eq_false_iff_ne.mpr ⋯,qa5 h]
  ac_nf0
theorem zgc (s:Stk m os) {a:Nat}: ∀ (ks:List Nat) (rs:List D) {h:Hh} {x3 x4 x5:Option D} {P:Out->Hh->Prop},(∀ k∈ks,k<os.length)->h[a]? = some (.lst rs)->rs.length+ks.length<=100->
   (∀ y3 y4 y5,P (.nx [some (za7 m os),some (.cel a),some (.int (os.length:Int)),y3,y4,y5]) (h.set a (.lst (rs++ks.map λi=>zcd (m.toNat+os.length+1) (lpA m.toNat os i)))))->
   wp (za2 (λx sd=>do let sd1<-zbn 2 (zat (zaC 3) (zat (zaC 4) zbp)) x sd;zb5 sd1) (ks.map λ(i:Nat)=>D.tup [.int (i:Int),zbZ (os.getD i ([],0))]) [some (za7 m os),some (.cel a),some (.int (os.length:Int)),x3,x4,x5]) h P
 | [],rs,h,x3,x4,x5,P,_,e,_,p=>by
  rw [map_nil,zdi,zan]
  have:=p x3 x4 x5
  rw [map_nil,append_nil] at this
  have hs:h.set a (.lst rs)=h:=by
   obtain ⟨h1,h2⟩:=qac.mp e
   rw [<- h2]
   exact List.set_getElem_self h1
  rw [hs] at this
  exact this
 | k::ks,rs,h,x3,x4,x5,P,hk,e,hl,p=>by
  have m0:=s.m0
  have m1:=s.m1
  have ml:=s.len
  have hkn:=hk k qau
  have ha:a<h.length:=(qac.mp e).1
  have ih:= @zgc s a ks (rs++[zcd (m.toNat+os.length+1) (lpA m.toNat os k)]) (h.set a (.lst (rs++[zcd (m.toNat+os.length+1) (lpA m.toNat os k)])))
  rw [qaM,zbB]
  generalize za2 (λx sd=>do let sd1<-zbn 2 (zat (zaC 3) (zat (zaC 4) zbp)) x sd;zb5 sd1) (ks.map λ(i:Nat)=>D.tup [.int (i:Int),zbZ (os.getD i ([],0))])=zbz at ih ⊢
  generalize ho:os.getD k ([],0)=o
  have c1:=zms (o:=o) (k:=m.toNat) ⋯ (fi:=zei (zac (cOp dIx (zae 0) (cK (.int 0))) zar)) (src:=[none,some 4]) (sd:=[some (za7 m os),some (.cel a),some (.int (os.length:Int)),some (.int (k:Int)),some (zbZ o),x5]) (by
    ac_nf0
    rw [zl7]
    ac_nf0
    rw [show m=((m.toNat:Nat):Int) by omega,zhj ⋯]
    rfl) rfl
  simp only [zb5]
  rw [show zbn 2 (zat (zaC 3) (zat (zaC 4) zbp)) (D.tup [.int (k:Int),zbZ o]) [some (za7 m os),some (.cel a),some (.int (os.length:Int)),x3,x4,x5]=pure [some (za7 m os),some (.cel a),some (.int (os.length:Int)),some (.int (k:Int)),some (zbZ o),x5] from rfl]
  simp only [pure_bind,za5,zcX,bind_assoc]
  rw [c1]
  generalize hx5:D.lst ((List.range m.toNat).map λ(x:Nat)=>D.int (if o.1.any (· == (x:Int))=true then 1 else 0))=d5
  simp only [pure_bind,List.set,zgn,ziq,zd0,zcZ,zde,zaR,zaE,bind_assoc,zal,zbd e,zan]
  have c2:=zmB (j:=k) (k:=os.length) ⋯ (fi:=zei (zac (zae 2) zar)) (src:=[none,some 3]) (sd:=[some (za7 m os),some (.cel a),some (.int (os.length:Int)),some (.int (k:Int)),some (zbZ o),some d5]) (by
    ac_nf0
    rw [zhj ⋯]) rfl
  simp only [zbZ,tI] at c2
  ac_nf0
  rw [c2, <-hx5]
  ac_nf0
  rw [zaL (by simp;omega)]
  ac_nf0
  rw [zaL (by simp;omega)]
  ac_nf0
  simp only [zal,zbd e,zan]
  rw [zaL (by simp;simp at hl;omega)]
  ac_nf0
  simp only [zen]
  have hrow:=zsE (os:=os) (k:=m.toNat) hkn
  rw [ho] at hrow
  rw [<- hrow]
  refine ih (λj hj=>hk j (qan _ hj)) (by rw [qai ha]) (by simp at hl ⊢; omega) λy3 y4 y5=> ?_
  rw [List.set_set]
  have:=p y3 y4 y5
  rw [qaM] at this
  simpa using this
theorem znc (s:Stk m os):Ev (F_21 [za7 m os]) (zbC (os.length+1) (m.toNat+os.length+1) (lpA m.toNat os)):=by
 refine Ev.of_wp λh=> ?_
 have m0:=s.m0
 have m1:=s.m1
 have ml:=s.len
 rw [d_21]
 simp only [G_21]
 have en:ztL (cOp dIx (zae 0) (cK (.int 1))) [some (za7 m os),some (.cel h.length),some (.int (os.length:Int)),none,none,none]=pure ((List.range os.length).map λ(i:Nat)=>D.tup [.int (i:Int),zbZ (os.getD i ([],0))]):=by
  unfold ztL
  ac_nf0
  rw [ziN]
  show (pure (zg0 (os.map zbZ)):M (List D))=_
  unfold zg0
  rw [qaH]
  congr 1
  refine map_congr_left λk hk=> ?_
  have hk:=mem_range.mp hk
  rw [show (os.map zbZ).getD k .non=zbZ (os.getD k ([],0)) by simp [List.getD,hk]]
  rfl
 ac_nf0
 rw [ziN]
 ac_nf0
 rw [en]
 refine zan.mpr ?_
 have e0:(h++[C.lst []])[h.length]? = some (.lst []):=by simp
 refine zgc s (List.range os.length) [] (λk hk=>mem_range.mp hk) e0 (by simp;omega) λy3 y4 y5=> ?_
 rw [nil_append]
 have e1:((h++[C.lst []]).set h.length (.lst ((List.range os.length).map λi=>zcd (m.toNat+os.length+1) (lpA m.toNat os i))))[h.length]? = some (.lst ((List.range os.length).map λi=>zcd (m.toNat+os.length+1) (lpA m.toNat os i))):=qai (by simp)
 have e2:zdV (.lst (replicate m.toNat (.int (-1)))) (.lst (replicate (os.length+1) (.int 0)))=pure (zcd (m.toNat+os.length+1) (lpA m.toNat os os.length)):=by
  rw [zlD,zaL (by simp;omega),zph]
  rfl
 have e3:zhX (.lst [.int (-1)]) (.int m)=pure (.lst (replicate m.toNat (.int (-1)))):=by
  have:=zhs (.int (-1)) (n:=m.toNat) ⋯
  rw [show ((m.toNat:Nat):Int)=m by omega] at this
  exact this
 have e4:zhX (.lst [.int 0]) (.int ((os.length:Int)+1))=pure (.lst (replicate (os.length+1) (.int 0))):=zhs (.int 0) (n:=os.length+1) ⋯
 generalize hH:(h++[C.lst []]).set h.length (.lst ((List.range os.length).map λi=>zcd (m.toNat+os.length+1) (lpA m.toNat os i)))=H at e1 ⊢
 have hk:Kp h.length h H:=by
  rw [<- hH]
  refine ⟨by simp,λk hk=> ?_⟩
  rw [qao ⋯,qad hk]
 simp only [zgn,za5,ziq,zd0,zcZ,zde,zaR,zaE,pure_bind,bind_assoc,zal,zbd e1,zan]
 ac_nf0
 rw [zl7]
 ac_nf0
 rw [e3]
 ac_nf0
 rw [e4]
 simp only [pure_bind,zal,zan]
 rw [e2]
 simp only [pure_bind,zal,zan,zbd e1]
 rw [zaL (by simp;omega)]
 ac_nf0
 simp only [zen]
 have hl:=(qac.mp e1).1
 refine zoo (qai hl) ?_
 refine ⟨?_,Kp.gro ⟨by rw [qaI,qaI];exact hk.1,λk hkk=> ?_⟩⟩
 ·unfold zbC
  rw [range_succ,map_append]
  rfl
 ·rw [qao ⋯,qao ⋯]
  exact hk.2 k hkk
theorem zqw (s:Stk m os) (hf:zkh m os=true):SX.LP os.length m.toNat (lpA m.toNat os) where
 nn:=λi hi t ht=>by
  unfold lpA
  rw [qa4 hi,qa4 ht]
  split<;>decide
 sl:=λi hi j hj=>by
  unfold lpA
  rw [qa4 hi,qa5 ⋯,qa4 ⋯]
  by_cases h:i=j
  ·rw [qa4 ⋯,qa4 h]
  ·rw [qa5 ⋯,qa5 h]
 g1:=λt ht=>by
  unfold lpA
  rw [qa5 (qaN _),qa4 ht]
 g0:=λj hj=>by
  unfold lpA
  rw [qa5 (qaN _),qa5 ⋯]
 gq:=by
  unfold lpA
  rw [qa5 (qaN _),qa5 ⋯]
 ful:=λt ht=>by
  have m0:=s.m0
  obtain ⟨o,ho,hto⟩:=(zh3 s).mp hf (t:Int) ⋯ ⋯
  obtain ⟨i,hi,e⟩:=List.getElem_of_mem ho
  refine ⟨i,hi,?_⟩
  unfold lpA
  rw [qa4 hi,qa4 ht]
  have:os.getD i ([],0)=o:=by simp [List.getD,hi,e]
  rw [this,qa4 (zcF.mpr hto)]
  decide
 rhs:=λi hi=>by
  unfold lpA
  rw [qa4 hi,qa5 ⋯,qa5 ⋯]
  have:os.getD i ([],0)=os[i]:=by simp [List.getD,hi]
  rw [this]
  have:=s.pos os[i] (getElem_mem hi)
  omega
def nxt (n q:Nat) (s:SX.St):SX.St:=match ent n q s.T with
 | none=>s
 | some c=>match lv n s.bs s.T q c with
  | none=>s
  | some pl=>⟨SX.nb s.bs pl c,SX.piv s.T s.d pl c,s.T pl c⟩
def sts (n q:Nat) (s:SX.St):Nat->SX.St
 | 0=>s
 | i+1=>nxt n q (sts n q s i)
structure Iv (n m:Nat) (A:Nat->Nat->Int) (s:SX.St):Prop where
 tb:SX.Tb n (m+n+1) A s.bs s.T s.d
 vr: ∀ k,k<n->s.bs k<m+n
 fe: ∀ k,k<n->0<=s.T k (m+n)
theorem Iv.go {n k:Nat} {A:Nat->Nat->Int} (p:SX.LP n k A) {s:SX.St} (v:Iv n k A s) {c:Nat} (he:ent n (k+n) s.T=some c): ∃ pl,lv n s.bs s.T (k+n) c=some pl/\SX.Stp n (k+n) s.bs s.T c pl/\nxt n (k+n) s=⟨SX.nb s.bs pl c,SX.piv s.T s.d pl c,s.T pl c⟩/\Iv n k A (nxt n (k+n) s):=by
 have hc:c<k+n/\s.T n c<0:=by
  refine ⟨mem_range.mp (List.mem_of_find?_eq_some he),?_⟩
  simpa using List.find?_some he
 obtain ⟨pl,e,st⟩:=zsG (bs:=s.bs) he (p.ray v.tb v.vr hc.1 hc.2)
 have en:nxt n (k+n) s=⟨SX.nb s.bs pl c,SX.piv s.T s.d pl c,s.T pl c⟩:=by
  unfold nxt
  rw [he]
  simp only
  rw [e]
 refine ⟨pl,e,st,en,?_⟩
 rw [en]
 refine ⟨v.tb.pivot st.p1 ⋯ st.p2,λj hj=> ?_,SX.zvS v.tb v.fe st⟩
 show SX.nb s.bs pl c j<k+n
 unfold SX.nb
 split
 ·exact hc.1
 ·exact v.vr j hj
theorem Iv.nxt_ {n k:Nat} {A:Nat->Nat->Int} (p:SX.LP n k A) {s:SX.St} (v:Iv n k A s):Iv n k A (nxt n (k+n) s):=by
 cases he:ent n (k+n) s.T with
 | none=>unfold nxt;rw [he];exact v
 | some c=>obtain ⟨_,_,_,_,h⟩:=v.go p he;exact h
theorem Iv.all {n k:Nat} {A:Nat->Nat->Int} (p:SX.LP n k A) {s:SX.St} (v:Iv n k A s): ∀ i,Iv n k A (sts n (k+n) s i)
 | 0=>v
 | i+1=>(Iv.all p v i).nxt_ p
theorem Iv.ends {n k:Nat} {A:Nat->Nat->Int} (p:SX.LP n k A) {s:SX.St} (v:Iv n k A s): ∃ L,L<=(k+n)^n/\ent n (k+n) (sts n (k+n) s L).T=none/\ ∀ i,i<L-> ∃ c,ent n (k+n) (sts n (k+n) s i).T=some c:=by
 have key: ∀ N:Nat,(∀ i,i<N-> ∃ c,ent n (k+n) (sts n (k+n) s i).T=some c)\/ ∃ L,L<N/\ent n (k+n) (sts n (k+n) s L).T=none/\ ∀ i,i<L-> ∃ c,ent n (k+n) (sts n (k+n) s i).T=some c:=by
  intro N
  induction N with
  | zero=>exact .inl λi hi=>by omega
  | succ N ih=>
   rcases ih with h | ⟨L,h1,h2⟩
   ·cases e:ent n (k+n) (sts n (k+n) s N).T with
    | none=>exact .inr ⟨N,⋯,e,h⟩
    | some c=>
     refine .inl λi hi=> ?_
     by_cases hiN:i=N
     ·subst hiN;exact ⟨c,e⟩
     ·exact h i ⋯
   ·exact .inr ⟨L,⋯,h2⟩
 rcases key ((k+n)^n+1) with h | ⟨L,h1,h2⟩
 ·exfalso
  have r:SX.Run n (k+n) A ((k+n)^n) (sts n (k+n) s) (λi=>(ent n (k+n) (sts n (k+n) s i).T).getD 0) (λi=>(lv n (sts n (k+n) s i).bs (sts n (k+n) s i).T (k+n) ((ent n (k+n) (sts n (k+n) s i).T).getD 0)).getD 0):=by
   refine ⟨λi _=>(Iv.all p v i).tb,λi _=>(Iv.all p v i).vr,λi _=>(Iv.all p v i).fe,λi hi=> ?_,λi hi=> ?_⟩
   ·obtain ⟨c,e⟩:=h i ⋯
    obtain ⟨pl,e1,st,_⟩:=(Iv.all p v i).go p e
    rw [e,Option.getD_some,e1]
    exact st
   ·obtain ⟨c,e⟩:=h i ⋯
    obtain ⟨pl,e1,st,e2,_⟩:=(Iv.all p v i).go p e
    have e3:sts n (k+n) s (i+1)=nxt n (k+n) (sts n (k+n) s i):=rfl
    rw [e,Option.getD_some,e1,e3,e2]
    exact ⟨rfl,λ_ _ _ _=>rfl,rfl⟩
  exact absurd r.short (qaN _)
 ·exact ⟨L,⋯,h2⟩
theorem zkk {n q K:Nat} {A:Nat->Nat->Int} (h: ∀ i,i<n->(A i q).natAbs<=K) (i:Nat):(SX.col n A q i).natAbs<=K:=by
 unfold SX.col
 split
 ·rename_i hi;exact h i hi
 ·exact zero_le _
theorem Iv.d_le {n k:Nat} {A:Nat->Nat->Int} {s:SX.St} (v:Iv n k A s) (h1: ∀ i,i<n-> ∀ x,x<k+n->(A i x).natAbs<=1):s.d.natAbs<=SX.wb 1 n:=by
 rw [<- v.tb.det]
 refine SX.zoS n _ SX.zbR λw hw i=> ?_
 obtain ⟨j,hj,rfl⟩:=qaU.mp hw
 exact zkk (λi hi=>h1 i hi _ (v.vr j (mem_range.mp hj))) i
theorem Iv.t_le {n k K:Nat} {A:Nat->Nat->Int} {s:SX.St} (v:Iv n k A s) (h1: ∀ i,i<n-> ∀ x,x<k+n+1->(A i x).natAbs<=K) {j x:Nat} (hj:j<n) (hx:x<k+n+1):(s.T j x).natAbs<=SX.wb K n:=by
 rw [<- v.tb.ent hj hx]
 refine SX.zoS n _ (by rw [qaI,SX.zbR]) λw hw i=> ?_
 rcases List.mem_or_eq_of_mem_set hw with hw | hw
 ·obtain ⟨j,hj,rfl⟩:=qaU.mp hw
  exact zkk (λi hi=>h1 i hi _ (by have:=v.vr j (mem_range.mp hj);omega)) i
 ·rw [hw]
  exact zkk (λi hi=>h1 i hi _ hx) i
theorem zkm {f:Nat->Int} {B:Nat}: ∀ {n:Nat},(∀ i,i<n->(f i).natAbs<=B)->(SX.sm n f).natAbs<=n*B
 | 0,_=>by simp [SX.sm]
 | n+1,h=>by
  have h1:=zkm (n:=n) λi hi=>h i ⋯
  have h2:=h n ⋯
  have h3:=Int.natAbs_add_le (SX.sm n f) (f n)
  rw [SX.sm,add_mul,one_mul]
  omega
theorem ztZ: ∀ n,n<=12->SX.wb 1 n<=2^29/\SX.wb (2^70) n<=2^880:=by
 have:((List.range 13).all λn=>decide (SX.wb 1 n<=2^29) && decide (SX.wb (2^70) n<=2^880))=true:=by decide +kernel
 intro n hn
 have:=all_eq_true.mp this n (mem_range.mpr ⋯)
 rw [qaG,qaD,qaD] at this
 exact this
theorem zvx (k:Nat): ∀ i,i<os.length-> ∀ x,x<k+os.length->(lpA k os i x).natAbs<=1:=λi hi x hx=>by
 unfold lpA
 rw [qa4 hi]
 split
 ·split<;>decide
 ·split<;>decide
theorem zuK (hp: ∀ o∈os,o.2.natAbs<=2^70) (k:Nat): ∀ i,i<os.length-> ∀ x,x<k+os.length+1->(lpA k os i x).natAbs<=2^70:=λi hi x hx=>by
 by_cases h:x<k+os.length
 ·exact qaS (zvx k i hi x h) (by decide)
 ·unfold lpA
  rw [qa4 hi,qa5 ⋯,qa5 h]
  have:os.getD i ([],0)=os[i]:=by simp [List.getD,hi]
  rw [this]
  exact hp _ (getElem_mem hi)
theorem Iv.big {k:Nat} {s:SX.St} (hl:os.length<=12) (hp: ∀ o∈os,o.2.natAbs<=2^70) (v:Iv os.length k (lpA k os) s):s.d.natAbs<=2^29/\(∀ j,j<os.length+1-> ∀ x,x<k+os.length+1->(s.T j x).natAbs<=2^900):=by
 obtain ⟨w1,w2⟩:=ztZ os.length hl
 have hd:=qaS (v.d_le (zvx k)) w1
 refine ⟨hd,λj hj x hx=> ?_⟩
 have ht: ∀ j,j<os.length->(s.T j x).natAbs<=2^880:=λj hj=>qaS (v.t_le (zuK hp k) hj hx) w2
 by_cases h:j<os.length
 ·exact qaS (ht j h) (pow_le_pow_right (by decide) (by decide))
 ·have e:j=os.length:=by omega
  subst e
  have hg:=v.tb.goal x hx
  have ha: ∀ y,(lpA k os os.length y).natAbs<=1:=λy=>by
   unfold lpA
   rw [qa5 (qaN _)]
   split<;>decide
  have h1:(SX.sm os.length λj=>s.T j x*lpA k os os.length (s.bs j)).natAbs<=os.length*2^880:=zkm λj hj=>by
   rw [natAbs_mul]
   have:=mul_le_mul (ht j hj) (ha (s.bs j))
   rwa [Nat.mul_one] at this
  have h2:(s.d*lpA k os os.length x).natAbs<=2^29:=by
   rw [natAbs_mul]
   have:=mul_le_mul hd (ha x)
   rwa [Nat.mul_one] at this
  have h3:s.T os.length x=s.d*lpA k os os.length x - SX.sm os.length λj=>s.T j x*lpA k os os.length (s.bs j):=by omega
  have h4:os.length*2^880<=12*2^880:=mul_le_mul_right _ hl
  have h5:12*2^880+2^29<=2^900:=by decide +kernel
  have h6:=qaS h1 h4
  clear h1 h4 ht hg
  rw [h3]
  generalize (SX.sm os.length λj=>s.T j x*lpA k os os.length (s.bs j))=Y at h6 ⊢
  generalize s.d*lpA k os os.length x=X at h2 ⊢
  generalize (2:Nat)^880=E at h6 h5
  generalize (2:Nat)^900=Z at h5 ⊢
  generalize (2:Nat)^29=F at h2 h5
  omega
def ze5 (n:Nat) (bs:Nat->Nat):List D:=(List.range n).map λk=>D.int (bs k:Int)
theorem zpv {n:Nat} {bs:Nat->Nat} {pl c:Nat} (h:pl<n):(ze5 n bs).set pl (.int (c:Int))=ze5 n (SX.nb bs pl c):=by
 unfold ze5
 refine List.ext_getElem? λj=> ?_
 by_cases hj:pl=j
 ·subst hj
  rw [qai (by simpa using h)]
  simp [h,SX.nb]
 ·rw [qao hj,List.getElem?_map,List.getElem?_map]
  by_cases hn:j<n
  ·rw [List.getElem?_range hn,Option.map_some,Option.map_some]
   unfold SX.nb
   rw [qa5 λz=>hj z.symm]
  ·rw [List.getElem?_eq_none (by simp;omega)]
   rfl
theorem zju {k:Nat} (hl:os.length<=12) (hk:k<=10) (hp: ∀ o∈os,o.2.natAbs<=2^70) (p:SX.LP os.length k (lpA k os)) {s0:SX.St} (v:Iv os.length k (lpA k os) s0) {b L:Nat} {x0:Option D}
  (hL:ent os.length (k+os.length) (sts os.length (k+os.length) s0 L).T=none) (hi: ∀ i,i<L-> ∃ c,ent os.length (k+os.length) (sts os.length (k+os.length) s0 i).T=some c): ∀ (j i fuel:Nat) {h:Hh} {x5:Option D} {P:Out->Hh->Prop},i+j=L->j<fuel->h[b]? = some (.lst (ze5 os.length (sts os.length (k+os.length) s0 i).bs))->
   (∀ y5,P (.nx [x0,some (zbC (os.length+1) (k+os.length+1) (sts os.length (k+os.length) s0 L).T),some (.cel b),some (.int (sts os.length (k+os.length) s0 L).d),some .non,y5]) (h.set b (.lst (ze5 os.length (sts os.length (k+os.length) s0 L).bs))))->
   wp (zbJ zca zcH fuel [x0,some (zbC (os.length+1) (k+os.length+1) (sts os.length (k+os.length) s0 i).T),some (.cel b),some (.int (sts os.length (k+os.length) s0 i).d),some (zmo (ent os.length (k+os.length) (sts os.length (k+os.length) s0 i).T)),x5]) h P
 | 0,i,fuel,h,x5,P,hij,hf,e,q=>by
  obtain ⟨f,rfl⟩: ∃ f,fuel=f+1:=⟨fuel - 1,⋯⟩
  have hiL:i=L:=by omega
  subst hiL
  rw [zdh,hL]
  have hs:h.set b (.lst (ze5 os.length (sts os.length (k+os.length) s0 i).bs))=h:=by
   obtain ⟨h1,h2⟩:=qac.mp e
   rw [<- h2]
   exact List.set_getElem_self h1
  rw [hs] at q
  simp only [zca]
  rw [show zmo none= .non from rfl]
  ac_nf0
  rw [show zin .non .non=pure (.bl false) from rfl]
  ac_nf0
  exact q x5
 | j+1,i,fuel,h,x5,P,hij,hf,e,q=>by
  obtain ⟨f,rfl⟩: ∃ f,fuel=f+1:=⟨fuel - 1,⋯⟩
  obtain ⟨c,ec⟩:=hi i ⋯
  have iv:=Iv.all p v i
  obtain ⟨pl,e1,st,e2,_⟩:=iv.go p ec
  have e3:sts os.length (k+os.length) s0 (i+1)=nxt os.length (k+os.length) (sts os.length (k+os.length) s0 i):=rfl
  obtain ⟨z1,z2⟩:=iv.big hl hp
  have ih:= @zju k hl hk hp p s0 v b L x0 hL hi j (i+1) f
  rw [e3,e2] at ih
  generalize hs:sts os.length (k+os.length) s0 i=s at*
  have hb:b<h.length:=(qac.mp e).1
  have zm:Sm os.length (k+os.length) s.T:=λj hj x hx=>zax (n:=900) (by decide) (z2 j hj x hx)
  have zd:s.d.natAbs<2^6000:=zax (n:=29) (by decide) z1
  have hc:=st.c1
  have pv:=znG zm ⋯ ⋯ st.p1 hc iv.tb.dp zd
  have en:=zjx (n:=os.length) (q:=k+os.length) (T:=SX.piv s.T s.d pl c) ⋯
  obtain ⟨i1,i2,_⟩:=ix2 (n:=os.length) (q:=k+os.length) (T:=SX.piv s.T s.d pl c) (k:=pl) (x:=c) (by have:=st.p1;omega) ⋯
  have i3:SX.piv s.T s.d pl c pl c=s.T pl c:=by unfold SX.piv;rw [qa4 rfl]
  rw [i3] at i2
  rw [zdh,ec]
  generalize zbJ zca zcH f=zbz at ih ⊢
  simp only [zca,zcH]
  rw [show zmo (some c)= .int (c:Int) from rfl]
  ac_nf0
  rw [show zin (.int (c:Int)) .non=pure (.bl true) from rfl]
  ac_nf0
  refine znC zm hc ⋯ e ?_
  rw [e1,show zmo (some pl)= .int (pl:Int) from rfl,pv]
  ac_nf0
  rw [i1]
  ac_nf0
  rw [i2]
  ac_nf0
  simp only [zgN,zjg,zaR,zaE,pure_bind,bind_assoc,zal,zbd e]
  rw [show ixN (ze5 os.length s.bs).length (pl:Int)=some pl by
    unfold ixN ze5
    rw [qa4 ⋯,qa4 (by have:=st.p1;simp;omega)]
    simp]
  ac_nf0
  simp only [zen]
  rw [zpv st.p1,en]
  ac_nf0
  refine ih ⋯ ⋯ (qai hb) λy5=> ?_
  rw [List.set_set]
  exact q y5
theorem zn5 {n q:Nat} {bs:Nat->Nat} {T:Nat->Nat->Int} {t:Nat}: ∀ {j:Nat},(∀ a b,a<j->b<j->bs a=bs b->a=b)->(atK (zhe ((List.range j).map λk=>((bs k:Int),D.int (T k q)))) (t:Int)).getD (.int 0)= .int (SX.yv j q bs T t)
 | 0,_=>rfl
 | j+1,hinj=>by
  have ih:=zn5 (n:=n) (q:=q) (bs:=bs) (T:=T) (t:=t) (j:=j) λa b ha hb=>hinj a b ⋯ ⋯
  have e:SX.yv (j+1) q bs T t=SX.yv j q bs T t+(if bs j=t then T j q else 0):=rfl
  rw [range_succ,map_append,e]
  unfold zhe at ih ⊢
  rw [List.foldl_append,List.map_singleton,foldl_cons,foldl_nil,zp0]
  by_cases h:bs j=t
  ·rw [qa4 (by simp [h]),qa4 h]
   have:SX.yv j q bs T t=0:=by
    unfold SX.yv
    refine Eq.trans (SX.zay (g:=λ_=>0) λk hk=> ?_) (SX.zcD j)
    rw [qa5 λz=>absurd (hinj k j ⋯ ⋯ (z.trans h.symm)) ⋯]
   rw [this,zero_add]
   rfl
  ·rw [qa5 (by simp;omega),qa5 h,Int.add_zero]
   exact ih
def zey (k n:Nat) (s:SX.St):List Rat:=(List.range k).map λt=>mkRat (SX.yv n (k+n) s.bs s.T t) s.d.toNat
def zeJ (k n:Nat) (s:SX.St):List Rat:=(List.range n).map λj=>mkRat (s.T n (k+j)) s.d.toNat
theorem zoL {a d:Int} (d0:0<d) (d1:d.natAbs<=2^29):F_3 [.int a,.int d]=pure (qD (mkRat a d.toNat)):=by
 have:=zgi (a:=a) (b:=d.toNat) ⋯ (qaw (show d.toNat<2^30 by omega) (zfV (by decide)))
 rw [show ((d.toNat:Nat):Int)=d by omega] at this
 exact this
theorem znb {m0:Int} (hm:0<=m0) (hm2:m0<=10) (hl:os.length<=12) (hp: ∀ o∈os,o.2.natAbs<=2^70) {s:SX.St} (v:Iv os.length m0.toNat (lpA m0.toNat os) s):
  Ev (F_27 [za7 m0 os,zbC (os.length+1) (m0.toNat+os.length+1) s.T,.lst (ze5 os.length s.bs),.int s.d]) (.tup ((zey m0.toNat os.length s).map qD)):=by
 refine Ev.of_wp λh=> ?_
 have z1:=(v.big hl hp).1
 rw [d_27]
 simp only [G_27]
 have c1:=zaY (g':=λ(k:Nat)=>D.tup [.int k,.int (s.bs k:Int)]) (fi:=zh9 (zae 2)) (g:=zbn 2 (zat (zaC 0) (zat (zaC 1) zbp))) (tc:=λ_=>pure true) (te:=zcm) (src:=[none,none,some 1]) (sd:=[some (za7 m0 os),some (zbC (os.length+1) (m0.toNat+os.length+1) s.T),some (.lst (ze5 os.length s.bs)),some (.int s.d),none]) (xs:=List.range os.length)
  (k:=λk=>some (.tup [.int (s.bs k:Int),.int (s.T k (m0.toNat+os.length))])) (by
    rw [zlX]
    ac_nf0
    unfold ze5
    rw [zlY]) (by rw [length_range];omega) λk hk=>by
   have hk:=mem_range.mp hk
   obtain ⟨i1,_,i3⟩:=ix2 (n:=os.length) (q:=m0.toNat+os.length) (T:=s.T) (k:=k) (x:=0) ⋯ ⋯
   simp only [zaZ,zcm]
   rw [show zap [none,none,some 1] [some (za7 m0 os),some (zbC (os.length+1) (m0.toNat+os.length+1) s.T),some (.lst (ze5 os.length s.bs)),some (.int s.d),none]=[none,none,some (zbC (os.length+1) (m0.toNat+os.length+1) s.T)] from rfl]
   ac_nf0
   rw [i1]
   ac_nf0
   rw [i3]
   ac_nf0
 rw [filterMap_eq_map'] at c1
 ac_nf0
 rw [c1]
 ac_nf0
 have ed:zp3 [.lst ((List.range os.length).map λk=> .tup [.int (s.bs k:Int),.int (s.T k (m0.toNat+os.length))])]=ziB (zhe ((List.range os.length).map λk=>((s.bs k:Int),D.int (s.T k (m0.toNat+os.length))))):=by
  show (do let ps<-ofO (prs _);ziB (zhe ps):M D)=_
  rw [zl2 (f:=λk=>((s.bs k:Int),D.int (s.T k (m0.toNat+os.length))))]
  rfl
 rw [ed]
 refine zks ?_
 generalize hkv:zhe ((List.range os.length).map λk=>((s.bs k:Int),D.int (s.T k (m0.toNat+os.length))))=kvs
 have e0:(h++[C.dic kvs])[h.length]? = some (.dic kvs):=by simp
 unfold zaH
 ac_nf0
 rw [zl7]
 ac_nf0
 rw [show zir [.int m0]=pure ((List.range m0.toNat).map λ(k:Nat)=>D.int (k:Int)) by
   have:=zhj (n:=m0.toNat) ⋯
   rw [show ((m0.toNat:Nat):Int)=m0 by omega] at this
   exact this]
 ac_nf0
 rw [length_range,zaL ⋯]
 rw [show zap [none,some 4,some 3] [some (za7 m0 os),some (zbC (os.length+1) (m0.toNat+os.length+1) s.T),some (.lst (ze5 os.length s.bs)),some (.int s.d),some (.cel h.length)]=[none,some (.cel h.length),some (.int s.d)] from rfl]
 ac_nf0
 refine zpi (g':=λ(x:Nat)=>D.int (x:Int)) (k:=λt=>some (qD (mkRat (SX.yv os.length (m0.toNat+os.length) s.bs s.T t) s.d.toNat))) (λt ht=> ?_) ?_
 ·have eg:=zn5 (n:=os.length) (q:=m0.toNat+os.length) (bs:=s.bs) (T:=s.T) (t:=t) (j:=os.length) λa b ha hb e=>v.tb.inj ha hb e
  rw [hkv] at eg
  simp only [zaZ,zdj]
  ac_nf0
  simp only [zqv]
  ac_nf0
  refine zlq e0 ?_
  ac_nf0
  refine ztm e0 ?_
  rw [eg]
  ac_nf0
  rw [zoL v.tb.dp z1]
  ac_nf0
  exact ⟨trivial,trivial⟩
 ·ac_nf0
  rw [filterMap_eq_map']
  unfold zey
  rw [qaT]
  first | exact ⟨rfl,⟨_,rfl⟩⟩ | exact ⟨⟨_,rfl⟩,rfl⟩
theorem zmy {m0:Int} (hm:0<=m0) (hm2:m0<=10) (hl:os.length<=12) (hp: ∀ o∈os,o.2.natAbs<=2^70) {s:SX.St} (v:Iv os.length m0.toNat (lpA m0.toNat os) s):
  F_28 [za7 m0 os,zbC (os.length+1) (m0.toNat+os.length+1) s.T,.int s.d]=pure (.tup ((zeJ m0.toNat os.length s).map qD)):=by
 have z1:=(v.big hl hp).1
 have i0:dIx (zbC (os.length+1) (m0.toNat+os.length+1) s.T) (.int (-1))=pure (zcd (m0.toNat+os.length+1) (s.T os.length)):=by
  unfold zbC
  rw [zfg,ziw (f:=λj=>zcd (m0.toNat+os.length+1) (s.T j))]
  rfl
 have c1:=zaY (g':=λ(k:Nat)=>D.int (k:Int)) (fi:=zei (zac (zaB zdG (zac (cOp dIx (zae 0) (cK (.int 1))) zar)) zar)) (g:=zaC 0) (tc:=λ_=>pure true) (te:=zcl) (src:=[none,some 1,some 0,some 2]) (sd:=[some (za7 m0 os),some (zbC (os.length+1) (m0.toNat+os.length+1) s.T),some (.int s.d)]) (xs:=List.range os.length)
  (k:=λj=>some (qD (mkRat (s.T os.length (m0.toNat+j)) s.d.toNat))) (by
    ac_nf0
    rw [ziN]
    ac_nf0
    rw [zhj ⋯]) (by rw [length_range];omega) λj hj=>by
   have hj:=mem_range.mp hj
   obtain ⟨_,i2,_⟩:=ix2 (n:=os.length) (q:=m0.toNat+os.length) (T:=s.T) (k:=os.length) (x:=m0.toNat+j) ⋯ ⋯
   rw [show ((m0.toNat+j:Nat):Int)=m0+(j:Int) by omega] at i2
   simp only [zaZ,zcl]
   rw [show zap [none,some 1,some 0,some 2] [some (za7 m0 os),some (zbC (os.length+1) (m0.toNat+os.length+1) s.T),some (.int s.d)]=[none,some (zbC (os.length+1) (m0.toNat+os.length+1) s.T),some (za7 m0 os),some (.int s.d)] from rfl]
   ac_nf0
   rw [i0]
   ac_nf0
   rw [zl7]
   ac_nf0
   rw [i2]
   ac_nf0
   rw [zoL v.tb.dp z1]
   ac_nf0
 rw [filterMap_eq_map'] at c1
 rw [d_28]
 simp only [G_28]
 ac_nf0
 rw [c1]
 ac_nf0
 unfold zeJ
 rw [qaT]
 rfl
theorem zor (a:Int):mkRat a 1=(a:Rat):=by
 have:=mkRat_self (a:Rat)
 exact this
theorem zqq (a b:Int) {n:Nat} (hn:n≠0):mkRat a n+mkRat b n=mkRat (a+b) n:=by
 have e:=Rat.mkRat_add_mkRat a b hn hn
 rw [e, <-Int.add_mul,Rat.mkRat_mul_right hn]
theorem zgv (N:Int) {d:Nat} (hd:0<d): ∃ g:Nat,0<g/\N=(mkRat N d).num*(g:Int)/\(d:Int)=((mkRat N d).den:Int)*(g:Int):=by
 refine ⟨gcd d N.natAbs,Nat.gcd_pos_of_pos_left _ hd,?_,?_⟩
 ·rw [num_mkRat,qa5 ⋯]
  exact (Int.ediv_mul_cancel (Int.ofNat_dvd_left.mpr (Nat.gcd_dvd_right _ _))).symm
 ·rw [Rat.den_mkRat,qa5 ⋯]
  have:=Nat.div_mul_cancel (Nat.gcd_dvd_left d N.natAbs)
  exact_mod_cast this.symm
theorem zuk {N p:Int} {d:Nat} (hd:0<d) (h:N<=(d:Int)*p): ¬p*((mkRat N d).den:Int)<(mkRat N d).num:=by
 obtain ⟨g,g0,e1,e2⟩:=zgv N hd
 intro z
 have:=Int.mul_lt_mul_of_pos_right z (show (0:Int)<(g:Int) by omega)
 rw [mul_assoc, <-e1, <-e2,mul_comm p] at this
 omega
theorem zuL {N:Int} {d:Nat} (hd:0<d) (h:(d:Int)<=N): ¬(mkRat N d).num<((mkRat N d).den:Int):=by
 obtain ⟨g,g0,e1,e2⟩:=zgv N hd
 intro z
 have:=Int.mul_lt_mul_of_pos_right z (show (0:Int)<(g:Int) by omega)
 rw [<- e1, <-e2] at this
 omega
theorem zrW {N:Int} {d:Nat} (hd:0<d) (h:0<=N):0<=mkRat N d:=by
 rw [<- num_nonneg]
 obtain ⟨g,g0,e1,e2⟩:=zgv N hd
 rcases lt_or_le (mkRat N d).num 0 with z | z
 ·have:=Int.mul_neg_of_neg_of_pos z (show (0:Int)<(g:Int) by omega)
  omega
 ·exact z
theorem zpM (D:Nat): ∀ rs:List Rat,(∀ r∈rs,r.den<=D)->dp rs<=D^rs.length
 | [],_=>qaV _
 | r::rs,h=>by
  show r.den*dp rs<=D^(rs.length+1)
  rw [pow_succ,Nat.mul_comm (D^rs.length)]
  exact mul_le_mul (h r qau) (zpM D rs λx hx=>h x (qan _ hx))
def qm:Nat->(Nat->Rat)->Rat
 | 0,_=>0
 | n+1,f=>qm n f+f n
theorem zbf {f g:Nat->Rat}: ∀ {n:Nat},(∀ i,i<n->f i=g i)->qm n f=qm n g
 | 0,_=>rfl
 | n+1,h=>by rw [qm,qm,zbf (n:=n) λi hi=>h i ⋯,h n ⋯]
theorem zdR (a b:Rat) (f g:Nat->Rat): ∀ n,qm n (λi=>a*f i+b*g i)=a*qm n f+b*qm n g
 | 0=>by simp only [qm];grind
 | n+1=>by rw [qm,qm,qm,zdR a b f g n];grind
theorem zmT {f:Nat->Rat}: ∀ {n:Nat},(∀ i,i<n->0<=f i)->0<=qm n f
 | 0,_=>le_refl
 | n+1,h=>by
  have h1:=zmT (n:=n) λi hi=>h i ⋯
  have h2:=h n ⋯
  rw [qm]
  grind
theorem zt2 {f:Nat->Rat}: ∀ {n:Nat},(∀ i,i<n->0<=f i)->qm n f<=0-> ∀ i,i<n->f i=0
 | 0,_,_,i,hi=>by omega
 | n+1,h,e,i,hi=>by
  have h1:=zmT (n:=n) λi hi=>h i ⋯
  have h2:=h n ⋯
  rw [qm] at e
  by_cases hin:i=n
  ·subst hin
   grind
  ·exact zt2 (n:=n) (λi hi=>h i ⋯) (by grind) i ⋯
theorem zlk (f:Nat->Nat->Rat) (n:Nat): ∀ m:Nat,qm m (λj=>qm n λi=>f i j)=qm n λi=>qm m λj=>f i j
 | 0=>by
  have: ∀ n,qm n (λ_=>0)=0:=λn=>by
   induction n with
   | zero=>rfl
   | succ n ih=>rw [qm,ih,add_zero]
  exact (this n).symm
 | m+1=>by
  have:=zdR 1 1 (λi=>qm m λj=>f i j) (λi=>f i m) n
  rw [qm,zlk f n m]
  refine Eq.trans ?_ (Eq.trans this.symm (zbf λi _=>by simp only [qm];grind))
  grind
theorem ze9 (f:Nat->Rat): ∀ n,qm (n+1) f=f 0+qm n λi=>f (i+1)
 | 0=>by simp only [qm];grind
 | n+1=>by rw [qm,ze9 f n,qm];grind
theorem zmg {f:Nat->Int} {d:Nat} (hd:d≠0): ∀ n,qm n (λi=>mkRat (f i) d)=mkRat (SX.sm n f) d
 | 0=>(Rat.zero_mkRat d).symm
 | n+1=>by rw [qm,zmg hd n,zqq _ _ hd,SX.sm]
theorem zkH {f:Nat->Rat} {i:Nat}: ∀ {n:Nat},i<n->(qm n λx=>(if i=x then 1 else 0)*f x)=f i
 | 0,h=>by omega
 | n+1,h=>by
  rw [qm]
  by_cases e:i=n
  ·subst e
   have:qm i (λx=>(if i=x then 1 else 0)*f x)=qm i λ_=>0*f i+0*f i:=zbf λx hx=>by rw [qa5 ⋯];grind
   rw [this,zdR,qa4 rfl]
   grind
  ·rw [zkH (n:=n) ⋯,qa5 e]
   grind
theorem zv7 {k n:Nat} {c:Nat->Nat->Rat} {p r s:Nat->Rat}:qm k (λx=>r x*((qm n λi=>c i x*s i) - 1))+qm n (λi=>s i*(p i - qm k λx=>c i x*r x))=(qm n λi=>p i*s i) - qm k r:=by
 have e1:qm k (λx=>r x*((qm n λi=>c i x*s i) - 1))=qm k λx=>1*(qm n λi=>c i x*r x*s i)+(-1)*r x:=zbf λx _=>by
  have:=zdR (r x) 0 (λi=>c i x*s i) (λ_=>0) n
  have e:(qm n λi=>c i x*r x*s i)=qm n λi=>r x*(c i x*s i)+0*0:=zbf λi _=>by grind
  rw [e,this]
  grind
 have e2:qm n (λi=>s i*(p i - qm k λx=>c i x*r x))=qm n λi=>1*(p i*s i)+(-1)*(qm k λx=>c i x*r x*s i):=zbf λi _=>by
  have:=zdR (s i) 0 (λx=>c i x*r x) (λ_=>0) k
  have e:(qm k λx=>c i x*r x*s i)=qm k λx=>s i*(c i x*r x)+0*0:=zbf λx _=>by grind
  rw [e,this]
  grind
 rw [e1,e2,zdR,zdR,zlk (λi x=>c i x*r x*s i)]
 grind
theorem zvU {k n:Nat} {c:Nat->Nat->Rat} {p r s:Nat->Rat} (hr: ∀ x,x<k->0<=r x) (hs: ∀ i,i<n->0<=s i) (h1: ∀ i,i<n->(qm k λx=>c i x*r x)<=p i) (h2: ∀ x,x<k->1<=qm n λi=>c i x*s i):
  qm k r<=(qm n λi=>p i*s i)/\((qm n λi=>p i*s i)<=qm k r->(∀ i,i<n->0<s i->(qm k λx=>c i x*r x)=p i)/\ ∀ x,x<k->0<r x->(qm n λi=>c i x*s i)=1):=by
 have e:=zv7 (k:=k) (n:=n) (c:=c) (p:=p) (r:=r) (s:=s)
 have a1: ∀ x,x<k->0<=r x*((qm n λi=>c i x*s i) - 1):=λx hx=>Rat.mul_nonneg (hr x hx) (by have:=h2 x hx;grind)
 have a2: ∀ i,i<n->0<=s i*(p i - qm k λx=>c i x*r x):=λi hi=>Rat.mul_nonneg (hs i hi) (by have:=h1 i hi;grind)
 have b1:=zmT a1
 have b2:=zmT a2
 refine ⟨by grind,λhle=>⟨λi hi h0=> ?_,λx hx h0=> ?_⟩⟩
 ·have:=zt2 a2 (by grind) i hi
  rcases Rat.mul_eq_zero.mp this with z | z<;>grind
 ·have:=zt2 a1 (by grind) x hx
  rcases Rat.mul_eq_zero.mp this with z | z<;>grind
def ci (os:List (List Int×Int)) (i x:Nat):Rat:=if (os.getD i ([],0)).1.any (· == (x:Int))=true then 1 else 0
theorem zqc: ∀ rs:List Rat,qs rs=qm rs.length λx=>rs.getD x 0
 | []=>rfl
 | r::rs=>by rw [zcU,zqc rs,qaE,ze9];rfl
theorem zix {f:Nat->Rat} {k:Nat}: ∀ {ts:List Int},ts.Nodup->(∀ t∈ts,0<=t/\t<(k:Int))->qs (ts.map λt=>f t.toNat)=qm k λx=>(if ts.any (· == (x:Int))=true then 1 else 0)*f x
 | [],_,_=>by
  have:qm k (λx=>(if ([]:List Int).any (· == (x:Int))=true then 1 else 0)*f x)=qm k λx=>0*f x+0*f x:=zbf λx _=>by simp;grind
  rw [this,zdR]
  show (0:Rat)=_
  grind
 | t::ts,hn,hb=>by
  obtain ⟨h1,h2⟩:=nodup_cons.mp hn
  have ht:=hb t qau
  rw [qaM,zcU,zix (f:=f) h2 λx hx=>hb x (qan _ hx), <-zkH (n:=k) (f:=f) (i:=t.toNat) ⋯]
  have:=zdR 1 1 (λx=>(if t.toNat=x then 1 else 0)*f x) (λx=>(if ts.any (· == (x:Int))=true then 1 else 0)*f x) k
  rw [Rat.one_mul,Rat.one_mul] at this
  rw [<- this]
  refine zbf λx hx=> ?_
  rw [any_cons]
  by_cases hx2:t.toNat=x
  ·have e:t=(x:Int):=by omega
   have hno:ts.any (· == (x:Int))=false:=by
    rw [Bool.eq_false_iff]
    intro z
    exact h1 (e▸zcF.mp z)
   rw [hno,show (t==(x:Int))=true from beq_iff_eq.mpr e,qa4 hx2]
   simp only [Bool.true_or,if_true,qax,if_false]
   grind
  ·rw [show (t==(x:Int))=false from beq_eq_false_iff_ne.mpr ⋯,qa5 hx2,Bool.false_or]
   grind
theorem zjd (t:Nat): ∀ (os:List (List Int×Int)) (ss:List Rat),ss.length=os.length->qs (sl (t:Int) os ss)=qm os.length λi=>ci os i t*ss.getD i 0
 | [],ss,_=>rfl
 | o::os,[],h=>by simp at h
 | o::os,x::ss,h=>by
  have ih:=zjd t os ss (by simpa using h)
  rw [qaE,ze9]
  have e1:(qm os.length λi=>ci (o::os) (i+1) t*(x::ss).getD (i+1) 0)=qm os.length λi=>ci os i t*ss.getD i 0:=rfl
  have e0:ci (o::os) 0 t*(x::ss).getD 0 0=(if o.1.any (· == (t:Int))=true then 1 else 0)*x:=rfl
  rw [e1,e0, <-ih]
  unfold sl
  rw [List.zip_cons_cons,filter_cons]
  cases hh:o.1.any (· == (t:Int)) with
  | true=>
   simp only [if_true,qaM,zcU]
   grind
  | false=>
   simp only [qax,if_false]
   grind
theorem zmd (p y:Int) (d:Nat):(p:Rat)*mkRat y d=mkRat (p*y) d:=by
 have:=Rat.mkRat_mul_mkRat p y 1 d
 rw [one_mul] at this
 rw [<- this,zor]
theorem zjP: ∀ (os:List (List Int×Int)) (ss:List Rat),ss.length=os.length->qs ((pr os ss).map rq)=qm os.length λi=>((os.getD i ([],0)).2:Rat)*ss.getD i 0
 | [],ss,_=>rfl
 | o::os,[],h=>by simp at h
 | o::os,x::ss,h=>by
  have ih:=zjP os ss (by simpa using h)
  rw [qaE,ze9]
  have e1:(qm os.length λi=>(((o::os).getD (i+1) ([],0)).2:Rat)*(x::ss).getD (i+1) 0)=qm os.length λi=>((os.getD i ([],0)).2:Rat)*ss.getD i 0:=rfl
  have e0:(((o::os).getD 0 ([],0)).2:Rat)*(x::ss).getD 0 0=(o.2:Rat)*x:=rfl
  rw [e1,e0, <-ih]
  unfold pr
  rw [List.zip_cons_cons,qaM,qaM,zcU]
  congr 1
  show mkRat (o.2*x.num) x.den=_
  rw [<- zmd,mkRat_self]
structure Bg (m:Int) (os:List (List Int×Int)) (rs:List Rat):Prop where
 ln:rs.length=m.toNat
 nn: ∀ r∈rs,0<=r
 ok:os.all (bB rs)=true
structure Sg (m:Int) (os:List (List Int×Int)) (ss:List Rat):Prop where
 ln:ss.length=os.length
 nn: ∀ r∈ss,0<=r
 ok:(tsI m).all (sB os ss)=true
theorem zlK {rs:List Rat} (h: ∀ r∈rs,0<=r) (x:Nat):0<=rs.getD x 0:=by
 by_cases hx:x<rs.length
 ·rw [show rs.getD x 0=rs[x] by simp [List.getD,hx]]
  exact h _ (getElem_mem hx)
 ·rw [List.getD_eq_getElem?_getD,List.getElem?_eq_none ⋯]
  exact le_refl
theorem zpl (s:Stk m os) {rs:List Rat} (hl:rs.length=m.toNat) {i:Nat} (hi:i<os.length):qs (pk rs (os.getD i ([],0)).1)=qm m.toNat λx=>ci os i x*rs.getD x 0:=by
 have m0:=s.m0
 have ho:os.getD i ([],0)∈os:=by simp [List.getD,hi]
 exact zix (f:=λx=>rs.getD x 0) ((s.up _ ho).imp λh=>by omega) λt ht=>by have:=s.bd _ ho t ht;omega
theorem zry (os:List (List Int×Int)) (ss:List Rat) (t:Int):sB os ss t=true↔1<=qs (sl t os ss):=by
 unfold sB
 rw [Bool.not_eq_true',decide_eq_false_iff_not,Rat.le_iff]
 constructor
 ·intro h;show 1*_<=_*1;omega
 ·intro h;have h:1*((qs (sl t os ss)).den:Int)<=(qs (sl t os ss)).num*1:=h;omega
theorem zsq (s:Stk m os) {rs ss:List Rat} (b:Bg m os rs) (g:Sg m os ss):qs rs<=qs ((pr os ss).map rq)/\(qs ((pr os ss).map rq)<=qs rs->(∀ i,i<os.length->0<ss.getD i 0->qs (pk rs (os.getD i ([],0)).1)=((os.getD i ([],0)).2:Rat))/\ ∀ x,x<m.toNat->0<rs.getD x 0->qs (sl (x:Int) os ss)=1):=by
 have w:=zvU (k:=m.toNat) (n:=os.length) (c:=ci os) (p:=λi=>((os.getD i ([],0)).2:Rat)) (r:=λx=>rs.getD x 0) (s:=λi=>ss.getD i 0) (λx _=>zlK b.nn x) (λi _=>zlK g.nn i) (λi hi=>by
   rw [<- zpl s b.ln hi]
   have:=all_eq_true.mp b.ok (os.getD i ([],0)) (by simp [List.getD,hi])
   exact (zoM _ _).mp this) λx hx=>by
   rw [<- zjd x os ss g.ln]
   exact (zry _ _ _).mp (all_eq_true.mp g.ok _ (qaU.mpr ⟨x,mem_range.mpr hx,rfl⟩))
 rw [zqc rs,b.ln,zjP os ss g.ln]
 refine ⟨w.1,λh=>⟨λi hi h0=> ?_,λx hx h0=> ?_⟩⟩
 ·rw [zpl s b.ln hi]
  exact (w.2 h).1 i hi h0
 ·rw [zjd x os ss g.ln]
  exact (w.2 h).2 x hx h0
structure zml (m:Int) (os:List (List Int×Int)) (s0:SX.St):Prop where
 iv:Iv os.length m.toNat (lpA m.toNat os) s0
 ok: ∀ x,x<m.toNat+os.length->0<=s0.T os.length x
theorem zml.dn {s0:SX.St} (w:zml m os s0):0<s0.d.toNat:=by have:=w.iv.tb.dp;omega
theorem zs3 {s0:SX.St} (w:zml m os s0):((s0.d.toNat:Nat):Int)=s0.d:=by have:=w.iv.tb.dp;omega
theorem znS (s:Stk m os) (hp: ∀ o∈os,o.2.natAbs<=2^70) {s0:SX.St} (w:zml m os s0) {rs:List Rat} {k:Nat} {f:Nat->Int} (hk:k<=12) (er:rs=(List.range k).map λj=>mkRat (f j) s0.d.toNat) (hf: ∀ j,j<k->(f j).natAbs<=2^1000):Rz rs/\ ∀ r∈rs,r.den<2^6000:=by
 have hd:=(w.iv.big s.len hp).1
 have dn:=w.dn
 have hden: ∀ r∈rs,r.den<=2^29:=λr hr=>by
  rw [er] at hr
  obtain ⟨j,_,rfl⟩:=qaU.mp hr
  have:=zef (f j) dn
  omega
 have hlen:rs.length=k:=by rw [er];simp
 have hdp:dp rs<=2^348:=by
  have h1:=zpM (2^29) rs hden
  rw [hlen, <-Nat.pow_mul] at h1
  exact qaS h1 (pow_le_pow_right (by decide) ⋯)
 refine ⟨⟨qaS hdp (pow_le_pow_right (by decide) (by decide)),⋯,λr hr=> ?_⟩,λr hr=>zax (n:=29) (by decide) (hden r hr)⟩
 rw [er] at hr
 obtain ⟨j,hj,rfl⟩:=qaU.mp hr
 exact qaS (qaS (zgf (f j) dn) (hf j (mem_range.mp hj))) (pow_le_pow_right (by decide) (by decide))
theorem zr9 {s0:SX.St} (s:Stk m os) (hp: ∀ o∈os,o.2.natAbs<=2^70) (w:zml m os s0) (x:Nat):(SX.yv os.length (m.toNat+os.length) s0.bs s0.T x).natAbs<=2^1000:=by
 have hb:=(w.iv.big s.len hp).2
 have h1:(SX.yv os.length (m.toNat+os.length) s0.bs s0.T x).natAbs<=os.length*2^900:=zkm λj hj=>by
  split
  ·exact hb j ⋯ _ ⋯
  ·exact zero_le _
 have h2:os.length*2^900<=12*2^900:=mul_le_mul_right _ s.len
 exact qaS h1 (qaS h2 ⋯)
theorem ziS (s:Stk m os) (hp: ∀ o∈os,o.2.natAbs<=2^70) {s0:SX.St} (w:zml m os s0):Rz (zey m.toNat os.length s0)/\ ∀ r∈zey m.toNat os.length s0,r.den<2^6000:=
 znS s hp w (by have:=s.m1;omega) rfl λj _=>zr9 s hp w j
theorem znH (s:Stk m os) (hp: ∀ o∈os,o.2.natAbs<=2^70) {s0:SX.St} (w:zml m os s0):Rz (zeJ m.toNat os.length s0)/\ ∀ r∈zeJ m.toNat os.length s0,r.den<2^6000:=
 znS s hp w s.len rfl λj hj=>qaS ((w.iv.big s.len hp).2 os.length ⋯ _ ⋯) (pow_le_pow_right (by decide) (by decide))
theorem zqV {i x:Nat} (y:Int) {d k:Nat} (hi:i<os.length) (hx:x<k):ci os i x*mkRat y d=mkRat (lpA k os i x*y) d:=by
 unfold ci lpA
 rw [qa4 hi,qa4 hx]
 split
 ·rw [Rat.one_mul,Int.one_mul]
 ·rw [Rat.zero_mul,zero_mul,Rat.zero_mkRat]
theorem zvm (s:Stk m os) (p:SX.LP os.length m.toNat (lpA m.toNat os)) {s0:SX.St} (w:zml m os s0):Bg m os (zey m.toNat os.length s0)/\Sg m os (zeJ m.toNat os.length s0)/\qs (zey m.toNat os.length s0)=qs ((pr os (zeJ m.toNat os.length s0)).map rq):=by
 have m0:=s.m0
 have dn:=w.dn
 obtain ⟨d1,d2,d3,d4⟩:=p.done w.iv.tb w.iv.vr w.iv.fe w.ok
 have l1:(zey m.toNat os.length s0).length=m.toNat:=by unfold zey;simp
 have l2:(zeJ m.toNat os.length s0).length=os.length:=by unfold zeJ;simp
 have g1: ∀ x,x<m.toNat->(zey m.toNat os.length s0).getD x 0=mkRat (SX.yv os.length (m.toNat+os.length) s0.bs s0.T x) s0.d.toNat:=λx hx=>by unfold zey;simp [List.getD,hx]
 have g2: ∀ i,i<os.length->(zeJ m.toNat os.length s0).getD i 0=mkRat (s0.T os.length (m.toNat+i)) s0.d.toNat:=λi hi=>by unfold zeJ;simp [List.getD,hi]
 refine ⟨⟨l1,λr hr=> ?_,all_eq_true.mpr λo ho=> ?_⟩,⟨l2,λr hr=> ?_,all_eq_true.mpr λt ht=> ?_⟩,?_⟩
 ·obtain ⟨t,_,rfl⟩:=qaU.mp hr
  exact zrW dn (SX.zvA w.iv.fe t)
 ·obtain ⟨i,hi,e⟩:=List.getElem_of_mem ho
  have eo:os.getD i ([],0)=o:=by simp [List.getD,hi,e]
  have h1:=d1 i hi
  have e3:lpA m.toNat os i (m.toNat+os.length)=o.2:=by
   unfold lpA
   rw [qa4 hi,qa5 ⋯,qa5 ⋯,eo]
  have e2:=zpl s l1 hi
  rw [eo,zbf λx hx=>by rw [g1 x hx,zqV _ hi hx],zmg ⋯] at e2
  rw [e3, <-zs3 w] at h1
  unfold bB
  rw [e2,Bool.not_eq_true',decide_eq_false_iff_not]
  exact zuk dn h1
 ·obtain ⟨t,ht,rfl⟩:=qaU.mp hr
  have ht:=mem_range.mp ht
  exact zrW dn (w.ok _ ⋯)
 ·obtain ⟨x,hx,rfl⟩:=qaU.mp ht
  have hx:=mem_range.mp hx
  have h1:=d3 x hx
  have e2:=zjd x os _ l2
  rw [zbf λi hi=>by rw [g2 i hi,zqV _ hi hx],zmg ⋯] at e2
  rw [<- zs3 w] at h1
  unfold sB
  rw [e2,Bool.not_eq_true',decide_eq_false_iff_not]
  exact zuL dn h1
 ·rw [zqc,l1,zbf λx hx=>g1 x hx,zmg ⋯,zjP os _ l2,zbf λi hi=>by rw [g2 i hi,zmd],zmg ⋯,d2, <-d4]
  congr 1
  refine SX.zay λi hi=> ?_
  unfold lpA
  rw [qa4 hi,qa5 ⋯,qa5 ⋯]
def zep (os:List (List Int×Int)) (c:Int):List (List Int×Int):=os.map λo=>(o.1,o.2*c)
theorem ziM (s:Stk m os) {c:Int} (hc:0<c):Stk m (zep os c):=by
 have key: ∀ o∈zep os c, ∃ o'∈os,o.1=o'.1/\o.2=o'.2*c:=λo ho=>by
  obtain ⟨o',h,rfl⟩:=qaU.mp ho
  exact ⟨o',h,rfl,rfl⟩
 refine ⟨s.m0,s.m1,by unfold zep;rw [qaH];exact s.len,λo ho=> ?_,λo ho=> ?_,λo ho=> ?_,λo ho=> ?_⟩<;>obtain ⟨o',h,e1,e2⟩:=key o ho
 ·rw [e1];exact s.up o' h
 ·rw [e1];exact s.bd o' h
 ·rw [e1];exact s.ne o' h
 ·rw [e2];exact Int.mul_pos (s.pos o' h) hc
theorem zmQ {c:Int}:zkh m (zep os c)=zkh m os:=by
 unfold zkh zep
 rw [List.flatMap_map]
theorem zqu (t:Int) {c:Int} (ss:List Rat):sl t (zep os c) ss=sl t os ss:=by
 unfold sl zep
 rw [List.zip_map_left,List.filter_map,qaT]
 rfl
theorem zkJ {c:Int} {ss:List Rat}:Sg m (zep os c) ss↔Sg m os ss:=by
 have e:(zep os c).length=os.length:=by unfold zep;rw [qaH]
 have e2:(tsI m).all (sB (zep os c) ss)=(tsI m).all (sB os ss):=by
  congr 1
  funext t
  unfold sB
  rw [zqu]
 exact ⟨λg=>⟨g.ln.trans e,g.nn,e2▸g.ok⟩,λg=>⟨g.ln.trans e.symm,g.nn,e2.symm▸g.ok⟩⟩
theorem zkK {c:Int} {ss:List Rat} (hl:ss.length=os.length):qs ((pr (zep os c) ss).map rq)=(c:Rat)*qs ((pr os ss).map rq):=by
 have e:(zep os c).length=os.length:=by unfold zep;rw [qaH]
 rw [zjP _ _ (hl.trans e.symm),zjP _ _ hl,e]
 have:=zdR (c:Rat) 0 (λi=>((os.getD i ([],0)).2:Rat)*ss.getD i 0) (λ_=>0) os.length
 refine Eq.trans (zbf λi hi=> ?_) (this.trans (by grind))
 have:(zep os c).getD i ([],0)=((os.getD i ([],0)).1,(os.getD i ([],0)).2*c):=by unfold zep;simp [List.getD,hi]
 rw [this]
 show (((os.getD i ([],0)).2*c:Int):Rat)*_=_
 rw [Rat.intCast_mul]
 grind
theorem zkw (s:Stk m os) {c:Int} (hc:0<c) {rs ss rs' ss':List Rat} (b:Bg m os rs) (g:Sg m os ss) (e:qs rs=qs ((pr os ss).map rq)) (b':Bg m (zep os c) rs') (g':Sg m (zep os c) ss') (e':qs rs'=qs ((pr (zep os c) ss').map rq)):qs rs'=(c:Rat)*qs rs:=by
 have s':=ziM s hc
 have g2:=zkJ.mp g'
 have h1:=(zsq s b g2).1
 have h2:=(zsq s' b' (zkJ.mpr g)).1
 rw [zkK g.ln, <-e] at h2
 rw [zkK g2.ln] at e'
 have hc':(0:Rat)<=(c:Rat):=num_nonneg.mp (by rw [Rat.num_intCast];omega)
 have h3:=Rat.mul_le_mul_of_nonneg_left h1 hc'
 rw [<- e'] at h3
 exact Rat.le_antisymm h2 h3
theorem znk {m0:Int} (hm:0<=m0) (hl:os.length<=100) {sd:Sd} {src:List (Option Nat)} {fi:FA} (hi:fi sd=pure ((List.range os.length).map λ(k:Nat)=>D.int (k:Int))) (eb:zap src sd=[none,some (za7 m0 os)]):zew fi (zaC 0) (λ_=>pure true) zcG src sd=zbq (ze5 os.length λk=>m0.toNat+k):=by
 unfold zew
 rw [hi]
 simp only [pure_bind]
 rw [zaL (by simp;omega),eb]
 simp only [pure_bind]
 have: ∀ ks:List Nat,zbk (zaZ (zaC 0) (λ_=>pure true) zcG [none,some (za7 m0 os)]) (ks.map λ(k:Nat)=>D.int (k:Int))=pure (ks.map λ(k:Nat)=>D.int ((m0.toNat+k:Nat):Int)):=by
  intro ks
  induction ks with
  | nil=>rfl
  | cons k ks ih=>
   rw [qaM,zbk,ih]
   simp only [zaZ,zcG]
   ac_nf0
   rw [zl7]
   ac_nf0
   rw [qaM]
   congr 3
   omega
 rw [this]
 rfl
theorem zsQ {a b:Nat} (ha:a<=22) (hb:b<=12):a^b<100000000000000000:=by
 have h1:a^b<=22^b:=Nat.pow_le_pow_left ha b
 have h2:22^b<=22^12:=pow_le_pow_right (by decide) hb
 have h3:22^12<100000000000000000:=by decide +kernel
 omega
theorem zot (s:Stk m os) (hf:zkh m os=true) (hp: ∀ o∈os,o.2.natAbs<=2^70): ∃ s0,zml m os s0/\Ev (F_20 [za7 m os]) (.tup [.tup ((zey m.toNat os.length s0).map qD),.tup ((zeJ m.toNat os.length s0).map qD)]):=by
 have m0:=s.m0
 have m1:=s.m1
 have ml:=s.len
 have p:=zqw s hf
 have v:Iv os.length m.toNat (lpA m.toNat os) ⟨λk=>m.toNat+k,lpA m.toNat os,1⟩:=⟨p.first,λk hk=>by show m.toNat+k<_;omega,p.rhs⟩
 generalize hs:(⟨λk=>m.toNat+k,lpA m.toNat os,1⟩:SX.St)=st at v
 have hT:st.T=lpA m.toNat os:=by rw [<- hs]
 have hB:st.bs=λk=>m.toNat+k:=by rw [<- hs]
 have hD:st.d=1:=by rw [<- hs]
 obtain ⟨L,hL1,hL2,hL3⟩:=v.ends p
 have fw:zml m os (sts os.length (m.toNat+os.length) st L):=⟨Iv.all p v L,zm2 hL2⟩
 refine ⟨_,fw,Ev.of_wp λh=> ?_⟩
 have ef:=znc s
 rw [<- hT] at ef
 have en:=zjx (n:=os.length) (q:=m.toNat+os.length) (T:=st.T) ⋯
 have hfuel:L<100000000000000000:=lt_of_le_of_lt hL1 (zsQ ⋯ ml)
 have lp:= @zju os m.toNat ml ⋯ hp p st v
 have bt:=znb (m0:=m) ⋯ m1 ml hp fw.iv
 have sk:=zmy (m0:=m) ⋯ m1 ml hp fw.iv
 generalize hq:m.toNat+os.length+1=cn at ef en lp bt sk
 rw [d_20]
 simp only [G_20]
 generalize (100000000000000000:Nat)=fuel at hfuel
 ac_nf0
 refine (zqF s hf).wp λh1 g1=> ?_
 ac_nf0
 refine ef.wp λh2 g2=> ?_
 ac_nf0
 have bc:=znk (os:=os) (m0:=m) ⋯ ⋯ (sd:=[some (za7 m os),some (zbC (os.length+1) cn st.T),none,none,none,none]) (src:=[none,some 0]) (fi:=zei (zac (zaB zdG (zac (cOp dIx (zae 0) (cK (.int 1))) zar)) zar)) (by
   ac_nf0
   rw [ziN]
   ac_nf0
   rw [zhj ⋯]) rfl
 rw [bc]
 ac_nf0
 rw [en]
 ac_nf0
 have e0:(h2++[C.lst (ze5 os.length st.bs)])[h2.length]? = some (.lst (ze5 os.length st.bs)):=by simp
 rw [hB] at e0
 have lq:= @lp h2.length L (some (za7 m os)) hL2 hL3 L 0 fuel (h2++[C.lst (ze5 os.length λk=>m.toNat+k)]) none
 rw [show sts os.length (m.toNat+os.length) st 0=st from rfl,hD,hB] at lq
 refine lq ⋯ hfuel e0 λy5=> ?_
 clear lq lp
 generalize sts os.length (m.toNat+os.length) st L=s1 at bt sk ⊢
 have e1:((h2++[C.lst (ze5 os.length λk=>m.toNat+k)]).set h2.length (.lst (ze5 os.length s1.bs)))[h2.length]? = some (.lst (ze5 os.length s1.bs)):=qai (by simp)
 have hk:Kp h2.length h2 ((h2++[C.lst (ze5 os.length λk=>m.toNat+k)]).set h2.length (.lst (ze5 os.length s1.bs))):=by
  refine ⟨by simp,λk hk=> ?_⟩
  rw [qao ⋯,qad hk]
 generalize (h2++[C.lst (ze5 os.length λk=>m.toNat+k)]).set h2.length (.lst (ze5 os.length s1.bs))=h3 at e1 hk ⊢
 ac_nf0
 refine zoo e1 ?_
 refine bt.wp λh4 g4=> ?_
 rw [sk]
 ac_nf0
 have gg:Gro h2 (h3.set h2.length .dead):=Kp.gro ⟨by rw [qaI];exact hk.1,λk hkk=>by
   rw [qao ⋯]
   exact hk.2 k hkk⟩
 have gf:Gro h h4:=((g1.trans g2).trans gg).trans g4
 first | exact gf | exact ⟨gf,trivial⟩ | exact ⟨trivial,gf⟩ | exact ⟨rfl,gf⟩ | exact ⟨gf,rfl⟩
theorem zmE (q:Rat):dNe (qD q) (qD q)=pure (.bl false):=by
 have:=zrb [q.num,(q.den:Int)] [q.num,(q.den:Int)]
 rw [beq_self_eq_true] at this
 exact this
theorem zi9 (p:Int):qD (p:Rat)= .tup [.int p,.int 1]:=rfl
theorem zgr {a b:Rat} (ha:a.num.natAbs<2^6000/\a.den<2^6000) (hb:b.num.natAbs<2^6000/\b.den<2^6000):F_48 [qD a,qD b]=pure (.bl (decide (a<b))):=by
 have m1:=ze1 ha.1 (b:=(b.den:Int)) (by rw [natAbs_natCast];exact hb.2)
 have m2:=ze1 hb.1 (b:=(a.den:Int)) (by rw [natAbs_natCast];exact ha.2)
 rw [<- zvv,d_48]
 simp only [G_48]
 unfold qD
 ac_nf0
 rw [m1]
 ac_nf0
 rw [m2]
 ac_nf0
 rw [zmm]
 ac_nf0
theorem zvo (r:Rat):decide (0<r.num)=decide (0<r):=by
 rw [decide_eq_decide]
 have:=num_nonneg (q:= -r)
 rw [Rat.neg_num] at this
 constructor
 ·intro h
  exact Rat.not_le.mp λz=>by have:=this.mpr (by grind);omega
 ·intro h
  rcases lt_or_le 0 r.num with z | z
  ·exact z
  ·have:=this.mp ⋯
   grind
theorem ziJ (s:Stk m os) {rs:List Rat} (z:Rz rs) (hl:rs.length=m.toNat) {s2:Option D}: ∀ (ps:List ((List Int×Int)×Rat)) (x3 x4 x5 x6:Option D),(∀ p∈ps,p.1∈os/\(0<p.2->qs (pk rs p.1.1)=(p.1.2:Rat)))-> ∃ y3 y4,za2 (λx sd=>do let sd1<-zbn 2 (zat (zaC 3) (zat (zaC 4) zbp)) x sd;zb6 sd1) (ps.map zR) [some (za7 m os),some (.tup (rs.map qD)),s2,x3,x4,x5,x6]=pure (.nx [some (za7 m os),some (.tup (rs.map qD)),s2,y3,y4,x5,x6])
 | [],x3,x4,x5,x6,_=>⟨x3,x4,rfl⟩
 | p::ps,x3,x4,x5,x6,h=>by
  obtain ⟨ho,ht⟩:=h p qau
  have m0:=s.m0
  have hb: ∀ t∈p.1.1,0<=t/\t<(rs.length:Int):=λt ht=>by have:=s.bd _ ho t ht;omega
  have hol:=s.olen _ ho
  obtain ⟨y3,y4,ih⟩:=ziJ s z hl (s2:=s2) ps (some (qD p.2)) (some (zbZ p.1)) x5 x6 λx hx=>h x (qan _ hx)
  refine ⟨y3,y4,?_⟩
  have es:=zio (z.pick (s.up _ ho) hb) (d:= .lst ((pk rs p.1.1).map qD)) rfl
  have ec:=zkC (te:=zdU) (fi:=iSq (cOp dIx (zae 4) (cK (.int 0)))) (src:=[none,some 1]) (sd:=[some (za7 m os),some (.tup (rs.map qD)),s2,some (qD p.2),some (zbZ p.1),x5,x6]) (rs:=rs) (ts:=p.1.1) rfl ⋯ hb (by ac_nf0) rfl
  rw [qaM,zbB]
  generalize za2 (λx sd=>do let sd1<-zbn 2 (zat (zaC 3) (zat (zaC 4) zbp)) x sd;zb6 sd1) (ps.map zR)=zbz at ih ⊢
  rw [show zbn 2 (zat (zaC 3) (zat (zaC 4) zbp)) (zR p) [some (za7 m os),some (.tup (rs.map qD)),s2,x3,x4,x5,x6]=pure [some (za7 m os),some (.tup (rs.map qD)),s2,some (qD p.2),some (zbZ p.1),x5,x6] from rfl]
  rw [pure_bind]
  have e0:dIx (qD p.2) (.int 0)=pure (.int p.2.num):=rfl
  simp only [zb6,zgp,zoq,zev,zcB,zaR,zaE,zeY,pure_bind,bind_assoc]
  rw [e0]
  simp only [pure_bind,zvw,zdk]
  rw [zvo]
  by_cases h0:0<p.2
  ·rw [decide_eq_true h0]
   rw [ht h0] at es
   simp only [if_true,zbx,zaO,za3,pure_bind,bind_assoc]
   rw [ec]
   simp only [pure_bind,zgM]
   rw [es]
   simp only [pure_bind,zf2,zaO,za3,zcB,zaR,zaE,zeY,bind_assoc]
   rw [show dIx (zbZ p.1) (.int 1)=pure (.int p.1.2) from rfl]
   ac_nf0
   rw [<- zi9,zmE]
   ac_nf0
   exact ih
  ·rw [decide_eq_false h0]
   ac_nf0
   exact ih
theorem zjv (s:Stk m os) {rs ss:List Rat} (z:Rz ss) (hl:rs.length=m.toNat) (hl2:ss.length=os.length): ∀ (ts:List Int) (x3 x4 x5 x6:Option D),(∀ t∈ts,0<=t/\t<m/\(0<rs.getD t.toNat 0->qs (sl t os ss)=1))-> ∃ y5 y6,za2 (λx sd=>zb4 (List.set sd 5 (some x))) (ts.map D.int) [some (za7 m os),some (.tup (rs.map qD)),some (.tup (ss.map qD)),x3,x4,x5,x6]=pure (.nx [some (za7 m os),some (.tup (rs.map qD)),some (.tup (ss.map qD)),x3,x4,y5,y6])
 | [],x3,x4,x5,x6,_=>⟨x5,x6,rfl⟩
 | t::ts,x3,x4,x5,x6,h=>by
  obtain ⟨t0,t1,ht⟩:=h t qau
  obtain ⟨y5,y6,ih⟩:=zjv s z hl hl2 ts x3 x4 (some (.int t)) (some (.lst ((sl t os ss).map qD))) λx hx=>h x (qan _ hx)
  refine ⟨y5,y6,?_⟩
  have es:=zio (z.sub (zoF t hl2)) (d:= .lst ((sl t os ss).map qD)) rfl
  have ec:=zmH (fi:=zmp (zac (zae 2) (zac (cOp dIx (zae 0) (cK (.int 1))) zar))) (src:=[none,none,some 5]) (sd:=[some (za7 m os),some (.tup (rs.map qD)),some (.tup (ss.map qD)),x3,x4,some (.int t),x6]) (os:=os) (rs:=ss) (t:=t) (by have:=s.len;omega) (by
    rw [zjo]
    ac_nf0
    rw [ziN]
    ac_nf0
    rw [ziI,zqz]) rfl
  have ea:=zuC (rs:=rs) (t:=t) t0 ⋯
  have e0:dIx (qD (rs.getD t.toNat 0)) (.int 0)=pure (.int (rs.getD t.toNat 0).num):=rfl
  rw [qaM,zbB]
  generalize za2 (λx sd=>zb4 (List.set sd 5 (some x))) (ts.map D.int)=zbz at ih ⊢
  simp only [zb4]
  ac_nf0
  rw [ec]
  ac_nf0
  rw [ea]
  ac_nf0
  rw [e0]
  ac_nf0
  rw [zvo]
  by_cases h0:0<rs.getD t.toNat 0
  ·rw [decide_eq_true h0]
   rw [ht h0,show qD (1:Rat)= .tup [.int 1,.int 1] from rfl] at es
   ac_nf0
   rw [es]
   ac_nf0
   rw [<- show qD (1:Rat)= .tup [.int 1,.int 1] from rfl,zmE]
   ac_nf0
   exact ih
  ·rw [decide_eq_false h0]
   ac_nf0
   exact ih
theorem znf (s:Stk m os) {rs ss:List Rat} (z1:Rz rs) (z2:Rz ss) (b:Bg m os rs) (g:Sg m os ss) (e:qs rs=qs ((pr os ss).map rq)):F_49 [za7 m os,.tup (rs.map qD),.tup (ss.map qD)]=pure (.bl true):=by
 have m0:=s.m0
 have m1:=s.m1
 obtain ⟨c1,c2⟩:=(zsq s b g).2 (e▸le_refl)
 have hz:=g.ln
 obtain ⟨y3,y4,l1⟩:=ziJ s z1 b.ln (s2:=some (.tup (ss.map qD))) (os.zip ss) none none none none λp hp=>by
  obtain ⟨j,hj,ej⟩:=List.getElem_of_mem hp
  rw [length_zip] at hj
  rw [List.getElem_zip] at ej
  rw [<- ej]
  refine ⟨getElem_mem _,λh0=> ?_⟩
  have:=c1 j ⋯ (by simp [List.getD,show j<ss.length by omega];exact h0)
  simpa [List.getD,show j<os.length by omega] using this
 obtain ⟨y5,y6,l2⟩:=zjv s z2 b.ln g.ln (tsI m) y3 y4 none none λt ht=>by
  obtain ⟨x,hx,rfl⟩:=qaU.mp ht
  have hx:=mem_range.mp hx
  exact ⟨⋯,⋯,c2 x hx⟩
 rw [d_49]
 simp only [G_49,za5,zg7,bind_assoc]
 rw [zjo]
 ac_nf0
 rw [ziN]
 ac_nf0
 rw [ziI,zqz]
 ac_nf0
 rw [l1]
 ac_nf0
 rw [zl7]
 ac_nf0
 rw [zcw ⋯ ⋯,znV]
 ac_nf0
 rw [l2]
 ac_nf0
theorem zsr (q:Rat):dEq (qD q) (qD q)=pure (.bl true):=by
 have:=zsV [q.num,(q.den:Int)] [q.num,(q.den:Int)]
 rw [beq_self_eq_true] at this
 exact this
theorem zlc (s:Stk m os) {cs:List (List Int)} (h: ∀ c∈cs,Cv m os c) (h0:0<cs.length) (h3:cs.length<=3):Sg m os (shr os cs)/\Rz (shr os cs)/\ ∀ r∈shr os cs,r.den<2^6000:=by
 have ol:=s.len
 have m0:=s.m0
 have z:=zrt (os:=os) h0 h3
 refine ⟨⟨zgK os cs,λr hr=>num_nonneg.mp (z r hr).1,all_eq_true.mpr λt ht=> ?_⟩,⟨?_,by rw [zgK];omega,λr hr=> ?_⟩,λr hr=> ?_⟩
 ·obtain ⟨x,hx,rfl⟩:=qaU.mp ht
  have hx:=mem_range.mp hx
  exact ztf h h0 ⋯ ⋯
 ·have h1:=zpM 3 (shr os cs) λr hr=>(z r hr).2.2
  rw [zgK] at h1
  exact qaS h1 (qaS (pow_le_pow_right (by decide) ol) ⋯)
 ·exact qaS (z r hr).2.1 (show 3<=2^1700 from qaS (show 3<=2^2 by decide) (pow_le_pow_right (by decide) (by decide)))
 ·exact zax (n:=2) (by decide) (qaS (z r hr).2.2 (by decide))
theorem zo1 (ls:List Int) (x:Nat):qD (mkRat (cnt [ls] x) [ls].length)= .tup [.int (if ls.any (· == (x:Int))=true then 1 else 0),.int 1]:=by
 have:cnt [ls] x=if ls.any (· == (x:Int))=true then 1 else 0:=by
  unfold cnt
  rw [filter_cons,List.filter_nil]
  split<;>rfl
 rw [this,length_singleton,zor,zi9]
 split<;>rfl
theorem zpc (s:Stk m os) {ls:List Int} (c:Cv m os ls):qs ((pr os (shr os [ls])).map rq)=(pc os ls:Rat):=by
 rw [zjP os _ (zgK os [ls])]
 have h1:=zix (f:=λi=>((os.getD i ([],0)).2:Rat)) (k:=os.length) (ts:=ls) (c.up.imp λh=>by omega) λt ht=>c.bd t ht
 have h2: ∀ l:List Int,qs (l.map λt=>((os.getD t.toNat ([],0)).2:Rat))=(pc os l:Rat):=λl=>by
  induction l with
  | nil=>rfl
  | cons x l ih=>
   rw [qaM,zcU,ih,show pc os (x::l)=(os.getD x.toNat ([],0)).2+pc os l by unfold pc;rw [qaM,List.sum_cons],Rat.intCast_add]
 rw [<- h2,h1]
 refine zbf λi hi=> ?_
 have:(shr os [ls]).getD i 0=mkRat (cnt [ls] i) 1:=by unfold shr;simp [List.getD,hi]
 rw [this,show cnt [ls] i=if ls.any (· == (i:Int))=true then 1 else 0 by
   unfold cnt
   rw [filter_cons,List.filter_nil]
   split<;>rfl]
 split
 ·rw [show mkRat ((1:Nat):Int) 1=1 from rfl]
  grind
 ·rw [show mkRat ((0:Nat):Int) 1=0 from rfl]
  grind
theorem zi5 (s:Stk m os) (hp: ∀ o∈os,o.2<2^64) (hf: ∀ i:Int,0<=i->i<m-> ∃ o∈os,i∈o.1) {v:Rat} (hv:v.num.natAbs<2^6000/\v.den<2^6000) (h1: ∀ rs,Bg m os rs->qs rs<=v) (h2: ∀ ss,Sg m os ss->v<=qs ((pr os ss).map rq)) {h:Hh} {b:Nat} {P:D->Hh->Prop} (q:Bx b h) (k: ∀ h',Bx b h'->P (.bl true) h'):
  wp (F_50 [.cel b,za7 m os,qD v]) h P:=by
 have m0:=s.m0
 have m1:=s.m1
 have ol:=s.len
 have hpa: ∀ o∈os,o.2.natAbs<=2^70:=λo ho=>by
  have:=s.pos o ho
  have:=hp o ho
  omega
 rw [d_50]
 simp only [G_50]
 ac_nf0
 refine zj5 s ⟨s.up,s.bd,λo ho=>⟨s.pos o ho,hp o ho⟩⟩ q λrs h3 bz q3=> ?_
 ac_nf0
 refine zj4 s hf q3 λcs h4 c0 c3 hc q4=> ?_
 ac_nf0
 refine zjs s hf q4 λls h5 cv q5=> ?_
 have zr:=bz.rz m1 ⋯
 have bg:Bg m os rs:=⟨bz.ln,bz.nn,all_eq_true.mpr λo ho=>(zoM _ _).mpr (bz.bd o ho)⟩
 have eb:=zi3 s (λo ho=>by have:=hp o ho;omega) zr (by have:=bz.ln;omega) (λr hr=>zax (n:=1624) (by decide) (qaS (zkY hr) (qaS bz.dd (ze7 ⋯)))) bz.nn bg.ok
 have ew:=zg2 s zr eb
 obtain ⟨sg,zs,ds⟩:=zlc s hc c0 c3
 have es:=zhT s zs sg.ln ds sg.nn sg.ok
 have ep:=zeL s hpa zs es
 obtain ⟨sg1,zs1,ds1⟩:=zlc s (cs:=[ls]) (λc hc=>by rw [mem_singleton.mp hc];exact cv) (by simp) (by simp)
 have es1:=zhT s zs1 sg1.ln ds1 sg1.nn sg1.ok
 have ep1:=zeL s hpa zs1 es1
 have eo:=zpc s cv
 have l1:=zgr hv (ziY zr)
 rw [decide_eq_false (not_lt.mpr (h1 rs bg))] at l1
 have l2:=zgr (qsP (zuS zs hpa)) hv
 rw [decide_eq_false (not_lt.mpr (h2 _ sg))] at l2
 have l3:=zgr hv hv
 have hw:=h2 _ sg1
 have sz1:=qsP (zuS zs1 hpa)
 rw [eo] at ep1 hw sz1
 have l3:=zgr sz1 hv
 rw [decide_eq_false (not_lt.mpr hw),zi9] at l3
 have eq1:=zsr (pc os ls:Rat)
 rw [zi9] at eq1 ep1
 have epr:=zni s cv.lt
 have ec: ∀ {s6 s7:Option D},zaH (zei (zac (zaB zdG (zac (cOp dIx (zae 1) (cK (.int 1))) zar)) zar)) (zaC 0) (λ_=>pure true) zbb [none,some 5] [some (.cel b),some (za7 m os),some (qD v),some (.tup (rs.map qD)),some (.tup ((shr os cs).map qD)),some (tI ls),s6,s7]=pure (.lst ((shr os [ls]).map qD)):=λ{s6 s7}=>by
  have:=zaY (g':=λ(x:Nat)=>D.int (x:Int)) (fi:=zei (zac (zaB zdG (zac (cOp dIx (zae 1) (cK (.int 1))) zar)) zar)) (g:=zaC 0) (tc:=λ_=>pure true) (te:=zbb) (src:=[none,some 5]) (sd:=[some (.cel b),some (za7 m os),some (qD v),some (.tup (rs.map qD)),some (.tup ((shr os cs).map qD)),some (tI ls),s6,s7]) (xs:=List.range os.length) (k:=λx=>some (qD (mkRat (cnt [ls] x) [ls].length))) (by
    ac_nf0
    rw [ziN]
    ac_nf0
    rw [zhj ⋯]) (by rw [length_range];omega) λx hx=>by
    rw [zo1,show zap [none,some 5] [some (.cel b),some (za7 m os),some (qD v),some (.tup (rs.map qD)),some (.tup ((shr os cs).map qD)),some (tI ls),s6,s7]=[none,some (tI ls)] from rfl]
    simp only [zaZ,zbb]
    ac_nf0
    rw [zbH]
    cases ls.any (· == (x:Int)) with
    | true=>ac_nf0;rfl
    | false=>ac_nf0;rfl
  rw [this,filterMap_eq_map']
  unfold shr
  rw [qaT]
  rfl
 generalize (shr os [ls]).map qD=on at es1 ep1 ec
 generalize rs.map qD=rD at eb ew ec
 generalize (shr os cs).map qD=sD at es ep ec
 generalize qD v=vD at l1 l2 l3 ec
 generalize qD (qs rs)=w1 at ew l1
 generalize qD (qs ((pr os (shr os cs)).map rq))=w2 at ep l2
 generalize tI ls=lD at epr ec
 ac_nf0
 rw [eb]
 ac_nf0
 rw [es]
 ac_nf0
 rw [ew]
 ac_nf0
 rw [l1]
 ac_nf0
 rw [ep]
 ac_nf0
 rw [l2]
 ac_nf0
 rw [ec]
 ac_nf0
 rw [epr]
 ac_nf0
 rw [ep1]
 ac_nf0
 rw [eq1]
 ac_nf0
 rw [l3]
 ac_nf0
 exact k h5 q5
theorem zlF (s:Stk m os) (hp: ∀ o∈os,o.2<2^70) {rs:List Rat} (z:Rz rs) (d: ∀ r∈rs,r.den<2^6000) (b:Bg m os rs):F_31 [za7 m os,.tup (rs.map qD)]=pure (qD (qs rs)):=
 zg2 s z (zi3 s hp z (by have:=b.ln;have:=s.m0;omega) d b.nn b.ok)
theorem zk3 {sd:Sd} {c:Int} (hp: ∀ o∈os,o.2.natAbs<=2^64) (hc:c.natAbs<=2^4) (hl:os.length<=12) {fi:FA} {src:List (Option Nat)} (hi:fi sd=pure (os.map zbZ)) (eb:zap src sd=[none,none,some (.int c)]):zaH fi (zbn 2 (zat (zaC 0) (zat (zaC 1) zbp))) (λ_=>pure true) zgu src sd=pure (.lst ((zep os c).map zbZ)):=by
 have e:(zep os c).map zbZ=os.filterMap λo=>some (zbZ (o.1,o.2*c)):=by
  unfold zep
  rw [qaT]
  simp [Function.comp_def]
 rw [e]
 refine zaY (g':=zbZ) hi ⋯ λo ho=> ?_
 have em:=ze1 (a:=o.2) (b:=c) (zax (n:=64) (by decide) (hp o ho)) (zax (n:=4) (by decide) hc)
 rw [eb]
 simp only [zaZ,zgu]
 ac_nf0
 rw [em]
 ac_nf0
theorem ziV {ns:List Int}: ∀ (ds:List D) {h:Hh} {x1 x2 x3 x4 x5 x6 x7 x8:Option D},(∀ d∈ds, ∃ i:Int,d= .int i/\0<=i/\i<5)->
  wp (za2 (λx sd=>zfe (List.set sd 1 (some x))) ds [some (.scr (ns.map D.int)),x1,x2,x3,x4,x5,x6,x7,x8]) h λo _=> ∃ sd,o= .nx sd
 | [],h,x1,x2,x3,x4,x5,x6,x7,x8,_=>by rw [zdi,zan];exact ⟨_,rfl⟩
 | d::r,h,x1,x2,x3,x4,x5,x6,x7,x8,hd=>by
  obtain ⟨i,rfl,i0,i1⟩:=hd _ qau
  have ih: ∀ {h:Hh} {x1 x2 x3 x4 x5 x6 x7 x8:Option D},wp (za2 (λx sd=>zfe (List.set sd 1 (some x))) r [some (.scr (ns.map D.int)),x1,x2,x3,x4,x5,x6,x7,x8]) h λo _=> ∃ sd,o= .nx sd:=ziV r λy hy=>hd y (qan _ hy)
  rw [zbB]
  generalize za2 (λx sd=>zfe (List.set sd 1 (some x))) r=zbz at ih ⊢
  simp only [zfe]
  ac_nf0
  refine zs5 i0 i1 λz=> ?_
  have qb:Bx h.length (h++[.lst [.int z]]):=⟨z,by simp⟩
  generalize h.length=b at qb ⊢
  generalize h++[.lst [.int z]]=h1 at qb ⊢
  ac_nf0
  refine zo2 (by decide) (by decide) qb λm ods h2 q2 m0 m1 l0 l1 ho hc=> ?_
  obtain ⟨os,rfl,s,hp⟩:=zos m0 m1 ⋯ ho
  have hful:=zrR s hc
  have ol:=s.len
  have hp64: ∀ o∈os,o.2.natAbs<=2^64:=λo ho=>by
   have:=s.pos o ho
   have:=hp o ho
   omega
  have hpa: ∀ o∈os,o.2.natAbs<=2^70:=λo ho=>by have:=hp64 o ho;omega
  obtain ⟨s0,w,ev⟩:=zot s hful hpa
  have p:=zqw s hful
  obtain ⟨z1,d1⟩:=ziS s hpa w
  obtain ⟨z2,d2⟩:=znH s hpa w
  obtain ⟨b1,g1,e1⟩:=zvm s p w
  generalize zey m.toNat os.length s0=rs at z1 d1 b1 e1 ev
  generalize zeJ m.toNat os.length s0=ss at z2 d2 g1 e1 ev
  have ew:=zlF s (λo ho=>by have:=hp o ho;omega) z1 d1 b1
  have es:=zeL s hpa z2 (zhT s z2 g1.ln d2 g1.nn g1.ok)
  rw [<- e1] at es
  have et:=znf s z1 z2 b1 g1 e1
  have hv:=ziY z1
  have hd1: ∀ rs',Bg m os rs'->qs rs'<=qs rs:=λrs' b'=>e1▸(zsq s b' g1).1
  have hd2: ∀ ss',Sg m os ss'->qs rs<=qs ((pr os ss').map rq):=λss' g'=>(zsq s b1 g').1
  have hfu:=(zh3 s).mp hful
  rw [show D.tup [.int m,.tup (os.map zbZ)]=za7 m os from rfl]
  refine ev.wp λh3 g3=> ?_
  ac_nf0
  rw [ew]
  ac_nf0
  rw [es]
  ac_nf0
  rw [zmE]
  ac_nf0
  rw [et]
  ac_nf0
  refine zi5 s hp hfu hv hd1 hd2 (Gro.ext q2 g3).1 λh4 q4=> ?_
  ac_nf0
  refine zi5 s hp hfu hv hd1 hd2 q4 λh5 q5=> ?_
  ac_nf0
  refine zbM q5 (by decide) (by decide) λt h6 t0 t1 x6'=> ?_
  ac_nf0
  generalize hc':2+t=c
  have c0:2<=c/\c<=10:=by omega
  have s':=ziM s (c:=c) ⋯
  have hful':zkh m (zep os c)=true:=zmQ.trans hful
  have hp': ∀ o∈zep os c,o.2<2^70/\o.2.natAbs<=2^70:=λo ho=>by
   obtain ⟨o',h',rfl⟩:=qaU.mp ho
   have h1:=s.pos o' h'
   have h2:=hp o' h'
   have h3:o'.2*c<=o'.2*10:=Int.mul_le_mul_of_nonneg_left c0.2 ⋯
   have h4:0<o'.2*c:=Int.mul_pos h1 ⋯
   show o'.2*c<2^70/\(o'.2*c).natAbs<=2^70
   omega
  obtain ⟨s1,w',ev'⟩:=zot s' hful' λo ho=>(hp' o ho).2
  have p':=zqw s' hful'
  obtain ⟨z1',d1'⟩:=ziS s' (λo ho=>(hp' o ho).2) w'
  obtain ⟨b1',g1',e1'⟩:=zvm s' p' w'
  generalize zey m.toNat (zep os c).length s1=rs' at z1' d1' b1' e1' ev'
  generalize zeJ m.toNat (zep os c).length s1=ss' at g1' e1' ev'
  have ew':=zlF s' (λo ho=>(hp' o ho).1) z1' d1' b1'
  have eb:=zkw s (c:=c) ⋯ b1 g1 e1 b1' g1' e1'
  have dc: ∀ {s8:Option D},zaH (iSq (cOp dIx (zae 3) (cK (.int 1)))) (zbn 2 (zat (zaC 0) (zat (zaC 1) zbp))) (λ_=>pure true) zgu [none,none,some 7] [some (.scr (ns.map D.int)),some (.int i),some (.cel b),some (za7 m os),some (.tup (rs.map qD)),some (.tup (ss.map qD)),some (qD (qs rs)),some (.int c),s8]=pure (.lst ((zep os c).map zbZ)):=λ{s8}=>zk3 hp64 ⋯ ol (by ac_nf0;rw [ziN];ac_nf0) rfl
  have ef:F_44 [.int ((qs rs).num*c),.int ((qs rs).den:Int)]=pure (qD (qs rs')):=by
   rw [zfM (qs rs).den_pos (qaw hv.2 (zfV (by decide))),eb,mul_comm, <-zmd,mkRat_self]
  have em:=ze1 hv.1 (b:=c) (zax (n:=4) (by decide) ⋯)
  rw [zl7]
  ac_nf0
  rw [dc]
  ac_nf0
  rw [show D.tup [.int m,.tup ((zep os c).map zbZ)]=za7 m (zep os c) from rfl]
  refine ev'.wp λh7 g7=> ?_
  ac_nf0
  rw [ew']
  ac_nf0
  rw [show dIx (qD (qs rs)) (.int 0)=pure (.int (qs rs).num) from rfl]
  ac_nf0
  rw [em]
  ac_nf0
  rw [show dIx (qD (qs rs)) (.int 1)=pure (.int ((qs rs).den:Int)) from rfl]
  ac_nf0
  rw [ef]
  ac_nf0
  rw [zmE]
  ac_nf0
  exact ih
theorem zmJ: ∀ ns:List Int,ns.length<=63-> ∃ h',F_51 [.scr (ns.map D.int)] []= .ok (.bl true) h':=by
 intro ns _
 have key:wp (F_51 [.scr (ns.map D.int)]) [] λd _=>d= .bl true:=by
  rw [d_51]
  simp only [G_51]
  ac_nf0
  simp only [zn2]
  ac_nf0
  simp only [zuW]
  ac_nf0
  generalize hn:(if (if (3:Int)<(ns.length:Int) then (3:Int) else (ns.length:Int))>1 then (if (3:Int)<(ns.length:Int) then (3:Int) else (ns.length:Int)) else (1:Int))=n
  have n0:0<=n/\n<=5:=by
   rw [<- hn]
   split<;>split<;>omega
  rw [zcw n0.1 ⋯]
  ac_nf0
  refine zgl (ziV _ λd hd=> ?_) ?_
  ·obtain ⟨i,e,i0,i1⟩:=zgP hd
   exact ⟨i,e,i0,⋯⟩
  ·rintro o h' ⟨sd,rfl⟩
   ac_nf0
 obtain ⟨d,h',e,rfl⟩:=key
 exact ⟨h',e⟩
end K34
namespace K34
open L2 L3
theorem zsW {l:W.OpenLaw} {w:World} {K:W.Frag} {h:Heap} {mg:Str->Option Value} {fa a_37 a_38 a_39 a_40 a_41 a_18 a_19 a_13 a_15 a_21 a_22 a_24 a_23 a_26 a_25 a_4 a_3 a_27 a_28 a_20 a_7 a_5 a_35 a_0 a_1 a_6 a_34 a_33 a_29 a_31 a_44 a_45 a_49 a_36 a_30 a_32 a_46 a_42 a_43 a_47 a_48 a_2 a_12 a_16 a_17 a_14 a_50 a_51:Addr} (X:K.In h) (G:h.Ns mainGlobals mg) (hfa:mg "law"=some (.ref fa))
  {od_51 an_51:Option Addr} {sl_51:Array (Option Value)} {oc_51 kV_51 dc_51 pm_51 cd_51 ct_51:Value}
  {d_37 d_38 d_39 d_40 d_41 d_18 d_19 d_13 d_15 d_21 d_22 d_24 d_23 d_26 d_25 d_4 d_3 d_27 d_28 d_20 d_7 d_5 d_35 d_0 d_1 d_6 d_34 d_33 d_29 d_31 d_44 d_45 d_49 d_36 d_30 d_32 d_46 d_42 d_43 d_47 d_48 d_2 d_12 d_16 d_17 d_14 d_50:FuncData}
  (f_37:Fd K "_law_cell" s_37 a_37 d_37)
  (f_38:Fd K "_law_box" s_38 a_38 d_38)
  (f_39:Fd K "_law_take" s_39 a_39 d_39)
  (f_40:Fd K "_law_things" s_40 a_40 d_40)
  (f_41:Fd K "_law_full" s_41 a_41 d_41)
  (f_18:Fd K "things_together" s_18 a_18 d_18)
  (f_19:Fd K "have_all" s_19 a_19 d_19)
  (f_13:Fd K "is_full" s_13 a_13 d_13)
  (f_15:Fd K "need_full" s_15 a_15 d_15)
  (f_21:Fd K "first_rows" s_21 a_21 d_21)
  (f_22:Fd K "column_to_enter" s_22 a_22 d_22)
  (f_24:Fd K "leaves_ahead" s_24 a_24 d_24)
  (f_23:Fd K "place_to_leave" s_23 a_23 d_23)
  (f_26:Fd K "swept" s_26 a_26 d_26)
  (f_25:Fd K "pivoted" s_25 a_25 d_25)
  (f_4:Fd K "greatest_divisor" s_4 a_4 d_4)
  (f_3:Fd K "reduced" s_3 a_3 d_3)
  (f_27:Fd K "bearing_told" s_27 a_27 d_27)
  (f_28:Fd K "sharing_told" s_28 a_28 d_28)
  (f_20:Fd K "balanced" s_20 a_20 d_20)
  (f_7:Fd K "together" s_7 a_7 d_7)
  (f_5:Fd K "is_less" s_5 a_5 d_5)
  (f_35:Fd K "is_borne" s_35 a_35 d_35)
  (f_0:Fd K "is_whole" s_0 a_0 d_0)
  (f_1:Fd K "is_pair" s_1 a_1 d_1)
  (f_6:Fd K "is_fraction" s_6 a_6 d_6)
  (f_34:Fd K "is_share" s_34 a_34 d_34)
  (f_33:Fd K "are_shares" s_33 a_33 d_33)
  (f_29:Fd K "is_bearing" s_29 a_29 d_29)
  (f_31:Fd K "worth_of" s_31 a_31 d_31)
  (f_44:Fd K "_law_frac" s_44 a_44 d_44)
  (f_45:Fd K "_law_sum" s_45 a_45 d_45)
  (f_49:Fd K "_law_tight" s_49 a_49 d_49)
  (f_36:Fd K "is_shared" s_36 a_36 d_36)
  (f_30:Fd K "is_sharing" s_30 a_30 d_30)
  (f_32:Fd K "shared_price" s_32 a_32 d_32)
  (f_46:Fd K "_law_bearing" s_46 a_46 d_46)
  (f_42:Fd K "_law_has" s_42 a_42 d_42)
  (f_43:Fd K "_law_cover" s_43 a_43 d_43)
  (f_47:Fd K "_law_sharing" s_47 a_47 d_47)
  (f_48:Fd K "_law_less" s_48 a_48 d_48)
  (f_2:Fd K "is_rising" s_2 a_2 d_2)
  (f_12:Fd K "is_lot" s_12 a_12 d_12)
  (f_16:Fd K "need_lot" s_16 a_16 d_16)
  (f_17:Fd K "offers_of" s_17 a_17 d_17)
  (f_14:Fd K "price_of" s_14 a_14 d_14)
  (f_50:Fd K "_law_drawn_right" s_50 a_50 d_50)
  (e_51:W.nsIn K mainGlobals "law"=some (some (.ref a_51))) (l_51:K.lookup a_51=some ⟨oc_51,od_51,.func (W.fnOf "law" "law" (zeH s_51) (zdA s_51) (zaf s_51) .none kV_51 dc_51 pm_51 an_51 cd_51 ct_51),sl_51⟩) (c_51:W.codeIn K cd_51 "law"=true) (k_51:W.keepIn K (.ref a_51)=true)
  (z_abs:W.nsIn K mainGlobals "abs"=some none)
  (z_all:W.nsIn K mainGlobals "all"=some none)
  (z_bool:W.nsIn K mainGlobals "bool"=some none)
  (z_dict:W.nsIn K mainGlobals "dict"=some none)
  (z_enumerate:W.nsIn K mainGlobals "enumerate"=some none)
  (z_int:W.nsIn K mainGlobals "int"=some none)
  (z_isinstance:W.nsIn K mainGlobals "isinstance"=some none)
  (z_len:W.nsIn K mainGlobals "len"=some none)
  (z_list:W.nsIn K mainGlobals "list"=some none)
  (z_max:W.nsIn K mainGlobals "max"=some none)
  (z_min:W.nsIn K mainGlobals "min"=some none)
  (z_range:W.nsIn K mainGlobals "range"=some none)
  (z_set:W.nsIn K mainGlobals "set"=some none)
  (z_sorted:W.nsIn K mainGlobals "sorted"=some none)
  (z_sum:W.nsIn K mainGlobals "sum"=some none)
  (z_tuple:W.nsIn K mainGlobals "tuple"=some none)
  (z_zip:W.nsIn K mainGlobals "zip"=some none)
  : ∃ fd:FuncData,(∀ (s:Shared) (v:Value),BindsTo s fd ⟨[v],[]⟩ [("script",v)])/\ ∀ base:Heap,K.In base->base.Ns mainGlobals mg->zbP l.prog w K mg base CX0 8 fa fd ybi (zbY K 1 F_51):=by
 have e:=hfa.symm.trans (W.mg_of X G e_51)
 cases e
 have F_51:=zaA (st:=s_51) l_51 c_51 k_51
 have b_51:=F_51.binds (ps:=ybi) λ_ _ _ _ _ _ us hl=>match us,hl with | [_],_=>rfl
 have T:Tx K mg ⟨a_37,_,a_38,_,a_39,_,a_40,_,a_41,_,a_18,_,a_19,_,a_13,_,a_15,_,a_21,_,a_22,_,a_24,_,a_23,_,a_26,_,a_25,_,a_4,_,a_3,_,a_27,_,a_28,_,a_20,_,a_7,_,a_5,_,a_35,_,a_0,_,a_1,_,a_6,_,a_34,_,a_33,_,a_29,_,a_31,_,a_44,_,a_45,_,a_49,_,a_36,_,a_30,_,a_32,_,a_46,_,a_42,_,a_43,_,a_47,_,a_48,_,a_2,_,a_12,_,a_16,_,a_17,_,a_14,_,a_50,_,fa,_⟩:=
  {n_abs:=W.mg_none_of X G z_abs,
    n_all:=W.mg_none_of X G z_all,
    n_bool:=W.mg_none_of X G z_bool,
    n_dict:=W.mg_none_of X G z_dict,
    n_enumerate:=W.mg_none_of X G z_enumerate,
    n_int:=W.mg_none_of X G z_int,
    n_isinstance:=W.mg_none_of X G z_isinstance,
    n_len:=W.mg_none_of X G z_len,
    n_list:=W.mg_none_of X G z_list,
    n_max:=W.mg_none_of X G z_max,
    n_min:=W.mg_none_of X G z_min,
    n_range:=W.mg_none_of X G z_range,
    n_set:=W.mg_none_of X G z_set,
    n_sorted:=W.mg_none_of X G z_sorted,
    n_sum:=W.mg_none_of X G z_sum,
    n_tuple:=W.mg_none_of X G z_tuple,
    n_zip:=W.mg_none_of X G z_zip,
    m_37:=W.mg_of X G f_37.e,
    F_37:=f_37.F,
    b_37:=f_37.F.binds (ps:=yt) λ_ _ _ _ _ _ us hl=>match us,hl with | [_,_],_=>rfl,
    m_38:=W.mg_of X G f_38.e,
    F_38:=f_38.F,
    b_38:=f_38.F.binds (ps:=yt) λ_ _ _ _ _ _ us hl=>match us,hl with | [_,_],_=>rfl,
    m_39:=W.mg_of X G f_39.e,
    F_39:=f_39.F,
    b_39:=f_39.F.binds (ps:=yab) λ_ _ _ _ _ _ us hl=>match us,hl with | [_,_],_=>rfl,
    m_40:=W.mg_of X G f_40.e,
    F_40:=f_40.F,
    b_40:=f_40.F.binds (ps:=yab) λ_ _ _ _ _ _ us hl=>match us,hl with | [_,_],_=>rfl,
    m_41:=W.mg_of X G f_41.e,
    F_41:=f_41.F,
    b_41:=f_41.F.binds (ps:=yak) λ_ _ _ _ _ _ us hl=>match us,hl with | [_,_,_],_=>rfl,
    m_18:=W.mg_of X G f_18.e,
    F_18:=f_18.F,
    b_18:=f_18.F.binds (ps:=ybl) λ_ _ _ _ _ _ us hl=>match us,hl with | [_],_=>rfl,
    m_19:=W.mg_of X G f_19.e,
    F_19:=f_19.F,
    b_19:=f_19.F.binds (ps:=yaf) λ_ _ _ _ _ _ us hl=>match us,hl with | [_,_],_=>rfl,
    m_13:=W.mg_of X G f_13.e,
    F_13:=f_13.F,
    b_13:=f_13.F.binds (ps:=yh) λ_ _ _ _ _ _ us hl=>match us,hl with | [_],_=>rfl,
    m_15:=W.mg_of X G f_15.e,
    F_15:=f_15.F,
    b_15:=f_15.F.binds (ps:=yh) λ_ _ _ _ _ _ us hl=>match us,hl with | [_],_=>rfl,
    m_21:=W.mg_of X G f_21.e,
    F_21:=f_21.F,
    b_21:=f_21.F.binds (ps:=yh) λ_ _ _ _ _ _ us hl=>match us,hl with | [_],_=>rfl,
    m_22:=W.mg_of X G f_22.e,
    F_22:=f_22.F,
    b_22:=f_22.F.binds (ps:=["rows"]) λ_ _ _ _ _ _ us hl=>match us,hl with | [_],_=>rfl,
    m_24:=W.mg_of X G f_24.e,
    F_24:=f_24.F,
    b_24:=f_24.F.binds (ps:=yk) λ_ _ _ _ _ _ us hl=>match us,hl with | [_,_,_,_,_],_=>rfl,
    m_23:=W.mg_of X G f_23.e,
    F_23:=f_23.F,
    b_23:=f_23.F.binds (ps:=yad) λ_ _ _ _ _ _ us hl=>match us,hl with | [_,_,_],_=>rfl,
    m_26:=W.mg_of X G f_26.e,
    F_26:=f_26.F,
    b_26:=f_26.F.binds (ps:=yc) λ_ _ _ _ _ _ us hl=>match us,hl with | [_,_,_,_],_=>rfl,
    m_25:=W.mg_of X G f_25.e,
    F_25:=f_25.F,
    b_25:=f_25.F.binds (ps:=yp) λ_ _ _ _ _ _ us hl=>match us,hl with | [_,_,_,_],_=>rfl,
    m_4:=W.mg_of X G f_4.e,
    F_4:=f_4.F,
    b_4:=f_4.F.binds (ps:=yn) λ_ _ _ _ _ _ us hl=>match us,hl with | [_,_],_=>rfl,
    m_3:=W.mg_of X G f_3.e,
    F_3:=f_3.F,
    b_3:=f_3.F.binds (ps:=yn) λ_ _ _ _ _ _ us hl=>match us,hl with | [_,_],_=>rfl,
    m_27:=W.mg_of X G f_27.e,
    F_27:=f_27.F,
    b_27:=f_27.F.binds (ps:=yr) λ_ _ _ _ _ _ us hl=>match us,hl with | [_,_,_,_],_=>rfl,
    m_28:=W.mg_of X G f_28.e,
    F_28:=f_28.F,
    b_28:=f_28.F.binds (ps:=yo) λ_ _ _ _ _ _ us hl=>match us,hl with | [_,_,_],_=>rfl,
    m_20:=W.mg_of X G f_20.e,
    F_20:=f_20.F,
    b_20:=f_20.F.binds (ps:=yh) λ_ _ _ _ _ _ us hl=>match us,hl with | [_],_=>rfl,
    m_7:=W.mg_of X G f_7.e,
    F_7:=f_7.F,
    b_7:=f_7.F.binds (ps:=ybk) λ_ _ _ _ _ _ us hl=>match us,hl with | [_],_=>rfl,
    m_5:=W.mg_of X G f_5.e,
    F_5:=f_5.F,
    b_5:=f_5.F.binds (ps:=yag) λ_ _ _ _ _ _ us hl=>match us,hl with | [_,_],_=>rfl,
    m_35:=W.mg_of X G f_35.e,
    F_35:=f_35.F,
    b_35:=f_35.F.binds (ps:=yau) λ_ _ _ _ _ _ us hl=>match us,hl with | [_,_],_=>rfl,
    m_0:=W.mg_of X G f_0.e,
    F_0:=f_0.F,
    b_0:=f_0.F.binds (ps:=ye) λ_ _ _ _ _ _ us hl=>match us,hl with | [_],_=>rfl,
    m_1:=W.mg_of X G f_1.e,
    F_1:=f_1.F,
    b_1:=f_1.F.binds (ps:=ye) λ_ _ _ _ _ _ us hl=>match us,hl with | [_],_=>rfl,
    m_6:=W.mg_of X G f_6.e,
    F_6:=f_6.F,
    b_6:=f_6.F.binds (ps:=ye) λ_ _ _ _ _ _ us hl=>match us,hl with | [_],_=>rfl,
    m_34:=W.mg_of X G f_34.e,
    F_34:=f_34.F,
    b_34:=f_34.F.binds (ps:=ye) λ_ _ _ _ _ _ us hl=>match us,hl with | [_],_=>rfl,
    m_33:=W.mg_of X G f_33.e,
    F_33:=f_33.F,
    b_33:=f_33.F.binds (ps:=yai) λ_ _ _ _ _ _ us hl=>match us,hl with | [_,_],_=>rfl,
    m_29:=W.mg_of X G f_29.e,
    F_29:=f_29.F,
    b_29:=f_29.F.binds (ps:=yb) λ_ _ _ _ _ _ us hl=>match us,hl with | [_,_],_=>rfl,
    m_31:=W.mg_of X G f_31.e,
    F_31:=f_31.F,
    b_31:=f_31.F.binds (ps:=yah) λ_ _ _ _ _ _ us hl=>match us,hl with | [_,_],_=>rfl,
    m_44:=W.mg_of X G f_44.e,
    F_44:=f_44.F,
    b_44:=f_44.F.binds (ps:=yn) λ_ _ _ _ _ _ us hl=>match us,hl with | [_,_],_=>rfl,
    m_45:=W.mg_of X G f_45.e,
    F_45:=f_45.F,
    b_45:=f_45.F.binds (ps:=["some"]) λ_ _ _ _ _ _ us hl=>match us,hl with | [_],_=>rfl,
    m_49:=W.mg_of X G f_49.e,
    F_49:=f_49.F,
    b_49:=f_49.F.binds (ps:=yz) λ_ _ _ _ _ _ us hl=>match us,hl with | [_,_,_],_=>rfl,
    m_36:=W.mg_of X G f_36.e,
    F_36:=f_36.F,
    b_36:=f_36.F.binds (ps:=yaa) λ_ _ _ _ _ _ us hl=>match us,hl with | [_,_,_],_=>rfl,
    m_30:=W.mg_of X G f_30.e,
    F_30:=f_30.F,
    b_30:=f_30.F.binds (ps:=yb) λ_ _ _ _ _ _ us hl=>match us,hl with | [_,_],_=>rfl,
    m_32:=W.mg_of X G f_32.e,
    F_32:=f_32.F,
    b_32:=f_32.F.binds (ps:=yac) λ_ _ _ _ _ _ us hl=>match us,hl with | [_,_],_=>rfl,
    m_46:=W.mg_of X G f_46.e,
    F_46:=f_46.F,
    b_46:=f_46.F.binds (ps:=yi) λ_ _ _ _ _ _ us hl=>match us,hl with | [_,_],_=>rfl,
    m_42:=W.mg_of X G f_42.e,
    F_42:=f_42.F,
    b_42:=f_42.F.binds (ps:=ya) λ_ _ _ _ _ _ us hl=>match us,hl with | [_,_],_=>rfl,
    m_43:=W.mg_of X G f_43.e,
    F_43:=f_43.F,
    b_43:=f_43.F.binds (ps:=yi) λ_ _ _ _ _ _ us hl=>match us,hl with | [_,_],_=>rfl,
    m_47:=W.mg_of X G f_47.e,
    F_47:=f_47.F,
    b_47:=f_47.F.binds (ps:=yi) λ_ _ _ _ _ _ us hl=>match us,hl with | [_,_],_=>rfl,
    m_48:=W.mg_of X G f_48.e,
    F_48:=f_48.F,
    b_48:=f_48.F.binds (ps:=yav) λ_ _ _ _ _ _ us hl=>match us,hl with | [_,_],_=>rfl,
    m_2:=W.mg_of X G f_2.e,
    F_2:=f_2.F,
    b_2:=f_2.F.binds (ps:=yax) λ_ _ _ _ _ _ us hl=>match us,hl with | [_,_],_=>rfl,
    m_12:=W.mg_of X G f_12.e,
    F_12:=f_12.F,
    b_12:=f_12.F.binds (ps:=yb) λ_ _ _ _ _ _ us hl=>match us,hl with | [_,_],_=>rfl,
    m_16:=W.mg_of X G f_16.e,
    F_16:=f_16.F,
    b_16:=f_16.F.binds (ps:=ya) λ_ _ _ _ _ _ us hl=>match us,hl with | [_,_],_=>rfl,
    m_17:=W.mg_of X G f_17.e,
    F_17:=f_17.F,
    b_17:=f_17.F.binds (ps:=ya) λ_ _ _ _ _ _ us hl=>match us,hl with | [_,_],_=>rfl,
    m_14:=W.mg_of X G f_14.e,
    F_14:=f_14.F,
    b_14:=f_14.F.binds (ps:=ya) λ_ _ _ _ _ _ us hl=>match us,hl with | [_,_],_=>rfl,
    m_50:=W.mg_of X G f_50.e,
    F_50:=f_50.F,
    b_50:=f_50.F.binds (ps:=yat) λ_ _ _ _ _ _ us hl=>match us,hl with | [_,_,_],_=>rfl,
    m_51:=W.mg_of X G e_51,
    F_51:=F_51,
    b_51:=b_51}
 exact ⟨W.fnOf "law" "law" (zeH s_51) (zdA s_51) (zaf s_51) .none kV_51 dc_51 pm_51 an_51 cd_51 ct_51,λs v=> .of_eq rfl,λbase _ _=>ok_51 T⟩
theorem zvM {l:W.OpenLaw} {q:Program} {loose:List Str} {XP:(Str->Option Value)->Heap->Prop} {YP:World->Heap->Prop} {d:DefRec} {K:Params->W.Frag} (hn:l.most=some 63) (hdf:d.params.defaults=[])
  (hY: ∀ (w:World) (h:Heap),YP w h->(K w.params).In h)
  (F: ∀ (w:World) (mg:Str->Option Value) (fa:Addr) (h:Heap),(K w.params).In h->h.Ns mainGlobals mg->mg d.name=some (.ref fa)->
    ∃ fd:FuncData,(∀ (s:Shared) (u:Value),BindsTo s fd ⟨[u],[]⟩ [("script",u)])/\ ∀ base:Heap,(K w.params).In base->base.Ns mainGlobals mg->zbP l.prog w (K w.params) mg base CX0 8 fa fd ybi (zbY (K w.params) 1 F_51))
  (hm: ∀ ns:List Int,ns.length<=63-> ∃ h',F_51 [.scr (ns.map D.int)] []= .ok (.bl true) h'):
  W.WalkO q loose XP YP l.row.toRowW d [] (λf vs=>PySem.call f vs):=
 L2.zpk (n:=63) (k:=8) (x:="script") (CX:=λ_=>CX0) (sp:=λw=>zbY (K w.params) 1 F_51) hn (by decide) hdf ⟨rfl,by decide,by decide⟩ hY F (λw H a ns hl _ hS=>zt4 hS (hm ns hl)) λ_ _ _ _ _ z=>z
end K34
open PySem.W
set_option maxRecDepth 100000 in
set_option maxHeartbeats 0 in
theorem PySem.Challenge.cw_cheapcovers_k34_whole_both_sides_holds : PySem.Challenge.rw_cheapcovers_k34_whole_both_sides.Holds := by
 w_on; o_law; k_head; (case hw => w_witness2)
 k_fill
 refine K34.zvM (l := PySem.Challenge.rw_cheapcovers_k34_whole_both_sides) rfl rfl (fun w h Y => W.kIn_of Y) ?F K34.zmJ
 case F =>
  intro w mg fa h KX G hmg
  refine' K34.zsW KX G hmg (L3.Fd.mk ?_ (L2.zaA ?_ ?_ ?_)) (L3.Fd.mk ?_ (L2.zaA ?_ ?_ ?_)) (L3.Fd.mk ?_ (L2.zaA ?_ ?_ ?_)) (L3.Fd.mk ?_ (L2.zaA ?_ ?_ ?_)) (L3.Fd.mk ?_ (L2.zaA ?_ ?_ ?_)) (L3.Fd.mk ?_ (L2.zaA ?_ ?_ ?_)) (L3.Fd.mk ?_ (L2.zaA ?_ ?_ ?_)) (L3.Fd.mk ?_ (L2.zaA ?_ ?_ ?_)) (L3.Fd.mk ?_ (L2.zaA ?_ ?_ ?_)) (L3.Fd.mk ?_ (L2.zaA ?_ ?_ ?_)) (L3.Fd.mk ?_ (L2.zaA ?_ ?_ ?_)) (L3.Fd.mk ?_ (L2.zaA ?_ ?_ ?_)) (L3.Fd.mk ?_ (L2.zaA ?_ ?_ ?_)) (L3.Fd.mk ?_ (L2.zaA ?_ ?_ ?_)) (L3.Fd.mk ?_ (L2.zaA ?_ ?_ ?_)) (L3.Fd.mk ?_ (L2.zaA ?_ ?_ ?_)) (L3.Fd.mk ?_ (L2.zaA ?_ ?_ ?_)) (L3.Fd.mk ?_ (L2.zaA ?_ ?_ ?_)) (L3.Fd.mk ?_ (L2.zaA ?_ ?_ ?_)) (L3.Fd.mk ?_ (L2.zaA ?_ ?_ ?_)) (L3.Fd.mk ?_ (L2.zaA ?_ ?_ ?_)) (L3.Fd.mk ?_ (L2.zaA ?_ ?_ ?_)) (L3.Fd.mk ?_ (L2.zaA ?_ ?_ ?_)) (L3.Fd.mk ?_ (L2.zaA ?_ ?_ ?_)) (L3.Fd.mk ?_ (L2.zaA ?_ ?_ ?_)) (L3.Fd.mk ?_ (L2.zaA ?_ ?_ ?_)) (L3.Fd.mk ?_ (L2.zaA ?_ ?_ ?_)) (L3.Fd.mk ?_ (L2.zaA ?_ ?_ ?_)) (L3.Fd.mk ?_ (L2.zaA ?_ ?_ ?_)) (L3.Fd.mk ?_ (L2.zaA ?_ ?_ ?_)) (L3.Fd.mk ?_ (L2.zaA ?_ ?_ ?_)) (L3.Fd.mk ?_ (L2.zaA ?_ ?_ ?_)) (L3.Fd.mk ?_ (L2.zaA ?_ ?_ ?_)) (L3.Fd.mk ?_ (L2.zaA ?_ ?_ ?_)) (L3.Fd.mk ?_ (L2.zaA ?_ ?_ ?_)) (L3.Fd.mk ?_ (L2.zaA ?_ ?_ ?_)) (L3.Fd.mk ?_ (L2.zaA ?_ ?_ ?_)) (L3.Fd.mk ?_ (L2.zaA ?_ ?_ ?_)) (L3.Fd.mk ?_ (L2.zaA ?_ ?_ ?_)) (L3.Fd.mk ?_ (L2.zaA ?_ ?_ ?_)) (L3.Fd.mk ?_ (L2.zaA ?_ ?_ ?_)) (L3.Fd.mk ?_ (L2.zaA ?_ ?_ ?_)) (L3.Fd.mk ?_ (L2.zaA ?_ ?_ ?_)) (L3.Fd.mk ?_ (L2.zaA ?_ ?_ ?_)) (L3.Fd.mk ?_ (L2.zaA ?_ ?_ ?_)) (L3.Fd.mk ?_ (L2.zaA ?_ ?_ ?_)) (L3.Fd.mk ?_ (L2.zaA ?_ ?_ ?_)) ?_ ?_ ?_ ?_ ?_ ?_ ?_ ?_ ?_ ?_ ?_ ?_ ?_ ?_ ?_ ?_ ?_ ?_ ?_ ?_ ?_
  all_goals try first | k_is | kernel_rfl
