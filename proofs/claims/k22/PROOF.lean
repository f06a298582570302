import PyProof.Rows.All
import Wide.All
import OpenK.AllK
import Wide.FinOn
import Lean
import PyProof.Rows.SetFrom
import PyProof.WalksMore
import PyProof.SetRoads
import PyProof.ListRange
import PyProof.Rows.SortWalk
import PyProof.CollectWalk
import PyProof.ZipIter
import PyProof.EnumStmt
import PyProof.EqAt
import PyProof.EqKinds
import PyProof.TupleCall
import PyProof.CompFree
import PyProof.Cells
import PyProof.ConsumeWalk
import PyProof.TupleOfSeq
import PyProof.NeKinds
import PyProof.IsiPairs
import PyProof.IsiHeapPairs
import PyProof.IsInstanceT
import PyProof.IsiTupleOf
import KE.KSortTup
import KE.KTryMore
import PyProof.ExcBaseAll.ValueError
import KE.RegMulBits
import Wide.ObjOpen
import Wide.RegSB
import PyProof.ExcAttrAll.ValueError
import PyProof.ExcArgsOwn
import PyProof.SumWalk
import PyProof.ReprRoads
import PyProof.Rows.DictMade
import PyProof.Rows.DictMethods
import KE.KRevIter
import PyProof.ListMulRoad
import PyProof.FactsAll.tuple_2
import PyProof.DictRoadsH
import PyProof.DictCompW
import PyProof.DictIter
import PyProof.DictWalks
import KE.KDictList
import KE.KSortKey
import KE.KLam
import PySem.Challenge.RW_jointrees_k22_join_trees_told
noncomputable section
set_option Elab.async false
set_option linter.all false
set_option maxRecDepth 100000
set_option maxHeartbeats 4000000
namespace Jt
open PySem
def Up (xs:Array Nat):Prop:=xs.toList.Pairwise (· < ·)
def ed (e:Int × Value):Int × Tok:=match e.2 with
 | .int i t=>(i,t)
 | _=>(0,0)
end Jt
namespace Jt
open PySem
section
variable {prog:Program} {w:World} {A:Around} {E:Value->Shared->Prop} {s:Shared} {a:Addr} {l:List (Int × Tok)} {ep:Nat} {t:SetTable}
end
end Jt
namespace Jt
open PySem
section
variable {prog:Program} {w:World} {A:Around} {E:Value->Shared->Prop} {s:Shared} {R:Result->Shared->Prop} {I:Addr} {fp wr:List Addr} {n:Nat} {P:Nat->Value->Prop} {St:Nat->Heap->Prop}
set_option maxHeartbeats 8000000 in
set_option maxHeartbeats 8000000 in
end
end Jt
namespace Jt
open PySem
section
variable {prog:Program} {w:World} {A:Around} {E:Value->Shared->Prop} {s:Shared} {I S:Addr} {l:List (Int × Tok)} {ep:Nat} {t:SetTable} {i:Nat} {f0:Value}
theorem vL {α:Type} {Q:α->Shared->Prop} (hh:A.handled=none) (hE:∀ h' e,(∀ b o,s.heap.get? b=some o->h'.get? b=some o)->(∃ o,h'.get? e=some o∧o.cls=.type "StopIteration")->E (.ref e) { s with heap:=h' }) :
  wpAny (model prog w) A (newExc (.type "StopIteration") [] >>= fun x=>(raiseNew x:Sem α)) Q E s:= by
 refine wpAny_bind ?_
 simp only [newExc,newTuple]
 refine wpAny_bind (wpAny_newObj_type ?_ (by size_fits))
 refine wpAny_bind (m:=firstArgMember _ _) (wpAny_of_eq (a:=Value.none) (by first | rfl | (simp only [firstArgMember];rfl)) ?_)
 refine wpAny_newObj_type ?_ (by size_fits)
 simp only [raiseNew]
 refine wpAny_bind (wpAny_handled ?_)
 rw [hh]
 refine wpAny_bind (wpAny_pure (wpAny_throw ?_))
 exact hE _ _ (fun b o e=>Heap.get?_push_of_some _ (Heap.get?_push_of_some _ e)) ⟨_,Heap.get?_push_size _ rfl,rfl⟩
end
end Jt
namespace Jt
open PySem
section
variable {prog:Program} {w:World} {A:Around} {E:Value->Shared->Prop} {s:Shared} {I S:Addr} {l:List (Int × Tok)} {ep:Nat} {t:SetTable} {i:Nat} {f0:Value}
end
end Jt
namespace Jt
open PySem
section
variable {prog:Program} {w:World} {A:Around} {E:Value->Shared->Prop} {s:Shared} {I S:Addr} {l:List (Int × Tok)} {ep:Nat} {t:SetTable} {i:Nat} {f0:Value}
end
end Jt
namespace Jt
open PySem
section
variable {prog:Program} {w:World} {A:Around} {E:Value->Shared->Prop} {s:Shared} {I S:Addr} {l:List (Int × Tok)} {ep:Nat} {t:SetTable}
theorem oA {v:Value} {ns:List Int} {Q:Value->Shared->Prop}
  (hc:∀ (A':Around) (Q':List Value->Shared->Prop) (E':Value->Shared->Prop),(A'.handled=A.handled)->(∀ (vs:List Value) (ms:List Int) (h':Heap) (tk:Nat) (d:Drawn),PyProof.Rows.IntsAre vs ms->ms.Perm ns->(∀ b o,s.heap.get? b=some o->h'.get? b=some o)->Q' vs { s with heap:=h',toks:=tk,drawn:=d }) ->
   wpAny (model prog w) A' (collect v) Q' E' s) (h64:ns.length < 64)
  (h:∀ (h1 h':Heap) (tk:Nat) (d:Drawn) (out:List Value) (ms:List Int) (e:Nat),(∀ b o,s.heap.get? b=some o->h1.get? b=some o)->(∀ b o,h1.get? b=some o->h'.get? b=some o)->h'.get? h1.objs.size=some { cls:=.type "list",data:=.seq out.toArray e } ->
   PyProof.Rows.IntsAre out ms->ms.Perm ns->ms.Pairwise (· ≤ ·)->Q (.ref h1.objs.size) { s with heap:=h',toks:=tk,drawn:=d }) :
  wpAny (model prog w) A (call (.builtin "sorted") [v]) Q E s:= by
 refine Calls.call_function_entry PyProof.Rows.kind_sorted PyProof.Rows.plain_sorted PyProof.Rows.entry_sorted (PyProof.Rows.args_sorted1 _) ?_
 unfold Builtin.«sorted»
 refine wpAny_bind (m:=checkCount "sorted" 1 1 _) (wpAny_pure ?_)
 refine wpAny_bind (hc _ _ _ (by simp) fun vs ms h1 tk d hi pm kp=>?_)
 have hl:vs.length=ns.length:=by rw [hi.length,pm.length_eq]
 refine wpAny_bind (wpAny_newList ?_ (by rw [hl,sizeLine_eq];omega))
 have g1:(h1.push (PyProof.Rows.seqObj "list" vs.toArray 0)).get? h1.objs.size=some (PyProof.Rows.seqObj "list" vs.toArray 0):=Heap.get?_push_size _ rfl
 refine wpAny_bind (wpAny_holding (wpAny_call_entry PyProof.Rows.slot_list_sort ⟨_,g1,rfl⟩ PyProof.Rows.entry_list_sort (PyProof.Rows.list_sort_tree (s:={ s with heap:=h1.push (PyProof.Rows.seqObj "list" vs.toArray 0),toks:=tk,drawn:=d }) g1 hi (by omega) fun out ms' a1 a2 a3=>⟨_,rfl,?_⟩) (PyProof.Rows.args_list_sort _)))
 obtain ⟨e,he⟩:=PyProof.Rows.sortedHeap_at (out:=out) g1
 refine wpAny_pure ⟨_,rfl,h h1 _ tk d out.toList ms' e kp (fun b o eb=>?_) (by simpa [PyProof.Rows.seqObj] using he) a1 (a2.trans pm) a3⟩
 have hb:=Heap.lt_size eb
 show (PyProof.Rows.sortedHeap (h1.push (PyProof.Rows.seqObj "list" vs.toArray 0)) h1.objs.size vs out).get? b=some o
 rw [PyProof.Rows.sortedHeap_old (Nat.ne_of_lt hb) (by rw [Heap.size_push];exact Nat.lt_succ_of_lt hb)]
 exact Heap.get?_push_of_some _ eb
end
end Jt
namespace Jt
open PySem
def sI (b:Bool) (h:Heap) (q:Addr) (xs:Array Value):Prop:=match b with
 | true=>h.IsTuple q xs
 | false=>h.IsList q xs
def se (b:Bool) (h:Heap) (it q:Addr) (k:Nat):Prop:=match b with
 | true=>h.IsTupleIter it q k
 | false=>h.IsListIter it q k
def oC (b:Bool) (q:Addr):Obj:={ cls:=.type (if b then "tuple_iterator" else "list_iterator"),data:=.fields #[.ref q,.int 0 0] }
section
variable {prog:Program} {w:World} {A:Around} {E:Value->Shared->Prop} {s:Shared} {b:Bool} {it q:Addr} {k:Nat} {xs:Array Value}
theorem sI.at {h h':Heap} (x:sI b h q xs) (e:∀ o,h.get? q=some o->h'.get? q=some o):sI b h' q xs:= by
 cases b with
 | true=>obtain ⟨o,ho,r⟩:=x;exact ⟨o,e o ho,r⟩
 | false=>obtain ⟨o,ho,r⟩:=x;exact ⟨o,e o ho,r⟩
theorem se.at {h h':Heap} (x:se b h it q k) (e:∀ o,h.get? it=some o->h'.get? it=some o):se b h' it q k:= by
 cases b with
 | true=>obtain ⟨o,ho,r⟩:=x;exact ⟨o,e o ho,r⟩
 | false=>obtain ⟨o,ho,r⟩:=x;exact ⟨o,e o ho,r⟩
theorem se.lt {h:Heap} (x:se b h it q k):it < h.objs.size:= by
 cases b with
 | true=>obtain ⟨o,ho,r⟩:=x;exact Heap.lt_size ho
 | false=>obtain ⟨o,ho,r⟩:=x;exact Heap.lt_size ho
theorem sI.lt {h:Heap} (x:sI b h q xs):q < h.objs.size:= by
 cases b with
 | true=>obtain ⟨o,ho,r⟩:=x;exact Heap.lt_size ho
 | false=>obtain ⟨o,ho,r⟩:=x;exact Heap.lt_size ho
theorem nV {Q:Value->Shared->Prop} (x:sI b s.heap q xs) (h:Q (.ref s.heap.objs.size) { s with heap:=s.heap.push (oC b q) }):wpAny (model prog w) A (pyIter (.ref q)) Q E s:= by
 cases b with
 | true=>exact wpAny_pyIter_tuple x h
 | false=>exact wpAny_pyIter_list x h
theorem se.new {h:Heap}:se b (h.push (oC b q)) h.objs.size q 0:= by
 cases b with
 | true=>exact ⟨_,Heap.get?_push_size _ rfl,rfl,rfl⟩
 | false=>exact ⟨_,Heap.get?_push_size _ rfl,rfl,rfl⟩
theorem zf {x:Value} {Q:Value->Shared->Prop} (hi:se b s.heap it q k) (hq:sI b s.heap q xs) (hx:xs[k]? = some x) (h:∀ h',se b h' it q (k + 1)->Heap.SameBut it s.heap h' -> Q x { s with heap:=h' }) :
  wpAny (model prog w) A (Builtin.SmallTypes.nextOf (.ref it)) Q E s:= by
 cases b with
 | false=>exact wpAny_nextOf_list_item hi hq hx h
 | true=>
  obtain ⟨o,ho,hc,hd⟩:=id hi
  obtain ⟨oq,hoq,_,n,hdq⟩:=hq
  have hT:s.TypeIs (.ref it) "tuple_iterator":=⟨o,ho,hc⟩
  unfold Builtin.SmallTypes.nextOf
  refine wpAny_bind (wpAny_callSpecial?_slot (name:=Str.ofString "__next__") hT F.slot_tuple_iterator_next (wpAny_call_entry F.slot_tuple_iterator_next hT F.entry_tuple_iterator_next (?_:wpAny _ _ (field (.ref it) 0 >>= _) _ _ s) (F.args_tuple_iterator_next_1 _)))
  refine wpAny_bind (wpAny_field ho hd (x:=.ref q) rfl (?_:wpAny _ _ (if (Value.ref q == Value.none)=true then _ else _) _ _ s))
  rw [if_neg (show ¬ ((Value.ref q == Value.none)=true) from Bool.false_ne_true)]
  refine (?_:wpAny _ _ (field (.ref it) 1 >>= _) _ _ s)
  refine wpAny_bind (wpAny_field ho hd (x:=.int k 0) rfl (?_:wpAny _ _ (seqItems? (.ref q) >>= _) _ _ s))
  refine wpAny_bind (wpAny_seqItems hoq hdq ?_)
  simp only [Int.toNat_natCast,hx]
  refine wpAny_bind (wpAny_setField ho hd (by simp) (wpAny_pure ⟨x,rfl,wpAny_pure (h _ ⟨_,Heap.get?_update_self _ ho (Obj.isFreed_of_fields (Obj.data_mapFields hd _)),(Obj.cls_mapFields ..).trans hc,?_⟩ (Heap.SameBut.update ..))⟩))
  rw [Obj.data_mapFields hd];simp [rawInt]
theorem Dj {Q:Value->Shared->Prop} (hh:A.handled=none) (hi:se b s.heap it q k) (hq:sI b s.heap q xs) (hx:xs[k]? = none)
  (h:∀ h' e,(∀ c o,c ≠ it->s.heap.get? c=some o->h'.get? c=some o)->(∃ o,h'.get? e=some o∧o.cls=.type "StopIteration")->E (.ref e) { s with heap:=h' }) :
  wpAny (model prog w) A (Builtin.SmallTypes.nextOf (.ref it)) Q E s:= by
 cases b with
 | false=>exact wpAny_nextOf_list_end hh hi hq hx h
 | true=>
  obtain ⟨o,ho,hc,hd⟩:=id hi
  obtain ⟨oq,hoq,_,n,hdq⟩:=hq
  have hT:s.TypeIs (.ref it) "tuple_iterator":=⟨o,ho,hc⟩
  unfold Builtin.SmallTypes.nextOf
  refine wpAny_bind (wpAny_callSpecial?_slot (name:=Str.ofString "__next__") hT F.slot_tuple_iterator_next (wpAny_call_entry F.slot_tuple_iterator_next hT F.entry_tuple_iterator_next (?_:wpAny _ _ (field (.ref it) 0 >>= _) _ _ s) (F.args_tuple_iterator_next_1 _)))
  refine wpAny_bind (wpAny_field ho hd (x:=.ref q) rfl (?_:wpAny _ _ (if (Value.ref q == Value.none)=true then _ else _) _ _ s))
  rw [if_neg (show ¬ ((Value.ref q == Value.none)=true) from Bool.false_ne_true)]
  refine (?_:wpAny _ _ (field (.ref it) 1 >>= _) _ _ s)
  refine wpAny_bind (wpAny_field ho hd (x:=.int k 0) rfl (?_:wpAny _ _ (seqItems? (.ref q) >>= _) _ _ s))
  refine wpAny_bind (wpAny_seqItems hoq hdq ?_)
  simp only [Int.toNat_natCast,hx]
  refine wpAny_bind (wpAny_rule (wpAny_bind (wpAny_setField ho hd (by simp) (?_:wpAny _ _ (newExc (.type "StopIteration") [] >>= _) _ _ _))))
  refine vL (s:={ s with heap:=s.heap.update it _ }) (by simpa using hh) fun h' e kp he=>h h' e (fun c o hc e'=>kp c o ?_) he
  exact (Heap.get?_update_other _ _ (Ne.symm hc)).trans e'
variable {b1 b2:Bool} {z TI TO i1 i2 l1 l2:Addr} {ys:Array Value}
end
end Jt
namespace Jt
open PySem
section
variable {prog:Program} {w:World} {A:Around} {E:Value->Shared->Prop} {s:Shared} {b1 b2 b:Bool} {l1 l2 q it e:Addr} {xs ys:Array Value} {k:Nat}
theorem qW (b:Bool) (l:Addr) (xs:Array Value):Meets (Builtin.«enumerate.__new__» ⟨[.type "enumerate",.ref l],[]⟩) (fun _ R s=>sI b s.heap l xs∧R (.ok (.ret (.ref (s.heap.push (oC b l)).objs.size)))
  { s with heap:=(s.heap.push (oC b l)).push { cls:=.type "enumerate",data:=.fields #[.none,.bool false,.ref s.heap.objs.size,rawInt 0,.none,.none] } }) :=
 .of_wp fun prog w A R s h=>by
  obtain ⟨hp,g,d,tk,os⟩:=s
  obtain ⟨h1,h⟩:=h
  have hsub:=sub_enumerate
  have L1:sI b (Shared.heap ⟨hp,g,d,tk,os⟩) l xs:=h1
  wp_walk
  refine wpAny_stack_any fun st=>wpAny_pure ?_
  split
  ·rename_i c _ _ _ _ _
   cases (c == Value.type "enumerate")
   ·wp_walk using nV L1
    exact ⟨_,rfl,h⟩
   ·wp_walk using nV L1
    exact ⟨_,rfl,h⟩
  ·wp_walk using nV L1
   exact ⟨_,rfl,h⟩
abbrev GY (b:Bool) (e it l:Addr) (xs:Array Value) (k:Nat) (h:Heap):Prop:=(∃ old,IsEnum h e it k old)∧se b h it l k∧sI b h l xs
theorem vW {Q:Value->Shared->Prop} (h1:sI b s.heap q xs)
  (h:∀ h' e it,e ≠ it->q ≠ e->q ≠ it->GY b e it q xs 0 h' -> (∀ c o,s.heap.get? c=some o->h'.get? c=some o)->s.heap.objs.size ≤ e->s.heap.objs.size ≤ it->Q (.ref e) { s with heap:=h' }) :
  wpAny (model prog w) A (call (.type "enumerate") [.ref q]) Q E s:= by
 refine callType_new F.called_enumerate (by decide) (F.typeCall_enumerate_1 _) (F.newCall_enumerate_1 _) (fun obj=>F.args_object_init_2 obj _) F.entry_enumerate_new (qW b q xs) ⟨h1,?_⟩
 have a1:(s.heap.push (oC b q)).objs.size=s.heap.objs.size + 1:=Heap.size_push ..
 have lt1:=h1.lt
 refine ⟨⟨_,Heap.get?_push_size _ rfl,rfl⟩,h _ _ s.heap.objs.size (fun z=>?_) (fun z=>?_) (Nat.ne_of_lt lt1) ⟨⟨.none,Heap.get?_push_size _ rfl⟩,se.new.at fun o e=>Heap.get?_push_of_some _ e,h1.at fun o e=>Heap.get?_push_of_some _ (Heap.get?_push_of_some _ e)⟩ (fun c o e=>Heap.get?_push_of_some _ (Heap.get?_push_of_some _ e)) ?_ (Nat.le_refl _)⟩
 ·rw [a1] at z;exact Nat.succ_ne_self _ z
 ·rw [a1] at z;exact Nat.ne_of_lt (Nat.lt_succ_of_lt lt1) z
 ·rw [a1];exact Nat.le_succ _
theorem ua {v:Value} {Q:Option Value->Shared->Prop} (hne:e ≠ it) (hqe:q ≠ e) (hqi:q ≠ it) (st:GY b e it q xs k s.heap) (hx:xs[k]? = some v)
  (hQ:∀ h',IsEnumOut h' e it ((k:Int) + 1) v s.heap.objs.size->se b h' it q (k + 1)->sI b h' q xs->IsPair h' s.heap.objs.size (.int k s.toks) v->(∀ c o,c ≠ e->c ≠ it->s.heap.get? c=some o->h'.get? c=some o)->Q (some (.ref s.heap.objs.size)) { s with heap:=h',toks:=s.toks + 1 }) :
  wpAny (model prog w) A (pyNext (.ref e)) Q E s:= by
 obtain ⟨⟨old,he⟩,hi,hq⟩:=st
 have hT:s.TypeIs (.ref e) "enumerate":=⟨_,he,rfl⟩
 have hel:e < s.heap.objs.size:=Heap.lt_size he
 unfold pyNext
 refine wpAny_bind (wpAny_attempt (wpAny_callSpecial?_slot (name:=Str.ofString "__next__") hT F.slot_enumerate_next (wpAny_call_entry F.slot_enumerate_next hT F.entry_enumerate_next (?_:wpAny _ _ (field (.ref e) 2 >>= _) _ _ _) (F.args_enumerate_next_1 _))))
 obtain ⟨hp,g,d,tk,os⟩:=s
 refine wpAny_bind (wpAny_field he rfl (x:=.ref it) rfl (wpAny_bind (zf hi hq hx fun h1 hi1 s1=>?_)))
 replace s1:Heap.SameBut it hp h1:=s1
 have e1:IsEnum h1 e it k old:=(s1.2 e hne).trans he
 refine (?_:wpAny _ _ (field (.ref e) 3 >>= _) _ _ ⟨h1,g,d,tk,os⟩)
 refine wpAny_bind (wpAny_field (s:=⟨h1,g,d,tk,os⟩) e1 rfl (x:=rawInt k) rfl (?_:wpAny _ _ (field (.ref e) 4 >>= _) _ _ ⟨h1,g,d,tk,os⟩))
 refine wpAny_bind (wpAny_field (s:=⟨h1,g,d,tk,os⟩) e1 rfl (x:=.none) rfl (?_:wpAny _ _ (mkInt k >>= _) _ _ ⟨h1,g,d,tk,os⟩))
 refine wpAny_bind (wpAny_mkInt (?_:wpAny _ _ (setField (.ref e) 3 (rawInt ((k:Int) + 1)) >>= _) _ _ ⟨h1,g,d,tk + 1,os⟩))
 refine wpAny_bind (wpAny_setField_rec (s:=⟨h1,g,d,tk + 1,os⟩) e1 (by simp) fun h2 e2 s2=>(?_:wpAny _ _ (setField (.ref e) 4 .none >>= _) _ _ ⟨h2,g,d,tk + 1,os⟩))
 replace s2:Heap.SameBut e h1 h2:=s2
 replace e2:IsEnum h2 e it ((k:Int) + 1) old:=e2
 refine wpAny_bind (wpAny_setField_rec (s:=⟨h2,g,d,tk + 1,os⟩) e2 (by simp) fun h3 e3 s3=>(?_:wpAny _ _ (newTuple [.int k tk,v] >>= _) _ _ ⟨h3,g,d,tk + 1,os⟩))
 replace s3:Heap.SameBut e h2 h3:=s3
 replace e3:IsEnum h3 e it ((k:Int) + 1) old:=e3
 refine wpAny_bind (wpAny_newTuple ?_)
 have hsz:h3.objs.size=hp.objs.size:=by rw [s3.1,s2.1,s1.1]
 have e4:IsEnum (h3.push { cls:=.type "tuple",data:=.seq #[.int k tk,v] }) e it ((k:Int) + 1) old:=Heap.get?_push_of_some _ e3
 have t4:IsPair (h3.push { cls:=.type "tuple",data:=.seq #[.int k tk,v] }) hp.objs.size (.int k tk) v:=by rw [<- hsz];exact Heap.get?_push_size _ rfl
 have up4:∀ c o,c ≠ e->h1.get? c=some o->(h3.push { cls:=.type "tuple",data:=.seq #[.int k tk,v] }).get? c=some o:=fun c o hc x=>Heap.get?_push_of_some _ (s3.extBut c o hc (s2.extBut c o hc x))
 refine (?_:wpAny _ _ (Builtin.SmallTypes.ownedTupleIsFree (.ref e) >>= _) _ _ ⟨h3.push { cls:=.type "tuple",data:=.seq #[.int k tk,v] },g,d,tk + 1,os⟩)
 rw [hsz]
 generalize h3.push { cls:=.type "tuple",data:=.seq #[.int k tk,v] }=h4 at e4 t4 up4
 refine wpAny_bind ?_
 unfold Builtin.SmallTypes.ownedTupleIsFree
 refine wpAny_bind (wpAny_field (s:=⟨h4,g,d,tk + 1,os⟩) e4 rfl (x:=.none) rfl (wpAny_pure ?_))
 simp only [if_true]
 refine wpAny_bind (wpAny_rule (wpAny_bind (wpAny_field (s:=⟨h4,g,d,tk + 1,os⟩) e4 rfl (x:=old) rfl ?_)))
 refine wpAny_bind (wpAny_setField_rec (s:=⟨h4,g,d,tk + 1,os⟩) e4 (by simp) fun h5 e5 s5=>(?_:wpAny _ _ (Builtin.SmallTypes.ownedTupleHandOut (.ref e) (.ref hp.objs.size) >>= _) _ _ ⟨h5,g,d,tk + 1,os⟩))
 replace s5:Heap.SameBut e h4 h5:=s5
 replace e5:IsEnum h5 e it ((k:Int) + 1) v:=e5
 refine wpAny_bind ?_
 unfold Builtin.SmallTypes.ownedTupleHandOut
 refine wpAny_bind (wpAny_setField_rec (s:=⟨h5,g,d,tk + 1,os⟩) e5 (by simp) fun h6 e6 s6=>?_)
 replace s6:Heap.SameBut e h5 h6:=s6
 replace e6:IsEnumOut h6 e it ((k:Int) + 1) v hp.objs.size:=e6
 refine wpAny_setField_rec (s:=⟨h6,g,d,tk + 1,os⟩) e6 (by simp) fun h7 e7 s7=>?_
 replace s7:Heap.SameBut e h6 h7:=s7
 replace e7:IsEnumOut h7 e it ((k:Int) + 1) v hp.objs.size:=e7
 have up:∀ c o,c ≠ e->h1.get? c=some o->h7.get? c=some o:=fun c o hc x=>s7.extBut c o hc (s6.extBut c o hc (s5.extBut c o hc (up4 c o hc x)))
 have hel':hp.objs.size ≠ e:=Nat.ne_of_gt hel
 refine wpAny_bind (wpAny_letGo (wpAny_pure ⟨_,rfl,wpAny_pure (hQ h7 e7 (hi1.at fun o x=>up _ _ hne.symm x) (hq.at fun o x=>up _ _ hqe (s1.extBut _ _ hqi x)) (s7.extBut _ _ hel' (s6.extBut _ _ hel' (s5.extBut _ _ hel' t4))) fun c o c1 c2 x=>up c o c1 (s1.extBut _ _ c2 x))⟩))
theorem wK {Q:Option Value->Shared->Prop} (hh:A.handled=none) (st:GY b e it q xs k s.heap) (hx:xs[k]? = none) (hQ:∀ h',(∀ c o,c ≠ it->s.heap.get? c=some o->h'.get? c=some o)->Q none { s with heap:=h' }):wpAny (model prog w) A (pyNext (.ref e)) Q E s:= by
 obtain ⟨⟨old,he⟩,hi,hq⟩:=st
 have hT:s.TypeIs (.ref e) "enumerate":=⟨_,he,rfl⟩
 unfold pyNext
 refine wpAny_bind (wpAny_attempt (wpAny_callSpecial?_slot (name:=Str.ofString "__next__") hT F.slot_enumerate_next (wpAny_call_entry F.slot_enumerate_next hT F.entry_enumerate_next (?_:wpAny _ _ (field (.ref e) 2 >>= _) _ _ _) (F.args_enumerate_next_1 _))))
 refine wpAny_bind (wpAny_field he rfl (x:=.ref it) rfl (wpAny_bind (Dj (by simpa using hh) hi hq hx fun h' x kp hx'=>?_)))
 obtain ⟨o,ho,hc⟩:=hx'
 exact wpAny_bind (wpAny_isInstance (T:="StopIteration") (b:=true) ⟨o,ho,hc⟩ isSubtype_stop (wpAny_pure (hQ _ kp)))
end
end Jt
namespace L2
open PySem PySem.Spec PyProof.Rows
abbrev Key:=Sum Int Str
def ml:Key->Value->Bool
 | .inl k,v=>Value.isInt k v
 | .inr x,v=>Value.isStrOf x v
def Hq (w:World):Key->Int
 | .inl k=>hashInt k
 | .inr x=>hashStr w x
theorem bQ:∀ {k:Key} {v:Value},ml k v=true->(∃ i t,k=Sum.inl i∧v=Value.int i t) ∨ (∃ x t,k=Sum.inr x∧v=Value.str x t)
 | .inl i,v,h=>by
  obtain ⟨t,e⟩:=Value.isInt_shape (k:=i) (v:=v) h
  exact .inl ⟨i,t,rfl,e⟩
 | .inr x,v,h=>by
  obtain ⟨t,e⟩:=Value.isStrOf_shape (x:=x) (v:=v) h
  exact .inr ⟨x,t,rfl,e⟩
theorem tW (i:Int) (t:Tok):ml (.inl i) (.int i t)=true:=by simp [ml,Value.isInt]
theorem um (x:Str) (t:Tok):ml (.inr x) (.str x t)=true:=by simp [ml,Value.isStrOf]
theorem BW (a b:Int):decide ((Sum.inl a:Key)=Sum.inl b)=(a == b):= by
 by_cases e:a=b
 ·subst e;simp
 ·have h:¬ (Sum.inl a:Key)=Sum.inl b:=fun q=>e (Sum.inl.inj q)
  rw [decide_eq_false h]
  exact (beq_eq_false_iff_ne.mpr e).symm
theorem C7 (a b:Str):decide ((Sum.inr a:Key)=Sum.inr b)=decide (a=b):= by
 by_cases e:a=b
 ·subst e;simp
 ·have h:¬ (Sum.inr a:Key)=Sum.inr b:=fun q=>e (Sum.inr.inj q)
  rw [decide_eq_false h,decide_eq_false e]
theorem B3 (a:Int) (b:Str):decide ((Sum.inl a:Key)=Sum.inr b)=false:=decide_eq_false (fun q=>nomatch q)
theorem CJ (a:Str) (b:Int):decide ((Sum.inr a:Key)=Sum.inl b)=false:=decide_eq_false (fun q=>nomatch q)
def a0 (prog:Program) (w:World):PySem.KeyKind prog w Key where
 is:=ml
 hash:=Hq w
 inj:=fun v a b ha hb=>by
  rcases bQ ha with ⟨i,t,rfl,rfl⟩ | ⟨x,t,rfl,rfl⟩
  ·rcases bQ hb with ⟨j,u,rfl,e⟩ | ⟨y,u,rfl,e⟩
   ·injection e with e1 _;rw [e1]
   ·exact nomatch e
  ·rcases bQ hb with ⟨j,u,rfl,e⟩ | ⟨y,u,rfl,e⟩
   ·exact nomatch e
   ·injection e with e1 _;rw [e1]
 byValue:=fun k v h=>by
  rcases bQ h with ⟨i,t,rfl,rfl⟩ | ⟨x,t,rfl,rfl⟩ <;> rfl
 pyHash:=fun hv h=>by
  rcases bQ hv with ⟨i,t,rfl,rfl⟩ | ⟨x,t,rfl,rfl⟩
  ·exact wpAny_pyHash_int h
  ·exact wpAny_pyHash_str h
 eqBool:=fun hu hv h=>by
  rcases bQ hu with ⟨i,t,rfl,rfl⟩ | ⟨x,t,rfl,rfl⟩
  ·rcases bQ hv with ⟨j,u,rfl,rfl⟩ | ⟨y,u,rfl,rfl⟩
   ·rw [BW] at h;exact wpAny_eqBool_int h
   ·rw [B3] at h;exact SeqAt.EqAt.int_str i t y u _ _ _ _ h
  ·rcases bQ hv with ⟨j,u,rfl,rfl⟩ | ⟨y,u,rfl,rfl⟩
   ·rw [CJ] at h;exact SeqAt.EqAt.str_int x t j u _ _ _ _ h
   ·rw [C7] at h;exact wpAny_eqBool_str h
 «strs»:=fun k x t v h=>by
  rcases bQ h with ⟨i,u,rfl,e⟩ | ⟨y,u,rfl,e⟩
  ·exact nomatch e
  ·injection e with e1 _
   subst e1
   cases v <;> rfl
theorem pW (prog:Program) (w:World) (i:Int) (t:Tok):(a0 prog w).is (.inl i) (.int i t)=true:=tW i t
theorem oT (prog:Program) (w:World) (x:Str) (t:Tok):(a0 prog w).is (.inr x) (.str x t)=true:=um x t
end L2
namespace L2
open PySem PySem.Spec PyProof.Rows
inductive V where
 | non | bl (b:Bool) | int (i:Int) | str (x:Str) | byt (b:Array UInt8) | flt (b:UInt64) | ref (a:Addr) | ty (n:String)
 deriving DecidableEq
def RelV:V->Value->Prop
 | .non,u=>u=Value.none
 | .bl b,u=>u=Value.bool b
 | .int i,u=>∃ t,u=Value.int i t
 | .str x,u=>∃ t,u=Value.str x t
 | .byt b,u=>∃ t,u=Value.bytes b t
 | .flt b,u=>∃ t,u=Value.float b t
 | .ref a,u=>u=Value.ref a
 | .ty n,u=>u=Value.type n
abbrev Vals:List V->List Value->Prop:=Paired RelV
theorem Vals.length {xs:List V} {us:List Value} (r:Vals xs us):xs.length=us.length:=Paired.length r
theorem Vals.get:∀ {xs:List V} {us:List Value} {i:Nat} {x:V},Vals xs us->xs[i]? = some x->∃ u,us[i]? = some u∧RelV x u
 | _,_,_,_,.nil,e=>by simp at e
 | _,_,0,_,.cons r _,e=>by simp at e;subst e;exact ⟨_,rfl,r⟩
 | _,_,i + 1,x,.cons _ t,e=>by
  obtain ⟨u,h1,h2⟩:=Vals.get (i:=i) (x:=x) t (by simpa using e)
  exact ⟨u,by simpa using h1,h2⟩
theorem Vals.set {x:V} {u:Value} (r:RelV x u):∀ {xs:List V} {us:List Value} (i:Nat),Vals xs us->Vals (xs.set i x) (us.set i u)
 | _,_,_,.nil=>.nil
 | _,_,0,.cons _ t=>.cons r t
 | _,_,i + 1,.cons q t=>.cons q (Vals.set r i t)
theorem Vals.append:∀ {xs ys:List V} {us ws:List Value},Vals xs us->Vals ys ws->Vals (xs ++ ys) (us ++ ws)
 | _,_,_,_,.nil,s=>s
 | _,_,_,_,.cons r t,s=>.cons r (Vals.append t s)
theorem Vals.take:∀ {xs:List V} {us:List Value} (n:Nat),Vals xs us->Vals (xs.take n) (us.take n)
 | _,_,0,_=>.nil
 | _,_,_ + 1,.nil=>.nil
 | _,_,n + 1,.cons r t=>.cons r (Vals.take n t)
theorem Vals.drop:∀ {xs:List V} {us:List Value} (n:Nat),Vals xs us->Vals (xs.drop n) (us.drop n)
 | _,_,0,r=>r
 | _,_,_ + 1,.nil=>.nil
 | _,_,n + 1,.cons _ t=>Vals.drop n t
def RelO:Option V->Option Value->Prop
 | some v,some u=>RelV v u
 | none,none=>True
 | _,_=>False
def KV {κ:Type}:List (κ × V)->List (κ × Value)->Prop:=Paired fun (p:κ × V) (q:κ × Value)=>p.1=q.1∧RelV p.2 q.2
def kV:Key->V
 | .inl i=>.int i
 | .inr x=>.str x
inductive HO where
  | lst (xs:List V)
  | tup (xs:List V)
  | dK (kvs:List (Key × V)) | dT (kvs:List (List Key × V))
  | set (S:Int->Bool) (n:Nat)
  | ins (C dx:Addr) (fs:List (Str × V))
  | own (x:Addr)
  | xd (fs:List (Str × V))
  | met (f x:Addr)
  | rng (lo hi:Int)
  | frz (o:Obj) (u:HO)
  | tbl (ps:Array Value)
  | ext (φ:Heap->Prop)
abbrev Hp:=Addr->Option HO
def upd (H:Hp) (a:Addr) (o:HO):Hp:=fun b=>if b=a then some o else H b
theorem ay {H:Hp} {a:Addr} {o:HO}:upd H a o a=some o:=by unfold upd;rw [if_pos rfl]
theorem aq {H:Hp} {a b:Addr} {o:HO} (h:b ≠ a):upd H a o b=H b:=by unfold upd;rw [if_neg h]
theorem yX {H:Hp} {a:Addr} {o u:HO}:upd (upd H a o) a u=upd H a u:= by
 funext b;unfold upd;split <;> rfl
theorem BC {H:Hp} {a b:Addr} {o u:HO} (h:H a=some o) (h':H b=some u) (d:o ≠ u):a ≠ b:= by
 intro e;subst e;rw [h] at h';exact d (Option.some.inj h')
theorem aJ {H:Hp} {a b:Addr} {o:HO} (h:H a=some o) (h':H b=none):a ≠ b:= by
 intro e;subst e;rw [h] at h';cases h'
def q0 (h:Heap) (a:Addr) (items:Array Value):Prop:=IsTup h a items∧∃ o,h.get? a=some o∧o.dict=none
theorem q0.new (h:Heap) (items:Array Value):q0 (h.push { cls:=.type "tuple",data:=.seq items }) h.objs.size items:=⟨IsTup.new _ _,_,Heap.get?_push_size _ rfl,rfl⟩
section
variable (P:Program) (w:World)
def bK (H:Hp) (h:Heap) (a:Addr):HO->Prop
 | .lst xs=>xs.length ≤ sizeLine∧∃ (its:List Value) (n:Nat),Vals xs its∧h.get? a=some { cls:=.type "list",data:=.seq its.toArray n }
 | .tup xs=>xs.length ≤ sizeLine∧∃ its:List Value,Vals xs its∧q0 h a its.toArray
 | .dK kvs=>kvs.length ≤ sizeLine∧(a == sysModules)=false∧∃ vs,KV kvs vs∧h.DictOf (a0 P w) a vs
 | .dT kvs=>kvs.length ≤ sizeLine∧(a == sysModules)=false∧∃ xs:List (List Key × Addr × Value),
   Paired (fun (p:List Key × V) (q:List Key × Addr × Value)=>p.1=q.1∧H q.2.1=some (.tup (p.1.map kV))∧RelV p.2 q.2.2) kvs xs ∧
   ∃ o es ep,h.get? a=some o∧o.ExactDict∧o.data=.dict es ep∧es.toList=xs.map (entryOfKey (tupleKind (a0 P w)))∧(xs.map (·.1)).Nodup∧ep=es.size
 | .set S n=>h.SetOf (intKind P w) a S n
 | .ins C dx fs=>H dx=some (.own a)∧fs.length ≤ 1000∧dx ≠ a∧h.get? a=some (PySem.W.instObj C dx) ∧
   ∃ mA,h.Ns1 dx mA∧(∀ f,RelO (fs.lookup f) (mA f))∧PySem.Within mA (fs.map (·.1))
 | .own _=>∃ o,h.get? a=some o
 | .xd fs=>∃ mA,h.Ns1 a mA∧∀ f,RelO (fs.lookup f) (mA f)
 | .rng lo hi=>∃ t u v,h.get? a=some { cls:=.type "range",data:=.fields #[.int lo t,.int hi u,.int 1 v] }
 | .frz o u=>h.get? a=some o∧bK H h a u
 | .tbl qs=>∃ ps:Array Value,h.get? a=some { cls:=.none,data:=.fields ps }∧TriplesOk ps.toList∧∀ (q:Str) (t0:Tok) (pos:Pos) (cv:Value),qs[0]? = some (.str q t0)->codeAmong pos ps.toList=some cv ->
   ∃ c' oc u vs t,cv=.ref c' ∧ H c' = some (.frz oc u)∧oc.data=.fields vs∧vs[1]? = some (.str q t)
 | .met f x=>h.get? a=some (PySem.W.methodObj (.ref f) (.ref x))
 | .ext φ=>φ h∧(∃ o,h.get? a=some o)∧∀ h1 h2:Heap,φ h1->(∀ o,h1.get? a=some o->h2.get? a=some o)->φ h2
def g8 (H:Hp) (h:Heap):Prop:=∀ a o,H a=some o->bK P w H h a o
end
section
variable {P:Program} {w:World} {H H':Hp} {h h':Heap} {a:Addr} {o:HO}
theorem bK.lt (x:bK P w H h a o):a < h.objs.size:= by
 cases o with
 | lst xs=>obtain ⟨_,_,_,_,e⟩:=x;exact Heap.lt_size e
 | tup xs=>obtain ⟨_,_,_,p⟩:=x;exact p.1.lt
 | dK kvs=>obtain ⟨_,_,_,_,o,_,_,e,_⟩:=x;exact Heap.lt_size e
 | dT kvs=>obtain ⟨_,_,_,_,o,_,_,e,_⟩:=x;exact Heap.lt_size e
 | set S n=>obtain ⟨o,_,_,_,e,_⟩:=x;exact Heap.lt_size e
 | ins C dx fs=>obtain ⟨_,_,_,e,_⟩:=x;exact Heap.lt_size e
 | own y=>obtain ⟨_,e⟩:=x;exact Heap.lt_size e
 | xd fs=>obtain ⟨_,⟨_,_,_,e,_⟩,_⟩:=x;exact Heap.lt_size e
 | rng lo hi=>obtain ⟨_,_,_,e⟩:=x;exact Heap.lt_size e
 | frz ob u=>obtain ⟨e,_⟩:=x;exact Heap.lt_size e
 | tbl ps=>obtain ⟨_,e,_⟩:=x;exact Heap.lt_size e
 | met f y=>exact Heap.lt_size (show h.get? a=some _ from x)
 | ext φ=>obtain ⟨_,⟨_,e⟩,_⟩:=x;exact Heap.lt_size e
theorem Paired.mapP {α β:Type} {F G:α->β->Prop}:∀ {l₁:List α} {l₂:List β},Paired F l₁ l₂->(∀ a b,F a b->G a b)->Paired G l₁ l₂
 | _,_,.nil,_=>.nil
 | _,_,.cons r t,f=>.cons (f _ _ r) (Paired.mapP t f)
theorem bK.stay (x:bK P w H h a o) (k:∀ b u,(b=a ∨ H b=some (.own a))->h.get? b=some u->h'.get? b=some u)
  (ho:∀ b,H b=some (.own a)->H' b=some (.own a)) (ht:∀ b xs,H b=some (.tup xs)->H' b=some (.tup xs)) (hf:∀ b o u,H b=some (.frz o u)->H' b=some (.frz o u):=by exact fun _ _ _ h=>h):bK P w H' h' a o:= by
 induction o with
 | lst xs=>obtain ⟨z,its,n,r,e⟩:=x;exact ⟨z,its,n,r,k _ _ (.inl rfl) e⟩
 | tup xs=>obtain ⟨z,its,r,⟨ob,e,c⟩,ob2,e2,d⟩:=x;exact ⟨z,its,r,⟨ob,k _ _ (.inl rfl) e,c⟩,ob2,k _ _ (.inl rfl) e2,d⟩
 | dK kvs=>obtain ⟨z,y,vs,r,ob,es,ep,e,c⟩:=x;exact ⟨z,y,vs,r,ob,es,ep,k _ _ (.inl rfl) e,c⟩
 | dT kvs=>
  obtain ⟨z,y,xs,r,ob,es,ep,e,c⟩:=x
  exact ⟨z,y,xs,Paired.mapP r fun p q z=>⟨z.1,ht _ _ z.2.1,z.2.2⟩,ob,es,ep,k _ _ (.inl rfl) e,c⟩
 | set S n=>obtain ⟨ob,es,ep,t,e,c⟩:=x;exact ⟨ob,es,ep,t,k _ _ (.inl rfl) e,c⟩
 | ins C dx fs=>
  obtain ⟨d,z,ne,e,mA,⟨od,es,ep,e2,c⟩,r⟩:=x
  exact ⟨ho _ d,z,ne,k _ _ (.inl rfl) e,mA,⟨od,es,ep,k _ _ (.inr d) e2,c⟩,r⟩
 | own y=>obtain ⟨ob,e⟩:=x;exact ⟨ob,k _ _ (.inl rfl) e⟩
 | xd fs=>obtain ⟨mA,⟨od,es,ep,e,c⟩,r⟩:=x;exact ⟨mA,⟨od,es,ep,k _ _ (.inl rfl) e,c⟩,r⟩
 | rng lo hi=>obtain ⟨t,u,v,e⟩:=x;exact ⟨t,u,v,k _ _ (.inl rfl) e⟩
 | frz ob u ih=>obtain ⟨e,q⟩:=x;exact ⟨k _ _ (.inl rfl) e,ih q⟩
 | tbl ps=>
  obtain ⟨qs,e,tr,c⟩:=x
  refine ⟨qs,k a _ (.inl rfl) e,tr,fun q t0 pos cv h1 h2=>?_⟩
  obtain ⟨c',oc,u,vs,t,z1,z2,z3⟩:=c q t0 pos cv h1 h2
  exact ⟨c',oc,u,vs,t,z1,hf _ _ _ z2,z3⟩
 | met f y=>
  have e:h.get? a=some (PySem.W.methodObj (.ref f) (.ref y)):=x
  show h'.get? a=some (PySem.W.methodObj (.ref f) (.ref y))
  exact k a _ (.inl rfl) e
 | ext φ=>obtain ⟨p,⟨o,e⟩,st⟩:=x;exact ⟨st _ _ p fun o q=>k _ _ (.inl rfl) q,⟨o,k _ _ (.inl rfl) e⟩,st⟩
theorem g8.lt (x:g8 P w H h) (e:H a=some o):a < h.objs.size:=(x a o e).lt
theorem g8.fresh (x:g8 P w H h) (e:h.objs.size ≤ a):H a=none:= by
 cases q:H a with
 | none=>rfl
 | some u=>exact absurd (Nat.lt_of_lt_of_le (x.lt q) e) (Nat.lt_irrefl _)
theorem g8.kept (x:g8 P w H h) (k:∀ b u,h.get? b=some u->h'.get? b=some u):g8 P w H h':=fun a o e=>
 (x a o e).stay (fun b u _ q=>k b u q) (fun _ q=>q) fun _ _ q=>q
theorem g8.laid (x:g8 P w H h) (k:∀ b u,h.get? b=some u->h'.get? b=some u) (hp:h.objs.size ≤ a) (new:bK P w (upd H a o) h' a o):g8 P w (upd H a o) h':=fun b u e=>by
 have hn:=x.fresh hp
 by_cases hb:b=a
 ·subst hb;rw [ay] at e;cases e;exact new
 ·rw [aq hb] at e
  exact (x b u e).stay (fun c v _ q=>k c v q) (fun c q=>by rw [aq (aJ q hn)];exact q) (fun c xs q=>by rw [aq (aJ q hn)];exact q) fun c ob u q=>by rw [aq (aJ q hn)];exact q
end
def Rd (H:Hp) (a:Addr) (u:HO):Prop:=H a=some u ∨ ∃ o,H a=some (.frz o u)
theorem Rd.ok {P:Program} {w:World} {H:Hp} {h:Heap} {a:Addr} {u:HO} (r:Rd H a u) (x:g8 P w H h):bK P w H h a u:= by
 rcases r with r | ⟨o,r⟩
 ·exact x a u r
 ·obtain ⟨_,q⟩:=x a _ r
  exact q
def EE:Option HO->Prop
 | some (.lst _)=>True
 | some (.dK _)=>True
 | some (.dT _)=>True
 | some (.set _ _)=>True
 | some (.ins _ _ _)=>True
 | some (.ext _)=>True
 | _=>False
section
variable {P:Program} {w:World} {H:Hp} {h h':Heap} {x e:Addr} {o':HO}
theorem g8.write (ok:g8 P w H h) (mu:EE (H x)) (he:e=x ∨ H e=some (.own x)) (k:∀ b u,b ≠ e->h.get? b=some u->h'.get? b=some u) (heo:∃ u,h'.get? e=some u)
  (new:bK P w (upd H x o') h' x o'):g8 P w (upd H x o') h':=fun b u q=>by
 have nown:∀ c y,H c=some (.own y)->c ≠ x:=fun c y r z=>by subst z;rw [r] at mu;exact mu
 have ntup:∀ c xs,H c=some (.tup xs)->c ≠ x:=fun c xs r z=>by subst z;rw [r] at mu;exact mu
 have nfrz:∀ c ob u,H c=some (.frz ob u)->c ≠ x:=fun c ob u r z=>by subst z;rw [r] at mu;exact mu
 by_cases hb:b=x
 ·subst hb;rw [ay] at q;cases q;exact new
 ·rw [aq hb] at q
  by_cases hbe:b=e
  ·have q':H b=some (.own x):= by
    rcases he with z | z
    ·exact absurd (hbe.trans z) hb
    ·rw [hbe];exact z
   rw [q] at q';cases q'
   obtain ⟨v,hv⟩:=heo
   exact ⟨v,by rw [hbe];exact hv⟩
  ·refine (ok b u q).stay (fun c v hc r=>k c v ?_ r) (fun c r=>by rw [aq (nown c b r)];exact r) (fun c xs r=>by rw [aq (ntup c xs r)];exact r) fun c ob v r=>by rw [aq (nfrz c ob v r)];exact r
   rcases hc with rfl | hc
   ·exact hbe
   ·rintro rfl
    rcases he with z | z
    ·exact nown c b hc z
    ·rw [hc] at z;cases z;exact hb rfl
end
structure Un (fs ex:List Addr) (H H':Hp) (h h':Heap):Prop where
 keep:∀ b o,h.get? b=some o->H b=none->b ∉ fs->b ∉ ex->h'.get? b=some o
 slot:∀ b o,h.get? b=some o->H b=none->b ∈ fs->b ∉ ex->∃ sl,h'.get? b=some { o with slots:=sl }
 free:∀ b o,h.get? b=some o->H b=none->b ∉ ex->H' b=none
 there:∀ b o,h.get? b=some o->b ∉ ex->∃ o',h'.get? b=some o'
 tups:∀ b xs,H b=some (.tup xs)->H' b=some (.tup xs)
 frzs:∀ b o u,H b=some (.frz o u)->H' b=some (.frz o u)
 tbls:∀ b ps,H b=some (.tbl ps)->∃ more,H' b=some (.tbl (ps ++ more))
section
variable {fs fs' ex ex':List Addr} {H H1 H2:Hp} {h h1 h2 h':Heap} {a x e:Addr} {o:HO}
theorem Un.any (u:Un fs ex H H1 h h1) {b:Addr} {ob:Obj} (q:h.get? b=some ob) (n:H b=none) (hx:b ∉ ex):∃ sl,h1.get? b=some { ob with slots:=sl }:= by
 by_cases hb:b ∈ fs
 ·exact u.slot b ob q n hb hx
 ·exact ⟨ob.slots,u.keep b ob q n hb hx⟩
theorem Un.kept (k:∀ b u,h.get? b=some u->h'.get? b=some u):Un fs ex H H h h' :=
 ⟨fun b ob q _ _ _=>k b ob q,fun b ob q _ _ _=>⟨ob.slots,k b ob q⟩,fun _ _ _ n _=>n,fun b ob q _=>⟨ob,k b ob q⟩,fun _ _ q=>q,fun _ _ _ q=>q,fun _ ps q=>⟨#[],by rw [q];simp⟩⟩
theorem Un.refl:Un fs ex H H h h:=Un.kept fun _ _ q=>q
theorem Un.laid (k:∀ b u,h.get? b=some u->h'.get? b=some u) (hp:h.objs.size ≤ a) (hn:H a=none):Un fs ex H (upd H a o) h h' where
 keep:=fun b u q _ _ _=>k b u q
 slot:=fun b u q _ _ _=>⟨u.slots,k b u q⟩
 free:=fun b u q n _=>by rw [aq (Nat.ne_of_lt (Nat.lt_of_lt_of_le (Heap.lt_size q) hp))];exact n
 there:=fun b u q _=>⟨u,k b u q⟩
 tups:=fun b xs q=>by rw [aq (aJ q hn)];exact q
 frzs:=fun b u xs q=>by rw [aq (aJ q hn)];exact q
 tbls:=fun b ps q=>⟨#[],by rw [aq (aJ q hn),q];simp⟩
theorem Un.write (mu:EE (H x)) (he:e=x ∨ H e=some (.own x)) (k:∀ b u,b ≠ e->h.get? b=some u->h'.get? b=some u) (heo:∃ u,h'.get? e=some u):Un fs ex H (upd H x o) h h':= by
 have hx:∀ b,H b=none->b ≠ x:=fun b n z=>by subst z;rw [n] at mu;exact mu
 have hb:∀ b,H b=none->b ≠ e:=fun b n z=>by
  subst z
  rcases he with r | r
  ·exact hx b n r
  ·rw [n] at r;cases r
 have hm:∀ b u,H b=some u->¬ EE (some u)->b ≠ x:=fun b u q nm z=>by subst z;rw [q] at mu;exact nm mu
 refine ⟨fun b u q n _ _=>k b u (hb b n) q,fun b u q n _ _=>⟨u.slots,k b u (hb b n) q⟩,fun b u q n _=>by rw [aq (hx b n)];exact n,fun b u q _=>?_,
  fun b xs q=>by rw [aq (hm b _ q fun z=>z)];exact q,fun b u xs q=>by rw [aq (hm b _ q fun z=>z)];exact q,fun b ps q=>⟨#[],by rw [aq (hm b _ q fun z=>z),q];simp⟩⟩
 by_cases hbe:b=e
 ·subst hbe;exact heo
 ·exact ⟨u,k b u hbe q⟩
end
def Gd (h:Heap) (H:Hp):List Addr:=(List.range h.objs.size).filter fun a=>(H a).isSome
def iZ (h:Heap) (H:Hp):Heap:=PySem.W.hideAll h (Gd h H)
theorem lH (h:Heap) (H:Hp):(iZ h H).objs.size=h.objs.size:=PySem.W.hideAll_size _ _
theorem oD {h:Heap} {H:Hp} {b:Addr} {o:Obj} (e:h.get? b=some o) (n:H b=none):(iZ h H).get? b=some o :=
 PySem.W.hideAll_get _ e fun hm=>by
  have q:(H b).isSome=true:=(List.mem_filter.mp hm).2
  rw [n] at q;simp at q
theorem sQ {h:Heap} {H:Hp} {b:Addr} {o:Obj} (e:(iZ h H).get? b=some o):h.get? b=some o∧H b=none:= by
 have e':h.get? b=some o:=PySem.W.of_hideAll (Gd h H) e
 refine ⟨e',?_⟩
 cases q:H b with
 | none=>rfl
 | some x=>
  have hm:b ∈ Gd h H:=List.mem_filter.mpr ⟨List.mem_range.mpr (Heap.lt_size e'),by simp [q]⟩
  have z:(iZ h H).get? b=none:=PySem.W.hideAll_none (Gd h H) hm
  rw [z] at e;cases e
def zy (g h:Heap) (L:Addr):List (Addr × Obj):=(List.range h.objs.size).filterMap fun a=>if a=L ∨ (g.get? a).isSome=true then none else (h.get? a).map fun o=>(a,o)
def rest (g h:Heap) (L d:Addr):List (Addr × Obj):=(zy g h L).filter fun p=>decide (p.1 ≠ d)
end L2
namespace L2
open PySem PySem.Spec PyProof.Rows
structure Mod (K:PySem.W.Frag) (mg:Str->Option Value) (base:Heap):Prop where
 kin:K.In base
 glob:base.Ns mainGlobals mg
 blt:∃ mb,base.Ns builtinsNs mb∧∀ x:Str,x ≠ "__name__" -> mb x=bootBuiltins x
 nolimit:base.NoLimit
structure Cx where
 prog:Program
 w:World
 K:PySem.W.Frag
 mg:Str->Option Value
 base:Heap
 A:Around
 N:List Str
 s₀:Shared
 H₀:Hp
 env:Env
 outer:List Env
 stack:List Env
 ex:List Addr
 fn:Str->Bool
 calm:Bool
 pn:List (Addr × Obj)
 xe:Value->Shared->Prop
def cF:Str:="most_more"
def bw:Str:="most_more.<locals>.<lambda>"
def uh (K:PySem.W.Frag) (H:Hp):Prop:=∀ c P,PySem.W.tabIn K cF=some (c,P)->∃ qs t0,H P=some (.tbl qs)∧qs[0]? = some (.str bw t0)
theorem uh.un {K:PySem.W.Frag} {fs ex:List Addr} {H H':Hp} {h h':Heap} (t:uh K H) (u:Un fs ex H H' h h'):uh K H':=fun c P e=>by
 obtain ⟨qs,t0,h1,h2⟩:=t c P e
 obtain ⟨more,h3⟩:=u.tbls P qs h1
 refine ⟨qs ++ more,t0,h3,?_⟩
 have hz:0 < qs.size:= by
  cases hq:qs.size with
  | zero=>rw [Array.getElem?_eq_none (by omega)] at h2;cases h2
  | succ n=>exact Nat.succ_pos n
 rw [Array.getElem?_append_left hz];exact h2
def uV (l:List Env):List Addr:=l.filterMap (·.frame)
abbrev Cx.fs (X:Cx):List Addr:=uV X.outer
def pk (sc:Scope) (x:Str):Prop:=sc.names.lookup x=some .local ∨ sc.names.lookup x=some .cell ∨ sc.names.lookup x=some .free
def Loc (sc:Scope) (x:Str):Prop:=sc.names.lookup x=some .local ∨ sc.names.lookup x=some .cell
def Look (env:Env) (h:Heap) (m:Str->Option Value) (x:Str) (u:Value):Prop :=
 (env.kindOf x=some .local∧m x=some u) ∨ ((env.kindOf x=some .cell ∨ env.kindOf x=some .free)∧∃ c,env.cells.lookup x=some c∧h.IsCell c (some u))
structure Cx.Ok (X:Cx):Prop where
 mod:Mod X.K X.mg X.base
 kind:X.env.scope.kind=.function
 glob:X.env.globals=mainGlobals
 blt:X.env.builtins=builtinsNs
 above:X.s₀.heap.objs.size ≤ X.env.locals
 inj:∀ x y c,X.env.cells.lookup x=some c->X.env.cells.lookup y=some c->x=y
 has:∀ x,(X.env.kindOf x=some .cell ∨ X.env.kindOf x=some .free)->∃ c,X.env.cells.lookup x=some c
 cab:∀ x c,X.fn x=true->X.env.cells.lookup x=some c->X.s₀.heap.objs.size ≤ c
 hd:X.calm=true->X.A.handled=none
 frames:X.A.frames=some X.stack
 stk:X.stack=X.outer ∨ (X.stack=X.env :: X.outer∧X.env.frame=some X.env.locals)
 exf:∀ b ∈ X.ex,b ≠ X.env.locals∧∀ x c,X.env.cells.lookup x=some c->c ≠ b
 bs:∀ b o,X.base.get? b=some o->X.s₀.heap.get? b=some o∧X.H₀ b=none
 bsz:X.base.objs.size ≤ X.s₀.heap.objs.size
 noex:∀ b o,X.base.get? b=some o->b ∉ X.ex
 exfs:∀ b ∈ X.ex,b ∉ X.fs
 funs:X.s₀.heap.FunFrames X.base X.outer
 frf:∀ b ∈ X.fs,X.H₀ b=none
 tb:uh X.K X.H₀
structure Inv (X:Cx) (pins:List (Addr × Obj)) (σ:List (Option V)) (H:Hp) (s:Shared):Prop where
 ok:X.Ok
 os:s.os=X.s₀.os
 bare:AllBare s.gens
 base:Un X.fs X.ex X.H₀ H X.s₀.heap s.heap
 loc:∃ m,s.heap.Ns X.env.locals m∧∀ (i:Nat) (x:Str) (v:V),X.N[i]? = some x->σ[i]? = some (some v)->pk X.env.scope x->∃ u,RelV v u∧Look X.env s.heap m x u
 cell:∀ x c,X.env.cells.lookup x=some c->∃ v,s.heap.IsCell c v
 free:H X.env.locals=none
 freeC:∀ x c,X.env.cells.lookup x=some c->H c=none
 pin:∀ p ∈ X.pn ++ pins,s.heap.get? p.1=some p.2∧H p.1=none∧p.1 ≠ X.env.locals∧p.1 ∉ X.fs∧∀ v,p.2.data ≠ .cell v
 hok:g8 X.prog X.w H s.heap
 len:σ.length=X.N.length
section
variable {X:Cx} {pins:List (Addr × Obj)} {σ:List (Option V)} {H H':Hp} {s:Shared} {h':Heap}
theorem Cx.Ok.nofr (ok:X.Ok) {b:Addr} {o:Obj} (e:X.base.get? b=some o):b ∉ X.fs:=fun hb=>by
 have:=(ok.funs.mem hb).1
 rw [e] at this;cases this
theorem Inv.bs (I:Inv X pins σ H s):∀ b o,X.base.get? b=some o->s.heap.get? b=some o∧H b=none:=fun b o e=>
 ⟨I.base.keep b o (I.ok.bs b o e).1 (I.ok.bs b o e).2 (I.ok.nofr e) (I.ok.noex b o e),I.base.free b o (I.ok.bs b o e).1 (I.ok.bs b o e).2 (I.ok.noex b o e)⟩
theorem Inv.bk (I:Inv X pins σ H s):∀ b o,X.base.get? b=some o->s.heap.get? b=some o:=fun b o e=>(I.bs b o e).1
theorem Inv.tb (I:Inv X pins σ H s):uh X.K H:=I.ok.tb.un I.base
theorem Inv.mod (I:Inv X pins σ H s):Mod X.K X.mg X.base:=I.ok.mod
theorem Inv.kIn (I:Inv X pins σ H s):X.K.In s.heap:=I.ok.mod.kin.keeps I.bk
theorem Inv.nolimit (I:Inv X pins σ H s):s.heap.NoLimit:=I.ok.mod.nolimit.keeps I.bk
theorem Inv.lt (I:Inv X pins σ H s):X.env.locals < s.heap.objs.size:=let ⟨_,hn,_⟩:=I.loc;hn.lt
theorem Inv.sz (I:Inv X pins σ H s):X.s₀.heap.objs.size ≤ s.heap.objs.size:=Nat.le_trans I.ok.above (Nat.le_of_lt I.lt)
theorem Inv.nofs (I:Inv X pins σ H s) {a:Addr} (h:s.heap.objs.size ≤ a):a ∉ X.fs:=fun hb=>by
 obtain ⟨_,o,ho,_⟩:=I.ok.funs.mem hb
 exact absurd (Nat.lt_of_lt_of_le (Heap.lt_size ho) (Nat.le_trans I.sz h)) (Nat.lt_irrefl _)
theorem Inv.cne (I:Inv X pins σ H s):∀ x c,X.env.cells.lookup x=some c->c ≠ X.env.locals:=fun x c e z=>by
 obtain ⟨v,o,ho,hd⟩:=I.cell x c e
 obtain ⟨m,⟨o',es,ep,ho',hd',_⟩,_⟩:=I.loc
 rw [z,ho'] at ho;cases ho;rw [hd'] at hd;cases hd
theorem Inv.funs (I:Inv X pins σ H s):s.heap.FunFrames X.base X.outer:= by
 have all:∀ (l:List Env),(∀ b ∈ uV l,b ∈ X.fs)->X.s₀.heap.FunFrames X.base l->s.heap.FunFrames X.base l:= by
  intro l
  induction l with
  | nil=>intro _ _;trivial
  | cons env r ih=>
   intro hs hl
   obtain ⟨hk,⟨L,o,hf,hn,ho,hd⟩,hr⟩:=hl
   have hL:L ∈ X.fs:=hs L (by unfold uV;rw [List.filterMap_cons,hf];exact List.mem_cons_self)
   obtain ⟨sl,e⟩:=I.base.slot L o ho (I.ok.frf L hL) hL fun z=>I.ok.exfs L z hL
   exact ⟨hk,⟨L,_,hf,hn,e,hd⟩,ih (fun b hb=>hs b (by unfold uV;rw [List.filterMap_cons,hf];exact List.mem_cons_of_mem _ hb)) hr⟩
 exact all X.outer (fun _ hb=>hb) I.ok.funs
theorem Inv.stack (I:Inv X pins σ H s):s.heap.FunFrames X.base X.stack:= by
 rcases I.ok.stk with e | ⟨e,hf⟩
 ·rw [e];exact I.funs
 ·rw [e]
  obtain ⟨m,hn,_⟩:=I.loc
  refine .cons (by rw [I.ok.kind];decide) hf hn ?_ I.funs
  exact Heap.get?_none_of_le (Nat.le_trans I.ok.bsz I.ok.above)
theorem Inv.stkSub (I:Inv X pins σ H s):∀ b ∈ uV X.stack,b ∈ X.env.locals :: X.fs:=fun b hb=>by
 rcases I.ok.stk with e | ⟨e,hf⟩
 ·rw [e] at hb;exact List.mem_cons_of_mem _ hb
 ·rw [e] at hb
  unfold uV at hb
  rw [List.filterMap_cons,hf] at hb
  exact hb
theorem Inv.stkFree (I:Inv X pins σ H s):∀ b ∈ uV X.stack,H b=none:=fun b hb=>by
 rcases List.mem_cons.mp (I.stkSub b hb) with e | hb
 ·rw [e];exact I.free
 ·obtain ⟨_,o,ho,_⟩:=I.ok.funs.mem hb
  exact I.base.free b o ho (I.ok.frf b hb) fun z=>I.ok.exfs b z hb
theorem Inv.step {g':Array GenState} {t':Nat} {d':Drawn} {ch:List Addr} (I:Inv X pins σ H s)
  (hch:∀ b ∈ ch,(b ∈ X.ex ∨ X.s₀.heap.objs.size ≤ b)∧b ≠ X.env.locals∧(∀ x c,X.env.cells.lookup x=some c->c ≠ b)∧∀ p ∈ X.pn ++ pins,p.1 ≠ b)
  (keep:∀ b o,b ≠ X.env.locals->b ∉ X.fs->b ∉ ch->s.heap.get? b=some o->H b=none->h'.get? b=some o)
  (slot:∀ b o,b ≠ X.env.locals->b ∈ X.fs->b ∉ ch->s.heap.get? b=some o->H b=none->∃ sl,h'.get? b=some { o with slots:=sl }) (free:∀ b o,b ∉ ch->s.heap.get? b=some o->H b=none->H' b=none)
  (there:∀ b o,b ∉ ch->s.heap.get? b=some o->∃ o',h'.get? b=some o')
  (tups:∀ b xs,H b=some (.tup xs)->H' b=some (.tup xs)) (frzs:∀ b o u,H b=some (.frz o u)->H' b=some (.frz o u)) (tbls:∀ b ps,H b=some (.tbl ps)->∃ more,H' b=some (.tbl (ps ++ more)))
  (ns:∀ m,s.heap.Ns X.env.locals m->h'.Ns X.env.locals m) (hok:g8 X.prog X.w H' h') (hg:AllBare g') :
  Inv X pins σ H' { s with heap:=h',gens:=g',drawn:=d',toks:=t' }:= by
 have neL:∀ b o,X.s₀.heap.get? b=some o->b ≠ X.env.locals:=fun b o e=>Nat.ne_of_lt (Nat.lt_of_lt_of_le (Heap.lt_size e) I.ok.above)
 have neC:∀ b o,X.s₀.heap.get? b=some o->b ∉ X.ex->b ∉ ch:=fun b o e hx hb=>by
  rcases (hch b hb).1 with z | z
  ·exact hx z
  ·exact absurd (Nat.lt_of_lt_of_le (Heap.lt_size e) z) (Nat.lt_irrefl _)
 have cellK:∀ x c,X.env.cells.lookup x=some c->∀ v,s.heap.IsCell c v->h'.IsCell c v:=fun x c e v ⟨o,ho,hd⟩=>by
  have nch:c ∉ ch:=fun z=>(hch c z).2.2.1 x c e rfl
  by_cases hc:c ∈ X.fs
  ·obtain ⟨sl,q⟩:=slot c o (I.cne x c e) hc nch ho (I.freeC x c e)
   exact ⟨_,q,hd⟩
  ·exact ⟨o,keep c o (I.cne x c e) hc nch ho (I.freeC x c e),hd⟩
 refine ⟨I.ok,I.os,hg,⟨fun b o e n hb hx=>?_,fun b o e n hb hx=>?_,fun b o e n hx=>?_,fun b o e hx=>?_,fun b xs e=>tups b xs (I.base.tups b xs e),fun b o xs e=>frzs b o xs (I.base.frzs b o xs e),fun b ps e=>?_⟩,?_,fun x c e=>?_,?_,fun x c e=>?_,fun p hp=>?_,hok,I.len⟩
 ·exact keep b o (neL b o e) hb (neC b o e hx) (I.base.keep b o e n hb hx) (I.base.free b o e n hx)
 ·obtain ⟨sl,e1⟩:=I.base.slot b o e n hb hx
  obtain ⟨sl',e2⟩:=slot b _ (neL b o e) hb (neC b o e hx) e1 (I.base.free b o e n hx)
  exact ⟨sl',e2⟩
 ·obtain ⟨o',e1⟩:=I.base.there b o e hx
  exact free b o' (neC b o e hx) e1 (I.base.free b o e n hx)
 ·obtain ⟨o',e1⟩:=I.base.there b o e hx
  exact there b o' (neC b o e hx) e1
 ·obtain ⟨m1,e1⟩:=I.base.tbls b ps e
  obtain ⟨m2,e2⟩:=tbls b _ e1
  exact ⟨m1 ++ m2,by rw [e2,Array.append_assoc]⟩
 ·obtain ⟨m,hn,hl⟩:=I.loc
  refine ⟨m,ns m hn,fun i x v e1 e2 e3=>?_⟩
  obtain ⟨u,r,l⟩:=hl i x v e1 e2 e3
  refine ⟨u,r,?_⟩
  rcases l with l | ⟨k,c,e,z⟩
  ·exact .inl l
  ·exact .inr ⟨k,c,e,cellK x c e _ z⟩
 ·obtain ⟨v,z⟩:=I.cell x c e
  exact ⟨v,cellK x c e v z⟩
 ·obtain ⟨m,⟨o,_,_,ho,_⟩,_⟩:=I.loc
  exact free _ o (fun z=>(hch _ z).2.1 rfl) ho I.free
 ·obtain ⟨v,o,ho,hd⟩:=I.cell x c e
  exact free c o (fun z=>(hch c z).2.2.1 x c e rfl) ho (I.freeC x c e)
 ·obtain ⟨e,n,ne,nf,d⟩:=I.pin p hp
  have nch:p.1 ∉ ch:=fun z=>(hch p.1 z).2.2.2 p hp rfl
  exact ⟨keep p.1 p.2 ne nf nch e n,free p.1 p.2 nch e n,ne,nf,d⟩
theorem Inv.un {t':Nat} (I:Inv X pins σ H s) (u:Un X.fs [] H H' s.heap h') (hok:g8 X.prog X.w H' h'):Inv X pins σ H' { s with heap:=h',toks:=t' }:= by
 obtain ⟨m,⟨o,es,ep,ho,r⟩,_⟩:=id I.loc
 obtain ⟨sl,hL⟩:=u.any ho I.free (by simp)
 exact I.step (g':=s.gens) (d':=s.drawn) (ch:=[]) (fun _ z=>nomatch z) (fun b o _ hb _ e n=>u.keep b o e n hb (by simp)) (fun b o _ hb _ e n=>u.slot b o e n hb (by simp)) (fun b o _ e n=>u.free b o e n (by simp)) (fun b o _ e=>u.there b o e (by simp)) u.tups u.frzs u.tbls (fun m' hm=>by
  obtain ⟨o',es',ep',ho',r'⟩:=hm
  rw [ho] at ho';cases ho'
  exact ⟨_,es',ep',hL,r'⟩) hok I.bare
theorem Inv.call {g':Array GenState} {t':Nat} {d':Drawn} {ch:List Addr} (I:Inv X pins σ H s) (u:Un (uV X.stack) ch H H' s.heap h') (hok:g8 X.prog X.w H' h') (hg:AllBare g')
  (hch:∀ b ∈ ch,(b ∈ X.ex ∨ X.s₀.heap.objs.size ≤ b)∧b ≠ X.env.locals∧(∀ x c,X.env.cells.lookup x=some c->c ≠ b)∧∀ p ∈ X.pn ++ pins,p.1 ≠ b) :
  Inv X pins σ H' { s with heap:=h',gens:=g',drawn:=d',toks:=t' }:= by
 obtain ⟨m,⟨o,es,ep,ho,r⟩,_⟩:=id I.loc
 obtain ⟨sl,hL⟩:=u.any ho I.free fun z=>(hch _ z).2.1 rfl
 exact I.step (ch:=ch) hch (fun b o hL hb hc e n=>u.keep b o e n (fun z=>(List.mem_cons.mp (I.stkSub b z)).elim hL hb) hc) (fun b o _ _ hc e n=>u.any e n hc) (fun b o hc e n=>u.free b o e n hc) (fun b o hc e=>u.there b o e hc) u.tups u.frzs u.tbls (fun m' hm=>by
  obtain ⟨o',es',ep',ho',r'⟩:=hm
  rw [ho] at ho';cases ho'
  exact ⟨_,es',ep',hL,r'⟩) hok hg
theorem Inv.turned {t':Nat} {it:Addr} (I:Inv X pins σ H s) (k:∀ b o,b ≠ it->s.heap.get? b=some o->h'.get? b=some o) (hn:H it=none) (hL:it ≠ X.env.locals)
  (h1:it ∈ X.ex ∨ X.s₀.heap.objs.size ≤ it) (h2:∀ x c,X.env.cells.lookup x=some c->c ≠ it) (h3:∀ p ∈ X.pn ++ pins,p.1 ≠ it):Inv X pins σ H { s with heap:=h',toks:=t' }:= by
 have nit:∀ b u,H b=some u->b ≠ it:=fun b u e z=>by rw [z,hn] at e;cases e
 refine I.step (g':=s.gens) (d':=s.drawn) (ch:=[it]) (fun b hb=>?_) (fun b o _ _ hc e _=>k b o (fun z=>hc (by simp [z])) e) (fun b o _ _ hc e _=>⟨o.slots,k b o (fun z=>hc (by simp [z])) e⟩) (fun _ _ _ _ n=>n)
  (fun b o hc e=>⟨o,k b o (fun z=>hc (by simp [z])) e⟩) (fun _ _ e=>e) (fun _ _ _ e=>e) (fun b ps e=>⟨#[],by rw [e];simp⟩) (fun m hm=>?_) (fun b u e=>?_) I.bare
 ·have e:b=it:=by simpa using hb
  subst e
  exact ⟨h1,hL,h2,h3⟩
 ·obtain ⟨o,es,ep,ho,r⟩:=hm
  exact ⟨o,es,ep,k _ o (Ne.symm hL) ho,r⟩
 ·refine (I.hok b u e).stay (fun c v hc q=>k c v ?_ q) (fun _ q=>q) fun _ _ q=>q
  rcases hc with z | z
  ·rw [z];exact nit b u e
  ·exact nit c _ z
theorem Inv.tok (I:Inv X pins σ H s) (t:Nat):Inv X pins σ H { s with toks:=t }:=I.un (h':=s.heap) (t':=t) Un.refl I.hok
theorem Inv.kept {t':Nat} (I:Inv X pins σ H s) (k:∀ b u,s.heap.get? b=some u->h'.get? b=some u):Inv X pins σ H { s with heap:=h',toks:=t' }:=I.un (Un.kept k) (I.hok.kept k)
theorem Inv.laid {a:Addr} {o:HO} {t':Nat} (I:Inv X pins σ H s) (k:∀ b u,s.heap.get? b=some u->h'.get? b=some u) (hp:s.heap.objs.size ≤ a) (new:bK X.prog X.w (upd H a o) h' a o) :
  Inv X pins σ (upd H a o) { s with heap:=h',toks:=t' }:=I.un (Un.laid k hp (I.hok.fresh hp)) (I.hok.laid k hp new)
theorem Inv.write {x e:Addr} {o:HO} {t':Nat} (I:Inv X pins σ H s) (mu:EE (H x)) (he:e=x ∨ H e=some (.own x)) (k:∀ b u,b ≠ e->s.heap.get? b=some u->h'.get? b=some u) (heo:∃ u,h'.get? e=some u)
  (new:bK X.prog X.w (upd H x o) h' x o):Inv X pins σ (upd H x o) { s with heap:=h',toks:=t' }:=I.un (Un.write mu he k heo) (I.hok.write mu he k heo new)
theorem Inv.weak {σ':List (Option V)} (I:Inv X pins σ H s) (hl:σ'.length=σ.length) (w:∀ (i:Nat) v,σ'[i]? = some (some v)->σ[i]? = some (some v)):Inv X pins σ' H s :=
 ⟨I.ok,I.os,I.bare,I.base,let ⟨m,hn,hl'⟩:=I.loc;⟨m,hn,fun i x v e1 e2 e3=>hl' i x v e1 (w i v e2) e3⟩,I.cell,I.free,I.freeC,I.pin,I.hok,hl.trans I.len⟩
theorem Inv.pins_of {pins':List (Addr × Obj)} (I:Inv X pins σ H s) (h:∀ p ∈ pins',s.heap.get? p.1=some p.2∧H p.1=none∧p.1 ≠ X.env.locals∧p.1 ∉ X.fs∧∀ v,p.2.data ≠ .cell v):Inv X pins' σ H s :=
 ⟨I.ok,I.os,I.bare,I.base,I.loc,I.cell,I.free,I.freeC,fun p hp=>(List.mem_append.mp hp).elim (fun z=>I.pin p (List.mem_append_left _ z)) (h p),I.hok,I.len⟩
theorem oX {N:List Str} (hN:N.Nodup) {i j:Nat} {x:Str} (a:N[i]? = some x) (b:N[j]? = some x):i=j:= by
 obtain ⟨h1,e1⟩:=List.getElem?_eq_some_iff.mp a
 obtain ⟨h2,e2⟩:=List.getElem?_eq_some_iff.mp b
 exact (List.getElem_inj hN).mp (e1.trans e2.symm)
theorem lQ {M:Model} {A:Around} {E:Value->Shared->Prop} {i:Nat} {x:Str} {v:V} {u:Value} {Q:Unit->Shared->Prop} (I:Inv X pins σ H s) (hN:X.N.Nodup) (hi:X.N[i]? = some x) (hx:Loc X.env.scope x) (r:RelV v u)
  (h:∀ s',Inv X pins (σ.set i (some v)) H s' -> (∃ a,Heap.SameBut a s.heap s'.heap∧(a=X.env.locals ∨ X.env.cells.lookup x=some a))->Q () s') (hf:X.fn x=true ∨ X.env.scope.names.lookup x=some .local:=by first | exact .inl rfl | exact .inr rfl | assumption):wpAny M A (storeName X.env x u) Q E s:= by
 obtain ⟨m,hn,hl⟩:=id I.loc
 have hcls:(X.env.scope.kind == .class || (X.env.scope.kind == .module && X.env.locals != X.env.globals))=false:=by rw [I.ok.kind];rfl
 have hiσ:i < σ.length:=by rw [I.len];exact (List.getElem?_eq_some_iff.mp hi).1
 have cne:=I.cne
 have tracked:∀ {a:Addr} {h':Heap},(∃ o,s.heap.get? a=some o∧H a=none)->Heap.SameBut a s.heap h' -> g8 X.prog X.w H h':=fun {a h'} ha hs b ob e=>by
  obtain ⟨_,_,hfree⟩:=ha
  refine (I.hok b ob e).stay (fun c w' hc q=>(hs.2 c ?_).trans q) (fun _ q=>q) fun _ _ q=>q
  rintro rfl
  rcases hc with rfl | hc
  ·rw [hfree] at e;cases e
  ·rw [hfree] at hc;cases hc
 rcases hx with hk | hk
 ·refine wpAny_storeName_local hk hn (fun h' hn' hs=>?_) hcls
  obtain ⟨oL,_,_,hoL,_⟩:=id hn
  refine h _ ⟨I.ok,I.os,I.bare,⟨fun b o e n hb hx=>?_,fun b o e n hb hx=>?_,I.base.free,fun b o e hx=>?_,I.base.tups,I.base.frzs,I.base.tbls⟩,⟨_,hn',fun j y v' e1 e2 e3=>?_⟩,fun y c e=>?_,I.free,I.freeC,fun p hp=>?_,tracked ⟨oL,hoL,I.free⟩ hs,by simpa using I.len⟩ ⟨_,hs,.inl rfl⟩
  ·exact (hs.2 b (Nat.ne_of_lt (Nat.lt_of_lt_of_le (Heap.lt_size e) I.ok.above))).trans (I.base.keep b o e n hb hx)
  ·obtain ⟨sl,e1⟩:=I.base.slot b o e n hb hx
   exact ⟨sl,(hs.2 b (Nat.ne_of_lt (Nat.lt_of_lt_of_le (Heap.lt_size e) I.ok.above))).trans e1⟩
  ·obtain ⟨o',e1⟩:=I.base.there b o e hx
   exact ⟨o',(hs.2 b (Nat.ne_of_lt (Nat.lt_of_lt_of_le (Heap.lt_size e) I.ok.above))).trans e1⟩
  ·by_cases hj:j=i
   ·subst hj
    rw [hi] at e1;cases e1
    rw [List.getElem?_set_self hiσ] at e2
    cases e2
    exact ⟨u,r,.inl ⟨hk,by simp⟩⟩
   ·rw [List.getElem?_set_ne (Ne.symm hj)] at e2
    obtain ⟨u',r',q⟩:=hl j y v' e1 e2 e3
    refine ⟨u',r',?_⟩
    rcases q with ⟨k,e⟩ | ⟨k,c,e,z⟩
    ·refine .inl ⟨k,?_⟩
     have:y ≠ x:=fun e=>hj (oX hN e1 (e ▸ hi))
     simp [this,e]
    ·exact .inr ⟨k,c,e,z.sameBut hs (cne y c e)⟩
  ·obtain ⟨w',z⟩:=I.cell y c e
   exact ⟨w',z.sameBut hs (cne y c e)⟩
  ·obtain ⟨e,n,ne,nf,d⟩:=I.pin p hp
   exact ⟨(hs.2 p.1 ne).trans e,n,ne,nf,d⟩
 ·have hfn:X.fn x=true:= by
   rcases hf with z | z
   ·exact z
   ·rw [z] at hk;cases hk
  obtain ⟨c,hc⟩:=I.ok.has x (.inl hk)
  obtain ⟨w',z⟩:=I.cell x c hc
  refine wpAny_storeName_cell I.ok.kind hk hc z (fun h' hc' hs=>?_)
  obtain ⟨oc,hoc,hocd⟩:=id z
  refine h { s with heap:=h' } ⟨I.ok,I.os,I.bare,⟨fun b o e n hb hx=>?_,fun b o e n hb hx=>?_,I.base.free,fun b o e hx=>?_,I.base.tups,I.base.frzs,I.base.tbls⟩,⟨m,hn.sameBut hs (Ne.symm (cne x c hc)),fun j y v' e1 e2 e3=>?_⟩,fun y c' e=>?_,I.free,I.freeC,fun p hp=>?_,tracked ⟨oc,hoc,I.freeC x c hc⟩ hs,by simpa using I.len⟩ ⟨c,hs,.inr hc⟩
  ·exact (hs.2 b (Nat.ne_of_lt (Nat.lt_of_lt_of_le (Heap.lt_size e) (I.ok.cab x c hfn hc)))).trans (I.base.keep b o e n hb hx)
  ·obtain ⟨sl,e1⟩:=I.base.slot b o e n hb hx
   exact ⟨sl,(hs.2 b (Nat.ne_of_lt (Nat.lt_of_lt_of_le (Heap.lt_size e) (I.ok.cab x c hfn hc)))).trans e1⟩
  ·obtain ⟨o',e1⟩:=I.base.there b o e hx
   exact ⟨o',(hs.2 b (Nat.ne_of_lt (Nat.lt_of_lt_of_le (Heap.lt_size e) (I.ok.cab x c hfn hc)))).trans e1⟩
  ·by_cases hj:j=i
   ·subst hj
    rw [hi] at e1;cases e1
    rw [List.getElem?_set_self hiσ] at e2
    cases e2
    exact ⟨u,r,.inr ⟨.inl hk,c,hc,hc'⟩⟩
   ·rw [List.getElem?_set_ne (Ne.symm hj)] at e2
    obtain ⟨u',r',q⟩:=hl j y v' e1 e2 e3
    refine ⟨u',r',?_⟩
    rcases q with q | ⟨k,c',e,z'⟩
    ·exact .inl q
    ·refine .inr ⟨k,c',e,z'.sameBut hs ?_⟩
     rintro rfl
     exact hj (oX hN e1 (I.ok.inj _ _ _ e hc ▸ hi))
  ·by_cases hcc:c' = c
   ·subst hcc;exact ⟨_,hc'⟩
   ·obtain ⟨w2,z2⟩:=I.cell y c' e
    exact ⟨w2,z2.sameBut hs hcc⟩
  ·obtain ⟨e,n,ne,nf,d⟩:=I.pin p hp
   refine ⟨(hs.2 p.1 ?_).trans e,n,ne,nf,d⟩
   intro q
   rw [q,hoc] at e
   have q':oc=p.2:=Option.some.inj e
   exact d w' (by rw [<- q'];exact hocd)
theorem kz {M:Model} {A:Around} {E:Value->Shared->Prop} {i:Nat} {x:Str} {v:V} {u:Value} {Q:Unit->Shared->Prop} (I:Inv X pins σ H s) (hN:X.N.Nodup) (hi:X.N[i]? = some x) (hx:Loc X.env.scope x) (r:RelV v u)
  (h:∀ s',Inv X pins (σ.set i (some v)) H s' -> Q () s') (hf:X.fn x=true ∨ X.env.scope.names.lookup x=some .local:=by first | exact .inl rfl | exact .inr rfl | assumption):wpAny M A (storeName X.env x u) Q E s :=
 lQ I hN hi hx r (fun s' I' _=>h s' I') hf
theorem Inv.call' {s':Shared} {ch:List Addr} (I:Inv X pins σ H s) (ho:s'.os=s.os) (u:Un (uV X.stack) ch H H' s.heap s'.heap) (hok:g8 X.prog X.w H' s'.heap) (hg:AllBare s'.gens)
  (hch:∀ b ∈ ch,(b ∈ X.ex ∨ X.s₀.heap.objs.size ≤ b)∧b ≠ X.env.locals∧(∀ x c,X.env.cells.lookup x=some c->c ≠ b)∧∀ p ∈ X.pn ++ pins,p.1 ≠ b):Inv X pins σ H' s':= by
 obtain ⟨h',g',d',t',o'⟩:=s'
 have e:o' = s.os:=ho
 subst e
 exact I.call (g':=g') (t':=t') (d':=d') u hok hg hch
end
abbrev XK:=Value->Option Addr->Hp->Prop
abbrev St:=List (Option V)
abbrev VK:=V->Hp->Prop
abbrev TE:=St->Hp->VK->Prop
abbrev TT:=St->Hp->(Bool->Hp->Prop)->Prop
abbrev TA:=St->Hp->(List V->Hp->Prop)->Prop
structure Ends where
 nx:St->Hp->Prop
 rt:VK
 bk:St->Hp->Prop:=fun _ _=>False
 ct:St->Hp->Prop:=fun _ _=>False
abbrev TS:=Ends->St->Hp->Prop
def EP (X:Cx) (pins:List (Addr × Obj)) (σ:St) (Q:VK) (u:Value) (s':Shared):Prop:=∃ v H',Inv X pins σ H' s' ∧ RelV v u∧Q v H'
def TP (X:Cx) (pins:List (Addr × Obj)) (σ:St) (Q:Bool->Hp->Prop) (b:Bool) (s':Shared):Prop:=∃ H',Inv X pins σ H' s' ∧ Q b H'
def AP (X:Cx) (pins:List (Addr × Obj)) (σ:St) (Q:List V->Hp->Prop) (us:List Value) (s':Shared):Prop:=∃ vs H',Inv X pins σ H' s' ∧ Vals vs us∧Q vs H'
def SP (X:Cx) (pins:List (Addr × Obj)) (D:Ends) (f:Flow) (s':Shared):Prop :=
 match f with
 | .next=>∃ σ' H',Inv X pins σ' H' s' ∧ D.nx σ' H'
 | .brk=>∃ σ' H',Inv X pins σ' H' s' ∧ D.bk σ' H'
 | .cont=>∃ σ' H',Inv X pins σ' H' s' ∧ D.ct σ' H'
 | .ret u=>∃ v σ' H',Inv X pins σ' H' s' ∧ RelV v u∧D.rt v H'
def PE (X:Cx) (e:Expr) (t:TE):Prop :=
 ∀ (pins:List (Addr × Obj)) (s:Shared) (σ:St) (H:Hp) (Q:VK),Inv X pins σ H s->t σ H Q->wpAny (model X.prog X.w) X.A (eval e X.env) (EP X pins σ Q) X.xe s
def PT (X:Cx) (e:Expr) (t:TT):Prop :=
 ∀ (pins:List (Addr × Obj)) (s:Shared) (σ:St) (H:Hp) (Q:Bool->Hp->Prop),Inv X pins σ H s->t σ H Q->wpAny (model X.prog X.w) X.A (isTrue e X.env (eval e X.env)) (TP X pins σ Q) X.xe s
def PW (X:Cx) (e:Expr) (t:TT):Prop :=
 ∀ (whole:Sem Value) (pins:List (Addr × Obj)) (s:Shared) (σ:St) (H:Hp) (Q:Bool->Hp->Prop),Inv X pins σ H s->t σ H Q->wpAny (model X.prog X.w) X.A (isTrue e X.env whole) (TP X pins σ Q) X.xe s
theorem PW.pt {X:Cx} {e:Expr} {t:TT} (h:PW X e t):PT X e t:=h _
def PA (X:Cx) (es:List Expr) (t:TA):Prop :=
 ∀ (pos:Pos) (pins:List (Addr × Obj)) (s:Shared) (σ:St) (H:Hp) (Q:List V->Hp->Prop),Inv X pins σ H s->t σ H Q->wpAny (model X.prog X.w) X.A (spliced (backTo pos (starEach es X.env))) (AP X pins σ Q) X.xe s
def PS (X:Cx) (st:Stmt) (t:TS):Prop :=
 ∀ (pins:List (Addr × Obj)) (s:Shared) (σ:St) (H:Hp) (D:Ends),Inv X pins σ H s->t D σ H->wpAny (model X.prog X.w) X.A (exec st X.env) (SP X pins D) X.xe s
def p9 (X:Cx) (st:List Stmt) (t:TS):Prop :=
 ∀ (pins:List (Addr × Obj)) (s:Shared) (σ:St) (H:Hp) (D:Ends),Inv X pins σ H s->t D σ H->wpAny (model X.prog X.w) X.A (execs st X.env) (SP X pins D) X.xe s
theorem bx {α:Type} {t:Sem α} {Q Q':α->Shared->Prop} {M:Model} {A:Around} {E:Value->Shared->Prop} {s:Shared} (h:wpAny M A t Q E s) (hQ:∀ a s,Q a s->Q' a s):wpAny M A t Q' E s:=wpAny_mono h hQ fun _ _ x=>x
end L2
namespace L2
open PySem PySem.Spec PyProof.Rows
section
variable {X:Cx}
def Hj (i:Nat):TE:=fun σ H Q=>∃ v,σ[i]? = some (some v)∧Q v H
def tC (v:V):TE:=fun _ H Q=>Q v H
theorem dk {i:Nat} {x:Str} {pos:Pos} (hN:X.N[i]? = some x) (hv:pk X.env.scope x) (hd:(x == ("__debug__":Str))=false:=by decide) (hcd:(x == ("__classdict__":Str))=false:=by decide):PE X (.Name x pos) (Hj i):= by
 intro pins s σ H Q I h
 obtain ⟨v,e,h⟩:=h
 obtain ⟨m,hn,hl⟩:=I.loc
 obtain ⟨u,r,l⟩:=hl i x v hN e hv
 have fin:EP X pins σ Q u s:=⟨v,H,I,r,h⟩
 rcases l with ⟨hk,hm⟩ | ⟨hk,c,hc,hcell⟩
 ·exact wpAny_Name (wpAny_loadName_local I.ok.kind hk hn hm fin) hd
 ·rcases hk with hk | hk
  ·exact wpAny_Name (wpAny_loadName_cell I.ok.kind hk hc hcell fin) hd
  ·exact wpAny_Name (wpAny_loadName_free I.ok.kind hk hc hcell fin hcd) hd
theorem xG {i j pos}:PE X (.Constant (.int i) j pos) (tC (.int i)):=fun _ _ _ H _ I h=>wpAny_Constant_int ⟨.int i,H,I.tok _,⟨_,rfl⟩,h⟩
theorem FV {b j pos}:PE X (.Constant (.bool b) j pos) (tC (.bl b)):=fun _ _ _ H _ I h=>Constant_bool ⟨.bl b,H,I,rfl,h⟩
theorem B4 {j pos}:PE X (.Constant .none j pos) (tC .non):=fun _ _ _ H _ I h=>Constant_none ⟨.non,H,I,rfl,h⟩
def Gl (X:Cx) (x:Str):Prop:=X.env.kindOf x=some .globalImplicit
theorem AJ {E:Value->Shared->Prop} {pins:List (Addr × Obj)} {s:Shared} {σ:St} {H:Hp} {x:Str} {u:Value} {pos:Pos} {Q:Value->Shared->Prop} (I:Inv X pins σ H s) (hg:Gl X x) (hm:X.mg x=some u) (h:Q u s)
  (hd:(x == ("__debug__":Str))=false:=by decide):wpAny (model X.prog X.w) X.A (eval (.Name x pos) X.env) Q E s :=
 Calls.Name_function_global I.ok.kind hg (Calls.loadGlobal_global (by rw [I.ok.glob];exact I.mod.glob.keeps I.bk) hm h) hd
theorem gw {E:Value->Shared->Prop} {pins:List (Addr × Obj)} {s:Shared} {σ:St} {H:Hp} {x:Str} {u:Value} {pos:Pos} {Q:Value->Shared->Prop} (I:Inv X pins σ H s) (hg:Gl X x) (hm:X.mg x=none) (hv:bootBuiltins x=some u) (h:Q u s)
  (hn:x ≠ "__name__":=by decide) (hd:(x == ("__debug__":Str))=false:=by decide):wpAny (model X.prog X.w) X.A (eval (.Name x pos) X.env) Q E s:= by
 obtain ⟨mb,h1,h2⟩:=I.mod.blt
 exact Calls.Name_function_global I.ok.kind hg (Calls.loadGlobal_builtin (by rw [I.ok.glob];exact I.mod.glob.keeps I.bk) hm (by rw [I.ok.blt];exact h1.keeps I.bk) ((h2 x hn).trans hv) h) hd
theorem yQ {x:Str} {v:V} {u:Value} {pos:Pos} (hg:Gl X x) (hm:X.mg x=none) (hv:bootBuiltins x=some u) (r:RelV v u) (hn:x ≠ "__name__":=by decide) (hd:(x == ("__debug__":Str))=false:=by decide):PE X (.Name x pos) (tC v) :=
 fun _ _ _ H _ I h=>gw I hg hm hv ⟨v,H,I,r,h⟩ hn hd
variable {a b:Expr} {ta tb:TE} {pos:Pos}
def PC (X:Cx) (op:CmpOp) (a b:Expr) (t:TE):Prop :=
 ∀ (pins:List (Addr × Obj)) (s:Shared) (σ:St) (H:Hp) (Q:VK),Inv X pins σ H s->t σ H Q ->
  wpAny (model X.prog X.w) X.A (eval a X.env) (fun v s₁=>wpAny (model X.prog X.w) X.A (eval b X.env) (fun u s₂=>wpAny (model X.prog X.w) X.A (compareOp op v u) (EP X pins σ Q) X.xe s₂) X.xe s₁) X.xe s
variable {tA tB':TT} {rest:List Expr}
def Hr (t u:TT):TT:=fun σ H Q=>t σ H fun c H1=>if c=true then u σ H1 Q else Q false H1
def HN (t u:TT):TT:=fun σ H Q=>t σ H fun c H1=>if c=true then Q true H1 else u σ H1 Q
def GZ (t:TT):TT:=fun σ H Q=>t σ H fun c H1=>Q (!c) H1
theorem zB (ha:PT X a tA):PW X (.BoolOp .And [a] pos) tA:= by
 intro wh pins s σ H Q I h
 refine isTrue_and (bx (ha pins s σ H Q I h) fun c s1 e=>?_)
 cases c with
 | true=>exact isTrue_and_nil e
 | false=>exact e
theorem CV (ha:PT X a tA):PW X (.BoolOp .Or [a] pos) tA:= by
 intro wh pins s σ H Q I h
 refine isTrue_or (bx (ha pins s σ H Q I h) fun c s1 e=>?_)
 cases c with
 | false=>exact isTrue_or_nil e
 | true=>exact e
theorem Dk (ha:PT X a tA) (hb:PW X (.BoolOp .And (b :: rest) pos) tB'):PW X (.BoolOp .And (a :: b :: rest) pos) (Hr tA tB'):= by
 intro wh pins s σ H Q I h
 refine isTrue_and (bx (ha pins s σ H _ I h) fun c s1 ⟨H1,I1,q1⟩=>?_)
 cases c with
 | true=>exact hb wh pins s1 σ H1 Q I1 q1
 | false=>exact ⟨H1,I1,q1⟩
theorem E8 (ha:PT X a tA) (hb:PW X (.BoolOp .Or (b :: rest) pos) tB'):PW X (.BoolOp .Or (a :: b :: rest) pos) (HN tA tB'):= by
 intro wh pins s σ H Q I h
 refine isTrue_or (bx (ha pins s σ H _ I h) fun c s1 ⟨H1,I1,q1⟩=>?_)
 cases c with
 | true=>exact ⟨H1,I1,q1⟩
 | false=>exact hb wh pins s1 σ H1 Q I1 q1
theorem C6 (ha:PT X a tA):PT X (.UnaryOp .Not a pos) (GZ tA):= by
 intro pins s σ H Q I h
 exact isTrue_not (ha pins s σ H (fun c H1=>Q (!c) H1) I h)
def E1 (ta tb:TE):TE:=fun σ H Q=>ta σ H fun x H1=>∃ c,x=.bl c∧if c=true then tb σ H1 Q else Q (.bl false) H1
def E5 (ta:TE):TE:=fun σ H Q=>ta σ H fun x H1=>∃ c,x=.bl c∧Q (.bl (!c)) H1
theorem Dv {op} {t:TE} (h:PE X a t):PE X (.BoolOp op [a] pos) t:=fun pins s σ H Q I hw=>BoolOp_one (h pins s σ H Q I hw)
theorem CF (ha:PE X a ta) (hb:PE X (.BoolOp .And (b :: rest) pos) tb):PE X (.BoolOp .And (a :: b :: rest) pos) (E1 ta tb):= by
 intro pins s σ H Q I h
 refine BoolOp_and (bx (ha pins s σ H _ I h) fun v s1 ⟨x,H1,I1,r1,q1⟩=>?_)
 obtain ⟨c,rfl,q1⟩:=q1
 cases r1
 refine wpAny_truthy_bool ?_
 cases c with
 | true=>exact hb pins s1 σ H1 Q I1 q1
 | false=>exact ⟨.bl false,H1,I1,rfl,q1⟩
theorem BR (ha:PE X a ta):PE X (.UnaryOp .Not a pos) (E5 ta):= by
 intro pins s σ H Q I h
 refine UnaryOp_ (bx (ha pins s σ H _ I h) fun v s1 ⟨x,H1,I1,r1,q1⟩=>?_)
 obtain ⟨c,rfl,q1⟩:=q1
 cases r1
 exact not_of (wpAny_truthy_bool ⟨.bl (!c),H1,I1,rfl,q1⟩)
def HC (t:TT) (ta tb:TE):TE:=fun σ H Q=>t σ H fun c H1=>if c=true then ta σ H1 Q else tb σ H1 Q
theorem we {c:Expr} (hc:PT X c tA) (ha:PE X a ta) (hb:PE X b tb):PE X (.IfExp c a b pos) (HC tA ta tb):= by
 intro pins s σ H Q I h
 refine wpAny_IfExp (bx (hc pins s σ H _ I h) fun d s1 ⟨H1,I1,q1⟩=>?_)
 cases d with
 | true=>exact ha pins s1 σ H1 Q I1 q1
 | false=>exact hb pins s1 σ H1 Q I1 q1
end
end L2
namespace L2
open PySem PySem.Spec PyProof.Rows
def iV (K:PySem.W.Frag) (H:Hp) (a:Addr) (xs:List V):Prop :=
 Rd H a (.lst xs) ∨
  ∃ (o:Obj) (its:Array Value) (n:Nat),K.lookup a=some o∧o.cls=.type "list" ∧ o.dict=none∧o.data=.seq its n∧its.size ≤ sizeLine∧Vals xs its.toList
def jd (K:PySem.W.Frag) (H:Hp) (a:Addr) (xs:List V):Prop :=
 Rd H a (.tup xs) ∨
  ∃ (o:Obj) (its:Array Value) (n:Nat),K.lookup a=some o∧o.cls=.type "tuple" ∧ o.data=.seq its n∧its.size ≤ sizeLine∧Vals xs its.toList
def Gs:Value->Option V
 | .none=>some .non
 | .bool b=>some (.bl b)
 | .int i _=>some (.int i)
 | .str x _=>some (.str x)
 | .bytes b _=>some (.byt b)
 | .float b _=>some (.flt b)
 | .ref a=>some (.ref a)
 | .type n=>some (.ty n)
 | _=>none
theorem RelV.abs {x:V} {u:Value} (r:RelV x u):Gs u=some x:= by
 cases x with
 | non=>cases r;rfl
 | bl _=>cases r;rfl
 | int _=>obtain ⟨t,rfl⟩:=r;rfl
 | str _=>obtain ⟨t,rfl⟩:=r;rfl
 | byt _=>obtain ⟨t,rfl⟩:=r;rfl
 | flt _=>obtain ⟨t,rfl⟩:=r;rfl
 | ref _=>cases r;rfl
 | ty _=>cases r;rfl
theorem RelV.inj {x y:V} {u:Value} (r:RelV x u) (q:RelV y u):x=y:=Option.some.inj (r.abs.symm.trans q.abs)
theorem Vals.inj:∀ {xs ys:List V} {us:List Value},Vals xs us->Vals ys us->xs=ys
 | _,_,_,.nil,.nil=>rfl
 | _,_,_,.cons r t,.cons r' t'=>by rw [r.inj r',Vals.inj t t']
section
variable {X:Cx} {pins:List (Addr × Obj)} {σ:St} {H:Hp} {s:Shared} {a:Addr} {xs ys:List V}
theorem iV.of {K:PySem.W.Frag} (h:H a=some (.lst xs)):iV K H a xs:=.inl (.inl h)
theorem jd.of {K:PySem.W.Frag} (h:H a=some (.tup xs)):jd K H a xs:=.inl (.inl h)
theorem Inv.list (I:Inv X pins σ H s) (h:iV X.K H a xs):∃ its:List Value,Vals xs its∧PlainL s.heap a its.toArray∧xs.length ≤ sizeLine:= by
 rcases h with h | ⟨o,its,n,hk,hc,hd,hs,hz,r⟩
 ·obtain ⟨z,its,n,r,e⟩:=h.ok I.hok
  exact ⟨its,r,⟨_,n,e,rfl,rfl,rfl⟩,z⟩
 ·refine ⟨its.toList,r,⟨o,n,I.kIn a o hk,hc,hd,by simpa using hs⟩,?_⟩
  have e:=r.length
  simp only [Array.length_toList] at e
  omega
theorem Inv.tuple (I:Inv X pins σ H s) (h:jd X.K H a xs):∃ its:List Value,Vals xs its∧IsTup s.heap a its.toArray∧xs.length ≤ sizeLine:= by
 rcases h with h | ⟨o,its,n,hk,hc,hs,hz,r⟩
 ·obtain ⟨z,its,r,p⟩:=h.ok I.hok
  exact ⟨its,r,p.1,z⟩
 ·refine ⟨its.toList,r,⟨o,I.kIn a o hk,hc,n,by simpa using hs⟩,?_⟩
  have e:=r.length
  simp only [Array.length_toList] at e
  omega
theorem Inv.list_inj (I:Inv X pins σ H s) (h:iV X.K H a xs) (h':iV X.K H a ys):xs=ys:= by
 obtain ⟨its,r,⟨o,n,e,_,_,d⟩,_⟩:=I.list h
 obtain ⟨its',r',⟨o',n',e',_,_,d'⟩,_⟩:=I.list h'
 rw [e] at e';cases e'
 rw [d] at d'
 injection d' with d1 _
 have:its=its':=by simpa using congrArg Array.toList d1
 subst this
 exact r.inj r'
theorem Inv.tuple_inj (I:Inv X pins σ H s) (h:jd X.K H a xs) (h':jd X.K H a ys):xs=ys:= by
 obtain ⟨its,r,⟨o,e,_,n,d⟩,_⟩:=I.tuple h
 obtain ⟨its',r',⟨o',e',_,n',d'⟩,_⟩:=I.tuple h'
 rw [e] at e';cases e'
 rw [d] at d'
 injection d' with d1 _
 have:its=its':=by simpa using congrArg Array.toList d1
 subst this
 exact r.inj r'
end
abbrev Cx.wish (X:Cx) (E:Value->Shared->Prop):Cx:={ X with xe:=E }
abbrev Cx.nox (X:Cx):Cx:=X.wish fun _ _=>False
theorem Cx.Ok.wish {X:Cx} (ok:X.Ok) (E:Value->Shared->Prop):(X.wish E).Ok :=
 ⟨ok.mod,ok.kind,ok.glob,ok.blt,ok.above,ok.inj,ok.has,ok.cab,ok.hd,ok.frames,ok.stk,ok.exf,ok.bs,ok.bsz,ok.noex,ok.exfs,ok.funs,ok.frf,ok.tb⟩
theorem Cx.Ok.unwish {X:Cx} {E:Value->Shared->Prop} (ok:(X.wish E).Ok):X.Ok :=
 ⟨ok.mod,ok.kind,ok.glob,ok.blt,ok.above,ok.inj,ok.has,ok.cab,ok.hd,ok.frames,ok.stk,ok.exf,ok.bs,ok.bsz,ok.noex,ok.exfs,ok.funs,ok.frf,ok.tb⟩
section
variable {X:Cx} {pins:List (Addr × Obj)} {σ:St} {H:Hp} {s:Shared} {E:Value->Shared->Prop}
theorem Inv.wish (I:Inv X pins σ H s) (E:Value->Shared->Prop):Inv (X.wish E) pins σ H s:=⟨I.ok.wish E,I.os,I.bare,I.base,I.loc,I.cell,I.free,I.freeC,I.pin,I.hok,I.len⟩
theorem Inv.unwish (I:Inv (X.wish E) pins σ H s):Inv X pins σ H s:=⟨I.ok.unwish,I.os,I.bare,I.base,I.loc,I.cell,I.free,I.freeC,I.pin,I.hok,I.len⟩
theorem SP.unwish {D:Ends} {f:Flow} {s':Shared} (h:SP (X.wish E) pins D f s'):SP X pins D f s':= by
 cases f with
 | next=>obtain ⟨σ',H',I,q⟩:=h;exact ⟨σ',H',I.unwish,q⟩
 | brk=>obtain ⟨σ',H',I,q⟩:=h;exact ⟨σ',H',I.unwish,q⟩
 | cont=>obtain ⟨σ',H',I,q⟩:=h;exact ⟨σ',H',I.unwish,q⟩
 | ret u=>obtain ⟨v,σ',H',I,r,q⟩:=h;exact ⟨v,σ',H',I.unwish,r,q⟩
theorem p9.nox {st:List Stmt} {t:TS} (h:p9 X.nox st t):p9 X st t:=fun pins s σ H D I hw=>
 wpAny_mono (h pins s σ H D (I.wish _) hw) (fun _ _ q=>q.unwish) fun _ _ z=>False.elim z
end
section
variable {X:Cx} {st:Stmt} {rest:List Stmt} {t u:TS} {e:Expr} {te:TE} {pos:Pos}
def Ew:TS:=fun D σ H=>D.nx σ H
def Gm (t u:TS):TS:=fun D σ H=>t { D with nx:=u D } σ H
theorem zj:p9 X [] Ew:=fun _ _ σ H _ I h=>wpAny_execs_nil ⟨σ,H,I,h⟩
theorem x8 (h1:PS X st t) (h2:p9 X rest u):p9 X (st :: rest) (Gm t u):= by
 intro pins s σ H D I h
 refine wpAny_execs_cons (bx (h1 pins s σ H { D with nx:=u D } I h) fun f s1 q=>?_)
 cases f with
 | next=>
  obtain ⟨σ',H',I',q⟩:=q
  exact h2 pins s1 σ' H' D I' q
 | ret v=>exact q
 | brk=>exact q
 | cont=>exact q
theorem zL (h1:PS X st t):p9 X [st] t:= by
 intro pins s σ H D I h
 refine wpAny_execs_cons (bx (h1 pins s σ H D I h) fun f s1 q=>?_)
 cases f with
 | next=>exact wpAny_execs_nil q
 | ret v=>exact q
 | brk=>exact q
 | cont=>exact q
theorem Inv.quiet {pins:List (Addr × Obj)} {σ:St} {H:Hp} {s:Shared} (I:Inv X pins σ H s):interactive X.env=false:=by simp [interactive,I.ok.kind]
def EZ (te:TE):TS:=fun D σ H=>te σ H fun _ H1=>D.nx σ H1
theorem m5 (he:PE X e te) (hs:swapsWith e none pos.line X.env=pure false:=by rfl):PS X (.Expr e pos) (EZ te):= by
 intro pins s σ H D I h
 exact wpAny_Expr_any (bx (he pins s σ H _ I h) fun v s1 ⟨x,H1,I1,r1,q1⟩=>⟨σ,H1,I1,q1⟩) I.quiet hs
def Hg (te:TE):TS:=fun D σ H=>te σ H D.rt
theorem wd (he:PE X e te):PS X (.Return (some e) pos) (Hg te):= by
 intro pins s σ H D I h
 exact wpAny_Return_some (bx (he pins s σ H _ I h) fun v s1 ⟨x,H1,I1,r1,q1⟩=>⟨x,σ,H1,I1,r1,q1⟩)
def GJ (c:TT) (t u:TS):TS:=fun D σ H=>c σ H fun b H1=>if b=true then t D σ H1 else u D σ H1
theorem FI {c:Expr} {a b:List Stmt} {tc:TT} (hc:PT X c tc) (ha:p9 X a t) (hb:p9 X b u):PS X (.If c a b pos) (GJ tc t u):= by
 intro pins s σ H D I h
 refine wpAny_If (bx (hc pins s σ H _ I h) fun d s1 ⟨H1,I1,q1⟩=>?_)
 cases d with
 | true=>exact ha pins s1 σ H1 D I1 q1
 | false=>exact hb pins s1 σ H1 D I1 q1
end
abbrev TG:=V->St->Hp->(St->Hp->Prop)->Prop
abbrev Bl:=List V->St->Hp->(St->Hp->Prop)->Prop
def PG (X:Cx) (target:Expr) (t:TG):Prop :=
 ∀ (pins:List (Addr × Obj)) (s:Shared) (σ:St) (H:Hp) (v:V) (u:Value) (Q:St->Hp->Prop),Inv X pins σ H s->RelV v u->t v σ H Q ->
  wpAny (model X.prog X.w) X.A (assign target X.env u) (fun _ s'=>∃ σ' H',Inv X pins σ' H' s' ∧ Q σ' H') X.xe s
def Ec (X:Cx) (ts:List Expr) (t:Bl):Prop :=
 ∀ (pins:List (Addr × Obj)) (s:Shared) (σ:St) (H:Hp) (vs:List V) (us:List Value) (Q:St->Hp->Prop),Inv X pins σ H s->Vals vs us->t vs σ H Q ->
  wpAny (model X.prog X.w) X.A (assignInOrder ((assignEach ts X.env).map (·.2)) us) (fun _ s'=>∃ σ' H',Inv X pins σ' H' s' ∧ Q σ' H') X.xe s
abbrev Cn:=V->V->V->Hp->(Hp->Prop)->Prop
def FJ (X:Cx) (t:Cn):Prop :=
 ∀ (pins:List (Addr × Obj)) (s:Shared) (σ:St) (H:Hp) (o i v:V) (ov iv u:Value) (Q:Hp->Prop),Inv X pins σ H s->RelV o ov->RelV i iv->RelV v u->t o i v H Q ->
  wpAny (model X.prog X.w) X.A (setItem ov iv u) (fun _ s'=>∃ H',Inv X pins σ H' s' ∧ Q H') X.xe s
abbrev Gh:=V->V->Hp->VK->Prop
def Gb (X:Cx) (op:Operator) (t:Gh):Prop :=
 ∀ (pins:List (Addr × Obj)) (s:Shared) (σ:St) (H:Hp) (x y:V) (v u:Value) (Q:VK),Inv X pins σ H s->RelV x v->RelV y u->t x y H Q ->
  wpAny (model X.prog X.w) X.A (inplaceOp op v u) (EP X pins σ Q) X.xe s
section
variable {X:Cx} {pos:Pos}
def p7 (i:Nat):TG:=fun v σ H Q=>Q (σ.set i (some v)) H
theorem yv {i:Nat} {x:Str} (hN:X.N.Nodup) (hi:X.N[i]? = some x) (hx:Loc X.env.scope x) (hf:X.fn x=true ∨ X.env.scope.names.lookup x=some .local:=by first | exact .inl rfl | exact .inr rfl | assumption):PG X (.Name x pos) (p7 i):= by
 intro pins s σ H v u Q I r h
 exact wpAny_assign_Name (kz I hN hi hx r (fun s' I'=>⟨_,H,I',h⟩) hf)
def G_:Bl:=fun vs σ H Q=>vs=[]∧Q σ H
def Ep (t:TG) (u:Bl):Bl:=fun vs σ H Q=>∃ v r,vs=v :: r∧t v σ H fun σ' H'=>u r σ' H' Q
theorem yw:Ec X [] G_:= by
 intro pins s σ H vs us Q I r h
 obtain ⟨e,h⟩:=h
 subst e
 cases r
 exact assignInOrder_nil ⟨σ,H,I,h⟩
theorem xC {e:Expr} {es:List Expr} {t:TG} {u:Bl} (h1:PG X e t) (h2:Ec X es u)
  (hs:(assignEach (e :: es) X.env).map (·.2)=assign e X.env :: (assignEach es X.env).map (·.2):=by rfl):Ec X (e :: es) (Ep t u):= by
 intro pins s σ H vs us Q I r h
 obtain ⟨v,vr,e1,h⟩:=h
 subst e1
 cases r with
 | cons r rr=>
  rw [hs]
  refine assignInOrder_cons (bx (h1 pins s σ H _ _ _ I r h) fun _ s1 ⟨σ1,H1,I1,q1⟩=>?_)
  exact h2 pins s1 σ1 H1 _ _ Q I1 rr q1
def Hl (K:PySem.W.Frag) (n:Nat) (t:Bl):TG:=fun v σ H Q=>∃ a xs,v=.ref a∧jd K H a xs∧xs.length=n∧t xs σ H Q
theorem DM {es:List Expr} {k:Nat} {t:Bl} {n:Nat} (hc:X.calm=true) (h:Ec X es t)
  (hn:(assignEach es X.env).length=n:=by rfl) (hst:(assignEach es X.env).findIdx? (·.1)=none:=by rfl):PG X (.Tuple es k pos) (Hl X.K n t):= by
 intro pins s σ H v u Q I r hw
 obtain ⟨a,xs,e1,hq,hl,hw⟩:=hw
 subst e1
 cases r
 obtain ⟨its,rv,ht,hz⟩:=I.tuple hq
 refine assign_Tuple_tuple (I.ok.hd hc) ht (by simp [hn,<- hl,rv.length]) hst fun h' hx=>?_
 have I1:Inv X pins σ H { s with heap:=h' }:=I.kept (t':=s.toks) fun b o e=>hx b o (Nat.ne_of_lt (Heap.lt_size e)) e
 exact h pins _ σ H xs _ Q I1 (by simpa using rv) hw
def GD (to ti:TE) (t:Cn):TG:=fun v σ H Q=>to σ H fun o H1=>ti σ H1 fun i H2=>t o i v H2 fun H3=>Q σ H3
theorem CB {o i:Expr} {to ti:TE} {t:Cn} (ho:PE X o to) (hi:PE X i ti) (hs:FJ X t)
  (ha:∀ v,assign (.Subscript o i pos) X.env v=(do
   let ov <- holding [v] (eval o X.env)
   let iv <- holding [v,ov] (eval i X.env)
   standAt pos
   holding [v,ov,iv] (setItem ov iv v)
   release [v,ov,iv] []):=by intro _;rfl):PG X (.Subscript o i pos) (GD to ti t):= by
 intro pins s σ H v u Q I r h
 rw [ha]
 refine wpAny_bind (wpAny_holding (bx (ho pins s σ H _ I h) fun ov s1 ⟨x,H1,I1,r1,q1⟩=>?_))
 refine wpAny_bind (wpAny_holding (bx (hi pins s1 σ H1 _ I1 q1) fun iv s2 ⟨y,H2,I2,r2,q2⟩=>?_))
 refine wpAny_bind (wpAny_standAt (wpAny_bind (wpAny_holding (bx (hs pins s2 σ H2 x y v ov iv u _ I2 r1 r2 r q2) fun _ s3 ⟨H3,I3,q3⟩=>?_))))
 exact wpAny_release ⟨σ,H3,I3,q3⟩
def vC (te:TE) (g:TG):TS:=fun D σ H=>te σ H fun x H1=>g x σ H1 D.nx
theorem vj {tg e:Expr} {te:TE} {g:TG} (he:PE X e te) (hg:PG X tg g) (hs:swapsWithSole [tg] e pos.line X.env=pure false:=by rfl) (hw:swappedStores [tg] e X.env=pure none:=by rfl)
  (h1:(assignEach [tg] X.env).map (·.2)=[assign tg X.env]:=by rfl):PS X (.Assign [tg] e pos) (vC te g):= by
 intro pins s σ H D I h
 refine wpAny_Assign_stores (bx (he pins s σ H _ I h) fun v s1 ⟨x,H1,I1,r1,q1⟩=>?_) hs hw
 rw [h1]
 exact bx (hg pins s1 σ H1 x v _ I1 r1 q1) fun _ s2 q=>q
theorem xy {i:Nat} {x:Str} {e:Expr} {te:TE} {pos':Pos} (hN:X.N.Nodup) (hi:X.N[i]? = some x) (hx:Loc X.env.scope x) (he:PE X e te) (hs:swapsWith e (some (.Name x pos')) pos.line X.env=pure false:=by rfl) (hf:X.fn x=true ∨ X.env.scope.names.lookup x=some .local:=by first | exact .inl rfl | exact .inr rfl | assumption) :
  PS X (.Assign [.Name x pos'] e pos) (vC te (p7 i)):= by
 intro pins s σ H D I h
 refine wpAny_Assign_Name (bx (he pins s σ H _ I h) fun v s1 ⟨y,H1,I1,r1,q1⟩=>?_) hs
 exact kz I1 hN hi hx r1 (fun s2 I2=>⟨_,H1,I2,q1⟩) hf
def Hi (i:Nat) (te:TE) (ti:Gh):TS:=fun D σ H=>∃ x,σ[i]? = some (some x)∧te σ H fun y H1=>ti x y H1 fun z H2=>D.nx (σ.set i (some z)) H2
theorem DZ {i:Nat} {x:Str} {e:Expr} {te:TE} {op:Operator} {ti:Gh} {pos':Pos} (hN:X.N.Nodup) (hi:X.N[i]? = some x) (hx:Loc X.env.scope x) (he:PE X e te) (ho:Gb X op ti) (hf:X.fn x=true ∨ X.env.scope.names.lookup x=some .local:=by first | exact .inl rfl | exact .inr rfl | assumption) :
  PS X (.AugAssign (.Name x pos') op e pos) (Hi i te ti):= by
 intro pins s σ H D I h
 obtain ⟨v,e1,h⟩:=h
 obtain ⟨m,hn,hl⟩:=I.loc
 have eD:pk X.env.scope x:=by rcases hx with k | k;exact .inl k;exact .inr (.inl k)
 obtain ⟨u,r,l⟩:=hl i x v hi e1 eD
 refine wpAny_AugAssign_Name ?_
 have go:wpAny (model X.prog X.w) X.A (eval e X.env) (fun w s₂=>wpAny (model X.prog X.w) X.A (inplaceOp op u w) (fun r s₃=>wpAny (model X.prog X.w) X.A (storeName X.env x r) (fun _=>SP X pins D .next) X.xe s₃) X.xe s₂) X.xe s:= by
  refine bx (he pins s σ H _ I h) fun w s1 ⟨y,H1,I1,r1,q1⟩=>?_
  refine bx (ho pins s1 σ H1 v y u w _ I1 r r1 q1) fun z s2 ⟨zv,H2,I2,r2,q2⟩=>?_
  exact kz I2 hN hi hx r2 (fun s3 I3=>⟨_,H2,I3,q2⟩) hf
 rcases l with ⟨hk,hm⟩ | ⟨hk,c,hc,hcell⟩
 ·exact wpAny_loadName_local I.ok.kind hk hn hm go
 ·rcases hk with hk | hk
  ·exact wpAny_loadName_cell I.ok.kind hk hc hcell go
  ·rcases hx with k | k
   ·have:X.env.scope.names.lookup x=some .free:=hk
    rw [k] at this;cases this
   ·have:X.env.scope.names.lookup x=some .free:=hk
    rw [k] at this;cases this
def GU (f:Int->Int->Int):Gh:=fun x y H Q=>∃ i j,x=.int i∧y=.int j∧Q (.int (f i j)) H
theorem CN:Gb X .Add (GU fun i j=>i + j):= by
 intro pins s σ H x y v u Q I r1 r2 h
 obtain ⟨i,j,e1,e2,q⟩:=h
 subst e1;subst e2
 obtain ⟨t,rfl⟩:=r1
 obtain ⟨t',rfl⟩:=r2
 exact iadd_int ⟨.int _,H,I.tok _,⟨_,rfl⟩,q⟩
end
section
variable {X:Cx} {pos:Pos}
def B2 (c:TT) (tb:TS):TS:=fun D σ H=>∃ W:Nat->St->Hp->Prop,(∃ m,W m σ H)∧∀ m σ H,W m σ H ->
 c σ H fun b H1=>if b=true then ∃ N:St->Hp->Prop,(∀ σ' H',N σ' H' -> ∃ m',m' < m∧W m' σ' H')∧tb { D with nx:=N,ct:=N,bk:=D.nx } σ H1 else D.nx σ H1
theorem u3 {c:Expr} {body:List Stmt} {tc:TT} {tb:TS} (hp:PassesOwn (model X.prog X.w) X.A X.env X.xe) (hc:PT X c tc) (hb:p9 X body tb):PS X (.While c body [] pos) (B2 tc tb):= by
 intro pins s σ H D I h
 obtain ⟨W,⟨m0,w0⟩,turn⟩:=h
 refine wpAny_While (codeAny_whileLoop (fun n s'=>∃ σ' H',Inv X pins σ' H' s' ∧ W n σ' H') ?_ m0 ⟨σ,H,I,w0⟩)
 rintro n s1 ⟨σ1,H1,I1,w1⟩
 refine wpAny_passesOwn hp (bx (hc pins s1 σ1 H1 _ I1 (turn n σ1 H1 w1)) fun b s2 ⟨H2,I2,q2⟩=>?_)
 cases b with
 | true=>
  obtain ⟨N,hN,q2⟩:=q2
  rw [if_pos rfl]
  refine wpAny_passesOwn hp (bx (hb pins s2 σ1 H2 _ I2 q2) fun f s3 q3=>?_)
  cases f with
  | next=>
   obtain ⟨σ3,H3,I3,n3⟩:=q3
   obtain ⟨m',hm,w3⟩:=hN σ3 H3 n3
   exact ⟨m',hm,σ3,H3,I3,w3⟩
  | cont=>
   obtain ⟨σ3,H3,I3,n3⟩:=q3
   obtain ⟨m',hm,w3⟩:=hN σ3 H3 n3
   exact ⟨m',hm,σ3,H3,I3,w3⟩
  | brk=>exact q3
  | ret v=>exact q3
 | false=>
  rw [if_neg Bool.false_ne_true]
  exact wpAny_execs_nil ⟨σ1,H2,I2,q2⟩
end
structure It where
 go:Nat->Hp->Prop
 yld:Nat->Hp->V->Hp->Prop
 stop:Nat->Hp->Prop
def dg (X:Cx) (pins:List (Addr × Obj)) (H:Hp) (b:Addr):Prop :=
 H b=none∧b ≠ X.env.locals∧b ∉ X.fs∧(b ∈ X.ex ∨ X.s₀.heap.objs.size ≤ b)∧(∀ x c,X.env.cells.lookup x=some c->c ≠ b)∧∀ p ∈ X.pn ++ pins,p.1 ≠ b
theorem Inv.fpOk {X:Cx} {pins:List (Addr × Obj)} {σ:St} {H H':Hp} {s:Shared} {b:Addr} (I:Inv X pins σ H s) (hb:s.heap.objs.size ≤ b) (hn:H' b=none):dg X pins H' b:= by
 refine ⟨hn,Nat.ne_of_gt (Nat.lt_of_lt_of_le I.lt hb),I.nofs hb,.inr (Nat.le_trans I.sz hb),fun x c e z=>?_,fun p hp z=>?_⟩
 ·obtain ⟨v,q⟩:=I.cell x c e
  exact absurd (Nat.lt_of_lt_of_le q.lt (by rw [z];exact hb)) (Nat.lt_irrefl _)
 ·exact absurd (Nat.lt_of_lt_of_le (Heap.lt_size (I.pin p hp).1) (by rw [z];exact hb)) (Nat.lt_irrefl _)
structure Turn (P:Program) (w:World) (K:PySem.W.Frag) (tg:Expr) (J:It) (fp:List Addr) (it:Addr) (tn:Nat->Heap->Prop):Prop where
 mem:it ∈ fp
 obj:∀ i h,tn i h->∀ b ∈ fp,∃ o,h.get? b=some o∧∀ v,o.data ≠ .cell v
 keep:∀ i h h',tn i h->(∀ b ∈ fp,∀ o,h.get? b=some o->h'.get? b=some o)->tn i h'
 item:∀ (X:Cx),X.prog=P->X.w=w->X.K=K->X.calm=true->∀ (i:Nat) (pins:List (Addr × Obj)) (s:Shared) (σ:St) (H:Hp) (E:Value->Shared->Prop),Inv X pins σ H s->(∀ b ∈ fp,dg X pins H b)->tn i s.heap->J.go i H ->
  wpAny (model P w) X.A (pyNext (.ref it)) (fun r s1=>∃ u,r=some u ∧
   wpAny (model P w) X.A (letOwnedTupleGo tg (.ref it) u) (fun _ s2=>∃ x H',Inv X pins σ H' s2∧RelV x u∧J.yld i H x H' ∧ tn (i + 1) s2.heap∧∀ b ∈ fp,H' b=none) E s1) E s
 done:∀ (X:Cx),X.prog=P->X.w=w->X.K=K->X.calm=true->∀ (i:Nat) (pins:List (Addr × Obj)) (s:Shared) (σ:St) (H:Hp) (E:Value->Shared->Prop),Inv X pins σ H s->(∀ b ∈ fp,dg X pins H b)->tn i s.heap->J.stop i H ->
  wpAny (model P w) X.A (pyNext (.ref it)) (fun r s1=>r=none∧Inv X pins σ H s1) E s
 self:∀ (A:Around) (i:Nat) (s:Shared) (Q:Value->Shared->Prop) (E:Value->Shared->Prop),tn i s.heap->Q (.ref it) s->wpAny (model P w) A (pyIter (.ref it)) Q E s
abbrev TI:=St->Hp->(It->Hp->Prop)->Prop
def HB (X:Cx) (pins:List (Addr × Obj)) (σ:St) (tg:Expr) (R:It->Hp->Prop) (itv:Value) (s2:Shared):Prop :=
 ∃ (it:Addr) (fp:List Addr) (tn:Nat->Heap->Prop) (J:It) (H':Hp),itv=.ref it∧Inv X pins σ H' s2∧Turn X.prog X.w X.K tg J fp it tn∧tn 0 s2.heap∧(∀ b ∈ fp,dg X pins H' b)∧R J H'
def PI (X:Cx) (tg iter:Expr) (wi:TI):Prop :=
 ∀ (pins:List (Addr × Obj)) (s:Shared) (σ:St) (H:Hp) (R:It->Hp->Prop),Inv X pins σ H s->wi σ H R ->
  wpAny (model X.prog X.w) X.A (eval iter X.env) (fun v s1=>wpAny (model X.prog X.w) X.A (pyIter v) (HB X pins σ tg R) X.xe s1) X.xe s
theorem rT {M:Model} {A:Around} {E:Value->Shared->Prop} {s:Shared} {tg:Expr} {it:Addr} {u:Value} {o:Obj} {n:String} {vs:Array Value} {Q:Unit->Shared->Prop} (ho:s.heap.get? it=some o) (hc:o.cls=.type n) (hd:o.data=.fields vs)
  (hn:["enumerate","zip","dict_itemiterator","dict_reverseitemiterator","odict_iterator","itertools.zip_longest","itertools.pairwise"].contains n=false) (hQ:Q () s):wpAny M A (letOwnedTupleGo tg (.ref it) u) Q E s:= by
 unfold letOwnedTupleGo
 cases tg <;> first
  | exact wpAny_pure hQ
  | (cases u <;> first
    | exact wpAny_pure hQ
    | (refine wpAny_bind (wpAny_load ho ?_)
       rw [hc,hd]
       show wpAny M A (if (["enumerate","zip","dict_itemiterator","dict_reverseitemiterator","odict_iterator","itertools.zip_longest","itertools.pairwise"].contains n && vs[0]? == some (rawInt _))=true then _ else _) Q E s
       rw [if_neg (by intro h;rw [hn,Bool.false_and] at h;cases h)]
       exact wpAny_pure hQ))
def FY (K:PySem.W.Frag) (a:Addr):It :=
 ⟨fun i H=>∃ xs x,iV K H a xs∧xs[i]? = some x,fun i H x H'=>H' = H∧∀ xs,iV K H a xs->xs[i]? = some x,fun i H=>∃ xs,iV K H a xs∧xs.length ≤ i⟩
def G4 (K:PySem.W.Frag) (a:Addr):It :=
 ⟨fun i H=>∃ xs x,jd K H a xs∧xs[i]? = some x,fun i H x H'=>H' = H∧∀ xs,jd K H a xs->xs[i]? = some x,fun i H=>∃ xs,jd K H a xs∧xs.length ≤ i⟩
def EC (lo:Int) (n:Nat):It:=⟨fun i _=>i < n,fun i H x H'=>H' = H∧x=.int (lo + i),fun i _=>n ≤ i⟩
theorem mI {P:Program} {w:World} {K:PySem.W.Frag} {tg:Expr} (a it:Addr):Turn P w K tg (FY K a) [it] it (fun i h=>h.IsListIter it a i) where
 mem:=by simp
 obj:=fun i h st b hb=>by
  have e:b=it:=by simpa using hb
  subst e
  obtain ⟨o,e,c,d⟩:=st
  exact ⟨o,e,fun v z=>by rw [d] at z;cases z⟩
 keep:=fun i h h' st k=>st.at fun o e=>k it (by simp) o e
 item:= by
  intro X hP hw hK hc i pins s σ H E I hf st hg
  subst hP hw hK
  obtain ⟨xs,x,hq,hx⟩:=hg
  obtain ⟨its,rv,p,hz⟩:=I.list hq
  obtain ⟨u,hu,ru⟩:=rv.get hx
  obtain ⟨f0,f1,f2,f3,f4,f5⟩:=hf it (by simp)
  refine wpAny_pyNext_list_item st p.isList (x:=u) (by simpa using hu) fun h' st' sb=>?_
  have I1:Inv X pins σ H { s with heap:=h' }:=I.turned (t':=s.toks) (fun b o hb e=>(sb.2 b hb).trans e) f0 f1 f3 f4 f5
  obtain ⟨o,e,c,d⟩:=id st'
  exact ⟨u,rfl,rT (s:={ s with heap:=h' }) e c d (by decide) ⟨x,H,I1,ru,⟨rfl,fun ys hy=>by rw [I.list_inj hy hq];exact hx⟩,st',fun b hb=>(hf b hb).1⟩⟩
 done:= by
  intro X hP hw hK hc i pins s σ H E I hf st hg
  subst hP hw hK
  obtain ⟨xs,hq,hx⟩:=hg
  obtain ⟨its,rv,p,hz⟩:=I.list hq
  obtain ⟨f0,f1,f2,f3,f4,f5⟩:=hf it (by simp)
  have hl:=rv.length
  exact wpAny_pyNext_list_end (I.ok.hd hc) st p.isList (by simp;omega) fun h' eb=>⟨rfl,I.turned (t':=s.toks) (fun b o hb e=>eb b o hb e) f0 f1 f3 f4 f5⟩
 self:=fun _ _ _ _ _ st h=>wpAny_pyIter_listiter st h
theorem qH {P:Program} {w:World} {K:PySem.W.Frag} {tg:Expr} (a it:Addr):Turn P w K tg (G4 K a) [it] it (fun i h=>h.IsTupleIter it a i) where
 mem:=by simp
 obj:=fun i h st b hb=>by
  have e:b=it:=by simpa using hb
  subst e
  obtain ⟨o,e,c,d⟩:=st
  exact ⟨o,e,fun v z=>by rw [d] at z;cases z⟩
 keep:=fun i h h' st k=>st.at fun o e=>k it (by simp) o e
 item:= by
  intro X hP hw hK hc i pins s σ H E I hf st hg
  subst hP hw hK
  obtain ⟨xs,x,hq,hx⟩:=hg
  obtain ⟨its,rv,p,hz⟩:=I.tuple hq
  obtain ⟨u,hu,ru⟩:=rv.get hx
  obtain ⟨f0,f1,f2,f3,f4,f5⟩:=hf it (by simp)
  refine wpAny_pyNext_tuple_item st (show s.heap.IsTuple a its.toArray from p) (x:=u) (by simpa using hu) fun h' st' sb=>?_
  have I1:Inv X pins σ H { s with heap:=h' }:=I.turned (t':=s.toks) (fun b o hb e=>(sb.2 b hb).trans e) f0 f1 f3 f4 f5
  obtain ⟨o,e,c,d⟩:=id st'
  exact ⟨u,rfl,rT (s:={ s with heap:=h' }) e c d (by decide) ⟨x,H,I1,ru,⟨rfl,fun ys hy=>by rw [I.tuple_inj hy hq];exact hx⟩,st',fun b hb=>(hf b hb).1⟩⟩
 done:= by
  intro X hP hw hK hc i pins s σ H E I hf st hg
  subst hP hw hK
  obtain ⟨xs,hq,hx⟩:=hg
  obtain ⟨its,rv,p,hz⟩:=I.tuple hq
  obtain ⟨f0,f1,f2,f3,f4,f5⟩:=hf it (by simp)
  have hl:=rv.length
  exact wpAny_pyNext_tuple_end (I.ok.hd hc) st (show s.heap.IsTuple a its.toArray from p) (by simp;omega) fun h' eb=>⟨rfl,I.turned (t':=s.toks) (fun b o hb e=>eb b o hb e) f0 f1 f3 f4 f5⟩
 self:=fun _ _ _ _ _ st h=>wpAny_pyIter_tupleiter st h
theorem qQ {P:Program} {w:World} {K:PySem.W.Frag} {tg:Expr} (it:Addr) (lo:Int) (n:Nat):Turn P w K tg (EC lo n) [it] it (fun i h=>IsRangeIter h it (lo + (i:Nat) * 1) ((n:Int) - (i:Nat)) 1) where
 mem:=by simp
 obj:=fun i h st b hb=>by
  have e:b=it:=by simpa using hb
  subst e
  exact ⟨_,st,fun v z=>by
   have z':Data.fields _=Data.cell v:=z
   cases z'⟩
 keep:=fun i h h' st k=>k it (by simp) _ st
 item:= by
  intro X hP hw hK hc i pins s σ H E I hf st hg
  subst hP hw hK
  obtain ⟨f0,f1,f2,f3,f4,f5⟩:=hf it (by simp)
  have W:=Walks.range (prog:=X.prog) (w:=X.w) (I.ok.hd hc) it lo 1 n
  refine W.item i s _ _ hg st fun v h' tk hv st' kk=>?_
  obtain ⟨t,rfl⟩:=hv
  have I1:Inv X pins σ H { s with heap:=h',toks:=tk }:=I.turned (fun b o hb e=>kk b o (by simpa using hb) e) f0 f1 f3 f4 f5
  refine ⟨_,rfl,rT (s:={ s with heap:=h',toks:=tk }) (n:="range_iterator") st' rfl rfl (by decide) ⟨.int (lo + i),H,I1,⟨t,?_⟩,⟨rfl,rfl⟩,st',fun b hb=>(hf b hb).1⟩⟩
  rw [Int.mul_one]
 done:= by
  intro X hP hw hK hc i pins s σ H E I hf st hg
  subst hP hw hK
  obtain ⟨f0,f1,f2,f3,f4,f5⟩:=hf it (by simp)
  exact wpAny_pyNext_range_end (I.ok.hd hc) st (by have:n ≤ i:=hg;omega) fun h' eb=>⟨rfl,I.turned (t':=s.toks) (fun b o hb e=>eb b o hb e) f0 f1 f3 f4 f5⟩
 self:=fun _ _ _ _ _ st h=>wpAny_pyIter_rangeiter st h
end L2
namespace L2
open PySem PySem.Spec PyProof.Rows
section
variable {X:Cx} {tg:Expr}
def Fx (K:PySem.W.Frag) (tl:TE):TI:=fun σ H R=>tl σ H fun x H1=>∃ a,x=.ref a∧(∃ xs,iV K H1 a xs)∧R (FY K a) H1
theorem yx {l:Expr} {tl:TE} (hl:PE X l tl):PI X tg l (Fx X.K tl):= by
 intro pins s σ H R I h
 refine bx (hl pins s σ H _ I h) fun v s1 ⟨x,H1,I1,r1,q1⟩=>?_
 obtain ⟨a,e,⟨xs,hq⟩,q⟩:=q1
 subst e
 cases r1
 obtain ⟨its,rv,p,hz⟩:=I1.list hq
 refine wpAny_pyIter_list p.isList ?_
 refine ⟨s1.heap.objs.size,[s1.heap.objs.size],_,_,H1,rfl,I1.kept (t':=s1.toks) fun b o e=>Heap.get?_push_of_some _ e,mI a _,⟨_,Heap.get?_push_size _ rfl,rfl,rfl⟩,fun b hb=>?_,q⟩
 have e:b=s1.heap.objs.size:=by simpa using hb
 subst e
 exact I1.fpOk (Nat.le_refl _) (I1.hok.fresh (Nat.le_refl _))
theorem pz {pins:List (Addr × Obj)} {σ:St} {H:Hp} {s:Shared} {R:It->Hp->Prop} {E:Value->Shared->Prop} {lo hi:Int} {t u v:Tok} {tk:Nat} (I:Inv X pins σ H s) (h1:-(2 ^ 62) ≤ lo) (h2:lo < 2 ^ 62) (h3:-(2 ^ 62) ≤ hi) (h4:hi < 2 ^ 62)
  (q:R (EC lo (hi - lo).toNat) H):wpAny (model X.prog X.w) X.A (pyIter (.ref s.heap.objs.size)) (HB X pins σ tg R) E { s with heap:=s.heap.push { cls:=.type "range",data:=.fields #[.int lo t,.int hi u,.int 1 v] },toks:=tk }:= by
 refine wpAny_pyIter_range (IsRange.new ..) (small_one h1 h2 h3 h4) ?_
 have I1:Inv X pins σ H { s with heap:=s.heap.push { cls:=.type "range",data:=.fields #[.int lo t,.int hi u,.int 1 v] },toks:=tk }:=I.kept fun b o e=>Heap.get?_push_of_some _ e
 refine ⟨(s.heap.push { cls:=.type "range",data:=.fields #[.int lo t,.int hi u,.int 1 v] }).objs.size,[(s.heap.push { cls:=.type "range",data:=.fields #[.int lo t,.int hi u,.int 1 v] }).objs.size],_,_,H,rfl,
  I1.kept (t':=tk) fun b o e=>Heap.get?_push_of_some _ e,qQ _ lo (hi - lo).toNat,?_,fun b hb=>?_,q⟩
 ·have e1:lo + ((0:Nat):Int) * 1=lo:=by simp
  have e2:(((hi - lo).toNat:Nat):Int) - ((0:Nat):Int)=Builtin.Range.rangeSize lo hi 1:=by rw [rangeSize_one];split <;> omega
  show IsRangeIter _ _ (lo + ((0:Nat):Int) * 1) ((((hi - lo).toNat:Nat):Int) - ((0:Nat):Int)) 1
  rw [e1,e2]
  exact Heap.get?_push_size _ rfl
 ·have e:b=(s.heap.push { cls:=.type "range",data:=.fields #[.int lo t,.int hi u,.int 1 v] }).objs.size:=by simpa using hb
  subst e
  exact I1.fpOk (Nat.le_refl _) (I1.hok.fresh (Nat.le_refl _))
def Es (ta:TA):TI:=fun σ H R=>ta σ H fun vs H1=>∃ j:Int,vs=[.int j] ∧ -(2 ^ 62) ≤ j∧j < 2 ^ 62∧R (EC 0 j.toNat) H1
def ES (ta:TA):TI:=fun σ H R=>ta σ H fun vs H1=>∃ i j:Int,vs=[.int i,.int j]∧(-(2 ^ 62) ≤ i∧i < 2 ^ 62 ∧ -(2 ^ 62) ≤ j∧j < 2 ^ 62)∧R (EC i (j - i).toNat) H1
theorem uQ {a:Expr} {ta:TA} {p pos:Pos} (hg:Gl X "range") (hm:X.mg "range" = none) (ha:PA X [a] ta) (hs:starEach [a] X.env=[(false,eval a X.env)]:=by rfl):PI X tg (.Call (.Name "range" p) [a] [] pos) (Es ta):= by
 intro pins s σ H R I h
 refine Call_ (gw I hg hm boot_range (PyProof.Rows.callWith_type1 (bx (ha pos pins s σ H _ I h) fun us s1 ⟨vs,H1,I1,r1,q1⟩=>?_) hs rfl))
 obtain ⟨j,e,q1,q2,q⟩:=q1
 subst e
 cases r1 with
 | cons r rr=>
  cases rr
  obtain ⟨t,rfl⟩:=r
  exact call_range_1 (pz I1 (by omega) (by omega) q1 q2 (by simpa using q))
theorem uM {a b:Expr} {ta:TA} {p pos:Pos} (hg:Gl X "range") (hm:X.mg "range" = none) (ha:PA X [a,b] ta) (hs:starEach [a,b] X.env=[(false,eval a X.env),(false,eval b X.env)]:=by rfl) (hs2:starEach [b] X.env=[(false,eval b X.env)]:=by rfl) :
  PI X tg (.Call (.Name "range" p) [a,b] [] pos) (ES ta):= by
 intro pins s σ H R I h
 refine Call_ (gw I hg hm boot_range (PyProof.Rows.callWith_type1 (bx (ha pos pins s σ H _ I h) fun us s1 ⟨vs,H1,I1,r1,q1⟩=>?_) (by rw [hs,hs2]) (by rw [hs2];rfl)))
 obtain ⟨i,j,e,⟨q1,q2,q3,q4⟩,q⟩:=q1
 subst e
 cases r1 with
 | cons r rr=>
  cases rr with
  | cons r' rr=>
   cases rr
   obtain ⟨t,rfl⟩:=r
   obtain ⟨t',rfl⟩:=r'
   exact call_range_2 (pz I1 q1 q2 q3 q4 q)
def Gu (wi:TI) (g:TG) (tb:TS):TS:=fun D σ H=>wi σ H fun J H1=>∃ W:Nat->Nat->St->Hp->Prop,(∃ m,W 0 m σ H1)∧∀ i m σ H,W i m σ H ->
 (J.stop i H∧D.nx σ H) ∨ (J.go i H∧∃ N:St->Hp->Prop,(∀ σ' H',N σ' H' -> ∃ m',m' < m∧W (i + 1) m' σ' H')∧∀ x H',J.yld i H x H' -> g x σ H' fun σ2 H2=>tb { D with nx:=N,ct:=N,bk:=D.nx } σ2 H2)
def iq (fp:List Addr) (h:Heap):List (Addr × Obj):=fp.filterMap fun b=>(h.get? b).map fun o=>(b,o)
theorem cg {fp:List Addr} {h:Heap} {b:Addr} {o:Obj} (hb:b ∈ fp) (e:h.get? b=some o):(b,o) ∈ iq fp h:=List.mem_filterMap.mpr ⟨b,hb,by rw [e];rfl⟩
theorem uE {fp:List Addr} {h:Heap} {p:Addr × Obj} (hp:p ∈ iq fp h):p.1 ∈ fp∧h.get? p.1=some p.2:= by
 obtain ⟨b,hb,e⟩:=List.mem_filterMap.mp hp
 cases q:h.get? b with
 | none=>rw [q] at e;cases e
 | some o=>
  rw [q] at e
  have e':(b,o)=p:=Option.some.inj e
  subst e'
  exact ⟨hb,q⟩
theorem Inv.pinned {pins:List (Addr × Obj)} {σ:St} {H:Hp} {s:Shared} {fp:List Addr} (I:Inv X pins σ H s) (hf:∀ b ∈ fp,dg X pins H b) (ho:∀ b ∈ fp,∃ o,s.heap.get? b=some o∧∀ v,o.data ≠ .cell v):Inv X (pins ++ iq fp s.heap) σ H s :=
 I.pins_of fun p hp=>(List.mem_append.mp hp).elim (fun z=>I.pin p (List.mem_append_right _ z)) fun z=>by
  obtain ⟨hb,e⟩:=uE z
  obtain ⟨f0,f1,f2,_⟩:=hf p.1 hb
  obtain ⟨o,e',d⟩:=ho p.1 hb
  rw [e] at e';cases e'
  exact ⟨e,f0,f1,f2,d⟩
theorem Inv.unpinned {pins pl:List (Addr × Obj)} {σ:St} {H:Hp} {s:Shared} (I:Inv X (pins ++ pl) σ H s):Inv X pins σ H s:=I.pins_of fun p hp=>I.pin p (List.mem_append_right _ (List.mem_append_left _ hp))
theorem D5 {iter:Expr} {body:List Stmt} {wi:TI} {g:TG} {tb:TS} {pos:Pos} (hp:PassesOwn (model X.prog X.w) X.A X.env X.xe) (hc:X.calm=true) (hi:PI X tg iter wi) (hg:PG X tg g) (hb:p9 X body tb)
  (hs:∀ x,foldedSetIterable iter X.env x=pure x:=by intro _;rfl):PS X (.For tg iter body [] pos) (Gu wi g tb):= by
 intro pins s σ H D I h
 refine wpAny_For (bx (hi pins s σ H _ I h) fun v s1 h1=>bx h1 fun itv s2 h2=>?_) hs
 obtain ⟨it,fp,tn,J,H2,e,I2,T,st2,f2,W,⟨m0,w0⟩,turn⟩:=h2
 subst e
 have stat:∀ {H':Hp},(∀ b ∈ fp,H' b=none)->∀ b ∈ fp,dg X pins H' b:=fun hn b hb=>⟨hn b hb,(f2 b hb).2⟩
 refine codeAny_forLoop_any (fun n s'=>∃ i σ' H',Inv X pins σ' H' s' ∧ tn i s'.heap∧(∀ b ∈ fp,H' b=none)∧W i n σ' H') ?_ m0 ⟨0,σ,H2,I2,st2,fun b hb=>(f2 b hb).1,w0⟩
 rintro n s3 ⟨i,σ3,H3,I3,st3,fr3,w3⟩
 rcases turn i n σ3 H3 w3 with ⟨stop,qn⟩ | ⟨go,N,hN,step⟩
 ·refine wpAny_passesOwn hp (bx (T.done X rfl rfl rfl hc i pins s3 σ3 H3 X.xe I3 (stat fr3) st3 stop) fun r s4 ⟨hr,I4⟩=>?_)
  subst hr
  exact wpAny_execs_nil ⟨σ3,H3,I4,qn⟩
 ·refine wpAny_passesOwn hp (bx (T.item X rfl rfl rfl hc i pins s3 σ3 H3 X.xe I3 (stat fr3) st3 go) fun r s4 ⟨u,hr,h4⟩=>?_)
  subst hr
  refine wpAny_passesOwn hp (bx h4 fun _ s5 ⟨x,H5,I5,r5,y5,st5,fr5⟩=>?_)
  have I5':=I5.pinned (stat fr5) (T.obj _ _ st5)
  refine wpAny_passesOwn hp (bx (hg _ s5 σ3 H5 x u _ I5' r5 (step x H5 y5)) fun _ s6 ⟨σ6,H6,I6,q6⟩=>?_)
  refine wpAny_passesOwn hp (bx (hb _ s6 σ6 H6 _ I6 q6) fun f s7 q7=>?_)
  have again:∀ {σ7:St} {H7:Hp},Inv X (pins ++ iq fp s5.heap) σ7 H7 s7->N σ7 H7->∃ m,m < n∧∃ i σ' H',Inv X pins σ' H' s7∧tn i s7.heap∧(∀ b ∈ fp,H' b=none)∧W i m σ' H':=fun {σ7 H7} I7 n7=>by
   obtain ⟨m',hm,w7⟩:=hN σ7 H7 n7
   refine ⟨m',hm,i + 1,σ7,H7,I7.unpinned,T.keep _ _ _ st5 fun b hb o e=>(I7.pin (b,o) (List.mem_append_right _ (List.mem_append_right _ (cg hb e)))).1,fun b hb=>?_,w7⟩
   obtain ⟨o,e,d⟩:=T.obj _ _ st5 b hb
   exact (I7.pin (b,o) (List.mem_append_right _ (List.mem_append_right _ (cg hb e)))).2.1
  cases f with
  | next=>obtain ⟨σ7,H7,I7,n7⟩:=q7;exact again I7 n7
  | cont=>obtain ⟨σ7,H7,I7,n7⟩:=q7;exact again I7 n7
  | brk=>obtain ⟨σ7,H7,I7,q7⟩:=q7;exact ⟨σ7,H7,I7.unpinned,q7⟩
  | ret v=>obtain ⟨x7,σ7,H7,I7,r7,q7⟩:=q7;exact ⟨x7,σ7,H7,I7.unpinned,r7,q7⟩
end
end L2
namespace L2
open PySem PySem.Spec PyProof.Rows
abbrev R2:=V->V->Hp->VK->Prop
def hU (X:Cx) (f:Value->Value->Sem Value) (r:R2):Prop :=
 ∀ (pins:List (Addr × Obj)) (s:Shared) (σ:St) (H:Hp) (x y:V) (v u:Value) (Q:VK),Inv X pins σ H s->RelV x v->RelV y u->r x y H Q ->
  wpAny (model X.prog X.w) X.A (f v u) (EP X pins σ Q) X.xe s
def GC (X:Cx) (f:Value->Sem Value) (r:V->Hp->VK->Prop):Prop :=
 ∀ (pins:List (Addr × Obj)) (s:Shared) (σ:St) (H:Hp) (x:V) (v:Value) (Q:VK),Inv X pins σ H s->RelV x v->r x H Q ->
  wpAny (model X.prog X.w) X.A (f v) (EP X pins σ Q) X.xe s
def dR (X:Cx) (f:Value) (r:List V->Hp->VK->Prop):Prop :=
 ∀ (pins:List (Addr × Obj)) (s:Shared) (σ:St) (H:Hp) (xs:List V) (us:List Value) (Q:VK),Inv X pins σ H s->Vals xs us->r xs H Q ->
  wpAny (model X.prog X.w) X.A (call f us) (EP X pins σ Q) X.xe s
def Gr (X:Cx) (r:V->Hp->(Bool->Hp->Prop)->Prop):Prop :=
 ∀ (pins:List (Addr × Obj)) (s:Shared) (σ:St) (H:Hp) (x:V) (v:Value) (Q:Bool->Hp->Prop),Inv X pins σ H s->RelV x v->r x H Q ->
  wpAny (model X.prog X.w) X.A (truthy v) (TP X pins σ Q) X.xe s
def Ba (r:R2) (ta tb:TE):TE:=fun σ H Q=>ta σ H fun x H1=>tb σ H1 fun y H2=>r x y H2 Q
def HI (r:V->Hp->VK->Prop) (ta:TE):TE:=fun σ H Q=>ta σ H fun x H1=>r x H1 Q
def rI (C:Int->Int->Prop) (g:Int->Int->V):R2:=fun x y H Q=>∃ i j,x=.int i∧y=.int j∧C i j∧Q (g i j) H
def yi (g:Int->Int->V):R2:=fun x y H Q=>∃ i j,x=.int i∧y=.int j∧Q (g i j) H
def rU (g:Int->V):V->Hp->VK->Prop:=fun x H Q=>∃ i,x=.int i∧Q (g i) H
section
variable {X:Cx} {a b c:Expr} {ta tb tc:TE} {pos:Pos}
theorem CM (ha:PE X a ta) (hb:PE X b tb) {pins:List (Addr × Obj)} {s:Shared} {σ:St} {H:Hp} {R:V->V->Hp->Prop} (I:Inv X pins σ H s)
  (h:ta σ H fun x H1=>tb σ H1 fun y H2=>R x y H2) {Q:Value->Shared->Prop} {f:Value->Value->Sem Value}
  (hf:∀ v u s2 x y H2,Inv X pins σ H2 s2->RelV x v->RelV y u->R x y H2->wpAny (model X.prog X.w) X.A (f v u) Q X.xe s2) :
  wpAny (model X.prog X.w) X.A (eval a X.env) (fun v s₁=>wpAny (model X.prog X.w) X.A (eval b X.env) (fun u s₂=>wpAny (model X.prog X.w) X.A (f v u) Q X.xe s₂) X.xe s₁) X.xe s:= by
 refine bx (ha pins s σ H _ I h) fun v s1 ⟨x,H1,I1,r1,q1⟩=>?_
 refine bx (hb pins s1 σ H1 _ I1 q1) fun u s2 ⟨y,H2,I2,r2,q2⟩=>?_
 exact hf v u s2 x y H2 I2 r1 r2 q2
theorem Bg {op:Operator} {r:R2} (ho:hU X (binaryOp op) r) (ha:PE X a ta) (hb:PE X b tb):PE X (.BinOp a op b pos) (Ba r ta tb):= by
 intro pins s σ H Q I h
 exact wpAny_BinOp (CM ha hb I h fun v u s2 x y H2 I2 rx ry q=>ho pins s2 σ H2 x y v u Q I2 rx ry q)
theorem EL {op:UnaryOp} {r:V->Hp->VK->Prop} (ho:GC X (unaryOp op) r) (ha:PE X a ta):PE X (.UnaryOp op a pos) (HI r ta):= by
 intro pins s σ H Q I h
 exact UnaryOp_ (bx (ha pins s σ H _ I h) fun v s1 ⟨x,H1,I1,r1,q1⟩=>ho pins s1 σ H1 x v Q I1 r1 q1)
theorem Gg {f:Value->Value->Sem Value} {C:Int->Int->Prop} {g:Int->Int->Int}
  (rule:∀ (i j:Int) (t u:Tok) (s:Shared) (Q:Value->Shared->Prop) (E:Value->Shared->Prop),C i j->Q (.int (g i j) s.toks) { s with toks:=s.toks + 1 }->wpAny (model X.prog X.w) X.A (f (.int i t) (.int j u)) Q E s) :
  hU X f (rI C fun i j=>.int (g i j)):= by
 intro pins s σ H x y v u Q I rx ry h
 obtain ⟨i,j,rfl,rfl,hc,q⟩:=h
 obtain ⟨t,rfl⟩:=rx
 obtain ⟨t',rfl⟩:=ry
 exact rule i j t t' s _ _ hc ⟨.int (g i j),H,I.tok _,⟨_,rfl⟩,q⟩
theorem FF {f:Value->Value->Sem Value} {g:Int->Int->Int}
  (rule:∀ (i j:Int) (t u:Tok) (s:Shared) (Q:Value->Shared->Prop) (E:Value->Shared->Prop),Q (.int (g i j) s.toks) { s with toks:=s.toks + 1 }->wpAny (model X.prog X.w) X.A (f (.int i t) (.int j u)) Q E s) :
  hU X f (yi fun i j=>.int (g i j)):= by
 intro pins s σ H x y v u Q I rx ry h
 obtain ⟨i,j,rfl,rfl,q⟩:=h
 obtain ⟨t,rfl⟩:=rx
 obtain ⟨t',rfl⟩:=ry
 exact rule i j t t' s _ _ ⟨.int (g i j),H,I.tok _,⟨_,rfl⟩,q⟩
theorem B1 {f:Value->Value->Sem Value} {g:Int->Int->Bool}
  (rule:∀ (i j:Int) (t u:Tok) (s:Shared) (Q:Value->Shared->Prop) (E:Value->Shared->Prop),Q (.bool (g i j)) s->wpAny (model X.prog X.w) X.A (f (.int i t) (.int j u)) Q E s) :
  hU X f (yi fun i j=>.bl (g i j)):= by
 intro pins s σ H x y v u Q I rx ry h
 obtain ⟨i,j,rfl,rfl,q⟩:=h
 obtain ⟨t,rfl⟩:=rx
 obtain ⟨t',rfl⟩:=ry
 exact rule i j t t' s _ _ ⟨.bl (g i j),H,I,rfl,q⟩
def De (i j:Int):Prop:=0 < j∧j < 1073741824
def Cj (i j:Int):Prop:=(-(2 ^ 64) < i∧i < 2 ^ 64) ∨ (-(2 ^ 64) < j∧j < 2 ^ 64)
theorem Cj.ok {i j:Int} (h:Cj i j):IntMulOk i j:= by
 rcases h with ⟨h1,h2⟩ | ⟨h1,h2⟩
 ·exact .of_left (intBits_le_64 h1 h2)
 ·exact .of_right (intBits_le_64 h1 h2)
theorem D9:hU X (binaryOp .Add) (yi fun i j=>.int (i + j)):=FF fun _ _ _ _ _ _ _ q=>add_int q
theorem Dq:hU X (binaryOp .Sub) (yi fun i j=>.int (i - j)):=FF fun _ _ _ _ _ _ _ q=>sub_int q
theorem BG:hU X (binaryOp .Mult) (rI Cj fun i j=>.int (i * j)):=Gg fun _ _ _ _ _ _ _ hc q=>mul_int q hc.ok
theorem zw:hU X (binaryOp .FloorDiv) (rI De fun i j=>.int (i / j)):=Gg fun i j _ _ _ _ _ hc q=>by
 have h1:(0:Int) < j:=hc.1
 have h2:j < 1073741824:=hc.2
 exact floordiv_int (by omega) (by rw [Int.fdiv_eq_ediv_of_nonneg i (by omega)];exact q) (.inl (PyProof.noPylong_small (by omega)))
theorem B5:hU X (binaryOp .Mod) (rI (fun _ j=>0 < j) fun i j=>.int (i % j)):=Gg fun i j _ _ _ _ _ hc q=>by
 have h1:(0:Int) < j:=hc
 exact mod_int' (by omega) (by rw [Int.fmod_eq_emod_of_nonneg i (by omega)];exact q)
theorem HH {f:Value->Sem Value} {g:Int->Int}
  (rule:∀ (i:Int) (t:Tok) (s:Shared) (Q:Value->Shared->Prop) (E:Value->Shared->Prop),Q (.int (g i) s.toks) { s with toks:=s.toks + 1 }->wpAny (model X.prog X.w) X.A (f (.int i t)) Q E s) :
  GC X f (rU fun i=>.int (g i)):= by
 intro pins s σ H x v Q I rx h
 obtain ⟨i,rfl,q⟩:=h
 obtain ⟨t,rfl⟩:=rx
 exact rule i t s _ _ ⟨.int (g i),H,I.tok _,⟨_,rfl⟩,q⟩
theorem Ea:GC X (unaryOp .USub) (rU fun i=>.int (-i)):=HH fun _ _ _ _ _ q=>neg_int q
end
def jZ:V->V->Bool
 | .non,.non=>true | .non,.int _=>true | .int _,.non=>true | .non,.bl _=>true | .bl _,.non=>true | .non,.str _=>true | .str _,.non=>true
 | .int _,.int _=>true | .bl _,.bl _=>true | .str _,.str _=>true | .byt _,.byt _=>true
 | .int _,.str _=>true | .str _,.int _=>true | .bl _,.str _=>true | .str _,.bl _=>true
 | _,_=>false
def GH:R2:=fun x y H Q=>jZ x y=true∧Q (.bl (decide (x=y))) H
def GP:R2:=fun x y H Q=>jZ x y=true∧Q (.bl (!decide (x=y))) H
theorem sR {i j:Int}:decide (V.int i=V.int j)=(i == j):= by
 rw [Bool.eq_iff_iff]
 simp
theorem u9 {i j:Bool}:decide (V.bl i=V.bl j)=(i == j):= by
 rw [Bool.eq_iff_iff]
 simp
theorem su {i j:Str}:decide (V.str i=V.str j)=(i == j):= by
 rw [Bool.eq_iff_iff]
 simp
theorem rj {i j:Array UInt8}:decide (V.byt i=V.byt j)=(i.toList == j.toList):= by
 rw [Bool.eq_iff_iff]
 cases i
 cases j
 simp
section
variable {X:Cx} {a b c:Expr} {ta tb tc:TE} {pos:Pos}
theorem bf {pins:List (Addr × Obj)} {σ:St} {H:Hp} {s:Shared} {Q:VK} {k k':Bool} (I:Inv X pins σ H s) (q:Q (.bl k) H) (e:k=k'):EP X pins σ Q (.bool k') s:= by
 subst e
 exact ⟨.bl k,H,I,rfl,q⟩
theorem vN:hU X (compareOp .Eq) GH:= by
 intro pins s σ H x y v u Q I rx ry h
 obtain ⟨hs,q⟩:=h
 cases x with
 | non=>
  cases rx
  cases y with
  | non=>cases ry;exact PySem.EqNone.eq_none_none (bf I q (by simp))
  | bl j=>cases ry;exact PySem.EqNone.eq_none_bool (bf I q (by simp))
  | int j=>obtain ⟨t',rfl⟩:=ry;exact PySem.EqNone.eq_none_int (bf I q (by simp))
  | str j=>obtain ⟨t',rfl⟩:=ry;exact PySem.EqNone.eq_none_str (bf I q (by simp))
  | _=>exact absurd (show false=true from hs) Bool.false_ne_true
 | bl i=>
  cases rx
  cases y with
  | non=>cases ry;exact PySem.EqNone.eq_bool_none (bf I q (by simp))
  | bl j=>cases ry;exact eq_bool (bf I q u9)
  | str j=>obtain ⟨t',rfl⟩:=ry;exact PySem.EqMixed.eq_bool_str (bf I q (by simp))
  | _=>exact absurd (show false=true from hs) Bool.false_ne_true
 | int i=>
  obtain ⟨t,rfl⟩:=rx
  cases y with
  | non=>cases ry;exact PySem.EqNone.eq_int_none (bf I q (by simp))
  | int j=>obtain ⟨t',rfl⟩:=ry;exact eq_int (bf I q sR)
  | str j=>obtain ⟨t',rfl⟩:=ry;exact PySem.EqMixed.eq_int_str (bf I q (by simp))
  | _=>exact absurd (show false=true from hs) Bool.false_ne_true
 | str i=>
  obtain ⟨t,rfl⟩:=rx
  cases y with
  | non=>cases ry;exact PySem.EqNone.eq_str_none (bf I q (by simp))
  | bl j=>cases ry;exact PySem.EqMixed.eq_str_bool (bf I q (by simp))
  | int j=>obtain ⟨t',rfl⟩:=ry;exact PySem.EqMixed.eq_str_int (bf I q (by simp))
  | str j=>obtain ⟨t',rfl⟩:=ry;exact eq_str (bf I q su)
  | _=>exact absurd (show false=true from hs) Bool.false_ne_true
 | byt i=>
  obtain ⟨t,rfl⟩:=rx
  cases y with
  | byt j=>obtain ⟨t',rfl⟩:=ry;exact PySem.W.eq_bytes (bf I q rj)
  | _=>exact absurd (show false=true from hs) Bool.false_ne_true
 | _=>cases y <;> exact absurd (show false=true from hs) Bool.false_ne_true
theorem Bk:hU X (compareOp .NotEq) GP:= by
 intro pins s σ H x y v u Q I rx ry h
 obtain ⟨hs,q⟩:=h
 cases x with
 | non=>
  cases rx
  cases y with
  | non=>cases ry;exact PySem.EqNone.ne_none_none (bf I q (by simp))
  | bl j=>cases ry;exact PySem.EqNone.ne_none_bool (bf I q (by simp))
  | int j=>obtain ⟨t',rfl⟩:=ry;exact PySem.EqNone.ne_none_int (bf I q (by simp))
  | str j=>obtain ⟨t',rfl⟩:=ry;exact PySem.EqNone.ne_none_str (bf I q (by simp))
  | _=>exact absurd (show false=true from hs) Bool.false_ne_true
 | bl i=>
  cases rx
  cases y with
  | non=>cases ry;exact PySem.EqNone.ne_bool_none (bf I q (by simp))
  | bl j=>cases ry;exact ne_bool (bf I q (congrArg not u9))
  | str j=>obtain ⟨t',rfl⟩:=ry;exact PySem.EqMixed.ne_bool_str (bf I q (by simp))
  | _=>exact absurd (show false=true from hs) Bool.false_ne_true
 | int i=>
  obtain ⟨t,rfl⟩:=rx
  cases y with
  | non=>cases ry;exact PySem.EqNone.ne_int_none (bf I q (by simp))
  | int j=>obtain ⟨t',rfl⟩:=ry;exact ne_int (bf I q (congrArg not sR))
  | str j=>obtain ⟨t',rfl⟩:=ry;exact PySem.EqMixed.ne_int_str (bf I q (by simp))
  | _=>exact absurd (show false=true from hs) Bool.false_ne_true
 | str i=>
  obtain ⟨t,rfl⟩:=rx
  cases y with
  | non=>cases ry;exact PySem.EqNone.ne_str_none (bf I q (by simp))
  | bl j=>cases ry;exact PySem.EqMixed.ne_str_bool (bf I q (by simp))
  | int j=>obtain ⟨t',rfl⟩:=ry;exact PySem.EqMixed.ne_str_int (bf I q (by simp))
  | str j=>obtain ⟨t',rfl⟩:=ry;exact ne_str (bf I q (congrArg not su))
  | _=>exact absurd (show false=true from hs) Bool.false_ne_true
 | byt i=>
  obtain ⟨t,rfl⟩:=rx
  cases y with
  | byt j=>obtain ⟨t',rfl⟩:=ry;exact PySem.W.ne_bytes (bf I q (congrArg not rj))
  | _=>exact absurd (show false=true from hs) Bool.false_ne_true
 | _=>cases y <;> exact absurd (show false=true from hs) Bool.false_ne_true
theorem A4:hU X (compareOp .Lt) (yi fun i j=>.bl (decide (i < j))):=B1 fun _ _ _ _ _ _ _ q=>lt_int q
theorem FL:hU X (compareOp .LtE) (yi fun i j=>.bl (decide (i ≤ j))):=B1 fun _ _ _ _ _ _ _ q=>le_int q
theorem Bf:hU X (compareOp .Gt) (yi fun i j=>.bl (decide (j < i))):=B1 fun _ _ _ _ _ _ _ q=>gt_int q
theorem D6:hU X (compareOp .Is) (fun x y H Q=>y=.non∧Q (.bl (decide (x=.non))) H):= by
 intro pins s σ H x y v u Q I rx ry h
 obtain ⟨rfl,q⟩:=h
 cases ry
 refine is_none_gen (bf I q ?_)
 cases x <;> first
  | (cases rx;rfl)
  | (obtain ⟨t,rfl⟩:=rx;rfl)
theorem mV (b:Expr) {op:CmpOp} (h:op ≠ .In:=by decide) (h2:op ≠ .NotIn:=by decide):behindInMarks op b=false:= by
 have e1:(op == CmpOp.In)=false:=by cases op <;> first | rfl | exact absurd rfl h
 have e2:(op == CmpOp.NotIn)=false:=by cases op <;> first | rfl | exact absurd rfl h2
 cases b <;> simp [behindInMarks,e1,e2]
theorem rO {op:CmpOp} {r:R2} (ho:hU X (compareOp op) r) (ha:PE X a ta) (hb:PE X b tb) (hm:behindInMarks op b=false):PE X (.Compare a [op] [b] pos) (Ba r ta tb):= by
 intro pins s σ H Q I h
 exact wpAny_Compare1 (CM ha hb I h fun v u s2 x y H2 I2 rx ry q=>ho pins s2 σ H2 x y v u Q I2 rx ry q) hm
def Bx (t:TE):TT:=fun σ H Q=>t σ H fun x H'=>∃ k,x=.bl k∧Q k H'
theorem rm {op:CmpOp} {r:R2} (ho:hU X (compareOp op) r) (ha:PE X a ta) (hb:PE X b tb) (hm:behindInMarks op b=false):PT X (.Compare a [op] [b] pos) (Bx (Ba r ta tb)):= by
 intro pins s σ H Q I h
 refine wpAny_isTrue_Compare1 (bx (ha pins s σ H _ I h) fun v s1 ⟨x,H1,I1,r1,q1⟩=>bx (hb pins s1 σ H1 _ I1 q1) fun u s2 ⟨y,H2,I2,r2,q2⟩=>
  bx (ho pins s2 σ H2 x y v u _ I2 r1 r2 q2) fun c s3 ⟨z,H3,I3,r3,k,e,q3⟩=>?_) hm
 subst e
 cases r3
 exact wpAny_truthy_bool ⟨H3,I3,q3⟩
def DV (r r':R2) (ta tb tc:TE):TE:=fun σ H Q=>ta σ H fun x H1=>tb σ H1 fun y H2=>r x y H2 fun z H3=>∃ k,z=.bl k ∧
 (if k=true then tc σ H3 fun w' H4=>r' y w' H4 Q else Q (.bl false) H3)
theorem wO {op op':CmpOp} {r r':R2} (ho:hU X (compareOp op) r) (ho':hU X (compareOp op') r') (ha:PE X a ta) (hb:PE X b tb) (hc:PE X c tc)
  (hm:lastMarks [op,op'] [b,c]=false:=by with_unfolding_all rfl):PE X (.Compare a [op,op'] [b,c] pos) (DV r r' ta tb tc):= by
 intro pins s σ H Q I h
 refine Compare_chain (bx (ha pins s σ H _ I h) fun v s1 ⟨x,H1,I1,r1,q1⟩=>chain_link (bx (hb pins s1 σ H1 _ I1 q1) fun u s2 ⟨y,H2,I2,r2,q2⟩=>
  bx (ho pins s2 σ H2 x y v u _ I2 r1 r2 q2) fun d s3 ⟨z,H3,I3,r3,k,e,q3⟩=>?_)) hm
 subst e
 cases r3
 refine wpAny_truthy_bool ?_
 cases k with
 | false=>exact ite_ff ⟨.bl false,H3,I3,rfl,q3⟩
 | true=>exact ite_tt (chain_last (bx (hc pins s3 σ H3 _ I3 q3) fun w' s4 ⟨z',H4,I4,r4,q4⟩=>ho' pins s4 σ H4 y z' u w' Q I4 r2 r4 q4))
def CK (K:PySem.W.Frag) (x:V) (H:Hp) (k:Bool):Prop :=
 match x with
 | .non=>k=false
 | .bl b=>k=b
 | .int i=>k=(i != 0)
 | .str y=>y.length ≤ sizeLine∧k=((y.length:Int) != 0)
 | .byt y=>y.size ≤ sizeLine∧k=((y.size:Int) != 0)
 | .ref p=>(∃ xs,iV K H p xs∧k = !xs.isEmpty) ∨ (∃ xs,jd K H p xs∧k = !xs.isEmpty) ∨ ∃ kvs,H p=some (.dK kvs)∧k = !kvs.isEmpty
 | _=>False
theorem qk {κ:Type} {kvs:List (κ × V)} {vs:List (κ × Value)} (r:KV kvs vs):(!vs.isEmpty) = !kvs.isEmpty:= by
 cases r <;> rfl
theorem kY {xs:List V} {its:List Value} (r:Vals xs its):(!its.toArray.isEmpty) = !xs.isEmpty:= by
 cases r <;> simp
theorem jr:(sizeLine:Nat) < 2 ^ 63:=by rw [sizeLine_eq];decide
theorem DP:Gr X (fun x H Q=>∃ k,CK X.K x H k∧Q k H):= by
 intro pins s σ H x v Q I rx h
 obtain ⟨k,e,q⟩:=h
 have hl:=jr
 have hs:sizeLine=16777216:=sizeLine_eq
 cases x with
 | non=>
  cases rx
  have e':k=false:=e
  subst e'
  exact truthy_none ⟨H,I,q⟩
 | bl b=>
  cases rx
  have e':k=b:=e
  subst e'
  exact wpAny_truthy_bool ⟨H,I,q⟩
 | int i=>
  obtain ⟨t,rfl⟩:=rx
  have e':k=(i != 0):=e
  subst e'
  exact PySem.P.truthy_int ⟨H,I,q⟩
 | str y=>
  obtain ⟨t,rfl⟩:=rx
  obtain ⟨hy,e'⟩:y.length ≤ sizeLine∧k=((y.length:Int) != 0):=e
  subst e'
  exact PySem.P.truthy_str (by omega) ⟨H,I.tok _,q⟩
 | byt y=>
  obtain ⟨t,rfl⟩:=rx
  obtain ⟨hy,e'⟩:y.size ≤ sizeLine∧k=((y.size:Int) != 0):=e
  subst e'
  exact PySem.W.truthy_bytes (by omega) ⟨H,I.tok _,q⟩
 | ref p=>
  cases rx
  have e':(∃ xs,iV X.K H p xs∧k = !xs.isEmpty) ∨ (∃ xs,jd X.K H p xs∧k = !xs.isEmpty) ∨ ∃ kvs,H p=some (.dK kvs)∧k = !kvs.isEmpty:=e
  rcases e' with ⟨xs,hx,e'⟩ | ⟨xs,hx,e'⟩ | ⟨kvs,hx,e'⟩
  ·subst e'
   obtain ⟨its,r,pl,hz⟩:=I.list hx
   have hlen:=r.length
   exact wpAny_truthy_list pl.isList (by simp only [List.size_toArray];omega) ⟨H,I.tok _,by rw [kY r];exact q⟩
  ·subst e'
   obtain ⟨its,r,pl,hz⟩:=I.tuple hx
   have hlen:=r.length
   exact truthy_tuple pl (by simp only [List.size_toArray];omega) ⟨H,I.tok _,by rw [kY r];exact q⟩
  ·subst e'
   obtain ⟨hz,hS,vs,r,m⟩:kvs.length ≤ sizeLine∧(p == sysModules)=false∧∃ vs,KV kvs vs∧s.heap.DictOf (a0 X.prog X.w) p vs:=I.hok p _ hx
   have hlen:kvs.length=vs.length:=Paired.length r
   exact wpAny_truthy_dict hS m (by omega) ⟨H,I.tok _,by rw [qk r];exact q⟩
 | _=>exact (show False from e).elim
theorem xt (ha:PE X a ta) (he:∀ whole,isTrue a X.env whole=(do let v <- whole;standAt a.pos;holding [v] (truthy v))) :
  PT X a (fun σ H Q=>ta σ H fun x H'=>∃ k,CK X.K x H' k∧Q k H'):= by
 intro pins s σ H Q I h
 exact isTrue_plain (bx (ha pins s σ H _ I h) fun v s1 ⟨x,H1,I1,r1,q1⟩=>DP pins s1 σ H1 x v Q I1 r1 q1) (he _)
theorem vals1 {x:V} {us:List Value} (r:Vals [x] us):∃ u,us=[u]∧RelV x u:= by
 cases r with
 | cons r1 r2=>cases r2;exact ⟨_,rfl,r1⟩
theorem vals2 {x y:V} {us:List Value} (r:Vals [x,y] us):∃ u w',us=[u,w']∧RelV x u∧RelV y w':= by
 cases r with
 | cons r1 r2=>
  cases r2 with
  | cons r3 r4=>cases r4;exact ⟨_,_,rfl,r1,r3⟩
theorem uf (hc:X.calm=true):dR X (.builtin "max") (fun xs H Q=>∃ i j,xs=[.int i,.int j]∧Q (.int (if j > i then j else i)) H):= by
 intro pins s σ H xs us Q I r h
 obtain ⟨i,j,rfl,q⟩:=h
 obtain ⟨u,w',rfl,⟨t,rfl⟩,⟨t',rfl⟩⟩:=vals2 r
 refine max_two_ints (I.ok.hd hc) fun h' tk k=>⟨_,H,I.kept k,?_,q⟩
 by_cases hj:j > i
 ·rw [if_pos hj,if_pos hj];exact ⟨_,rfl⟩
 ·rw [if_neg hj,if_neg hj];exact ⟨_,rfl⟩
theorem uz (hc:X.calm=true):dR X (.builtin "min") (fun xs H Q=>∃ i j,xs=[.int i,.int j]∧Q (.int (if j < i then j else i)) H):= by
 intro pins s σ H xs us Q I r h
 obtain ⟨i,j,rfl,q⟩:=h
 obtain ⟨u,w',rfl,⟨t,rfl⟩,⟨t',rfl⟩⟩:=vals2 r
 refine min_two_ints (I.ok.hd hc) fun h' tk k=>⟨_,H,I.kept k,?_,q⟩
 by_cases hj:j < i
 ·rw [if_pos hj,if_pos hj];exact ⟨_,rfl⟩
 ·rw [if_neg hj,if_neg hj];exact ⟨_,rfl⟩
theorem uH:dR X (.type "int") (fun xs H Q=>(∃ i,xs=[.int i]∧Q (.int i) H) ∨ ∃ k,xs=[.bl k]∧Q (.int (if k then 1 else 0)) H):= by
 intro pins s σ H xs us Q I r h
 rcases h with ⟨i,rfl,q⟩ | ⟨k,rfl,q⟩
 ·obtain ⟨u,rfl,t,rfl⟩:=vals1 r
  exact call_int_int ⟨.int i,H,I,⟨_,rfl⟩,q⟩
 ·obtain ⟨u,rfl,r1⟩:=vals1 r
  cases r1
  exact call_int_bool ⟨.int (if k then 1 else 0),H,I.tok _,⟨_,rfl⟩,q⟩
theorem oI:dR X (.builtin "divmod") (fun xs H Q=>∃ i j,xs=[.int i,.int j]∧De i j∧∀ p,H p=none->Q (.ref p) (upd H p (.tup [.int (i / j),.int (i % j)]))):= by
 intro pins s σ H xs us Q I r h
 obtain ⟨i,j,rfl,⟨h1,h2⟩,q⟩:=h
 obtain ⟨u,w',rfl,⟨t,rfl⟩,⟨t',rfl⟩⟩:=vals2 r
 refine divmod_int (by omega) ?_ (.inl (PyProof.noPylong_small (by omega)))
 rw [Int.fdiv_eq_ediv_of_nonneg i (by omega),Int.fmod_eq_emod_of_nonneg i (by omega)]
 have hn:H s.heap.objs.size=none:=I.hok.fresh (Nat.le_refl _)
 refine ⟨.ref s.heap.objs.size,_,?_,rfl,q _ hn⟩
 refine I.laid (fun b o e=>Heap.get?_push_of_some _ e) (Nat.le_refl _) ⟨by simp only [List.length_cons,List.length_nil];rw [sizeLine_eq];decide,[.int (i / j) s.toks,.int (i % j) (s.toks + 1)],.cons ⟨_,rfl⟩ (.cons ⟨_,rfl⟩ .nil),?_⟩
 exact ⟨⟨_,Heap.get?_push_size s.heap rfl,rfl,0,rfl⟩,_,Heap.get?_push_size s.heap rfl,rfl⟩
end
end L2
namespace L2
open PySem PySem.Spec PyProof.Rows
section
variable {prog:Program} {w:World} {A:Around} {E:Value->Shared->Prop} {s:Shared} {K:PySem.W.Frag} {x dx C f:Addr} {mA:Str->Option Value} {name:Str} {v:Value}
end
theorem RelO.some_of {v:V} {o:Option Value} (r:RelO (some v) o):∃ u,o=some u∧RelV v u:= by
 cases o with
 | none=>exact (show False from r).elim
 | some u=>exact ⟨u,rfl,r⟩
theorem RelO.none_of {o:Option Value} (r:RelO none o):o=none:= by
 cases o with
 | none=>rfl
 | some u=>exact (show False from r).elim
section
variable {P:Program} {w:World} {H H':Hp} {h h':Heap} {a C dx:Addr} {fs fs':List (Str × V)}
end
structure Ed (K:PySem.W.Frag) (C:Addr) (f:Str) (v:V) (u:Value):Prop where
 at_:PySem.W.findIn K (.ref C) f=some (some u)
 rel:RelV v u
 get:PySem.W.specialIn K u "__get__" = some none
 cp:PySem.W.copiedNames.contains f=false
section
variable {X:Cx} {pins:List (Addr × Obj)} {σ:St} {H:Hp} {s:Shared} {a C dx:Addr} {fs:List (Str × V)} {f:Str} {v:V} {A:Around} {E:Value->Shared->Prop}
end
def Gp (X:Cx) (op:Operator) (rd:V->V->Hp->VK->Prop):Prop :=
 ∀ (pins:List (Addr × Obj)) (s:Shared) (σ:St) (H:Hp) (x y:V) (u v:Value) (Q:VK),Inv X pins σ H s->RelV x u->RelV y v->rd x y H Q->wpAny (model X.prog X.w) X.A (inplaceOp op u v) (EP X pins σ Q) X.xe s
section
variable {X:Cx} {o e value:Expr} {f:Str} {pos pos' tpos:Pos} {ta tv:TE}
end
section
variable {X:Cx} {pins:List (Addr × Obj)} {σ:St} {H:Hp} {s:Shared} {A:Around} {E:Value->Shared->Prop} {Q:Value->Shared->Prop} {c:Value} {b:Bool}
end
end L2
namespace L2
open PySem PySem.Spec PyProof.Rows
structure bU (k:Nat) (A:Around):Prop where
 hd:A.handled=none
 dp:A.depth + 3 * k + 5 < recursionLimit
 un:A.units + 16 * k + 200 < cLine
 gd:A.guards=some []
theorem bU.mono {j k:Nat} {A:Around} (r:bU k A) (h:j ≤ k):bU j A:=⟨r.hd,by have:=r.dp;omega,by have:=r.un;omega,r.gd⟩
theorem bU.deeper {k:Nat} {A:Around} (r:bU (k + 1) A) (env:Env):bU k (A.deeper env) :=
 ⟨r.hd,by have:=r.dp;show A.depth + 1 + 3 * k + 5 < _;omega,by have:=r.un;show A.units + 3 + 16 * k + 200 < _;omega,r.gd⟩
theorem bU.depth {k:Nat} {A:Around} (r:bU k A):A.depth < recursionLimit:=by have:=r.dp;omega
def GI:TA:=fun _ H Q=>Q [] H
def Ez (ta:TE) (tr:TA):TA:=fun σ H Q=>ta σ H fun x H1=>tr σ H1 fun xs H2=>Q (x :: xs) H2
section
variable {X:Cx} {e:Expr} {es:List Expr} {te:TE} {t:TA} {pos:Pos}
theorem eY:PA X [] GI:=fun _ _ _ _ H Q I h=>Calls.spliced_nil ⟨[],H,I,.nil,h⟩
theorem cx (ha:PE X e te) (hr:PA X es t) (hs:starEach (e :: es) X.env=(false,eval e X.env) :: starEach es X.env:=by rfl):PA X (e :: es) (Ez te t):= by
 intro pos pins s σ H Q I h
 rw [hs]
 show wpAny _ _ (spliced ((false,eval e X.env) :: backTo pos (starEach es X.env))) _ _ s
 refine Calls.spliced_cons (bx (ha pins s σ H _ I h) fun u s1 ⟨x,H1,I1,r1,q1⟩=>?_)
 exact bx (hr pos pins s1 σ H1 _ I1 q1) fun us s2 ⟨xs,H2,I2,r2,q2⟩=>⟨x :: xs,H2,I2,.cons r1 r2,q2⟩
def GQ (t:TA):TE:=fun σ H Q=>t σ H fun xs H1=>xs.length ≤ sizeLine∧∀ p,H1 p=none->Q (.ref p) (upd H1 p (.tup xs))
def GR (t:TA):TE:=fun σ H Q=>t σ H fun xs H1=>xs.length ≤ sizeLine∧∀ p,H1 p=none->Q (.ref p) (upd H1 p (.lst xs))
theorem Dr {x1} (h:PA X es t):PE X (.Tuple es x1 pos) (GQ t):= by
 intro pins s σ H Q I hq
 refine wpAny_Tuple_spliced (bx (h pos pins s σ H _ I hq) fun us s1 ⟨xs,H1,I1,r,z,q⟩=>⟨by rw [<- r.length];exact z,?_⟩)
 have hf:H1 s1.heap.objs.size=none:=I1.hok.fresh (Nat.le_refl _)
 refine ⟨.ref s1.heap.objs.size,upd H1 s1.heap.objs.size (.tup xs),I1.laid (t':=s1.toks) (fun b u e=>Heap.get?_push_of_some _ e) (Nat.le_refl _) ?_,rfl,q _ hf⟩
 exact ⟨z,us,r,⟨_,Heap.get?_push_size _ rfl,rfl,_,rfl⟩,_,Heap.get?_push_size _ rfl,rfl⟩
theorem BK (h:PA X es t):PE X (.List es pos) (GR t):= by
 intro pins s σ H Q I hq
 refine wpAny_List_spliced (bx (h pos pins s σ H _ I hq) fun us s1 ⟨xs,H1,I1,r,z,q⟩=>⟨by rw [<- r.length];exact z,?_⟩)
 have hf:H1 s1.heap.objs.size=none:=I1.hok.fresh (Nat.le_refl _)
 refine ⟨.ref s1.heap.objs.size,upd H1 s1.heap.objs.size (.lst xs),I1.laid (t':=s1.toks) (fun b u e=>Heap.get?_push_of_some _ e) (Nat.le_refl _) ?_,rfl,q _ hf⟩
 exact ⟨z,us,0,r,Heap.get?_push_size _ rfl⟩
end
abbrev Sp:=List V->Hp->VK->XK->Prop
abbrev p_:=List Env->Hp->Shared->XK->Value->Shared->Prop
structure vE (P:Program) (w:World) (K:PySem.W.Frag) (mg:Str->Option Value) (base:Heap) (A:Around) (outer:List Env) (s:Shared) (H:Hp):Prop where
 frames:A.frames=some outer
 mod:Mod K mg base
 bs:∀ b o,base.get? b=some o->s.heap.get? b=some o∧H b=none
 bsz:base.objs.size ≤ s.heap.objs.size
 funs:s.heap.FunFrames base outer
 frf:∀ b ∈ uV outer,H b=none
 hok:g8 P w H s.heap
 bare:AllBare s.gens
 tb:uh K H
def CE (outer:List Env) (P:Program) (w:World) (H:Hp) (s:Shared) (Q:VK) (u:Value) (s':Shared):Prop :=
 ∃ v H',s'.os=s.os∧AllBare s'.gens∧Un (uV outer) [] H H' s.heap s'.heap∧g8 P w H' s'.heap∧RelV v u∧Q v H'
def CR (CX:p_) (outer:List Env) (P:Program) (w:World) (H:Hp) (s:Shared) (Q:VK) (E:XK) (r:Result) (s':Shared):Prop :=
 match r with
 | .ok (.ret u)=>CE outer P w H s Q u s'
 | .ok _=>False
 | .error e=>CX outer H s E e s'
structure c9 (P:Program) (w:World) (K:PySem.W.Frag) (mg:Str->Option Value) (base:Heap) (CX:p_) (k:Nat) (f:Addr) (fd:FuncData) (ps:List Str) (sp:Sp):Prop where
 len:∀ vs H Q E,sp vs H Q E->vs.length=ps.length
 run:∀ (A:Around) (outer:List Env) (s:Shared) (H:Hp) (args:Args) (us:List Value) (vs:List V) (Q:VK) (E:XK),bU k A->vE P w K mg base A outer s H->BindsTo s fd args (ps.zip us)->Vals vs us->sp vs H Q E ->
  codeAny (model P w) A (.call (.ref f) args) (CR CX outer P w H s Q E) s
theorem c9.mono {P:Program} {w:World} {K:PySem.W.Frag} {mg:Str->Option Value} {base:Heap} {CX:p_} {j k:Nat} {f:Addr} {fd:FuncData} {ps:List Str} {sp:Sp} (F:c9 P w K mg base CX j f fd ps sp) (h:j ≤ k) :
  c9 P w K mg base CX k f fd ps sp:=⟨F.len,fun A outer s H args us vs Q E hr=>F.run A outer s H args us vs Q E (hr.mono h)⟩
theorem c9.imp {P:Program} {w:World} {K:PySem.W.Frag} {mg:Str->Option Value} {base:Heap} {CX:p_} {k:Nat} {f:Addr} {fd:FuncData} {ps:List Str} {sp sp':Sp} (F:c9 P w K mg base CX k f fd ps sp)
  (h:∀ vs H Q E,sp' vs H Q E->sp vs H Q E):c9 P w K mg base CX k f fd ps sp' :=
 ⟨fun vs H Q E q=>F.len vs H Q E (h _ _ _ _ q),fun A outer s H args us vs Q E hr he hb hv hs=>F.run A outer s H args us vs Q E hr he hb hv (h _ _ _ _ hs)⟩
section
variable {X:Cx} {pins:List (Addr × Obj)} {σ:St} {H:Hp} {s s':Shared}
theorem Inv.env0 (I:Inv X pins σ H s):vE X.prog X.w X.K X.mg X.base X.A X.stack s H :=
 ⟨I.ok.frames,I.ok.mod,I.bs,Nat.le_trans I.ok.bsz I.sz,I.stack,I.stkFree,I.hok,I.bare,I.tb⟩
theorem Inv.after {Q:VK} {u:Value} (I:Inv X pins σ H s) (h:CE X.stack X.prog X.w H s Q u s'):EP X pins σ Q u s':= by
 obtain ⟨v,H',os,bare,un,hok,r,q⟩:=h
 obtain ⟨hh,g,d,t,os'⟩:=s'
 obtain rfl:os' = s.os:=os
 exact ⟨v,H',I.call (h':=hh) (g':=g) (d':=d) (t':=t) (ch:=[]) un hok bare (fun b z=>absurd z (by simp)),r,q⟩
end
def ER (sp:Sp) (dvs:List V) (E:XK) (t:TA):TE:=fun σ H Q=>t σ H fun vs H1=>sp (vs ++ dvs) H1 Q E
def Binds (K:PySem.W.Frag) (fd:FuncData) (ps:List Str) (ds:List Value):Prop :=
 ∀ (s:Shared) (us:List Value),K.In s.heap->(us ++ ds).length=ps.length->BindsTo s fd ⟨us,[]⟩ (ps.zip (us ++ ds))
theorem Binds.all {K:PySem.W.Frag} {fd:FuncData} {ps:List Str} (h:∀ us:List Value,us.length=ps.length->bindArgs fd ⟨us,[]⟩=pure (ps.zip us)):Binds K fd ps []:=fun s us _ hl=>by
 rw [List.append_nil] at hl ⊢
 exact .of_eq (h us hl)
def Passes (CX:p_) (X:Cx) (E:XK):Prop:=∀ (pins:List (Addr × Obj)) (σ:St) (H:Hp) (s:Shared) (e:Value) (s':Shared),Inv X pins σ H s->CX X.stack H s E e s' -> X.xe e s'
section
variable {X:Cx} {CX:p_} {k:Nat} {f C:Addr} {fd:FuncData} {ps:List Str} {sp:Sp} {dvs:List V} {ds:List Value} {E:XK} {x m:Str} {p pos apos:Pos} {e o:Expr} {es:List Expr} {ta:TE} {t:TA}
theorem B9 {pins:List (Addr × Obj)} {σ:St} {H:Hp} {s:Shared} {Q:VK} {us:List Value} {vs:List V} (F:c9 X.prog X.w X.K X.mg X.base CX k f fd ps sp) (hr:bU k X.A) (hb:Binds X.K fd ps ds) (hd:Vals dvs ds) (hx:Passes CX X E)
  (I:Inv X pins σ H s) (r:Vals vs us) (h:sp (vs ++ dvs) H Q E):wpAny (model X.prog X.w) X.A (call (.ref f) us) (EP X pins σ Q) X.xe s:= by
 have r2:Vals (vs ++ dvs) (us ++ ds):=r.append hd
 have hl:(us ++ ds).length=ps.length:=by rw [<- r2.length];exact F.len _ _ _ _ h
 refine wpAny_call (codeAny_mono (F.run X.A X.stack s H ⟨us,[]⟩ (us ++ ds) (vs ++ dvs) Q E hr I.env0 (hb s us I.kIn hl) r2 h) fun r s' hq=>?_)
 cases r with
 | error e=>exact hx pins σ H s e s' I hq
 | ok fl=>
  cases fl with
  | ret u=>exact I.after hq
  | next=>exact False.elim hq
  | brk=>exact False.elim hq
  | cont=>exact False.elim hq
theorem m7 (F:c9 X.prog X.w X.K X.mg X.base CX k f fd ps sp) (hr:bU k X.A) (hg:Gl X x) (hm:X.mg x=some (.ref f)) (hk:PySem.W.keepIn X.K (.ref f)=true) (hb:Binds X.K fd ps ds) (hd:Vals dvs ds) (hx:Passes CX X E)
  (ha:PA X (e :: es) t) (hdb:(x == ("__debug__":Str))=false:=by decide) (he:starEach (e :: es) X.env=(false,eval e X.env) :: starEach es X.env:=by rfl) (hpl:(backTo pos (starEach es X.env)).any (·.1)=false:=by rfl) :
  PE X (.Call (.Name x p) (e :: es) [] pos) (ER sp dvs E t):= by
 intro pins s σ H Q I h
 refine wpAny_Call_Name_kw (AJ I hg hm ?_ hdb)
 refine PySem.W.callWith_K (h₀:=X.base) I.ok.mod.kin hk (bx (ha pos pins s σ H _ I h) fun us s1 ⟨vs,H1,I1,r,q⟩=>⟨I1.kIn,?_⟩) he hpl
 exact B9 F hr hb hd hx I1 r q
structure Mk (K:PySem.W.Frag) (C f:Addr):Prop where
 makes:PySem.W.makesIn K C=true
 init:PySem.W.findIn K (.ref C) "__init__" = some (some (.ref f))
 fn:PySem.W.isFn K (.ref f)=true
 kp:PySem.W.keepIn K (.ref C)=true
end
section
variable {X:Cx} {CX:p_} {k:Nat} {f C:Addr} {fd:FuncData} {ps ks:List Str} {sp:Sp} {E:XK} {x m:Str} {p pos apos kpos:Pos} {e o:Expr} {es:List Expr} {kws:List Keyword} {te ta:TE} {t tk:TA} {nm:Option Str}
variable {g:List Value->List Value->List Value} {gV:List V->List V->List V}
end
structure az (N P:List Str) (sc:Scope):Prop where
 kind:sc.kind=.function
 co:sc.isCoroutine=false
 gen:sc.isGenerator=false
 nd:N.Nodup
 pre:N.take P.length=P
 par:∀ x ∈ P,sc.names.lookup x=some .local ∨ sc.names.lookup x=some .cell
 nofree:∀ y ∈ sc.names,y.2 ≠ .free
theorem l7 {kindOf:Str->Option NameKind} {x:Str}:∀ {binds:List (Str × Value)} {m:Str->Option Value},(∀ v,(x,v) ∉ binds)->bindL kindOf binds m x=m x
 | [],_,_=>rfl
 | (n,v) :: r,m,h=>by
  unfold bindL
  rw [l7 fun w hw=>h w (List.mem_cons_of_mem _ hw)]
  split
  ·have:x ≠ n:=by rintro rfl;exact h v List.mem_cons_self
   simp [this]
  ·rfl
theorem lR {kindOf:Str->Option NameKind} {x:Str}:∀ {binds:List (Str × Value)} {m:Str->Option Value},(∀ v,(x,v) ∉ binds)->bindC kindOf binds m x=m x
 | [],_,_=>rfl
 | (n,v) :: r,m,h=>by
  unfold bindC
  rw [lR fun w hw=>h w (List.mem_cons_of_mem _ hw)]
  split
  ·rfl
  ·have:x ≠ n:=by rintro rfl;exact h v List.mem_cons_self
   simp [this]
theorem lP {kindOf:Str->Option NameKind} {x:Str} {v:Value}:∀ {P:List Str} {vs:List Value} {i:Nat} {m:Str->Option Value},P.Nodup->P[i]? = some x->vs[i]? = some v->kindOf x=some .local ->
  bindL kindOf (P.zip vs) m x=some v
 | [],_,_,_,_,h,_,_=>by simp at h
 | _ :: _,[],_,_,_,_,h,_=>by simp at h
 | p :: P,w :: vs,0,m,nd,h1,h2,hk=>by
  simp at h1 h2;subst h1;subst h2
  show bindL kindOf ((p,w) :: P.zip vs) m p=_
  unfold bindL
  rw [l7 fun v hv=>(List.nodup_cons.mp nd).1 (List.of_mem_zip hv).1,if_pos hk]
  simp
 | p :: P,w :: vs,i + 1,m,nd,h1,h2,hk=>by
  show bindL kindOf ((p,w) :: P.zip vs) m x=_
  unfold bindL
  exact lP (i:=i) (List.nodup_cons.mp nd).2 (by simpa using h1) (by simpa using h2) hk
theorem mq {kindOf:Str->Option NameKind} {x:Str} {v:Value}:∀ {P:List Str} {vs:List Value} {i:Nat} {m:Str->Option Value},P.Nodup->P[i]? = some x->vs[i]? = some v->kindOf x ≠ some .local ->
  bindC kindOf (P.zip vs) m x=some v
 | [],_,_,_,_,h,_,_=>by simp at h
 | _ :: _,[],_,_,_,_,h,_=>by simp at h
 | p :: P,w :: vs,0,m,nd,h1,h2,hk=>by
  simp at h1 h2;subst h1;subst h2
  show bindC kindOf ((p,w) :: P.zip vs) m p=_
  unfold bindC
  rw [lR fun v hv=>(List.nodup_cons.mp nd).1 (List.of_mem_zip hv).1,if_neg hk]
  simp
 | p :: P,w :: vs,i + 1,m,nd,h1,h2,hk=>by
  show bindC kindOf ((p,w) :: P.zip vs) m x=_
  unfold bindC
  exact mq (i:=i) (List.nodup_cons.mp nd).2 (by simpa using h1) (by simpa using h2) hk
def start (N:List Str) (vs:List V):St:=vs.map some ++ List.replicate (N.length - vs.length) none
def gZ (CX:p_) (P:Program) (w:World) (K:PySem.W.Frag) (mg:Str->Option Value) (base:Heap) (N:List Str) (qual:Str) (scope:Scope) (f:Addr) (cd:Value) (A:Around) (outer:List Env) (s:Shared) (H:Hp) (E:XK):Cx where
 prog:=P
 w:=w
 K:=K
 mg:=mg
 base:=base
 A:=A.deeper (envOfC qual scope s.heap.objs.size f cd)
 N:=N
 s₀:=s
 H₀:=H
 env:=envOfC qual scope s.heap.objs.size f cd
 outer:=outer
 stack:=envOfC qual scope s.heap.objs.size f cd :: outer
 ex:=[]
 calm:=true
 fn:=fun _=>true
 pn:=[]
 xe:=fun e s'=>wpAny (model P w) (A.deeper (envOfC qual scope s.heap.objs.size f cd)) (leaving (envOfC qual scope s.heap.objs.size f cd) e) (fun _ s''=>CX outer H s E e s'') (fun e' s''=>CX outer H s E e' s'') s'
theorem pj {sc:Scope} {n:Nat} {x:Str} (h:sc.names.lookup x=some .cell):∃ c,(cellsFrom n sc.names []).lookup x=some c:= by
 have q:=PySem.W.cellsFrom_some sc.names n [] (.inl h)
 exact Option.isSome_iff_exists.mp q
theorem uc {CX:p_} {P:Program} {w:World} {K:PySem.W.Frag} {mg:Str->Option Value} {base:Heap} {N ps:List Str} {qual:Str} {scope:Scope} {f:Addr} {cd:Value} {A:Around} {outer:List Env} {s s1:Shared} {H:Hp} {E:XK} {us:List Value} {vs:List V}
  (S:az N ps scope) (hd:A.handled=none) (e0:vE P w K mg base A outer s H) (hl:vs.length=ps.length) (r:Vals vs us)
  (x:InCallC s s.heap.objs.size (bindL (envOfC qual scope s.heap.objs.size f cd).kindOf (ps.zip us) fun _=>none) (cellsFrom (s.heap.objs.size + 1) scope.names []) (bindC (envOfC qual scope s.heap.objs.size f cd).kindOf (ps.zip us) fun _=>none) s1) :
  Inv (gZ CX P w K mg base N qual scope f cd A outer s H E) [] (start N vs) H s1:= by
 have hpl:ps.length ≤ N.length:=by have:=congrArg List.length S.pre;rw [List.length_take] at this;omega
 obtain ⟨h1,tk,rfl,hk⟩:=x.done
 have noA:∀ b:Addr,b ∉ (gZ CX P w K mg base N qual scope f cd A outer s H E).ex:=fun b z=>absurd (show b ∈ ([]:List Addr) from z) (by simp)
 refine ⟨⟨e0.mod,S.kind,rfl,rfl,Nat.le_refl _,fun y z c h1 h2=>?_,fun y hy=>?_,fun y c _ h=>?_,fun _=>hd,Around.frames_deeper e0.frames,.inr ⟨rfl,rfl⟩,fun b z=>absurd z (noA b),e0.bs,e0.bsz,fun b _ _=>noA b,fun b z=>absurd z (noA b),e0.funs,e0.frf,e0.tb⟩,
  rfl,e0.bare,Un.kept hk,⟨_,x.toInCall.ns,fun i y v h1 h2 h3=>?_⟩,fun y c h=>⟨_,x.cell y c h⟩,e0.hok.fresh (Nat.le_refl _),fun y c h=>?_,fun p hp=>absurd (show p ∈ ([]:List (Addr × Obj)) from hp) (by simp),e0.hok.kept hk,?_⟩
 ·exact name_of_addr x.apart (PySem.mem_of_lookup h1) (PySem.mem_of_lookup h2)
 ·have hy:scope.names.lookup y=some .cell ∨ scope.names.lookup y=some .free:=hy
  rcases hy with hy | hy
  ·exact pj hy
  ·exact absurd rfl (S.nofree _ (PySem.mem_of_lookup hy))
 ·exact Nat.le_of_lt (x.above y c (PySem.mem_of_lookup h))
 ·have hi:i < vs.length:= by
   unfold start at h2
   by_cases hi:i < vs.length
   ·exact hi
   ·rw [List.getElem?_append_right (by simpa using hi)] at h2
    rw [List.getElem?_replicate] at h2
    split at h2 <;> cases h2
  have ha:vs[i]? = some v:= by
   unfold start at h2
   rw [List.getElem?_append_left (by simpa using hi),List.getElem?_map] at h2
   cases e:vs[i]? with
   | none=>rw [e] at h2;cases h2
   | some a=>rw [e] at h2;cases h2;rfl
  obtain ⟨u,hu,rv⟩:=r.get ha
  have hp:ps[i]? = some y:= by
   rw [<- S.pre,List.getElem?_take_of_lt (by omega)];exact h1
  have ndP:ps.Nodup:=by rw [<- S.pre];exact S.nd.sublist (List.take_sublist _ _)
  refine ⟨u,rv,?_⟩
  rcases S.par y (List.mem_of_getElem? hp) with k | k
  ·exact .inl ⟨k,lP ndP hp hu k⟩
  ·obtain ⟨c,e⟩:=pj (n:=s.heap.objs.size + 1) k
   refine .inr ⟨.inl k,c,e,?_⟩
   have q:=x.cell y c e
   rw [mq ndP hp hu (by show scope.names.lookup y ≠ _;rw [k];decide)] at q
   exact q
 ·exact e0.hok.fresh (Nat.le_of_lt (x.above y c (PySem.mem_of_lookup h)))
 ·unfold start
  show _=N.length
  rw [List.length_append,List.length_map,List.length_replicate]
  omega
theorem AV {CX:p_} {P:Program} {w:World} {K:PySem.W.Frag} {mg:Str->Option Value} {base:Heap} {k:Nat} {f:Addr} {name qual:Str} {params:Arguments} {body:List Stmt} {scope:Scope} {dV kV doc pm cdv ct oc:Value} {an od:Option Addr}
  {osl:Array (Option Value)} {N ps:List Str} {sp:Sp} (lk:K.lookup f=some ⟨oc,od,.func (PySem.W.fnOf name qual params body scope dV kV doc pm an cdv ct),osl⟩) (hcd:PySem.W.codeIn K cdv qual=true) (S:az N ps scope)
  (len:∀ vs H Q E,sp vs H Q E->vs.length=ps.length)
  (hbody:∀ (A:Around) (outer:List Env) (s:Shared) (H:Hp) (vs:List V) (Q:VK) (E:XK),bU k (A.deeper (envOfC qual scope s.heap.objs.size f cdv))->sp vs H Q E ->
   ∃ t,p9 (gZ CX P w K mg base N qual scope f cdv A outer s H E) body t∧t { nx:=fun _ H'=>Q .non H',rt:=Q } (start N vs) H) :
  c9 P w K mg base CX (k + 1) f (PySem.W.fnOf name qual params body scope dV kV doc pm an cdv ct) ps sp:= by
 refine ⟨len,fun A outer s H args us vs Q E hr e0 hb r hsp=>?_⟩
 have hl:=len _ _ _ _ hsp
 have KX:K.In s.heap:=e0.mod.kin.keeps fun b o e=>(e0.bs b o e).1
 have lim:s.heap.NoLimit:=e0.mod.nolimit.keeps fun b o e=>(e0.bs b o e).1
 have hkind:∀ y ∈ ps.zip us,scope.names.lookup y.1=some .local ∨ (scope.names.lookup y.1=some .cell∧((cellsFrom (s.heap.objs.size + 1) scope.names []).lookup y.1).isSome=true):=fun ⟨n,v⟩ hy=>by
  rcases S.par n (List.of_mem_zip hy).1 with q | q
  ·exact .inl q
  ·exact .inr ⟨q,PySem.W.cellsFrom_some _ _ _ (.inl q)⟩
 refine codeAny_call_function hr.depth (KX _ _ lk) rfl S.co S.gen rfl (PySem.W.codeRec_of KX hcd) (hb _ _ _ _ ?_)
 refine wpAny_newFunctionEnv_cells S.kind hkind fun env he s1 x=>?_
 subst he
 refine ⟨lim.keeps x.toInCall.keep,codeAny_func ?_⟩
 obtain ⟨t,ht,hq⟩:=hbody A outer s H vs Q E (hr.deeper _) hsp
 have I:Inv (gZ CX P w K mg base N qual scope f cdv A outer s H E) [] (start N vs) H s1:=uc S hr.hd e0 hl r x
 refine wpAny_mono (ht [] s1 (start N vs) H _ I hq) (fun fl s' hs=>?_) fun e s' hs=>hs
 have fin:∀ {σ':St} {H':Hp} {v:V} {u:Value},Inv (gZ CX P w K mg base N qual scope f cdv A outer s H E) [] σ' H' s' -> RelV v u->Q v H' -> CE outer P w H s Q u s' :=
  fun {σ' H' v u} J rv q=>⟨v,H',J.os,J.bare,J.base,J.hok,rv,q⟩
 cases fl with
 | ret u=>
  obtain ⟨v,σ',H',J,rv,q⟩:=hs
  exact fin J rv q
 | next=>
  obtain ⟨σ',H',J,q⟩:=hs
  exact fin (v:=V.non) (u:=Value.none) J rfl q
 | brk=>
  obtain ⟨_,_,_,q⟩:=hs
  exact False.elim q
 | cont=>
  obtain ⟨_,_,_,q⟩:=hs
  exact False.elim q
end L2
namespace L2
open PySem PySem.Spec PyProof.Rows
section
variable {X:Cx} {x:Str} {p pos:Pos} {e:Expr} {es:List Expr} {t:TA} {id T:String} {r:List V->Hp->VK->Prop}
def G7 (r:List V->Hp->VK->Prop) (t:TA):TE:=fun σ H Q=>t σ H fun vs H1=>r vs H1 Q
theorem gB (hc:dR X (.builtin id) r) (hg:Gl X x) (hm:X.mg x=none) (hv:bootBuiltins x=some (.builtin id)) (ha:PA X (e :: es) t) (hn:x ≠ "__name__":=by decide) (hdb:(x == ("__debug__":Str))=false:=by decide)
  (he:starEach (e :: es) X.env=(false,eval e X.env) :: starEach es X.env:=by rfl) (hpl:(backTo pos (starEach es X.env)).any (·.1)=false:=by rfl):PE X (.Call (.Name x p) (e :: es) [] pos) (G7 r t):= by
 intro pins s σ H Q I h
 refine wpAny_Call_Name_kw (gw I hg hm hv ?_ hn hdb)
 exact PyProof.Rows.callWith_builtin1 (bx (ha pos pins s σ H _ I h) fun us s1 ⟨vs,H1,I1,r1,q1⟩=>hc pins s1 σ H1 vs us Q I1 r1 q1) he hpl
theorem fC (hc:dR X (.type T) r) (hg:Gl X x) (hm:X.mg x=none) (hv:bootBuiltins x=some (.type T)) (ha:PA X (e :: es) t) (hn:x ≠ "__name__":=by decide) (hdb:(x == ("__debug__":Str))=false:=by decide)
  (he:starEach (e :: es) X.env=(false,eval e X.env) :: starEach es X.env:=by rfl) (hpl:(backTo pos (starEach es X.env)).any (·.1)=false:=by rfl):PE X (.Call (.Name x p) (e :: es) [] pos) (G7 r t):= by
 intro pins s σ H Q I h
 refine wpAny_Call_Name_kw (gw I hg hm hv ?_ hn hdb)
 exact PyProof.Rows.callWith_type1 (bx (ha pos pins s σ H _ I h) fun us s1 ⟨vs,H1,I1,r1,q1⟩=>hc pins s1 σ H1 vs us Q I1 r1 q1) he hpl
end
end L2
namespace HT
open PySem PyProof.Rows
section
open PySem.SeqAt
open PySem.AutoSeq1 (wpAny_loadPart')
open PySem.MeetsSeq PySem.MeetsSeq2 PySem.MeetsSeq3
end
section
variable {prog:Program} {w:World} {A:Around} {E:Value->Shared->Prop} {s:Shared}
theorem cat_tup {t b:Addr} {vs ws:List Value} {Q:Value->Shared->Prop} (ht:IsTup s.heap t vs.toArray) (hb:IsTup s.heap b ws.toArray) (hv:vs ≠ [])
  (h1:ws=[]->Q (.ref t) s) (h2:ws ≠ []->Q (.ref s.heap.objs.size) { s with heap:=s.heap.push { cls:=.type "tuple",data:=.seq (vs ++ ws).toArray } })
  (hsz:vs.length + ws.length ≤ sizeLine):wpAny (model prog w) A (binaryOp .Add (.ref t) (.ref b)) Q E s:= by
 obtain ⟨⟨cls,dd,data,sl⟩,ho,hc,n,hd⟩:=id ht
 obtain ⟨⟨cls2,dd2,data2,sl2⟩,ho2,hc2,n2,hd2⟩:=id hb
 simp only at hc hd hc2 hd2
 subst hc hd hc2 hd2
 have e:vs.toArray ++ ws.toArray=(vs ++ ws).toArray:=by simp
 by_cases hw:ws=[]
 ·exact concat_meets ⟨_,ho,rfl⟩ ⟨_,ho2,rfl⟩ noFill_tuple_add seq_tuple_add PySem.F.slot_tuple_add PySem.F.entry_tuple_add (PySem.F.args_tuple_add_2 _ _)
   (tuple_addW1 t b vs.toArray ws.toArray n n2 dd dd2 sl sl2 (by simpa using hv) (by simp [hw])) ⟨ho,ho2,h1 hw⟩
 ·refine concat_meets ⟨_,ho,rfl⟩ ⟨_,ho2,rfl⟩ noFill_tuple_add seq_tuple_add PySem.F.slot_tuple_add PySem.F.entry_tuple_add (PySem.F.args_tuple_add_2 _ _)
   (tuple_addW2 t b vs.toArray ws.toArray n n2 dd dd2 sl sl2 (by simpa using hv) (by simpa using hw) (by rw [List.size_toArray,List.size_toArray];exact hsz)) ⟨ho,ho2,?_⟩
  rw [e]
  exact h2 hw
def sIx (n d:Nat):Option Int->Nat
 | none=>d
 | some v=>if v < 0 then (v + (n:Int)).toNat else min v.toNat n
theorem sIx_none (n d:Nat):sIx n d none=d:=rfl
theorem sIx_nat (n d k:Nat):sIx n d (some (k:Int))=min k n:= by
 show (if (k:Int) < 0 then ((k:Int) + (n:Int)).toNat else min (k:Int).toNat n)=min k n
 rw [if_neg (by omega),Int.toNat_natCast]
theorem C9 (n d:Nat) (hd:d ≤ n) (o:Option Int):sIx n d o ≤ n:= by
 cases o with
 | none=>exact hd
 | some v=>
  show (if v < 0 then (v + (n:Int)).toNat else min v.toNat n) ≤ n
  by_cases hv:v < 0
  ·rw [if_pos hv];omega
  ·rw [if_neg hv];exact Nat.min_le_right _ _
theorem rh (v:Int) (n d:Nat):(if v < 0 then max (v + (n:Int)) 0 else min v (n:Int))=((sIx n d (some v):Nat):Int):= by
 show (if v < 0 then max (v + (n:Int)) 0 else min v (n:Int))=(((if v < 0 then (v + (n:Int)).toNat else min v.toNat n):Nat):Int)
 by_cases hv:v < 0
 ·simp only [if_pos hv];omega
 ·simp only [if_neg hv];omega
theorem qI (lo hi:Option Int) (n:Nat):Builtin.Slice.sliceAdjust lo hi 1 (n:Int)=(((sIx n 0 lo:Nat):Int),((sIx n n hi:Nat):Int)):= by
 have h1:¬ ((1:Int) < 0):=by omega
 unfold Builtin.Slice.sliceAdjust
 simp only [h1,if_false]
 refine Prod.ext ?_ ?_
 ·cases lo with
  | none=>rfl
  | some v=>exact rh v n 0
 ·cases hi with
  | none=>rfl
  | some v=>exact rh v n n
theorem qF (i j:Nat):Builtin.Slice.slicePlaces (i:Int) (j:Int) 1=j - i:= by
 unfold Builtin.Slice.slicePlaces
 have h1:(1:Int) > 0:=by omega
 simp only [h1,if_true,Int.ediv_one]
 split <;> omega
theorem k6 {v:Value} {o:Option Int} {Q:Option Int->Shared->Prop} (p:IsPart v o) (h:Q o s):wpAny (model prog w) A (Builtin.Slice.slicePartIndex v) Q E s:= by
 cases p with
 | none=>exact slicePart_none h
 | int i t=>exact slicePart_int h
theorem sliceApplied_gen {sl:Addr} {vl vu:Value} {lo hi:Option Int} {n:Nat} {Q:Int × Int × Nat->Shared->Prop} (hs:s.heap.IsSliceOf sl vl vu .none) (pl:IsPart vl lo) (pu:IsPart vu hi)
  (h:Q (((sIx n 0 lo:Nat):Int),1,sIx n n hi - sIx n 0 lo) s):wpAny (model prog w) A (Builtin.Slice.sliceApplied (.ref sl) (pure (n:Int))) Q E s:= by
 obtain ⟨os,hos,hcs,hds⟩:=id hs
 unfold Builtin.Slice.sliceApplied Builtin.Slice.sliceFields
 refine wpAny_bind (wpAny_bind (wpAny_field hos hds (x:=vl) rfl (wpAny_bind (wpAny_field hos hds (x:=vu) rfl (wpAny_bind (wpAny_field hos hds (x:=.none) rfl (wpAny_pure ?_)))))))
 refine wpAny_bind (slicePart_none ?_)
 show wpAny _ _ (if ((1:Int) == 0)=true then _ else _) _ _ s
 rw [if_neg (by decide)]
 refine wpAny_bind (k6 pl (wpAny_bind (k6 pu (wpAny_bind (wpAny_pure ?_)))))
 show wpAny _ _ (match Builtin.Slice.sliceAdjust lo hi 1 (n:Int) with | (lo,hi)=>pure (lo,(1:Int),Builtin.Slice.slicePlaces lo hi 1)) _ _ s
 rw [qI lo hi n]
 show wpAny _ _ (pure (((sIx n 0 lo:Nat):Int),(1:Int),Builtin.Slice.slicePlaces ((sIx n 0 lo:Nat):Int) ((sIx n n hi:Nat):Int) 1)) _ _ s
 rw [qF]
 exact wpAny_pure h
theorem xV (xs:Array Value) (i k:Nat):((List.range k).filterMap fun (m:Nat)=>xs[((i:Int) + (m:Int) * 1).toNat]?).toArray=((xs.toList.drop i).take k).toArray:= by
 have e:(fun (m:Nat)=>xs[((i:Int) + (m:Int) * 1).toNat]?)=fun m=>xs[i + m]?:= by
  funext m
  have:((i:Int) + (m:Int) * 1).toNat=i + m:=by omega
  rw [this]
 rw [e]
 have:=pick_run xs i k
 rw [List.filterMap_map] at this
 have e2:((fun x=>xs[x]?) ∘ fun x=>i + x)=fun m=>xs[i + m]?:=rfl
 rw [e2] at this
 rw [this]
theorem getItem_tuple_cut {t sl:Addr} {items:Array Value} {vl vu:Value} {lo hi:Option Int} {Q:Value->Shared->Prop} (ht:IsTup s.heap t items) (hs:s.heap.IsSliceOf sl vl vu .none) (pl:IsPart vl lo) (pu:IsPart vu hi)
  (hw:¬ (sIx items.size 0 lo=0∧sIx items.size items.size hi=items.size))
  (h:Q (.ref s.heap.objs.size) { s with heap:=s.heap.push { cls:=.type "tuple",data:=.seq ((items.toList.drop (sIx items.size 0 lo)).take (sIx items.size items.size hi - sIx items.size 0 lo)).toArray } })
  (hsz:items.size ≤ sizeLine):wpAny (model prog w) A (getItem (.ref t) (.ref sl)) Q E s:= by
 have htake:sizeOk (.seq ((items.toList.drop (sIx items.size 0 lo)).take (sIx items.size items.size hi - sIx items.size 0 lo)).toArray):= by
  show ((items.toList.drop (sIx items.size 0 lo)).take (sIx items.size items.size hi - sIx items.size 0 lo)).toArray.size ≤ sizeLine
  rw [List.size_toArray,List.length_take,List.length_drop,Array.length_toList]
  omega
 have hj:sIx items.size items.size hi ≤ items.size:=C9 _ _ (Nat.le_refl _) hi
 obtain ⟨os,hos,hcs,hds⟩:=id hs
 have hTs:s.TypeIs (.ref sl) "slice":=⟨os,hos,hcs⟩
 unfold getItem
 try with_reducible refine wpAny_holding ?_
 first | refine wpAny_bind (wpAny_pure ?_) | skip
 refine wpAny_bind (wpAny_sequenceKey ht.typeIs (by decide) ?_)
 refine wpAny_bind (wpAny_callSpecial?_slot (name:=Str.ofString "__getitem__") ht.typeIs PyProof.Rows.slot_tuple_getitem
  (wpAny_call_entry PyProof.Rows.slot_tuple_getitem ht.typeIs entry_tuple_getitem ?_ (args_tuple_getitem _ _)))
 show wpAny _ _ (Builtin.Tuple.tupleItemsOf (.ref t) >>= _) _ _ s
 refine wpAny_bind (tupleItemsOf_ ht ?_)
 refine wpAny_bind (wpAny_typeOf hTs ?_)
 rw [if_pos (by decide)]
 refine wpAny_bind (sliceApplied_gen hs pl pu ?_)
 have hno:¬ ((((sIx items.size 0 lo:Nat):Int) == 0 && (1:Int) == 1 && (sIx items.size items.size hi - sIx items.size 0 lo) == items.size)=true):= by
  intro q
  rw [Bool.and_eq_true,Bool.and_eq_true] at q
  have q1:((sIx items.size 0 lo:Nat):Int)=0:=eq_of_beq q.1.1
  have q2:sIx items.size items.size hi - sIx items.size 0 lo=items.size:=eq_of_beq q.2
  exact hw ⟨by omega,by omega⟩
 show wpAny _ _ (if (((sIx items.size 0 lo:Nat):Int) == 0 && (1:Int) == 1 && (sIx items.size items.size hi - sIx items.size 0 lo) == items.size)=true then _ else _) _ _ s
 rw [if_neg hno,xV]
 first
  | exact wpAny_bind (m:=Builtin.Tuple.tupleExact _) (wpAny_newObj_type (wpAny_pure ⟨_,rfl,wpAny_pure h⟩) htake)
  | exact wpAny_bind (m:=Builtin.Tuple.tupleExact _) (wpAny_newObj_type (wpAny_bind (wpAny_pure (wpAny_pure ⟨_,rfl,wpAny_pure h⟩))) htake)
  | exact wpAny_bind (wpAny_bind (m:=Builtin.Tuple.tupleExact _) (wpAny_newObj_type (wpAny_pure (wpAny_pure ⟨_,rfl,wpAny_pure h⟩)) htake))
  | exact wpAny_bind (wpAny_bind (m:=Builtin.Tuple.tupleExact _) (wpAny_newObj_type (wpAny_pure ⟨_,rfl,wpAny_pure h⟩) htake))
end
end HT
namespace L2
open PySem PySem.Spec PyProof.Rows
abbrev TO:=St->Hp->(Option Int->Hp->Prop)->Prop
def PO (X:Cx) (e:Option Expr) (t:TO):Prop :=
 ∀ (pins:List (Addr × Obj)) (s:Shared) (σ:St) (H:Hp) (Q:Option Int->Hp->Prop),Inv X pins σ H s->t σ H Q ->
  wpAny (model X.prog X.w) X.A (evalPart e X.env) (fun u s'=>∃ o H',Inv X pins σ H' s' ∧ IsPart u o∧Q o H') X.xe s
def zb:TO:=fun _ H Q=>Q none H
def EF (t:TE):TO:=fun σ H Q=>t σ H fun x H1=>∃ i,x=.int i∧Q (some i) H1
theorem intsAre_of {ns:List Int}:∀ {us:List Value},Vals (ns.map V.int) us->IntsAre us ns:= by
 induction ns with
 | nil=>intro us r;rw [List.map_nil] at r;cases r;exact .nil
 | cons n ns ih=>
  intro us r
  rw [List.map_cons] at r
  cases r with
  | cons r1 r2=>
   obtain ⟨t,e⟩:=r1
   subst e
   exact .cons n t (ih r2)
section
variable {X:Cx} {e:Expr} {te:TE} {lo hi:Option Expr} {tl th:TO} {pos p2:Pos}
theorem Ae:PO X none zb:= by
 intro pins s σ H Q I h
 rw [evalPart_none]
 exact wpAny_pure ⟨none,H,I,.none,h⟩
theorem zl (h:PE X e te):PO X (some e) (EF te):= by
 intro pins s σ H Q I hw
 rw [evalPart_some]
 refine bx (h pins s σ H _ I hw) fun u s1 ⟨x,H1,I1,r1,q1⟩=>?_
 obtain ⟨i,rfl,q⟩:=q1
 obtain ⟨t,rfl⟩:=r1
 exact ⟨some i,H1,I1,.int i t,q⟩
def Bj (X:Cx) (r:V->Option Int->Option Int->Hp->VK->Prop):Prop :=
 ∀ (pins:List (Addr × Obj)) (s:Shared) (σ:St) (H:Hp) (x:V) (v vl vu:Value) (lo hi:Option Int) (sl:Addr) (Q:VK),Inv X pins σ H s->RelV x v->s.heap.IsSliceOf sl vl vu .none->IsPart vl lo->IsPart vu hi->r x lo hi H Q ->
  ∃ T id,typeLookup (.type T) "__getitem__" = pure (some (.builtin id))∧s.TypeIs v T∧wpAny (model X.prog X.w) X.A (getItem v (.ref sl)) (EP X pins σ Q) X.xe s
theorem Bj.or {r r':V->Option Int->Option Int->Hp->VK->Prop} (h:Bj X r) (h':Bj X r'):Bj X (fun x lo hi H Q=>r x lo hi H Q ∨ r' x lo hi H Q):= by
 intro pins s σ H x v vl vu lo hi sl Q I rx hs pl pu q
 rcases q with q | q
 ·exact h pins s σ H x v vl vu lo hi sl Q I rx hs pl pu q
 ·exact h' pins s σ H x v vl vu lo hi sl Q I rx hs pl pu q
def HY (r:V->Option Int->Option Int->Hp->VK->Prop) (te:TE) (tl th:TO):TE:=fun σ H Q=>te σ H fun x H1=>tl σ H1 fun l H2=>th σ H2 fun u H3=>r x l u H3 Q
theorem wI {r:V->Option Int->Option Int->Hp->VK->Prop} (hr:Bj X r) (he:PE X e te) (hl:PO X lo tl) (hu:PO X hi th):PE X (.Subscript e (.Slice lo hi none p2) pos) (HY r te tl th):= by
 intro pins s σ H Q I h
 refine Subscript_ (bx (he pins s σ H _ I h) fun v s1 ⟨x,H1,I1,r1,q1⟩=>?_)
 refine wpAny_Slice (bx (hl pins s1 σ H1 _ I1 q1) fun vl s2 ⟨l,H2,I2,pl,q2⟩=>bx (hu pins s2 σ H2 _ I2 q2) fun vu s3 ⟨u,H3,I3,pu,q3⟩=>?_)
 rw [evalPart_none]
 refine wpAny_pure ?_
 have I4:Inv X pins σ H3 { s3 with heap:=s3.heap.push { cls:=.type "slice",data:=.fields #[vl,vu,.none] } }:=I3.kept (t':=s3.toks) fun b ob q=>Heap.get?_push_of_some _ q
 obtain ⟨T,id,hT,ht,hg⟩:=hr pins { s3 with heap:=s3.heap.push { cls:=.type "slice",data:=.fields #[vl,vu,.none] } } σ H3 x v vl vu l u s3.heap.objs.size Q I4 r1 (Heap.IsSliceOf.new ..) pl pu q3
 show wpAny (model X.prog X.w) X.A (subscriptTail e (.Slice lo hi none p2) v (.ref s3.heap.objs.size)) (EP X pins σ Q) X.xe { s3 with heap:=s3.heap.push { cls:=.type "slice",data:=.fields #[vl,vu,.none] } }
 exact tail_any (ops:=[.ref s3.heap.objs.size,v]) ht hT hg (by with_unfolding_all rfl)
def ni (xs:List V) (lo hi:Option Int):List V:=(xs.drop (HT.sIx xs.length 0 lo)).take (HT.sIx xs.length xs.length hi - HT.sIx xs.length 0 lo)
theorem jN (xs:List V) (lo hi:Option Int):(ni xs lo hi).length ≤ xs.length:= by
 unfold ni
 rw [List.length_take,List.length_drop]
 omega
def Gx (K:PySem.W.Frag):V->Option Int->Option Int->Hp->VK->Prop:=fun x lo hi H Q=>∃ a xs,x=.ref a∧jd K H a xs ∧
 ¬ (HT.sIx xs.length 0 lo=0∧HT.sIx xs.length xs.length hi=xs.length)∧∀ p,H p=none->Q (.ref p) (upd H p (.tup (ni xs lo hi)))
theorem C_:Bj X (Gx X.K):= by
 intro pins s σ H x v vl vu lo hi sl Q I rx hs pl pu h
 obtain ⟨a,xs,rfl,hx,hw,q⟩:=h
 cases rx
 obtain ⟨its,r,ht,hz⟩:=I.tuple hx
 have hlen:its.toArray.size=xs.length:=by rw [List.size_toArray];exact r.length.symm
 refine ⟨"tuple",_,PyProof.Rows.slot_tuple_getitem.lookup,ht.typeIs,?_⟩
 refine HT.getItem_tuple_cut ht hs pl pu (by rw [hlen];exact hw) ?_ (by rw [hlen];exact hz)
 rw [hlen]
 refine ⟨.ref s.heap.objs.size,_,I.laid (t':=s.toks) (o:=.tup (ni xs lo hi)) (fun b ob q=>Heap.get?_push_of_some _ q) (Nat.le_refl _) ?_,rfl,q _ (I.hok.fresh (Nat.le_refl _))⟩
 exact ⟨Nat.le_trans (jN xs lo hi) hz,_,(r.drop (HT.sIx xs.length 0 lo)).take (HT.sIx xs.length xs.length hi - HT.sIx xs.length 0 lo),q0.new _ _⟩
def wY (K:PySem.W.Frag):R2:=fun x y H Q=>∃ a b xs ys,x=.ref a∧y=.ref b∧jd K H a xs∧jd K H b ys∧xs ≠ []∧xs.length + ys.length ≤ sizeLine ∧
 (ys=[]->Q (.ref a) H)∧(ys ≠ []->∀ p,H p=none->Q (.ref p) (upd H p (.tup (xs ++ ys))))
theorem Vals.nil_iff {xs:List V} {us:List Value} (r:Vals xs us):us=[] ↔ xs=[]:= by
 cases r with
 | nil=>simp
 | cons _ _=>simp
theorem yr:hU X (binaryOp .Add) (wY X.K):= by
 intro pins s σ H x y v u Q I rx ry h
 obtain ⟨a,b,xs,ys,rfl,rfl,ha,hb,hx,hz,q1,q2⟩:=h
 cases rx
 cases ry
 obtain ⟨its,r1,p1,_⟩:=I.tuple ha
 obtain ⟨its2,r2,p2,_⟩:=I.tuple hb
 refine HT.cat_tup p1 p2 (fun z=>hx (r1.nil_iff.mp z)) (fun z=>⟨.ref a,H,I,rfl,q1 (r2.nil_iff.mp z)⟩) (fun z=>?_) (by rw [<- r1.length,<- r2.length];exact hz)
 refine ⟨.ref s.heap.objs.size,_,I.laid (t':=s.toks) (o:=.tup (xs ++ ys)) (fun b ob q=>Heap.get?_push_of_some _ q) (Nat.le_refl _) ?_,rfl,q2 (fun w=>z (r2.nil_iff.mpr w)) _ (I.hok.fresh (Nat.le_refl _))⟩
 exact ⟨by rw [List.length_append];exact hz,_,r1.append r2,q0.new _ _⟩
end
end L2
namespace L2
open PySem PySem.Spec PyProof.Rows
def uY (n:Nat) (i:Int):Option Nat:=if 0 ≤ i then (if i < n then some i.toNat else none) else if -(n:Int) ≤ i then some (i + n).toNat else none
def jh {α:Type} (xs:List α) (i:Int):Option α:=(uY xs.length i).bind fun j=>xs[j]?
theorem sF {n:Nat} {i:Int} {j:Nat} (h:uY n i=some j):seqIndex? i n=some j∧j < n ∧ -(n:Int) ≤ i∧i < n:= by
 unfold uY at h
 by_cases h0:0 ≤ i
 ·rw [if_pos h0] at h
  by_cases h1:i < n
  ·rw [if_pos h1] at h
   have e:i.toNat=j:=Option.some.inj h
   exact ⟨by rw [seqIndex_of h0 h1,e],by omega,by omega,h1⟩
  ·rw [if_neg h1] at h;cases h
 ·rw [if_neg h0] at h
  by_cases h1:-(n:Int) ≤ i
  ·rw [if_pos h1] at h
   have e:(i + n).toNat=j:=Option.some.inj h
   exact ⟨by rw [seqIndex_neg (by omega) h1,e],by omega,h1,by omega⟩
  ·rw [if_neg h1] at h;cases h
theorem nz {α:Type} {xs:List α} {i:Int} {v:α} (h:jh xs i=some v):∃ j,seqIndex? i xs.length=some j∧xs[j]? = some v∧j < xs.length ∧ -(xs.length:Int) ≤ i∧i < xs.length:= by
 unfold jh at h
 cases e:uY xs.length i with
 | none=>rw [e] at h;cases h
 | some j=>
  rw [e] at h
  obtain ⟨h1,h2,h3,h4⟩:=sF e
  exact ⟨j,h1,h,h2,h3,h4⟩
theorem dA {α:Type} {xs:List α} {j:Nat} {v:α} (h:xs[j]? = some v):jh xs (j:Int)=some v:= by
 have hj:j < xs.length:=(List.getElem?_eq_some_iff.mp h).1
 have e:uY xs.length (j:Int)=some j:= by
  unfold uY
  rw [if_pos (by omega),if_pos (by omega)];simp
 unfold jh;rw [e];exact h
def gY (b:Expr):Prop:=∀ o i,subscripted b false o i=operate [o,i] (getItem o i)
def tm (X:Cx) (r:R2):Prop :=
 ∀ (value slice:Expr) (pins:List (Addr × Obj)) (s:Shared) (σ:St) (H:Hp) (x y:V) (v u:Value) (Q:VK),Inv X pins σ H s->RelV x v->RelV y u->r x y H Q ->
  subscripted slice false v u=operate [v,u] (getItem v u)->wpAny (model X.prog X.w) X.A (subscriptTail value slice v u) (EP X pins σ Q) X.xe s
def HK (X:Cx) (id:String) (r:V->List V->Hp->VK->Prop):Prop :=
 ∀ (pins:List (Addr × Obj)) (s:Shared) (σ:St) (H:Hp) (x:V) (xs:List V) (v:Value) (us:List Value) (Q:VK),Inv X pins σ H s->RelV x v->Vals xs us->r x xs H Q ->
  wpAny (model X.prog X.w) X.A (call (.builtin id) (v :: us)) (EP X pins σ Q) X.xe s
section
variable {X:Cx} {a b:Expr} {ta tb:TE} {pos:Pos}
theorem tm.or {r r':R2} (h:tm X r) (h':tm X r'):tm X (fun x y H Q=>r x y H Q ∨ r' x y H Q):= by
 intro value slice pins s σ H x y v u Q I rx ry q hs
 rcases q with q | q
 ·exact h value slice pins s σ H x y v u Q I rx ry q hs
 ·exact h' value slice pins s σ H x y v u Q I rx ry q hs
theorem A0 {r:R2} (hr:tm X r) (ha:PE X a ta) (hb:PE X b tb) (hs:gY b):PE X (.Subscript a b pos) (Ba r ta tb):= by
 intro pins s σ H Q I h
 exact Subscript_ (CM ha hb I h fun v u s2 x y H2 I2 rx ry q=>hr a b pins s2 σ H2 x y v u Q I2 rx ry q (hs _ _))
def EY (K:PySem.W.Frag):R2:=fun x y H Q=>∃ p xs i v,x=.ref p∧y=.int i∧iV K H p xs∧jh xs i=some v∧Q v H
def FH (K:PySem.W.Frag):R2:=fun x y H Q=>∃ p xs i v,x=.ref p∧y=.int i∧jd K H p xs∧jh xs i=some v∧Q v H
def EN:R2:=fun x y H Q=>∃ z i c,x=.str z∧y=.int i∧z.length ≤ sizeLine∧jh z.cps.toList i=some c∧Q (.str ⟨#[c]⟩) H
theorem tJ:tm X (EY X.K):= by
 intro value slice pins s σ H x y v u Q I rx ry h hs
 obtain ⟨p,xs,i,z,rfl,rfl,hq,he,q⟩:=h
 cases rx
 obtain ⟨t,rfl⟩:=ry
 obtain ⟨its,r,pl,hz⟩:=I.list hq
 obtain ⟨j,h1,h2,h3,h4,h5⟩:=nz he
 obtain ⟨w,ew,rw'⟩:=r.get h2
 have hl:=r.length
 have hn:=jr
 have fin:EP X pins σ Q w s:=⟨z,H,I,rw',q⟩
 by_cases h0:0 ≤ i
 ·have hj:i.toNat=j:= by
   rw [seqIndex_of h0 h5] at h1
   exact Option.some.inj h1
  exact item_listR pl.isList h0 (by omega) (by rw [hj];simpa using ew) fin hs
 ·have hj:(i + (its.toArray.size:Int)).toNat=j:= by
   rw [seqIndex_neg (by omega) h4] at h1
   rw [List.size_toArray,<- hl]
   exact Option.some.inj h1
  exact subscriptTail_builtinR (x:=w) pl.isList.typeIs slot_list_getitem.lookup
   (wpAny_getItem_list_neg (Q:=fun r s'=>r=w∧EP X pins σ Q r s') pl.isList (by omega) (by rw [List.size_toArray] <;> omega) (by omega) (by rw [hj];simpa using ew) ⟨rfl,fin⟩) hs
theorem Dp:tm X (FH X.K):= by
 intro value slice pins s σ H x y v u Q I rx ry h hs
 obtain ⟨p,xs,i,z,rfl,rfl,hq,he,q⟩:=h
 cases rx
 obtain ⟨t,rfl⟩:=ry
 obtain ⟨its,r,pl,hz⟩:=I.tuple hq
 obtain ⟨j,h1,h2,h3,h4,h5⟩:=nz he
 obtain ⟨w,ew,rw'⟩:=r.get h2
 have hl:=r.length
 have hn:=jr
 have fin:EP X pins σ Q w s:=⟨z,H,I,rw',q⟩
 exact subscriptTail_builtinR (x:=w) pl.typeIs slot_tuple_getitem.lookup
  (getItem_tuple (j:=j) (Q:=fun r s'=>r=w∧EP X pins σ Q r s') pl (by omega) (by omega) (by rw [List.size_toArray,<- hl];exact h1) (by simpa using ew) ⟨rfl,fin⟩) hs
theorem BO:tm X EN:= by
 intro value slice pins s σ H x y v u Q I rx ry h hs
 obtain ⟨z,i,c,rfl,rfl,hz,he,q⟩:=h
 obtain ⟨t,rfl⟩:=rx
 obtain ⟨t',rfl⟩:=ry
 obtain ⟨j,h1,h2,h3,h4,h5⟩:=nz he
 have hl:z.cps.toList.length=z.length:=by simp [Str.length]
 rw [hl] at h1 h4 h5
 have hn:=jr
 exact tail_any (typeIs_str s z t) slot_str_getitem.lookup (getItem_str (c:=c) (by
  have e1:decide (i < -(2 ^ 63:Int))=false:=decide_eq_false (by omega)
  have e2:decide (i ≥ 2 ^ 63)=false:=decide_eq_false (by omega)
  rw [e1,e2,Bool.or_false]) (by rw [h1];simpa using h2) ⟨.str ⟨#[c]⟩,H,I.tok _,⟨_,rfl⟩,q⟩) hs
def G8 (K:PySem.W.Frag):R2:=fun x y H Q=>EY K x y H Q ∨ FH K x y H Q ∨ EN x y H Q
theorem qT:tm X (G8 X.K):=tJ.or (Dp.or BO)
theorem qV (its:List Value) (n j:Nat) (u:Value):Obj.mapSeq (·.setIfInBounds j u) { cls:=.type "list",data:=.seq its.toArray n }={ cls:=.type "list",data:=.seq (its.set j u).toArray n }:= by
 simp [Obj.mapSeq]
theorem Inv.lst {pins:List (Addr × Obj)} {σ:St} {H:Hp} {s:Shared} {p:Addr} {xs:List V} (I:Inv X pins σ H s) (h:H p=some (.lst xs)) :
  ∃ (its:List Value) (n:Nat),Vals xs its∧s.heap.get? p=some { cls:=.type "list",data:=.seq its.toArray n }∧xs.length ≤ sizeLine:= by
 obtain ⟨z,its,n,r,e⟩:=I.hok p _ h
 exact ⟨its,n,r,e,z⟩
theorem Inv.lstUpd {pins:List (Addr × Obj)} {σ:St} {H:Hp} {s:Shared} {p:Addr} {xs ys:List V} {its its':List Value} {n n':Nat} {f:Obj->Obj} (I:Inv X pins σ H s) (h:H p=some (.lst xs))
  (ho:s.heap.get? p=some { cls:=.type "list",data:=.seq its.toArray n }) (hf:f { cls:=.type "list",data:=.seq its.toArray n }={ cls:=.type "list",data:=.seq its'.toArray n' }) (r:Vals ys its') (hz:ys.length ≤ sizeLine) (t:Nat) :
  Inv X pins σ (upd H p (.lst ys)) { s with heap:=s.heap.update p f,toks:=t }:= by
 have e:(s.heap.update p f).get? p=some { cls:=.type "list",data:=.seq its'.toArray n' }:= by
  rw [Heap.get?_update_self f ho (by rw [hf] <;> rfl),hf]
 refine I.write (x:=p) (e:=p) (by rw [h];trivial) (.inl rfl) (fun b u hb q=>(Heap.get?_update_other _ _ (Ne.symm hb)).trans q) ⟨_,e⟩ ?_
 exact ⟨hz,its',n',r,e⟩
def Fs:V->V->V->Hp->(Hp->Prop)->Prop:=fun o i v H Q=>∃ p xs k j,o=.ref p∧i=.int k∧H p=some (.lst xs)∧uY xs.length k=some j∧Q (upd H p (.lst (xs.set j v)))
theorem set_list:FJ X Fs:= by
 intro pins s σ H o i v ov iv u Q I ro ri rv h
 obtain ⟨p,xs,k,j,rfl,rfl,hp,hj,q⟩:=h
 cases ro
 obtain ⟨t,rfl⟩:=ri
 obtain ⟨its,n,r,ho,hz⟩:=I.lst hp
 obtain ⟨h1,h2,h3,h4⟩:=sF hj
 have hl:=r.length
 have hn:=jr
 have I':Inv X pins σ (upd H p (.lst (xs.set j v))) { s with heap:=s.heap.update p (Obj.mapSeq (·.setIfInBounds j u)) } :=
  I.lstUpd hp ho (qV its n j u) (r.set rv j) (by rw [List.length_set];exact hz) s.toks
 by_cases h0:0 ≤ k
 ·have hk:k.toNat=j:= by
   rw [seqIndex_of h0 h4] at h1
   exact Option.some.inj h1
  exact PySem.W.ki_setAt ho h0 (by omega) (by rw [List.size_toArray,<- hl];exact h4) (by rw [hk];exact ⟨_,I',q⟩)
 ·have hk:(k + (its.toArray.size:Int)).toNat=j:= by
   rw [seqIndex_neg (by omega) h3] at h1
   rw [List.size_toArray,<- hl]
   exact Option.some.inj h1
  exact PySem.W.ki_setBack ho (by omega) (by rw [List.size_toArray,<- hl];exact h3) (by omega) (by rw [hk];exact ⟨_,I',q⟩)
theorem m_ (lo hi:Option Int) (n:Nat):(sliceBounds lo hi none n).1=((HT.sIx n 0 lo:Nat):Int)∧(sliceBounds lo hi none n).2.1=((HT.sIx n n hi:Nat):Int)∧(sliceBounds lo hi none n).2.2=1:= by
 refine ⟨?_,?_,rfl⟩
 ·cases lo with
  | none=>simp [sliceBounds,HT.sIx]
  | some i=>
   simp only [sliceBounds,HT.sIx,Option.getD_none,show (1:Int) > 0 by decide,if_true]
   by_cases h:i < 0
   ·simp only [h,if_true] <;> omega
   ·simp only [h,if_false] <;> omega
 ·cases hi with
  | none=>simp [sliceBounds,HT.sIx]
  | some i=>
   simp only [sliceBounds,HT.sIx,Option.getD_none,show (1:Int) > 0 by decide,if_true]
   by_cases h:i < 0
   ·simp only [h,if_true] <;> omega
   ·simp only [h,if_false] <;> omega
theorem k9 (its:List Value) (lo hi:Option Int):slicePick its.toArray lo hi none=((its.drop (HT.sIx its.length 0 lo)).take (HT.sIx its.length its.length hi - HT.sIx its.length 0 lo)).toArray:= by
 obtain ⟨h1,h2,h3⟩:=m_ lo hi its.toArray.size
 unfold slicePick
 rw [h1,h2,h3]
 simp only [sliceRange_one,pick_run,List.size_toArray] <;> rfl
def G5 (K:PySem.W.Frag):V->Option Int->Option Int->Hp->VK->Prop:=fun x lo hi H Q=>∃ a xs,x=.ref a∧iV K H a xs∧∀ p,H p=none->Q (.ref p) (upd H p (.lst (ni xs lo hi)))
theorem yZ:Bj X (G5 X.K):= by
 intro pins s σ H x v vl vu lo hi sl Q I rx hs pl pu h
 obtain ⟨a,xs,rfl,hx,q⟩:=h
 cases rx
 obtain ⟨its,r,ht,hz⟩:=I.list hx
 have hlen:=r.length
 refine ⟨"list",_,slot_list_getitem.lookup,ht.isList.typeIs,?_⟩
 refine wpAny_getItem_list_slice ht.isList hs pl pu .none (by simp) ?_ (by rw [List.size_toArray] <;> omega)
 rw [k9,<- hlen]
 refine ⟨.ref s.heap.objs.size,_,I.laid (t':=s.toks) (o:=.lst (ni xs lo hi)) (fun b ob q=>Heap.get?_push_of_some _ q) (Nat.le_refl _) ?_,rfl,q _ (I.hok.fresh (Nat.le_refl _))⟩
 exact ⟨Nat.le_trans (jN xs lo hi) hz,_,0,(r.drop (HT.sIx xs.length 0 lo)).take (HT.sIx xs.length xs.length hi - HT.sIx xs.length 0 lo),Heap.get?_push_size _ rfl⟩
def gH:V->Bool
 | .non=>true
 | .bl _=>true
 | .int _=>true
 | .str _=>true
 | _=>false
def uZ:V->V->Bool
 | .non,.non=>true
 | .bl a,.bl b=>a == b
 | .bl a,.int b=>(if a then 1 else 0) == b
 | .int a,.bl b=>a == (if b then 1 else 0)
 | .int a,.int b=>a == b
 | .str a,.str b=>a == b
 | _,_=>false
theorem xK {A:Around} {s:Shared} {y x:V} {u v:Value} (ry:RelV y u) (rx:RelV x v) (fy:gH y=true) (fx:gH x=true):SeqAt.EqAt A s u v (uZ y x):= by
 cases y with
 | non=>
  cases ry
  cases x with
  | non=>cases rx;exact SeqAt.EqAt.same _
  | bl b=>cases rx;exact SeqAt.EqAt.none_bool b
  | int b=>obtain ⟨t,rfl⟩:=rx;exact SeqAt.EqAt.none_int b t
  | str b=>obtain ⟨t,rfl⟩:=rx;exact SeqAt.EqAt.none_str b t
  | _=>exact absurd (show false=true from fx) Bool.false_ne_true
 | bl a=>
  cases ry
  cases x with
  | non=>cases rx;exact SeqAt.EqAt.bool_none a
  | bl b=>cases rx;exact SeqAt.EqAt.bool_bool a b
  | int b=>obtain ⟨t,rfl⟩:=rx;exact SeqAt.EqAt.bool_int a b t
  | str b=>obtain ⟨t,rfl⟩:=rx;exact SeqAt.EqAt.bool_str a b t
  | _=>exact absurd (show false=true from fx) Bool.false_ne_true
 | int a=>
  obtain ⟨t',rfl⟩:=ry
  cases x with
  | non=>cases rx;exact SeqAt.EqAt.int_none a t'
  | bl b=>cases rx;exact SeqAt.EqAt.int_bool a t' b
  | int b=>obtain ⟨t,rfl⟩:=rx;exact SeqAt.EqAt.int_int a t' b t
  | str b=>obtain ⟨t,rfl⟩:=rx;exact SeqAt.EqAt.int_str a t' b t
  | _=>exact absurd (show false=true from fx) Bool.false_ne_true
 | str a=>
  obtain ⟨t',rfl⟩:=ry
  cases x with
  | non=>cases rx;exact SeqAt.EqAt.str_none a t'
  | bl b=>cases rx;exact SeqAt.EqAt.str_bool a t' b
  | int b=>obtain ⟨t,rfl⟩:=rx;exact SeqAt.EqAt.str_int a t' b t
  | str b=>obtain ⟨t,rfl⟩:=rx;exact SeqAt.EqAt.str_str a t' b t
  | _=>exact absurd (show false=true from fx) Bool.false_ne_true
 | _=>exact absurd (show false=true from fy) Bool.false_ne_true
def qr (x:V) (u:Value):Bool:=match u with
 | .none=>uZ .non x
 | .bool b=>uZ (.bl b) x
 | .int i _=>uZ (.int i) x
 | .str z _=>uZ (.str z) x
 | _=>false
theorem xh {x y:V} {u:Value} (r:RelV y u) (f:gH y=true):qr x u=uZ y x:= by
 cases y with
 | non=>cases r;rfl
 | bl b=>cases r;rfl
 | int i=>obtain ⟨t,rfl⟩:=r;rfl
 | str z=>obtain ⟨t,rfl⟩:=r;rfl
 | _=>exact absurd (show false=true from f) Bool.false_ne_true
theorem iE {x:V}:∀ {xs:List V} {us:List Value},Vals xs us->xs.all gH=true->us.any (qr x)=xs.any fun y=>uZ y x
 | _,_,.nil,_=>rfl
 | y :: xs,u :: us,.cons r t,f=>by
  rw [List.all_cons,Bool.and_eq_true] at f
  rw [List.any_cons,List.any_cons,xh r f.1,iE t f.2]
theorem gx {A:Around} {s:Shared} {x:V} {v:Value} (rx:RelV x v) (fx:gH x=true):∀ {xs:List V} {us:List Value},Vals xs us->xs.all gH=true->∀ u ∈ us,SeqAt.EqAt A s u v (qr x u)
 | _,_,.nil,_=>fun u hu=>by cases hu
 | y :: xs,u :: us,.cons r t,f=>fun u' hu=>by
  rw [List.all_cons,Bool.and_eq_true] at f
  rcases List.mem_cons.mp hu with rfl | hu
  ·rw [xh r f.1];exact xK r rx f.1 fx
  ·exact gx rx fx t f.2 u' hu
def Ef (x:V) (xs:List V):Bool:=xs.any fun y=>uZ y x
def GK (K:PySem.W.Frag) (neg:Bool):R2:=fun x y H Q=>∃ p xs,y=.ref p∧(iV K H p xs ∨ jd K H p xs)∧gH x=true∧xs.all gH=true∧Q (.bl (if neg then !Ef x xs else Ef x xs)) H
theorem lL:hU X (compareOp .In) (GK X.K false):= by
 intro pins s σ H x y v u Q I rx ry h
 obtain ⟨p,xs,rfl,hq,fx,fs,q⟩:=h
 cases ry
 rcases hq with hq | hq
 ·obtain ⟨its,r,pl,hz⟩:=I.list hq
  refine SeqAt.in_listAt (qr x) pl.isList (fun w hw=>gx rx fx r fs w (by simpa using hw)) ⟨.bl _,H,I,rfl,?_⟩
  rw [show its.toArray.any (qr x)=its.any (qr x) by simp,iE r fs]
  exact q
 ·obtain ⟨its,r,pl,hz⟩:=I.tuple hq
  refine SeqAt.in_tupleAt (qr x) pl (fun w hw=>gx rx fx r fs w (by simpa using hw)) ⟨.bl _,H,I,rfl,?_⟩
  rw [show its.toArray.any (qr x)=its.any (qr x) by simp,iE r fs]
  exact q
theorem nT:hU X (compareOp .NotIn) (GK X.K true):= by
 intro pins s σ H x y v u Q I rx ry h
 obtain ⟨p,xs,rfl,hq,fx,fs,q⟩:=h
 cases ry
 rcases hq with hq | hq
 ·obtain ⟨its,r,pl,hz⟩:=I.list hq
  refine SeqAt.notIn_listAt (qr x) pl.isList (fun w hw=>gx rx fx r fs w (by simpa using hw)) ⟨.bl _,H,I,rfl,?_⟩
  rw [show its.toArray.any (qr x)=its.any (qr x) by simp,iE r fs]
  exact q
 ·obtain ⟨its,r,pl,hz⟩:=I.tuple hq
  refine SeqAt.notIn_tupleAt (qr x) pl (fun w hw=>gx rx fx r fs w (by simpa using hw)) ⟨.bl _,H,I,rfl,?_⟩
  rw [show its.toArray.any (qr x)=its.any (qr x) by simp,iE r fs]
  exact q
theorem i7:dR X (.builtin "len") (fun xs H Q=>∃ p ys,xs=[.ref p]∧(iV X.K H p ys ∨ jd X.K H p ys)∧Q (.int ys.length) H):= by
 intro pins s σ H xs us Q I r h
 obtain ⟨p,ys,rfl,hq,q⟩:=h
 obtain ⟨u,rfl,rx⟩:=vals1 r
 cases rx
 have hn:=jr
 rcases hq with hq | hq
 ·obtain ⟨its,r',pl,hz⟩:=I.list hq
  have hlen:=r'.length
  exact Calls.call_len_list pl.isList (by simp only [List.size_toArray] <;> omega) ⟨.int ys.length,H,I.tok _,⟨s.toks + 1,by rw [List.size_toArray,hlen]⟩,q⟩
 ·obtain ⟨its,r',pl,hz⟩:=I.tuple hq
  have hlen:=r'.length
  exact len_tuple pl (by simp only [List.size_toArray] <;> omega) ⟨.int ys.length,H,I.tok _,⟨s.toks + 1,by rw [List.size_toArray,hlen]⟩,q⟩
theorem g9:dR X (.type "tuple") (fun xs H Q=>∃ p ys,xs=[.ref p]∧((iV X.K H p ys∧∀ l,H l=none->Q (.ref l) (upd H l (.tup ys))) ∨ (jd X.K H p ys∧Q (.ref p) H))):= by
 intro pins s σ H xs us Q I r h
 obtain ⟨p,ys,rfl,h⟩:=h
 obtain ⟨u,rfl,rx⟩:=vals1 r
 cases rx
 rcases h with ⟨hq,q⟩ | ⟨hq,q⟩
 ·obtain ⟨its,r',pl,hz⟩:=I.list hq
  have hlen:=r'.length
  refine call_tuple_list pl.isList (fun h' kp=>?_) (by simp only [List.size_toArray] <;> omega)
  have I1:Inv X pins σ H { s with heap:=h' }:=I.kept (t':=s.toks) kp
  have I2:Inv X pins σ (upd H h'.objs.size (.tup ys)) { s with heap:=h'.push { cls:=.type "tuple",data:=.seq its.toArray } } :=
   I1.laid (t':=s.toks) (fun b o e=>Heap.get?_push_of_some _ e) (Nat.le_refl _) (show bK X.prog X.w _ _ _ (.tup ys) from ⟨hz,its,r',q0.new _ _⟩)
  exact ⟨.ref h'.objs.size,_,I2,rfl,q _ (I1.hok.fresh (Nat.le_refl _))⟩
 ·obtain ⟨its,r',pl,hz⟩:=I.tuple hq
  exact call_tuple_same pl ⟨.ref p,H,I,rfl,q⟩
def Ht (K:PySem.W.Frag) (T:String) (x:V) (H:Hp):Prop:=match x with
 | .str _=>T = "str"
 | .int _=>T = "int"
 | .ref p=>(T = "list" ∧ ∃ xs,iV K H p xs) ∨ (T = "tuple" ∧ ∃ o,K.lookup p=some o∧o.cls=.type "tuple" ∧ o.dict=none) ∨
   (T = "dict" ∧ ((∃ kvs,H p=some (.dK kvs)) ∨ ∃ kvs,H p=some (.dT kvs))) ∨ (T = "set" ∧ ∃ S n,H p=some (.set S n))
 | _=>False
theorem Dx {pins:List (Addr × Obj)} {σ:St} {H:Hp} {s:Shared} {T:String} {x:V} {v:Value} (I:Inv X pins σ H s) (r:RelV x v) (ty:Ht X.K T x H) :
  s.TypeIs v T∧∀ a,v=.ref a->∃ ob,s.heap.get? a=some ob∧ob.dict=none:= by
 cases x with
 | str z=>
  obtain ⟨t,rfl⟩:=r
  cases (show T = "str" from ty)
  exact ⟨typeIs_str s z t,fun _ e=>nomatch e⟩
 | int i=>
  obtain ⟨t,rfl⟩:=r
  cases (show T = "int" from ty)
  exact ⟨typeIs_int s i t,fun _ e=>nomatch e⟩
 | ref p=>
  cases r
  rcases ty with ⟨rfl,xs,hq⟩ | ⟨rfl,o,hk,hc,hd⟩ | ⟨rfl,hk⟩ | ⟨rfl,S,n,hk⟩
  ·obtain ⟨its,_,pl,_⟩:=I.list hq
   refine ⟨pl.isList.typeIs,fun a e=>?_⟩
   cases e
   obtain ⟨o,n,e,c,hd,_⟩:=pl
   exact ⟨o,e,hd⟩
  ·refine ⟨⟨o,I.kIn p o hk,hc⟩,fun a e=>?_⟩
   cases e
   exact ⟨o,I.kIn _ o hk,hd⟩
  ·have z:∃ o,s.heap.get? p=some o∧o.ExactDict:= by
    rcases hk with ⟨kvs,hk⟩ | ⟨kvs,hk⟩
    ·obtain ⟨_,_,_,_,o,_,_,e,ex,_⟩:=I.hok p _ hk
     exact ⟨o,e,ex⟩
    ·obtain ⟨_,_,_,_,o,_,_,e,ex,_⟩:=I.hok p _ hk
     exact ⟨o,e,ex⟩
   obtain ⟨o,e,ex⟩:=z
   refine ⟨⟨o,e,ex.1⟩,fun a e2=>?_⟩
   cases e2
   exact ⟨o,e,ex.2.1⟩
  ·obtain ⟨o,_,_,_,e,ex,_⟩:=I.hok p _ hk
   refine ⟨⟨o,e,ex.1⟩,fun a e2=>?_⟩
   cases e2
   exact ⟨o,e,ex.2.1⟩
 | _=>exact False.elim ty
def HJ (K:PySem.W.Frag) (T:String) (r:V->List V->Hp->VK->Prop) (to:TE) (t:TA):TE:=fun σ H Q=>to σ H fun x H1=>Ht K T x H1∧t σ H1 fun xs H2=>r x xs H2 Q
variable {o e:Expr} {es:List Expr} {to:TE} {t:TA} {name:Str} {apos cpos:Pos} {T id:String} {r:V->List V->Hp->VK->Prop}
theorem w8 (pa:PlainAttrs T) (slot:Slot T name id) (hty:typeOf (.builtin id)=pure (.type "method_descriptor")) (hm:HK X id r) (ho:PE X o to) (ha:PA X (e :: es) t)
  (hbase:attributeBase o name X.env (eval o X.env)=eval o X.env:=by rfl)
  (hfew:((backTo cpos (starEach (e :: es) X.env)).all (fun x=>!x.1) && (backToKw cpos (keywordEach [] X.env)).all (fun x=>x.1.isSome)
   && decide ((e :: es).length + ([]:List Keyword).length + (if ([]:List Keyword).isEmpty then 0 else 1) < 30))=true:=by rfl)
  (hline:(apos.endLine == cpos.line)=true:=by rfl) (hs:starEach (e :: es) X.env=(false,eval e X.env) :: starEach es X.env:=by rfl) (hplain:(backTo cpos (starEach es X.env)).any (·.1)=false:=by rfl) :
  PE X (.Call (.Attribute o name apos) (e :: es) [] cpos) (HJ X.K T r to t):= by
 intro pins s σ H Q I h
 refine wpAny_Call_method_late hbase hfew hline rfl (bx (ho pins s σ H _ I h) fun v s1 ⟨x,H1,I1,r1,ty,q1⟩=>?_)
 obtain ⟨h1,h2⟩:=Dx I1 r1 ty
 refine ⟨T,id,pa,slot,hty,h1,h2,?_⟩
 have hA:=ha cpos pins s1 σ H1 _ I1 q1
 rw [hs] at hA ⊢
 refine Calls.callWith_builtin (by show (false || (backTo cpos (starEach es X.env)).any (·.1))=false;rw [hplain] <;> rfl) (Calls.evalArgs_plain ?_)
 exact bx hA fun us s2 ⟨vs,H2,I2,r2,q2⟩=>hm pins s2 σ H2 x vs v us Q I2 r1 r2 q2
end
end L2
namespace L2
open PySem PySem.Spec PyProof.Rows
def GG (X:Cx) (id:String) (r:V->List V->Hp->VK->Prop):Prop :=
 ∀ (pins:List (Addr × Obj)) (s:Shared) (σ:St) (H:Hp) (x:V) (xs:List V) (v:Value) (us:List Value) (Q:VK),Inv X pins σ H s->RelV x v->Vals xs us->r x xs H Q ->
  wpAny (model X.prog X.w) X.A (call (.builtin id) (v :: us)) (EP X pins σ Q) X.xe s
theorem Vals.one:∀ {x:V} {us:List Value},Vals [x] us->∃ u,us=[u]∧RelV x u
 | _,_,.cons r .nil=>⟨_,rfl,r⟩
theorem Vals.two:∀ {x y:V} {us:List Value},Vals [x,y] us->∃ u v,us=[u,v]∧RelV x u∧RelV y v
 | _,_,_,.cons r (.cons q .nil)=>⟨_,_,rfl,r,q⟩
theorem Vals.eraseIdx:∀ {xs:List V} {us:List Value} (i:Nat),Vals xs us->Vals (xs.eraseIdx i) (us.eraseIdx i)
 | _,_,_,.nil=>.nil
 | _,_,0,.cons _ t=>t
 | _,_,i + 1,.cons r t=>.cons r (Vals.eraseIdx i t)
theorem lB {α:Type}:∀ (l:List α) (i:Nat),(l.eraseIdx i).length ≤ l.length
 | [],_=>Nat.le_refl _
 | _ :: _,0=>Nat.le_succ _
 | _ :: r,i + 1=>Nat.succ_le_succ (lB r i)
section
variable {X:Cx} {pins:List (Addr × Obj)} {σ:St} {H:Hp} {s:Shared} {l b:Addr} {xs ys zs:List V}
theorem Inv.lset {its its':List Value} {n:Nat} {f:Array Value->Array Value} {t':Nat} (I:Inv X pins σ H s) (hH:H l=some (.lst xs))
  (e:s.heap.get? l=some { cls:=.type "list",data:=.seq its.toArray n }) (hf:f its.toArray=its'.toArray) (hv:Vals ys its') (hz:ys.length ≤ sizeLine) :
  Inv X pins σ (upd H l (.lst ys)) { s with heap:=s.heap.update l (Obj.mapSeq f),toks:=t' }:= by
 have q:=PySem.IsL.update e f
 rw [hf] at q
 refine I.write (x:=l) (e:=l) (by rw [hH];exact trivial) (.inl rfl) (fun b' u hb hu=>(Heap.get?_update_other s.heap (Obj.mapSeq f) (Ne.symm hb)).trans hu) ⟨_,q⟩ ?_
 exact ⟨hz,its',_,hv,q⟩
theorem Inv.lnew {its:List Value} {t':Nat} (I:Inv X pins σ H s) (hv:Vals ys its) (hz:ys.length ≤ sizeLine) :
  Inv X pins σ (upd H s.heap.objs.size (.lst ys)) { s with heap:=s.heap.push { cls:=.type "list",data:=.seq its.toArray },toks:=t' } :=
 I.laid (fun _ _ q=>Heap.get?_push_of_some _ q) (Nat.le_refl _) ⟨hz,its,0,hv,Heap.get?_push_size _ rfl⟩
theorem Inv.fresh (I:Inv X pins σ H s):H s.heap.objs.size=none:=I.hok.fresh (Nat.le_refl _)
theorem Inv.lstM (I:Inv X pins σ H s) (hH:H l=some (.lst xs)):xs.length ≤ sizeLine∧∃ (its:List Value) (n:Nat),Vals xs its∧xs.length=its.length∧s.heap.get? l=some { cls:=.type "list",data:=.seq its.toArray n }:= by
 obtain ⟨z,its,n,r,e⟩:=I.hok l _ hH
 exact ⟨z,its,n,r,r.length,e⟩
theorem xq {n:Nat} (h:n ≤ sizeLine):Builtin.List.listTooLong n=false:= by
 unfold Builtin.List.listTooLong
 exact decide_eq_false (by omega)
end
section
variable {X:Cx}
def yL:V->List V->Hp->VK->Prop:=fun x vs H Q=>∃ l xs y,x=.ref l∧vs=[y]∧H l=some (.lst xs)∧xs.length < sizeLine∧Q .non (upd H l (.lst (xs ++ [y])))
theorem mh:GG X "list.append" yL:= by
 intro pins s σ H x vs v us Q I rx rv h
 obtain ⟨l,xs,y,rfl,rfl,hH,hz,q⟩:=h
 cases rx
 obtain ⟨u,rfl,ru⟩:=rv.one
 obtain ⟨z,its,n,r,hl,e⟩:=I.lstM hH
 refine call_meets F.slot_list_append ⟨_,e,rfl⟩ F.entry_list_append (F.args_list_append_2 _ _) (PySem.list_append l its.toArray n u (by rw [List.size_toArray];omega)) ⟨e,?_⟩
 refine ⟨.non,_,I.lset (its':=its ++ [u]) hH e (by simp) (r.append (.cons ru .nil)) ?_,rfl,q⟩
 rw [List.length_append,List.length_singleton]
 omega
def y_:V->List V->Hp->VK->Prop:=fun x vs H Q=>∃ l b xs zs,x=.ref l∧vs=[.ref b]∧H l=some (.lst xs)∧H b=some (.lst zs)∧xs.length + zs.length ≤ sizeLine∧Q .non (upd H l (.lst (xs ++ zs)))
theorem t8:GG X "list.extend" y_:= by
 intro pins s σ H x vs v us Q I rx rv h
 obtain ⟨l,b,xs,zs,rfl,rfl,hH,hB,hz,q⟩:=h
 cases rx
 obtain ⟨u,rfl,ru⟩:=rv.one
 cases ru
 obtain ⟨z,its,n,r,hl,e⟩:=I.lstM hH
 obtain ⟨z2,its2,n2,r2,hl2,e2⟩:=I.lstM hB
 have hsz:its.toArray.size + its2.toArray.size ≤ sizeLine:=by rw [List.size_toArray,List.size_toArray];omega
 have hlong:¬ (!its.toArray.isEmpty && Builtin.List.listTooLong (its.toArray.size + its2.toArray.size))=true:= by
  rw [xq hsz,Bool.and_false]
  exact Bool.false_ne_true
 refine call_meets F.slot_list_extend ⟨_,e,rfl⟩ F.entry_list_extend (F.args_list_extend_2 _ _)
  (AutoSeq1.list_extend_list_list_0 l its.toArray n b its2.toArray n2 hlong (by rw [List.size_toArray];omega) (by omega)) ⟨e,e2,?_⟩
 refine ⟨.non,_,I.lset (its':=its ++ its2) hH e (by simp) (r.append r2) ?_,rfl,q⟩
 rw [List.length_append]
 omega
def D8:V->List V->Hp->VK->Prop:=fun x vs H Q=>∃ l xs i k y,x=.ref l∧vs=[.int i]∧H l=some (.lst xs) ∧ -(2 ^ 63) ≤ i∧i < 2 ^ 63∧seqIndex? i xs.length=some k∧xs[k]? = some y∧Q y (upd H l (.lst (xs.eraseIdx k)))
theorem vo:GG X "list.pop" D8:= by
 intro pins s σ H x vs v us Q I rx rv h
 obtain ⟨l,xs,i,k,y,rfl,rfl,hH,h1,h2,hk,hy,q⟩:=h
 cases rx
 obtain ⟨u,rfl,ru⟩:=rv.one
 obtain ⟨t,rfl⟩:=ru
 obtain ⟨z,its,n,r,hl,e⟩:=I.lstM hH
 obtain ⟨w,hw,rw'⟩:=r.get hy
 refine call_meets F.slot_list_pop ⟨_,e,rfl⟩ F.entry_list_pop (F.args_list_pop_2 _ _)
  (MeetsSeq.list_pop_at l its.toArray n i t k w (fitsIndex_both h1 h2) (by rw [List.size_toArray,<- hl];exact hk) (by rw [<- Array.getElem?_toList];exact hw) (by rw [List.size_toArray];omega)) ⟨e,?_⟩
 refine ⟨y,_,I.lset (its':=its.eraseIdx k) hH e ?_ (r.eraseIdx k) ?_,rw',q⟩
 ·show its.toArray.eraseIdxIfInBounds k=(its.eraseIdx k).toArray
  rw [List.eraseIdxIfInBounds_toArray]
 ·have:=lB xs k
  omega
end
section
variable {prog:Program} {w:World} {A:Around} {E:Value->Shared->Prop} {s:Shared}
set_option maxRecDepth 100000 in
end
section
variable {X:Cx}
end
end L2
namespace Att
open PySem PySem.W PySem.Calls PyProof.Rows
theorem jS {P:Params} {h:Heap}:∀ (ns:List Int) (vs:List Value),WellAll P h vs (ns.map WData.int)->IntsAre vs ns:= by
 intro ns
 induction ns with
 | nil=>
  intro vs w
  rw [List.map_nil] at w
  cases w
  exact .nil
 | cons n ns ih=>
  intro vs w
  rw [List.map_cons] at w
  cases w with
  | cons a b=>
   cases a
   exact .cons _ _ (ih _ b)
theorem script_of {l:OpenLaw} {n:Nat} (hn:l.most=some n) {P:Params} {h:Heap} {args:List WData} {vals:List Value}
  (hpre:l.row.toRowW.claim.pre args=true) (hwl:WellAll P h vals args) :
  ∃ a vs ns,vals=[Value.ref a]∧args=[WData.list (ns.map WData.int)]∧h.get? a=some { cls:=.type "list",data:=.seq vs.toArray }∧IntsAre vs ns∧ns.length ≤ n:= by
 have hsh:WShape.hasAll [] args [.list .int]=true:=(pre_splitW hpre).1
 have hc:l.pre.holds [] { args:=args }=true:=(pre_splitW hpre).2
 obtain ⟨d,r,rfl,h1,h2⟩:=hasAllW_cons hsh
 obtain rfl:=hasAllW_nil h2
 obtain ⟨xs,rfl,h3⟩:=hasW_list h1
 obtain ⟨ns,rfl⟩:=items_int h3
 have hlen:ns.length ≤ n:= by
  unfold OpenLaw.pre at hc
  have h4:(WTm.not (.lt (.lit (.int (n:Int))) (.len (.arg 0)))).holds [] { args:=[.list (ns.map .int)] }=true:= by
   have h4:=(holds_andW hc).1
   rw [hn] at h4
   exact h4
  have h5:=condW_of h4 (w_not (w_lt w_lit (w_len_list (w_arg rfl))))
  rw [List.length_map] at h5
  refine Nat.le_of_not_lt fun q=>?_
  have q':(n:Int) < ((ns.length:Nat):Int):=by omega
  first
   | (rw [decide_eq_true q'] at h5;exact absurd h5 (by decide))
   | (simp at h5;omega)
 cases hwl with
 | cons w1 w2=>
  cases w2
  cases w1 with
  | list ho hall=>exact ⟨_,_,ns,rfl,rfl,ho,jS ns _ hall,hlen⟩
theorem post_true (l:OpenLaw) (args:List WData):l.row.toRowW.claim.post args (.bool true) args=true :=
 postW_of (r:=l.row.toRowW) (X:=(true == true))
  (show WShape.has [] (.bool true) .bool=true by first | rfl | decide | simp [WShape.has,WShape.arms,WShape.armsAll])
  (show (WTm.eq .res (.lit (.bool true))).value [] { args:=args,res:=some (.bool true),after:=args }=some (.bool (true == true)) from w_eq_bool (w_res rfl) w_lit) rfl
theorem attach_call {l:OpenLaw} {n:Nat} {q:Program} {loose:List Str} {XP:(Str->Option Value)->Heap->Prop} {YP:World->Heap->Prop} {d:DefRec}
  (hn:l.most=some n) (hdf:d.params.defaults=[])
  (call:∀ (w:World) (s₀ s₁:Shared) (mg mb:Str->Option Value) (fa:Addr) (o:Obj) (pm cd doc:Value) (a:Addr) (vs:List Value) (ns:List Int),
   Ground q loose [] XP w s₀ mg mb s₁.heap->YP w s₁.heap ->
   s₁.heap.get? fa=some o->o.data=.func (docDef d.name d.params d.body d.scope pm cd doc)->s₁.heap.CodeRec cd d.name->mg d.name=some (.ref fa) ->
   s₁.heap.get? a=some { cls:=.type "list",data:=.seq vs.toArray }->IntsAre vs ns->ns.length ≤ n->s₁.gens = #[] ->
   codeAny (model l.prog w) callerA (.call (.ref fa) ⟨[.ref a],[]⟩) (fun r s'=>r=.ok (.ret (.bool true))∧OldK s₁.heap s'.heap∧s'.os=s₁.os∧AllBare s'.gens) s₁) :
  WalkO q loose XP YP l.row.toRowW d [] (fun f vs=>PySem.call f vs):= by
 intro w s₀ s₁ mg mb G Y fa o pm cd doc dV kV ho hd hcd hD hmg hg args vals as hpre hlay hrd hwl hlo
 obtain rfl:dV=.none:=Dflts.none hD hdf
 obtain rfl:kV=.none:=Dflts.noKw hD
 obtain ⟨a,vs,ns,rfl,rfl,hobj,hints,hlen⟩:=script_of hn hpre hwl
 refine enter_call (codeAny_mono (call w s₀ s₁ mg mb fa o pm cd doc a vs ns G Y ho (fd_plain hd) hcd hmg hobj hints hlen hg) fun r s' hq=>?_)
 obtain ⟨rfl,h2,h3,h4⟩:=hq
 exact ⟨.inl ⟨.bool true,.bool true,[],rfl,fun _=>rfl,.bool true,post_true l _,fun _=>⟨List.Pairwise.nil,fun _ hm=>(nomatch hm)⟩⟩,h2,h3,h4⟩
section
variable {prog:Program} {w:World} {A:Around} {E:Value->Shared->Prop} {s:Shared} {K:Frag}
end
end Att
namespace L2
open PySem PySem.Spec PyProof.Rows
theorem fB:∀ {vs:List Value} {ns:List Int},IntsAre vs ns->Vals (ns.map V.int) vs
 | _,_,.nil=>.nil
 | _,_,.cons n t h=>.cons ⟨t,rfl⟩ (fB h)
def D7 (H:Hp):Prop:=∀ b,H b=none ∨ ∃ o xs,H b=some (.frz o (.lst xs))
theorem xN {P:Program} {w:World} {K:PySem.W.Frag} {mg mb:Str->Option Value} {CX:p_} {k:Nat} {fa a:Addr} {fd:FuncData} {x:Str} {sp:Sp} {s₁:Shared} {vs:List Value} {ns:List Int}
  (KX:K.In s₁.heap) (hns:s₁.heap.Ns mainGlobals mg) (hb:s₁.heap.Ns builtinsNs mb) (hbb:∀ x:Str,x ≠ "__name__" -> mb x=bootBuiltins x) (hlim:s₁.heap.NoLimit) (hg:s₁.gens = #[])
  (ha:s₁.heap.get? a=some { cls:=.type "list",data:=.seq vs.toArray }) (hi:IntsAre vs ns) (hl:ns.length ≤ sizeLine) (hr:bU k callerA)
  (F:∀ base:Heap,K.In base->base.Ns mainGlobals mg->c9 P w K mg base CX k fa fd [x] sp) (hbind:∀ (s:Shared) (u:Value),BindsTo s fd ⟨[u],[]⟩ [(x,u)])
  (hntab:PySem.W.tabIn K cF=none)
  (hsp:∀ H:Hp,D7 H->iV K H a (ns.map V.int)->sp [.ref a] H (fun v _=>v=.bl true) fun _ _ _=>False)
  (hCX:∀ H e s',CX [] H s₁ (fun _ _ _=>False) e s' -> False) :
  codeAny (model P w) callerA (.call (.ref fa) ⟨[.ref a],[]⟩) (fun r s'=>r=.ok (.ret (.bool true))∧OldK s₁.heap s'.heap∧s'.os=s₁.os∧AllBare s'.gens) s₁:= by
 have rv:=fB hi
 have lenV:=hi.length
 have core:∀ H:Hp,D7 H->iV K H a (ns.map V.int)->g8 P w H s₁.heap->(∀ b,H b ≠ none->b=a)->(H a ≠ none->K.lookup a=none) ->
   codeAny (model P w) callerA (.call (.ref fa) ⟨[.ref a],[]⟩) (fun r s'=>r=.ok (.ret (.bool true))∧OldK s₁.heap s'.heap∧s'.os=s₁.os∧AllBare s'.gens) s₁:= by
  intro H hO hS hok hA hK
  have base_of:∀ {b:Addr} {o:Obj},s₁.heap.get? b=some o->H b=none->(iZ s₁.heap H).get? b=some o:=fun e n=>oD e n
  have noA:∀ {b:Addr} {o:Obj} {es:Array DictEntry} {ep:Nat},s₁.heap.get? b=some o->o.data=.dict es ep->H b=none:=fun {b o es ep} e d=>by
   cases q:H b with
   | none=>rfl
   | some u=>
    have e':b=a:=hA b (by rw [q];simp)
    subst e'
    rw [ha] at e;cases e
    have d':Data.seq vs.toArray _=Data.dict es ep:=d
    cases d'
  have nsK:∀ {b:Addr} {m:Str->Option Value},s₁.heap.Ns b m->(iZ s₁.heap H).Ns b m:=fun {b m} ⟨o,es,ep,e,d,r⟩=>⟨o,es,ep,base_of e (noA e d),d,r⟩
  have hKb:K.In (iZ s₁.heap H):=fun b o e=>base_of (KX b o e) (by
   cases q:H b with
   | none=>rfl
   | some u=>
    have e':b=a:=hA b (by rw [q];simp)
    subst e'
    rw [hK (by rw [q];simp)] at e;cases e)
  have hM:Mod K mg (iZ s₁.heap H):=⟨hKb,nsK hns,⟨mb,nsK hb,hbb⟩,let ⟨mc,h1,h2⟩:=hlim;⟨mc,nsK h1,h2⟩⟩
  have e0:vE P w K mg (iZ s₁.heap H) callerA [] s₁ H:=⟨rfl,hM,fun b o e=>sQ e,Nat.le_of_eq (lH _ _),trivial,fun b hb=>absurd (show b ∈ ([]:List Addr) from hb) (by simp),hok,.of_eq hg,fun c P e=>by rw [hntab] at e;cases e⟩
  refine codeAny_mono ((F _ hKb (nsK hns)).run callerA [] s₁ H ⟨[.ref a],[]⟩ [.ref a] [.ref a] _ _ hr e0 (hbind s₁ (.ref a)) (.cons rfl .nil) (hsp H hO hS)) fun r s' h=>?_
  cases r with
  | error e=>exact (hCX H e s' h).elim
  | ok fl=>
   cases fl with
   | next=>exact False.elim h
   | brk=>exact False.elim h
   | cont=>exact False.elim h
   | ret u=>
    obtain ⟨v,H',os,bare,un,hok',r',q⟩:=h
    have q':v=.bl true:=q
    subst q'
    obtain rfl:u=Value.bool true:=r'
    refine ⟨rfl,OldK.of_keep fun b o e=>?_,os,bare⟩
    cases q:H b with
    | none=>exact un.keep b o e q (by intro z;exact absurd (show b ∈ ([]:List Addr) from z) (by simp)) (by simp)
    | some u=>
     rcases hO b with z | ⟨ob,xs,z⟩
     ·rw [q] at z;cases z
     ·have z2:=un.frzs b ob _ z
      obtain ⟨e1,_⟩:=hok b _ z
      obtain ⟨e2,_⟩:=hok' b _ z2
      rw [e] at e1;cases e1
      exact e2
 cases hk:K.lookup a with
 | some o=>
  have e:=KX a o hk
  rw [ha] at e
  cases e
  refine core (fun _=>none) (fun _=>.inl rfl) (.inr ⟨_,vs.toArray,_,hk,rfl,rfl,rfl,by rw [List.size_toArray,lenV];exact hl,by simpa using rv⟩) (fun b u z=>by have z':(none:Option HO)=some u:=z;cases z') (fun b z=>absurd rfl z) fun z=>absurd rfl z
 | none=>
  refine core (fun b=>if b=a then some (.frz { cls:=.type "list",data:=.seq vs.toArray } (.lst (ns.map V.int))) else none) (fun b=>?_) (.inl (.inr ⟨{ cls:=.type "list",data:=.seq vs.toArray },if_pos rfl⟩)) (fun b u z=>?_) (fun b z=>?_) fun _=>hk
  ·by_cases hb:b=a
   ·exact .inr ⟨_,_,if_pos hb⟩
   ·exact .inl (if_neg hb)
  ·by_cases hb:b=a
   ·have z':=(if_pos hb).symm.trans z
    cases z'
    subst hb
    exact ⟨ha,by rw [List.length_map];exact hl,vs,_,rv,ha⟩
   ·have z':=(if_neg hb).symm.trans z
    cases z'
  ·by_cases hb:b=a
   ·exact hb
   ·exact absurd (if_neg hb) z
end L2
namespace L2
open PySem PySem.Spec PyProof.Rows
abbrev HZ {K:PySem.W.Frag} {h:Heap} (_:K.In h):PySem.W.Frag:=K
theorem F6 {l:PySem.W.OpenLaw} {n k:Nat} {q:Program} {loose:List Str} {XP:(Str->Option Value)->Heap->Prop} {YP:World->Heap->Prop} {d:DefRec} {K:Params->PySem.W.Frag} {CX:World->p_} {sp:World->Sp} {x:Str}
  (hn:l.most=some n) (hn2:n ≤ sizeLine) (hdf:d.params.defaults=[]) (hr:bU k callerA)
  (hY:∀ (w:World) (h:Heap),YP w h->(K w.params).In h) (hT:∀ w:World,PySem.W.tabIn (K w.params) cF=none)
  (F:∀ (w:World) (mg:Str->Option Value) (fa:Addr) (h:Heap),(K w.params).In h->h.Ns mainGlobals mg->mg d.name=some (.ref fa) ->
   ∃ fd:FuncData,(∀ (s:Shared) (u:Value),BindsTo s fd ⟨[u],[]⟩ [(x,u)]) ∧
    ∀ base:Heap,(K w.params).In base->base.Ns mainGlobals mg->c9 l.prog w (K w.params) mg base (CX w) k fa fd [x] (sp w))
  (hsp:∀ (w:World) (H:Hp) (a:Addr) (ns:List Int),ns.length ≤ n->D7 H->iV (K w.params) H a (ns.map V.int)->sp w [.ref a] H (fun v _=>v=.bl true) fun _ _ _=>False)
  (hCX:∀ (w:World) (H:Hp) (s:Shared) (e:Value) (s':Shared),CX w [] H s (fun _ _ _=>False) e s' -> False) :
  PySem.W.WalkO q loose XP YP l.row.toRowW d [] (fun f vs=>PySem.call f vs):= by
 refine Att.attach_call hn hdf fun w s₀ s₁ mg mb fa o pm cd doc a vs ns G Y ho hd hcd hmg hobj hints hlen hg=>?_
 have KX:=hY w _ Y
 obtain ⟨fd,hb,hF⟩:=F w mg fa _ KX G.T.g hmg
 exact xN KX G.T.g G.T.b G.T.builtins G.T.nolimit hg hobj hints (Nat.le_trans hlen hn2) hr hF hb (hT w) (fun H hO hS=>hsp w H a ns hlen hO hS) fun H e s'=>hCX w H s₁ e s'
end L2
namespace L2
open PySem PySem.Spec PyProof.Rows
def eP (s:Stmt):Arguments:=match s with
 | .FunctionDef _ a _ _ _ _ _ _ _ _=>a
 | _=>{ posonlyargs:=[],args:=[],vararg:=none,kwonlyargs:=[],kw_defaults:=[],kwarg:=none,defaults:=[] }
def bG (s:Stmt):List Stmt:=match s with
 | .FunctionDef _ _ b _ _ _ _ _ _ _=>b
 | _=>[]
def ak (s:Stmt):Scope:=match s with
 | .FunctionDef _ _ _ _ _ _ sc _ _ _=>sc
 | _=>{ kind:=.function,names:=[],isGenerator:=false,isCoroutine:=false }
abbrev cV:p_:=fun _ _ _ _ _ _=>False
abbrev E0:XK:=fun _ _ _=>False
theorem vt {X:Cx}:Passes cV X E0:=fun _ _ _ _ _ _ _ h=>h.elim
structure yj (K:PySem.W.Frag) (x qual:Str) (st:Stmt) (f:Addr) (fd:FuncData):Prop where
 ex:∃ (oc:Value) (od:Option Addr) (kV doc pm:Value) (an:Option Addr) (cdv ct:Value) (osl:Array (Option Value)),
  fd=PySem.W.fnOf x qual (eP st) (bG st) (ak st) .none kV doc pm an cdv ct∧K.lookup f=some ⟨oc,od,.func fd,osl⟩∧PySem.W.codeIn K cdv qual=true
 kp:PySem.W.keepIn K (.ref f)=true
section
variable {P:Program} {w:World} {K:PySem.W.Frag} {mg:Str->Option Value} {base:Heap}
theorem yj.ok {x qual:Str} {st:Stmt} {f:Addr} {fd:FuncData} {N ps:List Str} {k:Nat} {sp:Sp} (F:yj K x qual st f fd) (S:az N ps (ak st)) (len:∀ vs H Q E,sp vs H Q E->vs.length=ps.length)
  (hbody:∀ (cdv:Value) (A:Around) (outer:List Env) (s:Shared) (H:Hp) (vs:List V) (Q:VK) (E:XK),bU k (A.deeper (envOfC qual (ak st) s.heap.objs.size f cdv))->sp vs H Q E ->
   ∃ t,p9 (gZ cV P w K mg base N qual (ak st) f cdv A outer s H E).nox (bG st) t∧t { nx:=fun _ H'=>Q .non H',rt:=Q } (start N vs) H):c9 P w K mg base cV (k + 1) f fd ps sp:= by
 obtain ⟨oc,od,kV,doc,pm,an,cdv,ct,osl,rfl,lk,hcd⟩:=F.ex
 refine AV lk hcd S len fun A outer s H vs Q E hr hsp=>?_
 obtain ⟨t,h,q⟩:=hbody cdv A outer s H vs Q E hr hsp
 exact ⟨t,h.nox,q⟩
theorem yj.binds {x qual:Str} {st:Stmt} {f:Addr} {fd:FuncData} {ps:List Str} (F:yj K x qual st f fd)
  (h:∀ (kV doc pm:Value) (an:Option Addr) (cdv ct:Value) (us:List Value),us.length=ps.length->bindArgs (PySem.W.fnOf x qual (eP st) (bG st) (ak st) .none kV doc pm an cdv ct) ⟨us,[]⟩=pure (ps.zip us)):Binds K fd ps []:= by
 obtain ⟨oc,od,kV,doc,pm,an,cdv,ct,osl,rfl,lk,hcd⟩:=F.ex
 exact .all (h kV doc pm an cdv ct)
theorem vK {x qual:Str} {st:Stmt} {f:Addr} {oc:Value} {od an:Option Addr} {osl:Array (Option Value)} {kV doc pm cdv ct:Value} (l:K.lookup f=some ⟨oc,od,.func (PySem.W.fnOf x qual (eP st) (bG st) (ak st) .none kV doc pm an cdv ct),osl⟩)
  (c:PySem.W.codeIn K cdv qual=true) (k:PySem.W.keepIn K (.ref f)=true):yj K x qual st f (PySem.W.fnOf x qual (eP st) (bG st) (ak st) .none kV doc pm an cdv ct):=⟨⟨oc,od,kV,doc,pm,an,cdv,ct,osl,rfl,l,c⟩,k⟩
end
section
variable {X:Cx}
end
theorem y3 {A B:Prop} (h:B):if false=true then A else B:= by
 rw [if_neg Bool.false_ne_true]
 exact h
theorem zK {A B:Prop} (h:A):if true=true then A else B:= by
 rw [if_pos rfl]
 exact h
def xW (H H':Hp):Prop:=∀ b o,H b=some o->H' b=some o
end L2
namespace L2
open PySem
theorem nX {prog:Program} {w:World} {A:Around} {R:Result->Shared->Prop} {s:Shared} {elt target iter:Expr} {ifs:List Expr} {scope:Scope} {pos:Pos} {it acc:Value} {env:Env} (I:Nat->Shared->Prop)
  (turn:∀ n s,I n s->wpAny (model prog w) A (pyNext it) (fun r s1=>match r with
   | none=>R (.ok .next) s1
   | some v=>wpAny (model prog w) A (letOwnedTupleGo target it v) (fun _ s2=>wpAny (model prog w) A (assign target env v) (fun _ s3=>
     wpAny (model prog w) A (forIn ifs true fun c r=>if r=true then do let ok <- isTrue c env (eval c env);pure (ForInStep.yield ok) else pure (ForInStep.yield r)) (fun ok s4=>
      if ok=true then wpAny (model prog w) A (eval elt env) (fun x s5=>
       wpAny (model prog w) A (call (.builtin "list.append") [acc,x]) (fun _ s6=>∃ m,m < n∧I m s6) (fun _ _=>False) s5) (fun _ _=>False) s4
      else ∃ m,m < n∧I m s4) (fun _ _=>False) s3) (fun _ _=>False) s2) (fun _ _=>False) s1) (fun _ _=>False) s)
  (n:Nat) (h:I n s) :
  codeAny (model prog w) A (.compLoop (.ListComp elt [⟨target,iter,ifs,0⟩] scope pos) 0 it acc env) R s:= by
 refine codeAny_loop rfl I (fun n s hI=>?_) n h
 show wpAny _ A ((compTurn (.ListComp elt [⟨target,iter,ifs,0⟩] scope pos) 0 it acc env).onRaise (fun x=>do noteFrame x env;theTreesLotGoes x)) _ _ s
 refine wpAny_noted ?_
 rw [compTurn_list]
 refine wpAny_bind (wpAny_standAt (wpAny_bind (wpAny_mono (turn n s hI) (fun r s₁ h₁=>?_) fun _ _ h'=>h'.elim)))
 cases r with
 | none=>exact wpAny_pure h₁
 | some v=>
  refine wpAny_bind (wpAny_mono h₁ (fun _ s₂ h₂=>?_) fun _ _ h'=>h'.elim)
  refine wpAny_bind (wpAny_mono h₂ (fun _ s₃ h₃=>wpAny_bind (wpAny_mono h₃ (fun ok s₄ h₄=>?_) fun _ _ h'=>h'.elim)) fun _ _ h'=>h'.elim)
  cases ok with
  | false=>exact wpAny_pure ⟨rfl,h₄⟩
  | true=>
   exact wpAny_bind (wpAny_bind (wpAny_mono h₄ (fun x s₅ h₅=>wpAny_bind (wpAny_mono h₅ (fun _ s₆ h₆=>wpAny_pure (wpAny_pure ⟨rfl,h₆⟩)) fun _ _ h'=>h'.elim)) fun _ _ h'=>h'.elim))
def cM (cells:List (Str × Addr)):List (Str × NameKind)->List (Str × Addr)->List (Str × Addr)
 | [],acc=>acc
 | (n,k) :: r,acc=>if k == .free then (match cells.lookup n with | some c=>cM cells r ((n,c) :: acc) | none=>cM cells r acc) else cM cells r acc
theorem eT {scope:Scope} {env:Env} (h:∀ n,(n,NameKind.free) ∈ scope.names->∃ c,env.cells.lookup n=some c):closureFor scope env=pure (cM env.cells scope.names []):= by
 have gen:∀ (names:List (Str × NameKind)) (acc:List (Str × Addr)),(∀ n,(n,NameKind.free) ∈ names->∃ c,env.cells.lookup n=some c) ->
   (forIn names acc (fun (x:Str × NameKind) (r:List (Str × Addr))=>match x with
    | (name,kind)=>if (kind == .free)=true then do let a <- cellOf env name;pure (ForInStep.yield ((name,a) :: r)) else pure (ForInStep.yield r)):Sem (List (Str × Addr)))=pure (cM env.cells names acc):= by
  intro names
  induction names with
  | nil=>intro acc _;rfl
  | cons x r ih=>
   intro acc hx
   obtain ⟨n,k⟩:=x
   rw [List.forIn_cons]
   unfold cM
   by_cases hk:(k == NameKind.free)=true
   ·have e:k=.free:=by simpa using hk
    subst e
    obtain ⟨c,hc⟩:=hx n List.mem_cons_self
    dsimp only
    rw [if_pos hk,if_pos hk,hc]
    have:cellOf env n=pure c:=by unfold cellOf;rw [hc]
    rw [this]
    show (pure c >>= fun a=>_) >>= _=_
    rw [pure_bind,pure_bind]
    exact ih _ fun m hm=>hx m (List.mem_cons_of_mem _ hm)
   ·dsimp only
    rw [if_neg hk,if_neg hk,pure_bind]
    exact ih _ fun m hm=>hx m (List.mem_cons_of_mem _ hm)
 have g0:=gen scope.names [] h
 unfold closureFor
 refine Eq.trans (congrArg (fun z:Sem (List (Str × Addr))=>z >>= fun r=>pure r) g0) ?_
 exact pure_bind _ _
theorem gD {cells:List (Str × Addr)}:∀ {names:List (Str × NameKind)} {acc:List (Str × Addr)} {x:Str} {c:Addr},(x,c) ∈ cM cells names acc->(x,c) ∈ acc ∨ (cells.lookup x=some c∧(x,NameKind.free) ∈ names)
 | [],_,_,_,h=>.inl h
 | (n,k) :: r,acc,x,c,h=>by
  unfold cM at h
  split at h
  ·rename_i hk
   have e:k=NameKind.free:=by simpa using hk
   subst e
   split at h
   ·rename_i d hd
    rcases gD h with h | ⟨h1,h2⟩
    ·rcases List.mem_cons.mp h with e | h
     ·cases e;exact .inr ⟨hd,List.mem_cons_self⟩
     ·exact .inl h
    ·exact .inr ⟨h1,List.mem_cons_of_mem _ h2⟩
   ·rcases gD h with h | ⟨h1,h2⟩
    ·exact .inl h
    ·exact .inr ⟨h1,List.mem_cons_of_mem _ h2⟩
  ·rcases gD h with h | ⟨h1,h2⟩
   ·exact .inl h
   ·exact .inr ⟨h1,List.mem_cons_of_mem _ h2⟩
theorem fJ {cells:List (Str × Addr)}:∀ {names:List (Str × NameKind)} {acc:List (Str × Addr)} {x:Str},((x,NameKind.free) ∈ names∧(cells.lookup x).isSome=true) ∨ (acc.lookup x).isSome=true->((cM cells names acc).lookup x).isSome=true
 | [],_,_,h=>h.elim (fun z=>nomatch z.1) id
 | (n,k) :: r,acc,x,h=>by
  unfold cM
  by_cases hk:(k == NameKind.free)=true
  ·rw [if_pos hk]
   cases hd:cells.lookup n with
   | none=>
    dsimp only
    refine fJ ?_
    rcases h with ⟨h1,h2⟩ | h
    ·rcases List.mem_cons.mp h1 with e | h1
     ·cases e;rw [hd] at h2;cases h2
     ·exact .inl ⟨h1,h2⟩
    ·exact .inr h
   | some d=>
    dsimp only
    refine fJ ?_
    by_cases hx:(x == n)=true
    ·exact .inr (by rw [List.lookup_cons,hx];rfl)
    ·have hx':(x == n)=false:=by simpa using hx
     rcases h with ⟨h1,h2⟩ | h
     ·rcases List.mem_cons.mp h1 with e | h1
      ·cases e;simp at hx'
      ·exact .inl ⟨h1,h2⟩
     ·exact .inr (by rw [List.lookup_cons,hx'];exact h)
  ·rw [if_neg hk]
   refine fJ ?_
   rcases h with ⟨h1,h2⟩ | h
   ·rcases List.mem_cons.mp h1 with e | h1
    ·cases e;simp at hk
    ·exact .inl ⟨h1,h2⟩
   ·exact .inr h
theorem cU:∀ (names:List (Str × NameKind)) (n:Nat) (acc:List (Str × Addr)),cellsFrom n names acc=cellsFrom n names [] ++ acc
 | [],_,_=>rfl
 | (x,k) :: r,n,acc=>by
  unfold cellsFrom
  split
  ·rw [cU r (n + 1) ((x,n) :: acc),cU r (n + 1) [(x,n)],List.append_assoc];rfl
  ·exact cU r n acc
theorem d4:∀ (names:List (Str × NameKind)) (n:Nat) (x:Str) (c:Addr),(x,c) ∈ cellsFrom n names []->(x,NameKind.cell) ∈ names
 | [],_,_,_,h=>nomatch h
 | (y,k) :: r,n,x,c,h=>by
  unfold cellsFrom at h
  split at h
  ·rename_i hk
   have e:k=NameKind.cell:=by simpa using hk
   subst e
   rw [cU] at h
   rcases List.mem_append.mp h with h | h
   ·exact List.mem_cons_of_mem _ (d4 r (n + 1) x c h)
   ·have e:(x,c)=(y,n):=by simpa using h
    cases e;exact List.mem_cons_self
  ·exact List.mem_cons_of_mem _ (d4 r n x c h)
theorem jM {M:Model} {A:Around} {E:Value->Shared->Prop} {s:Shared} {scope:Scope} {globals:Addr} {cl:List (Str × Addr)} {qual:Str} {outer:Env} {Q:Env->Shared->Prop}
  (hQ:Q (newEnv scope s.heap.objs.size globals (cellsFrom (s.heap.objs.size + 1) scope.names cl) qual none .none (some outer) builtinsNs) { s with heap:=pushCells (s.heap.push { cls:=.type "dict",data:=.dict #[] }) scope.names }) :
  wpAny M A (newFunctionEnv scope globals cl [] qual none .none (some outer)) Q E s:= by
 simp only [newFunctionEnv,Option.isSome_some,if_true]
 refine wpAny_bind (wpAny_alloc ?_)
 refine wpAny_bind (wpAny_layCells _ (fun name kind cells=>by cases hkc:kind == NameKind.cell <;> simp [hkc]) _ _ _ _ ?_)
 rw [show ({ s with heap:=s.heap.push { cls:=.type "dict",data:=.dict #[] } }:Shared).heap.objs.size=s.heap.objs.size + 1 from Heap.size_push ..]
 exact wpAny_bind (wpAny_pure (wpAny_pure hQ))
end L2
namespace L2
open PySem PySem.Spec PyProof.Rows
def dP (N own:List Str) (sc0 scope:Scope):Bool :=
 scope.names.all (fun x=>!(x.2 == .local) || (scope.names.lookup x.1 == some .local)) &&
 (scope.names.all (fun x=>!(x.2 == .free) || (sc0.names.lookup x.1 == some .cell || sc0.names.lookup x.1 == some .free)) &&
 (scope.names.all (fun x=>!(x.2 == .local || x.2 == .cell) || !(N.contains x.1)) &&
 (own.all (fun x=>scope.names.all fun y=>!(y.1 == x) || !(y.2 == .free)) &&
 scope.names.all (fun x=>!(x.2 == .free) || scope.names.all fun y=>!(y.1 == x.1) || (y.2 == .free)))))
structure jv (N own:List Str) (sc0 scope:Scope):Prop where
 loc:∀ x ∈ scope.names,x.2=.local->scope.names.lookup x.1=some .local
 free:∀ n,(n,NameKind.free) ∈ scope.names->sc0.names.lookup n=some .cell ∨ sc0.names.lookup n=some .free
 out:∀ n k,(n,k) ∈ scope.names->(k=.local ∨ k=.cell)->n ∉ N
 own:∀ x ∈ own,(x,NameKind.free) ∉ scope.names
 one:∀ n k,(n,NameKind.free) ∈ scope.names->(n,k) ∈ scope.names->k=.free
theorem jf {N own:List Str} {sc0 scope:Scope} (h:dP N own sc0 scope=true):jv N own sc0 scope:= by
 unfold dP at h
 simp only [Bool.and_eq_true,List.all_eq_true,Bool.or_eq_true,Bool.not_eq_true',beq_iff_eq,Bool.or_eq_false_iff] at h
 obtain ⟨h1,h2,h3,h4,h5⟩:=h
 refine ⟨fun x hx e=>?_,fun n hn=>?_,fun n k hn e hN=>?_,fun x hx hn=>?_,fun n k hn hk=>?_⟩
 ·rcases h1 x hx with z | z
  ·rw [e] at z;simp at z
  ·exact z
 ·rcases h2 _ hn with z | z
  ·simp at z
  ·exact z
 ·rcases h3 _ hn with ⟨z1,z2⟩ | z
  ·rcases e with e | e
   ·rw [e] at z1;simp at z1
   ·rw [e] at z2;simp at z2
  ·have:N.contains n=true:=by simpa using hN
   dsimp only at z
   rw [this] at z;cases z
 ·rcases h4 x hx _ hn with z | z
  ·simp at z
  ·simp at z
 ·rcases h5 _ hn with z | z
  ·simp at z
  ·rcases z _ hk with y | y
   ·simp at y
   ·exact y
def dQ (N N':List Str) (scope:Scope):Bool:=(N'.length == N.length) && (N'.zip N).all fun p=>p.1 == p.2 || (scope.names.lookup p.1).isNone
structure nj (N N':List Str) (scope:Scope):Prop where
 len:N'.length=N.length
 same:∀ (i:Nat) x,N'[i]? = some x->N[i]? = some x ∨ scope.names.lookup x=none
theorem jm {N N':List Str} {scope:Scope} (h:dQ N N' scope=true):nj N N' scope:= by
 unfold dQ at h
 simp only [Bool.and_eq_true,beq_iff_eq,List.all_eq_true,Bool.or_eq_true,Option.isNone_iff_eq_none] at h
 refine ⟨h.1,fun i x e=>?_⟩
 have hi:i < N'.length:=(List.getElem?_eq_some_iff.mp e).1
 have hi2:i < N.length:=by rw [<- h.1];exact hi
 have ez:(N'.zip N)[i]? = some (x,N[i]):= by
  rw [List.getElem?_zip_eq_some]
  exact ⟨e,List.getElem?_eq_getElem hi2⟩
 rcases h.2 _ (List.mem_of_getElem? ez) with z | z
 ·left
  rw [List.getElem?_eq_getElem hi2]
  exact congrArg some z.symm
 ·exact .inr z
def blk (X:Cx) (N' own:List Str) (scope:Scope) (s:Shared) (H:Hp) (fp:List Addr) (pins:List (Addr × Obj)):Cx where
 prog:=X.prog
 w:=X.w
 K:=X.K
 mg:=X.mg
 base:=X.base
 A:=X.A
 N:=N' ++ own
 s₀:=s
 H₀:=H
 env:={ newEnv scope s.heap.objs.size X.env.globals (cellsFrom (s.heap.objs.size + 1) scope.names (cM X.env.cells scope.names [])) X.env.qual none .none (some X.env) builtinsNs with scope:=relabel scope X.env }
 outer:=X.stack
 stack:=X.stack
 ex:=fp
 fn:=fun x=>own.contains x
 calm:=X.calm
 pn:=X.pn ++ pins
 xe:=fun _ _=>False
theorem gN {env:Env}:∀ {names:List (Str × NameKind)} {x:Str},
  (names.map fun (n,k)=>if (k == NameKind.free && env.scope.kind == .function && env.kindOf n == some .cell) then (n,NameKind.cell) else (n,k)).lookup x =
   (names.lookup x).map fun k=>if (k == NameKind.free && env.scope.kind == .function && env.kindOf x == some .cell) then NameKind.cell else k
 | [],_=>rfl
 | (n,k) :: r,x=>by
  have ih:=@gN env r x
  rw [List.map_cons]
  cases hx:x == n with
  | true=>
   have e:x=n:=by simpa using hx
   subst e
   by_cases hc:(k == NameKind.free && env.scope.kind == .function && env.kindOf x == some .cell)=true
   ·dsimp only;rw [if_pos hc];simp only [List.lookup_cons,hx,Option.map_some];rw [if_pos hc]
   ·dsimp only;rw [if_neg hc];simp only [List.lookup_cons,hx,Option.map_some];rw [if_neg hc]
  | false=>
   by_cases hc:(k == NameKind.free && env.scope.kind == .function && env.kindOf n == some .cell)=true
   ·dsimp only;rw [if_pos hc];simp only [List.lookup_cons,hx];exact ih
   ·dsimp only;rw [if_neg hc];simp only [List.lookup_cons,hx];exact ih
theorem cw {scope:Scope} {env:Env} {x:Str} {k':NameKind} (h:(relabel scope env).names.lookup x=some k'):∃ k,scope.names.lookup x=some k∧(k' = k ∨ (k=.free∧k' = .cell)):= by
 have h':(scope.names.map fun (n,k)=>if (k == NameKind.free && env.scope.kind == .function && env.kindOf n == some .cell) then (n,NameKind.cell) else (n,k)).lookup x=some k':=h
 rw [gN] at h'
 cases e:scope.names.lookup x with
 | none=>rw [e] at h';cases h'
 | some k=>
  rw [e] at h'
  simp only [Option.map_some,Option.some.injEq] at h'
  refine ⟨k,rfl,?_⟩
  split at h'
  ·rename_i hc
   simp only [Bool.and_eq_true,beq_iff_eq] at hc
   exact .inr ⟨hc.1.1,h'.symm⟩
  ·exact .inl h'.symm
section
variable {X:Cx} {pins:List (Addr × Obj)} {σ:St} {H:Hp} {s:Shared} {N' own:List Str} {scope:Scope} {fp:List Addr}
theorem jt (I:Inv X pins σ H s) (S:jv N' own X.env.scope scope):∀ x c,(cellsFrom (s.heap.objs.size + 1) scope.names (cM X.env.cells scope.names [])).lookup x=some c ->
  ((x,c) ∈ cellsFrom (s.heap.objs.size + 1) scope.names []∧(pushCells (s.heap.push { cls:=.type "dict",data:=.dict #[] }) scope.names).IsCell c none∧s.heap.objs.size + 1 ≤ c∧(x,NameKind.cell) ∈ scope.names) ∨
   (X.env.cells.lookup x=some c∧(x,NameKind.free) ∈ scope.names∧c < s.heap.objs.size):= by
 intro x c h
 have ok:=cellsFrom_ok scope.names (s.heap.push { cls:=.type "dict",data:=.dict #[] }) (s.heap.objs.size + 1) [] ⟨fun _ _ hm=>(nomatch hm),List.Pairwise.nil⟩ (by rw [Heap.size_push];exact Nat.le_refl _)
 rw [Heap.size_push] at ok
 have hm:=mem_of_lookup h
 rw [cU] at hm
 rcases List.mem_append.mp hm with hm | hm
 ·exact .inl ⟨hm,(ok.empty x c hm).1,(ok.empty x c hm).2,d4 _ _ _ _ hm⟩
 ·rcases gD hm with z | ⟨z1,z2⟩
  ·exact nomatch z
  ·obtain ⟨v,q⟩:=I.cell x c z1
   exact .inr ⟨z1,z2,q.lt⟩
theorem Inv.blkKeep {s:Shared} {scope:Scope}:∀ (b:Addr) (o:Obj),s.heap.get? b=some o->(pushCells (s.heap.push { cls:=.type "dict",data:=.dict #[] }) scope.names).get? b=some o:=fun b o e=>
 pushCells_keeps _ _ b o (Heap.get?_push_of_some _ e)
theorem Inv.blk (I:Inv X pins σ H s) (hf:∀ b ∈ fp,dg X pins H b) (ho:∀ b ∈ fp,b < s.heap.objs.size) (hk:scope.kind=.function) (S:jv N' own X.env.scope scope) (Mk:nj X.N N' scope) :
  Inv (blk X N' own scope s H fp pins) [] (σ ++ List.replicate own.length none) H { s with heap:=pushCells (s.heap.push { cls:=.type "dict",data:=.dict #[] }) scope.names }:= by
 have hcells:=jt I S
 have keep:=@Inv.blkKeep s scope
 have hasC:∀ x,((relabel scope X.env).names.lookup x=some .cell ∨ (relabel scope X.env).names.lookup x=some .free)->∃ c,(cellsFrom (s.heap.objs.size + 1) scope.names (cM X.env.cells scope.names [])).lookup x=some c:= by
  intro x hx
  have:∃ k,scope.names.lookup x=some k∧(k=.cell ∨ k=.free):= by
   rcases hx with hx | hx
   ·obtain ⟨k,e,z⟩:=cw hx
    rcases z with z | ⟨z,_⟩
    ·exact ⟨k,e,.inl z.symm⟩
    ·exact ⟨k,e,.inr z⟩
   ·obtain ⟨k,e,z⟩:=cw hx
    rcases z with z | ⟨z,_⟩
    ·exact ⟨k,e,.inr z.symm⟩
    ·exact ⟨k,e,.inr z⟩
  obtain ⟨k,e,z⟩:=this
  refine Option.isSome_iff_exists.mp (PySem.W.cellsFrom_some scope.names _ _ ?_)
  rcases z with z | z
  ·subst z;exact .inl e
  ·subst z
   have hm:=mem_of_lookup e
   obtain ⟨c,hc⟩:=I.ok.has x (S.free x hm)
   exact .inr (fJ (.inl ⟨hm,by rw [hc];rfl⟩))
 have sub:∀ b,b ∈ uV X.stack->b ∈ X.env.locals :: X.fs:=I.stkSub
 refine ⟨⟨I.ok.mod,hk,I.ok.glob,I.ok.blt,Nat.le_refl _,fun x y c h1 h2=>?_,fun x hx=>hasC x hx,fun x c hx h=>?_,I.ok.hd,I.ok.frames,.inl rfl,fun b hb=>⟨?_,fun x c h=>?_⟩,fun b o e=>I.bs b o e,?_,fun b o e hb=>?_,fun b hb hs=>?_,I.stack,I.stkFree,I.tb⟩,
  rfl,I.bare,Un.kept keep,⟨_,(Heap.Ns.new s.heap (.type "dict")).keeps (pushCells_keeps _ _),fun i x v h1 h2 h3=>?_⟩,fun x c h=>?_,I.hok.fresh (Nat.le_refl _),fun x c h=>?_,fun p hp=>?_,I.hok.kept keep,?_⟩
 ·
  have ok:=cellsFrom_ok scope.names (s.heap.push { cls:=.type "dict",data:=.dict #[] }) (s.heap.objs.size + 1) [] ⟨fun _ _ hm=>(nomatch hm),List.Pairwise.nil⟩ (by rw [Heap.size_push];exact Nat.le_refl _)
  rw [Heap.size_push] at ok
  rcases hcells x c h1 with ⟨a1,_,a3,_⟩ | ⟨a1,_,a3⟩ <;> rcases hcells y c h2 with ⟨b1,_,b3,_⟩ | ⟨b1,_,b3⟩
  ·exact name_of_addr ok.apart a1 b1
  ·exact absurd b3 (Nat.not_lt.mpr (Nat.le_of_succ_le a3))
  ·exact absurd a3 (Nat.not_lt.mpr (Nat.le_of_succ_le b3))
  ·exact I.ok.inj x y c a1 b1
 ·rcases hcells x c h with ⟨_,_,a3,_⟩ | ⟨_,a2,_⟩
  ·show s.heap.objs.size ≤ c
   exact Nat.le_of_succ_le a3
  ·have hx':own.contains x=true:=hx
   exact absurd a2 (S.own x (by simpa using hx'))
 ·exact Nat.ne_of_lt (ho b hb)
 ·rcases hcells x c h with ⟨_,_,a3,_⟩ | ⟨a1,_,_⟩
  ·intro z;subst z;exact absurd (ho _ hb) (Nat.not_lt.mpr (Nat.le_of_succ_le a3))
  ·exact (hf b hb).2.2.2.2.1 x c a1
 ·exact Nat.le_trans I.ok.bsz I.sz
 ·rcases (hf b hb).2.2.2.1 with z | z
  ·exact I.ok.noex b o e z
  ·exact absurd (Heap.lt_size e) (Nat.not_lt.mpr (Nat.le_trans I.ok.bsz z))
 ·rcases List.mem_cons.mp (sub b hs) with z | z
  ·exact (hf b hb).2.1 z
  ·exact (hf b hb).2.2.1 z
 ·
  have hi:i < σ.length:= by
   by_cases hi:i < σ.length
   ·exact hi
   ·rw [List.getElem?_append_right (by omega),List.getElem?_replicate] at h2
    split at h2 <;> cases h2
  rw [List.getElem?_append_left hi] at h2
  have hN':N'[i]? = some x:= by
   have:(N' ++ own)[i]? = some x:=h1
   rwa [List.getElem?_append_left (by rw [Mk.len,<- I.len];exact hi)] at this
  have hmem:x ∈ N':=List.mem_of_getElem? hN'
  have hseen:∃ k,scope.names.lookup x=some k:= by
   rcases h3 with h3 | h3 | h3 <;> (obtain ⟨k,e,_⟩:=cw h3;exact ⟨k,e⟩)
  have hN:X.N[i]? = some x:= by
   rcases Mk.same i x hN' with z | z
   ·exact z
   ·obtain ⟨k,e⟩:=hseen
    rw [z] at e;cases e
  have hfree:scope.names.lookup x=some .free∧((relabel scope X.env).names.lookup x=some .cell ∨ (relabel scope X.env).names.lookup x=some .free):= by
   rcases h3 with h3 | h3 | h3
   ·obtain ⟨k,e,z⟩:=cw h3
    rcases z with z | ⟨_,z⟩
    ·exact absurd hmem (S.out x k (mem_of_lookup e) (.inl z.symm))
    ·cases z
   ·obtain ⟨k,e,z⟩:=cw h3
    rcases z with z | ⟨z,_⟩
    ·exact absurd hmem (S.out x k (mem_of_lookup e) (.inr z.symm))
    ·rw [z] at e;exact ⟨e,.inl h3⟩
   ·obtain ⟨k,e,z⟩:=cw h3
    rcases z with z | ⟨z,_⟩
    ·rw [<- z] at e;exact ⟨e,.inr h3⟩
    ·rw [z] at e;exact ⟨e,.inr h3⟩
  have hm:=mem_of_lookup hfree.1
  have hkX:=S.free x hm
  obtain ⟨m,hn,hl⟩:=I.loc
  obtain ⟨u,r,l⟩:=hl i x v hN h2 (.inr hkX)
  refine ⟨u,r,.inr ⟨hfree.2,?_⟩⟩
  rcases l with ⟨k,_⟩ | ⟨_,c,hc,hcell⟩
  ·have k':X.env.scope.names.lookup x=some .local:=k
   rw [k'] at hkX
   rcases hkX with z | z <;> cases z
  ·obtain ⟨c2,hc2⟩:=hasC x hfree.2
   refine ⟨c2,hc2,?_⟩
   rcases hcells x c2 hc2 with ⟨_,_,_,a4⟩ | ⟨a1,_,_⟩
   ·have:=S.one x _ hm a4;cases this
   ·rw [hc] at a1;cases a1
    exact hcell.keeps keep
 ·rcases hcells x c h with ⟨_,a2,_,_⟩ | ⟨a1,_,_⟩
  ·exact ⟨_,a2⟩
  ·obtain ⟨v,q⟩:=I.cell x c a1
   exact ⟨v,q.keeps keep⟩
 ·rcases hcells x c h with ⟨_,_,a3,_⟩ | ⟨a1,_,_⟩
  ·exact I.hok.fresh (by omega)
  ·exact I.freeC x c a1
 ·have hp':p ∈ X.pn ++ pins:= by
   rcases List.mem_append.mp hp with z | z
   ·exact z
   ·exact nomatch z
  obtain ⟨e,n,ne,nf,d⟩:=I.pin p hp'
  refine ⟨keep _ _ e,n,Nat.ne_of_lt (Heap.lt_size e),fun z=>?_,d⟩
  rcases List.mem_cons.mp (sub p.1 z) with z | z
  ·exact ne z
  ·exact nf z
 ·show (σ ++ List.replicate own.length none).length=(N' ++ own).length
  rw [List.length_append,List.length_append,List.length_replicate,I.len,Mk.len]
theorem Inv.unblk (I:Inv X pins σ H s) (hf:∀ b ∈ fp,dg X pins H b) {pins':List (Addr × Obj)} {σ':St} {H':Hp} {s':Shared} (J:Inv (L2.blk X N' own scope s H fp pins) pins' σ' H' s'):Inv X pins σ H' s' :=
 I.call' (ch:=fp) J.os J.base J.hok J.bare fun b hb=>⟨(hf b hb).2.2.2.1,(hf b hb).2.1,(hf b hb).2.2.2.2.1,(hf b hb).2.2.2.2.2⟩
end
def qj (X:Cx) (ifs:List Expr) (t:TT):Prop :=
 ∀ (pins:List (Addr × Obj)) (s:Shared) (σ:St) (H:Hp) (Q:Bool->Hp->Prop),Inv X pins σ H s->t σ H Q ->
  wpAny (model X.prog X.w) X.A (forIn ifs true fun c r=>if r=true then do let ok <- isTrue c X.env (eval c X.env);pure (ForInStep.yield ok) else pure (ForInStep.yield r)) (TP X pins σ Q) X.xe s
def Gq:TT:=fun _ H Q=>Q true H
theorem yH {X:Cx}:qj X [] Gq:=fun pins s σ H Q I h=>wpAny_tests_nil ⟨H,I,h⟩
theorem zU {X:Cx} {c:Expr} {t:TT} (h:PT X c t):qj X [c] t:=fun pins s σ H Q I q=>wpAny_tests_one (h pins s σ H Q I q)
structure EJ (cal:Cx->Prop) (P:Program) (w:World) (K:PySem.W.Frag) (tg:Expr) (J:It) (fp:List Addr) (it:Addr) (tn:Nat->Heap->Prop):Prop where
 obj:∀ i h,tn i h->∀ b ∈ fp,∃ o,h.get? b=some o∧∀ v,o.data ≠ .cell v
 keep:∀ i h h',tn i h->(∀ b ∈ fp,∀ o,h.get? b=some o->h'.get? b=some o)->tn i h'
 item:∀ (X:Cx),X.prog=P->X.w=w->X.K=K->cal X->∀ (i:Nat) (pins:List (Addr × Obj)) (s:Shared) (σ:St) (H:Hp) (E:Value->Shared->Prop),Inv X pins σ H s->(∀ b ∈ fp,dg X pins H b)->tn i s.heap->J.go i H ->
  wpAny (model P w) X.A (pyNext (.ref it)) (fun r s1=>∃ u,r=some u ∧
   wpAny (model P w) X.A (letOwnedTupleGo tg (.ref it) u) (fun _ s2=>∃ x H',Inv X pins σ H' s2∧RelV x u∧J.yld i H x H' ∧ tn (i + 1) s2.heap∧∀ b ∈ fp,H' b=none) E s1) E s
 done:∀ (X:Cx),X.prog=P->X.w=w->X.K=K->cal X->∀ (i:Nat) (pins:List (Addr × Obj)) (s:Shared) (σ:St) (H:Hp) (E:Value->Shared->Prop),Inv X pins σ H s->(∀ b ∈ fp,dg X pins H b)->tn i s.heap->J.stop i H ->
  wpAny (model P w) X.A (pyNext (.ref it)) (fun r s1=>r=none∧Inv X pins σ H s1) E s
 self:∀ (A:Around) (i:Nat) (s:Shared) (Q:Value->Shared->Prop) (E:Value->Shared->Prop),tn i s.heap->Q (.ref it) s->wpAny (model P w) A (pyIter (.ref it)) Q E s
def Hu (cal:Cx->Prop) (X:Cx) (tg iter:Expr) (wi:TI):Prop :=
 ∀ (pins:List (Addr × Obj)) (s:Shared) (σ:St) (H:Hp) (R:It->Hp->Prop),Inv X pins σ H s->wi σ H R ->
  wpAny (model X.prog X.w) X.A (eval iter X.env) (fun v s1=>wpAny (model X.prog X.w) X.A (pyIter v) (fun itv s2=>∃ (it:Addr) (fp:List Addr) (tn:Nat->Heap->Prop) (J:It) (H':Hp),itv=.ref it∧Inv X pins σ H' s2∧EJ cal X.prog X.w X.K tg J fp it tn∧tn 0 s2.heap∧(∀ b ∈ fp,dg X pins H' b)∧R J H') X.xe s1) X.xe s
theorem PI.g {X:Cx} {tg iter:Expr} {wi:TI} (h:PI X tg iter wi):Hu (fun X=>X.calm=true) X tg iter wi:=fun pins s σ H R I q=>
 bx (h pins s σ H R I q) fun _ _ h=>bx h fun _ _ ⟨it,fp,tn,J,H',e,I',T,r⟩=>⟨it,fp,tn,J,H',e,I',⟨T.obj,T.keep,T.item,T.done,T.self⟩,r⟩
def r8 (wi:TI) (own:Nat) (g:TG) (tt:TT) (te:TE):TE:=fun σ H Q=>wi σ H fun J H1=>∀ l,H1 l=none->∃ W:Nat->Nat->List V->Hp->Prop,(∃ m,W 0 m [] (upd H1 l (.lst [])))∧∀ i m acc H,W i m acc H ->
 H l=some (.lst acc)∧((J.stop i H∧Q (.ref l) H) ∨ (J.go i H∧∀ x H',J.yld i H x H' -> g x (σ ++ List.replicate own none) H' fun σ2 H2=>σ2.take σ.length=σ∧tt σ2 H2 fun b H3=>
  if b=true then te σ2 H3 fun v H4=>H4 l=some (.lst acc)∧acc.length < sizeLine∧∃ m',m' < m∧W (i + 1) m' (acc ++ [v]) (upd H4 l (.lst (acc ++ [v])))
  else ∃ m',m' < m∧W (i + 1) m' acc H3))
section
variable {X:Cx} {elt tg iter:Expr} {ifs:List Expr} {scope:Scope} {pos pos':Pos} {N' own:List Str} {wi:TI} {g:TG} {tt:TT} {te:TE}
theorem rA {cal:Cx->Prop} (hc:∀ s H fp pins,cal (blk X N' own scope s H fp pins)) (hi:Hu cal X tg iter wi) (hk:scope.kind=.function) (hS:dP N' own X.env.scope scope=true) (hM:dQ X.N N' scope=true)
  (hg:∀ s H fp pins,PG (blk X N' own scope s H fp pins) tg g) (ht:∀ s H fp pins,qj (blk X N' own scope s H fp pins) ifs tt) (he:∀ s H fp pins,PE (blk X N' own scope s H fp pins) elt te)
  (hs:∀ x,foldedSetIterable iter X.env x=pure x) {use:Option (Value->Sem Unit)} {Q0:Value->Shared->Prop} {pins:List (Addr × Obj)} {s:Shared} {σ:St} {H:Hp} {Q:VK}
  (I:Inv X pins σ H s) (h:r8 wi own.length g tt te σ H Q)
  (fin:∀ (l:Addr) (H':Hp) (s':Shared) (C:Addr) (m:Str->Option Value),Inv X pins σ H' s' -> Q (.ref l) H' -> s'.heap.Ns C m->H' C=none->C ≠ X.env.locals->X.s₀.heap.objs.size ≤ C->(∀ x c,X.env.cells.lookup x=some c->c ≠ C)->(∀ p ∈ X.pn ++ pins,p.1 ≠ C) ->
   compPost (model X.prog X.w) X.A X.xe use Q0 (.ref l) C (.ok .next) s') :
  wpAny (model X.prog X.w) X.A (comprehension (.ListComp elt [⟨tg,iter,ifs,0⟩] scope pos) scope X.env pos' (newList []) false (eval iter X.env) use) Q0 X.xe s:= by
 have S:=jf hS
 have Mk:=jm hM
 refine wpAny_comprehension_free rfl hs (eT fun n hn=>I.ok.has n (S.free n hn)) hk S.loc (bx (hi pins s σ H _ I h) fun xv s1 h1=>bx h1 fun itv s2 h2=>?_)
 obtain ⟨it,fp,tn,J,H2,e,I2,T,st2,f2,q2⟩:=h2
 subst e
 refine wpAny_newObj_type ?_
 have hl2:H2 s2.heap.objs.size=none:=I2.fresh
 have I3:Inv X pins σ (upd H2 s2.heap.objs.size (.lst [])) { s2 with heap:=s2.heap.push { cls:=.type "list",data:=.seq ([]:List Value).toArray } }:=I2.lnew (its:=[]) (t':=s2.toks) .nil (Nat.zero_le _)
 obtain ⟨W,⟨m0,w0⟩,turn⟩:=q2 s2.heap.objs.size hl2
 generalize hl:s2.heap.objs.size=l at *
 have ob2:∀ b ∈ fp,b < l:=fun b hb=>by
  obtain ⟨o,e,_⟩:=T.obj _ _ st2 b hb
  rw [<- hl];exact Heap.lt_size e
 have st3:tn 0 (s2.heap.push { cls:=.type "list",data:=.seq ([]:List Value).toArray }):=T.keep _ _ _ st2 fun b _ o e=>Heap.get?_push_of_some _ e
 have sz3:l < (s2.heap.push { cls:=.type "list",data:=.seq ([]:List Value).toArray }).objs.size:=by rw [Heap.size_push,hl];exact Nat.lt_succ_self _
 have f3:∀ b ∈ fp,dg X pins (upd H2 l (.lst [])) b:=fun b hb=>⟨by rw [aq (Nat.ne_of_lt (ob2 b hb))];exact (f2 b hb).1,(f2 b hb).2⟩
 generalize hs3:({ s2 with heap:=s2.heap.push { cls:=.type "list",data:=.seq ([]:List Value).toArray } }:Shared)=s3 at I3
 have hh3:s3.heap=s2.heap.push { cls:=.type "list",data:=.seq ([]:List Value).toArray }:=by rw [<- hs3]
 rw [<- hh3] at st3 sz3
 have ob3:∀ b ∈ fp,b < s3.heap.objs.size:=fun b hb=>Nat.lt_trans (ob2 b hb) sz3
 generalize upd H2 l (.lst [])=H3 at *
 show wpAny _ _ (newFunctionEnv scope X.env.globals (cM X.env.cells scope.names []) [] X.env.qual none .none (some X.env)) _ _ _
 have goal:wpAny (model X.prog X.w) X.A (newFunctionEnv scope X.env.globals (cM X.env.cells scope.names []) [] X.env.qual none .none (some X.env))
   (fun cenv s₄=>codeAny (model X.prog X.w) X.A (.compStart (.ListComp elt [⟨tg,iter,ifs,0⟩] scope pos) 0 (.ref it) (.ref l) { cenv with scope:=relabel scope X.env }) (compPost (model X.prog X.w) X.A X.xe use Q0 (.ref l) cenv.locals) s₄) X.xe s3:= by
  refine jM ?_
  have IY:=I3.blk f3 ob3 hk S Mk
  have keep:=@Inv.blkKeep s3 scope
  have st4:tn 0 (pushCells (s3.heap.push { cls:=.type "dict",data:=.dict #[] }) scope.names):=T.keep _ _ _ st3 fun b _ o e=>keep b o e
  have hcells:=jt I3 S
  have stat:∀ {H':Hp},(∀ b ∈ fp,H' b=none)->∀ b ∈ fp,dg (blk X N' own scope s3 H3 fp pins) [] H' b:=fun hn b hb=>by
   refine ⟨hn b hb,Nat.ne_of_lt (ob3 b hb),fun z=>?_,.inl hb,fun x c h=>?_,fun p hp=>?_⟩
   ·rcases List.mem_cons.mp (I3.stkSub b z) with z | z
    ·exact (f3 b hb).2.1 z
    ·exact (f3 b hb).2.2.1 z
   ·rcases hcells x c h with ⟨_,_,a3,_⟩ | ⟨a1,_,_⟩
    ·intro z;subst z;exact absurd (ob3 _ hb) (Nat.not_lt.mpr (Nat.le_of_succ_le a3))
    ·exact (f3 b hb).2.2.2.2.1 x c a1
   ·have hp':p ∈ X.pn ++ pins:= by
     rcases List.mem_append.mp hp with z | z
     ·exact z
     ·exact nomatch z
    exact (f3 b hb).2.2.2.2.2 p hp'
  have loop:codeAny (model X.prog X.w) X.A (.compLoop (.ListComp elt [⟨tg,iter,ifs,0⟩] scope pos) 0 (.ref it) (.ref l) (blk X N' own scope s3 H3 fp pins).env)
    (compPost (model X.prog X.w) X.A X.xe use Q0 (.ref l) s3.heap.objs.size) { s3 with heap:=pushCells (s3.heap.push { cls:=.type "dict",data:=.dict #[] }) scope.names }:= by
   refine nX (fun n s'=>∃ i σ' H' acc,Inv (blk X N' own scope s3 H3 fp pins) [] σ' H' s' ∧ σ'.take σ.length=σ∧tn i s'.heap∧(∀ b ∈ fp,H' b=none)∧W i n acc H') ?_ m0
    ⟨0,_,H3,[],IY,by rw [List.take_left'] <;> rfl,st4,fun b hb=>(f3 b hb).1,w0⟩
   rintro n s5 ⟨i,σ5,H5,acc,I5,e5,st5,fr5,w5⟩
   obtain ⟨hacc,cs⟩:=turn i n acc H5 w5
   rcases cs with ⟨stop,q⟩ | ⟨go,step⟩
   ·refine wpAny_mono (T.done (blk X N' own scope s3 H3 fp pins) rfl rfl rfl (hc _ _ _ _) i [] s5 σ5 H5 (fun _ _=>False) I5 (stat fr5) st5 stop) (fun r s6 hr=>?_) fun _ _ z=>z
    obtain ⟨rfl,I6⟩:=hr
    obtain ⟨m,hn,_⟩:=id I6.loc
    refine fin l H5 s6 _ m (I3.unblk f3 I6) q hn I6.free (Nat.ne_of_gt I3.lt) I3.sz (fun x c e z=>?_) fun p hp z=>?_
    ·obtain ⟨v,qc⟩:=I3.cell x c e
     exact absurd qc.lt (by rw [z];exact Nat.lt_irrefl _)
    ·exact absurd (Heap.lt_size (I3.pin p hp).1) (by rw [z];exact Nat.lt_irrefl _)
   ·have lenσ:σ5.length=(σ ++ List.replicate own.length (none:Option V)).length:= by
     rw [I5.len,List.length_append,List.length_replicate,I.len]
     show (N' ++ own).length=_
     rw [List.length_append,Mk.len]
    have I5':Inv (blk X N' own scope s3 H3 fp pins) [] (σ ++ List.replicate own.length none) H5 s5:=I5.weak lenσ.symm fun j v e=>by
     have hj:j < σ.length:= by
      by_cases hj:j < σ.length
      ·exact hj
      ·rw [List.getElem?_append_right (by omega),List.getElem?_replicate] at e
       split at e <;> cases e
     rw [List.getElem?_append_left hj] at e
     rw [<- e5,List.getElem?_take_of_lt hj] at e
     exact e
    refine wpAny_mono (T.item (blk X N' own scope s3 H3 fp pins) rfl rfl rfl (hc _ _ _ _) i [] s5 _ H5 (fun _ _=>False) I5' (stat fr5) st5 go) (fun r s6 hr=>?_) fun _ _ z=>z
    obtain ⟨u,rfl,h6⟩:=hr
    refine bx h6 fun _ s7 ⟨x,H7,I7,r7,y7,st7,fr7⟩=>?_
    have I7':=I7.pinned (stat fr7) (T.obj _ _ st7)
    refine bx (hg s3 H3 fp pins _ s7 _ H7 x u _ I7' r7 (step x H7 y7)) fun _ s8 ⟨σ8,H8,I8,e8,q8⟩=>?_
    refine bx (ht s3 H3 fp pins _ s8 σ8 H8 _ I8 q8) fun b s9 ⟨H9,I9,q9⟩=>?_
    have again:∀ {Ha:Hp} {sa:Shared} {acc':List V} {m':Nat},Inv (blk X N' own scope s3 H3 fp pins) ([] ++ iq fp s7.heap) σ8 Ha sa->m' < n->W (i + 1) m' acc' Ha ->
      ∃ m,m < n∧∃ i σ' H' acc,Inv (blk X N' own scope s3 H3 fp pins) [] σ' H' sa∧σ'.take σ.length=σ∧tn i sa.heap∧(∀ b ∈ fp,H' b=none)∧W i m acc H':=fun {Ha sa acc' m'} Ia hm wa=>by
     refine ⟨m',hm,i + 1,σ8,Ha,acc',Ia.unpinned,e8,T.keep _ _ _ st7 fun b hb o e=>(Ia.pin (b,o) (List.mem_append_right _ (List.mem_append_right _ (cg hb e)))).1,fun b hb=>?_,wa⟩
     obtain ⟨o,e,d⟩:=T.obj _ _ st7 b hb
     exact (Ia.pin (b,o) (List.mem_append_right _ (List.mem_append_right _ (cg hb e)))).2.1
    cases b with
    | false=>
     rw [if_neg Bool.false_ne_true] at q9 ⊢
     obtain ⟨m',hm,wa⟩:=q9
     exact again I9 hm wa
    | true=>
     rw [if_pos rfl] at q9 ⊢
     refine bx (he s3 H3 fp pins _ s9 σ8 H9 _ I9 q9) fun y s10 ⟨v,H10,I10,rv,a10,z10,m',hm,wa⟩=>?_
     exact bx (mh _ s10 σ8 H10 (.ref l) [v] (.ref l) [y] (fun _ Hb=>Hb=upd H10 l (.lst (acc ++ [v]))) I10 rfl (.cons rv .nil) ⟨l,acc,v,rfl,rfl,a10,z10,rfl⟩) fun _ s11 ⟨_,Hb,Ib,_,eb⟩=>by
      subst eb
      exact again Ib hm wa
  exact codeAny_compStart_list loop (T.self _ 0 _ _ _ st4 loop)
 exact goal
theorem Av (hi:PI X tg iter wi) (hg:∀ s H fp pins,PG (blk X N' own scope s H fp pins) tg g) (ht:∀ s H fp pins,qj (blk X N' own scope s H fp pins) ifs tt) (he:∀ s H fp pins,PE (blk X N' own scope s H fp pins) elt te)
  (hS:dP N' own X.env.scope scope=true:=by rfl) (hM:dQ X.N N' scope=true:=by rfl) (hk:scope.kind=.function:=by rfl) (hc:X.calm=true:=by rfl) (hs:∀ x,foldedSetIterable iter X.env x=pure x:=by intro _;rfl) :
  PE X (.ListComp elt [⟨tg,iter,ifs,0⟩] scope pos) (r8 wi own.length g tt te):= by
 intro pins s σ H Q I h
 rw [eval_ListComp]
 refine rA (use:=none) (cal:=fun X=>X.calm=true) (fun _ _ _ _=>hc) hi.g hk hS hM hg ht he hs I h fun l H' s' C m I' q hn h1 h2 h3 h4 h5=>?_
 refine ⟨m,hn,fun h' sb=>⟨.ref l,H',?_,rfl,q⟩⟩
 exact I'.turned (t':=s'.toks) (fun b o hb e=>(sb.2 b hb).trans e) h1 h2 (.inr h3) h4 h5
theorem tH {i:Nat} {x:Str} {pos'' pos1:Pos} (hN:X.N.Nodup) (hx0:X.N[i]? = some x) (hx:X.env.scope.names.lookup x=some .local)
  (hi:PI X tg iter wi) (hg:∀ s H fp pins,PG (blk X N' own scope s H fp pins) tg g) (ht:∀ s H fp pins,qj (blk X N' own scope s H fp pins) ifs tt) (he:∀ s H fp pins,PE (blk X N' own scope s H fp pins) elt te)
  (hsw:swapsWith (.ListComp elt [⟨tg,iter,ifs,0⟩] scope pos) (some (.Name x pos'')) pos1.line X.env=pure true:=by rfl)
  (hS:dP N' own X.env.scope scope=true:=by rfl) (hM:dQ X.N N' scope=true:=by rfl) (hk:scope.kind=.function:=by rfl) (hc:X.calm=true:=by rfl) (hs:∀ x,foldedSetIterable iter X.env x=pure x:=by intro _;rfl) :
  PS X (.Assign [.Name x pos''] (.ListComp elt [⟨tg,iter,ifs,0⟩] scope pos) pos1) (vC (r8 wi own.length g tt te) (p7 i)):= by
 intro pins s σ H D I h
 rw [exec_Assign_Name_used _ _ _ _ hsw]
 refine wpAny_bind (wpAny_standAt (wpAny_bind ?_))
 show wpAny _ _ (do let _ <- comprehension (.ListComp elt [⟨tg,iter,ifs,0⟩] scope pos) scope X.env _ (newList []) false (eval iter X.env) (some (assign (.Name x pos'') X.env))) _ _ s
 refine wpAny_bind (wpAny_mono (Q:=fun _ s'=>SP X pins D .next s') ?_ (fun _ s' hq=>wpAny_pure (wpAny_pure hq)) fun _ _ e=>e)
 refine rA (use:=some (assign (.Name x pos'') X.env)) (cal:=fun X=>X.calm=true) (fun _ _ _ _=>hc) hi.g hk hS hM hg ht he hs I h fun l H' s' C m I' q hn h1 h2 h3 h4 h5=>?_
 show wpAny _ _ (assign (.Name x pos'') X.env (.ref l)) _ _ s'
 refine wpAny_assign_Name (lQ I' hN hx0 (.inl hx) (v:=.ref l) (u:=.ref l) rfl (fun s'' I'' hsb=>?_) (.inr hx))
 obtain ⟨a,sb,ha⟩:=hsb
 have hCa:C ≠ a:= by
  rcases ha with z | z
  ·rw [z];exact h2
  ·exact Ne.symm (h4 _ _ z)
 refine ⟨m,hn.sameBut sb hCa,fun h' sb'=>⟨σ.set i (some (.ref l)),H',?_,q⟩⟩
 exact I''.turned (t':=s''.toks) (fun b o hb e=>(sb'.2 b hb).trans e) h1 h2 (.inr h3) h4 h5
end
end L2
namespace Jt
open PySem L2
inductive D where
 | non | bl (b:Bool) | int (i:Int) | str (x:Str) | tup (xs:List D) | lst (xs:List D) | dct | dic (kvs:List (Int × Int)) | dip (kvs:List ((Int × Int) × Int))
def wH (a:Addr):HO:=.ext fun h=>a ≠ sysModules∧∃ o n,h.get? a=some o∧o.cls=.type "dict" ∧ o.data=.dict #[] n
abbrev yU (kvs:List (Int × Int)):HO:=.dK (kvs.map fun p=>(.inl p.1,.int p.2))
abbrev eC (kvs:List ((Int × Int) × Int)):HO:=.dT (kvs.map fun p=>([.inl p.1.1,.inl p.1.2],.int p.2))
mutual
def R (H:Hp):D->V->Prop
 | .non,v=>v=.non
 | .bl b,v=>v=.bl b
 | .int i,v=>v=.int i
 | .str x,v=>v=.str x
 | .tup ds,v=>∃ a vs,v=.ref a∧H a=some (.tup vs)∧Rs H ds vs
 | .lst ds,v=>∃ a vs,v=.ref a∧Rd H a (.lst vs)∧Rs H ds vs
 | .dct,v=>∃ a,v=.ref a∧H a=some (wH a)
 | .dic kvs,v=>∃ a,v=.ref a∧H a=some (yU kvs)
 | .dip kvs,v=>∃ a,v=.ref a∧H a=some (eC kvs)
def Rs (H:Hp):List D->List V->Prop
 | [],vs=>vs=[]
 | d :: ds,vs=>∃ v r,vs=v :: r∧R H d v∧Rs H ds r
end
theorem Rd.mono {H H':Hp} {a:Addr} {u:HO} (m:∀ b o,H b=some o->H' b=some o) (h:Rd H a u):Rd H' a u:= by
 rcases h with h | ⟨o,h⟩
 ·exact .inl (m _ _ h)
 ·exact .inr ⟨o,m _ _ h⟩
mutual
theorem R.mono {H H':Hp} (m:∀ b o,H b=some o->H' b=some o):∀ (d:D) (v:V),R H d v->R H' d v
 | .non,v,h=>by unfold R at *;exact h
 | .bl b,v,h=>by unfold R at *;exact h
 | .int i,v,h=>by unfold R at *;exact h
 | .str x,v,h=>by unfold R at *;exact h
 | .tup ds,v,h=>by
  unfold R at *
  obtain ⟨a,vs,e,h1,h2⟩:=h
  exact ⟨a,vs,e,m _ _ h1,Rs.mono m ds vs h2⟩
 | .lst ds,v,h=>by
  unfold R at *
  obtain ⟨a,vs,e,h1,h2⟩:=h
  exact ⟨a,vs,e,Rd.mono m h1,Rs.mono m ds vs h2⟩
 | .dct,v,h=>by
  unfold R at *
  obtain ⟨a,e,h1⟩:=h
  exact ⟨a,e,m _ _ h1⟩
 | .dic kvs,v,h=>by
  unfold R at *
  obtain ⟨a,e,h1⟩:=h
  exact ⟨a,e,m _ _ h1⟩
 | .dip kvs,v,h=>by
  unfold R at *
  obtain ⟨a,e,h1⟩:=h
  exact ⟨a,e,m _ _ h1⟩
theorem Rs.mono {H H':Hp} (m:∀ b o,H b=some o->H' b=some o):∀ (ds:List D) (vs:List V),Rs H ds vs->Rs H' ds vs
 | [],vs,h=>by unfold Rs at *;exact h
 | d :: ds,vs,h=>by
  unfold Rs at *
  obtain ⟨v,r,e,h1,h2⟩:=h
  exact ⟨v,r,e,R.mono m d v h1,Rs.mono m ds r h2⟩
end
theorem Rs.nil {H:Hp}:Rs H [] []:=by unfold Rs;rfl
theorem Rs.cons {H:Hp} {d:D} {v:V} {ds:List D} {vs:List V} (h:R H d v) (t:Rs H ds vs):Rs H (d :: ds) (v :: vs):= by
 unfold Rs;exact ⟨v,vs,rfl,h,t⟩
theorem Rs.inv {H:Hp} {d:D} {ds:List D} {vs:List V} (h:Rs H (d :: ds) vs):∃ v r,vs=v :: r∧R H d v∧Rs H ds r:= by
 unfold Rs at h;exact h
theorem Rs.inv0 {H:Hp} {vs:List V} (h:Rs H [] vs):vs=[]:=by unfold Rs at h;exact h
theorem Rs.head {H:Hp} {d:D} {v:V} {ds:List D} {vs:List V} (h:Rs H (d :: ds) (v :: vs)):R H d v:= by
 obtain ⟨v',r,e,h1,h2⟩:=h.inv;cases e;exact h1
theorem Rs.tail {H:Hp} {d:D} {v:V} {ds:List D} {vs:List V} (h:Rs H (d :: ds) (v :: vs)):Rs H ds vs:= by
 obtain ⟨v',r,e,h1,h2⟩:=h.inv;cases e;exact h2
theorem Rs.length {H:Hp}:∀ {ds:List D} {vs:List V},Rs H ds vs->vs.length=ds.length
 | [],vs,h=>by rw [h.inv0];rfl
 | d :: ds,vs,h=>by
  obtain ⟨v,r,e,_,h2⟩:=h.inv
  subst e
  simp [Rs.length h2]
theorem Rs.append {H:Hp}:∀ {ds es:List D} {vs us:List V},Rs H ds vs->Rs H es us->Rs H (ds ++ es) (vs ++ us)
 | [],es,vs,us,h,t=>by rw [h.inv0];exact t
 | d :: ds,es,vs,us,h,t=>by
  obtain ⟨v,r,e,h1,h2⟩:=h.inv
  subst e
  exact .cons h1 (Rs.append h2 t)
theorem Rs.left {H:Hp}:∀ {ds es:List D} {vs us:List V},vs.length=ds.length->Rs H (ds ++ es) (vs ++ us)->Rs H ds vs
 | [],es,[],us,_,h=>.nil
 | d :: ds,es,v :: vs,us,l,h=>.cons h.head (Rs.left (by simpa using l) h.tail)
 | [],_,_ :: _,_,l,_=>by cases l
 | _ :: _,_,[],_,l,_=>by cases l
theorem Rs.right {H:Hp}:∀ {ds es:List D} {vs us:List V},vs.length=ds.length->Rs H (ds ++ es) (vs ++ us)->Rs H es us
 | [],es,[],us,_,h=>h
 | d :: ds,es,v :: vs,us,l,h=>Rs.right (ds:=ds) (vs:=vs) (by simpa using l) h.tail
 | [],_,_ :: _,_,l,_=>by cases l
 | _ :: _,_,[],_,l,_=>by cases l
theorem Rs.get {H:Hp}:∀ {ds:List D} {vs:List V} {i:Nat} {d:D},Rs H ds vs->ds[i]? = some d->∃ v,vs[i]? = some v∧R H d v
 | [],_,_,_,_,e=>by simp at e
 | d :: ds,vs,0,d',h,e=>by
  obtain ⟨v,r,e',h1,h2⟩:=h.inv
  subst e'
  simp at e;subst e
  exact ⟨v,rfl,h1⟩
 | d :: ds,vs,i + 1,d',h,e=>by
  obtain ⟨v,r,e',h1,h2⟩:=h.inv
  subst e'
  obtain ⟨v',e2,h3⟩:=Rs.get (i:=i) h2 (by simpa using e)
  exact ⟨v',by simpa using e2,h3⟩
theorem R.tup {H:Hp} {ds:List D} {v:V} (h:R H (.tup ds) v):∃ a vs,v=.ref a∧H a=some (.tup vs)∧Rs H ds vs:=by unfold R at h;exact h
theorem R.lst {H:Hp} {ds:List D} {v:V} (h:R H (.lst ds) v):∃ a vs,v=.ref a∧Rd H a (.lst vs)∧Rs H ds vs:=by unfold R at h;exact h
theorem R.dct {H:Hp} {v:V} (h:R H .dct v):∃ a,v=.ref a∧H a=some (wH a):=by unfold R at h;exact h
theorem R.dic {H:Hp} {kvs:List (Int × Int)} {v:V} (h:R H (.dic kvs) v):∃ a,v=.ref a∧H a=some (yU kvs):=by unfold R at h;exact h
theorem R.dip {H:Hp} {kvs:List ((Int × Int) × Int)} {v:V} (h:R H (.dip kvs) v):∃ a,v=.ref a∧H a=some (eC kvs):=by unfold R at h;exact h
theorem R.mkDip {H:Hp} {kvs:List ((Int × Int) × Int)} {a:Addr} (h:H a=some (eC kvs)):R H (.dip kvs) (.ref a):=by unfold R;exact ⟨a,rfl,h⟩
theorem R.int {H:Hp} {i:Int} {v:V} (h:R H (.int i) v):v=.int i:=by unfold R at h;exact h
theorem R.bl {H:Hp} {i:Bool} {v:V} (h:R H (.bl i) v):v=.bl i:=by unfold R at h;exact h
theorem R.str {H:Hp} {i:Str} {v:V} (h:R H (.str i) v):v=.str i:=by unfold R at h;exact h
theorem R.non {H:Hp} {v:V} (h:R H .non v):v=.non:=by unfold R at h;exact h
theorem R.mkI {H:Hp} {i:Int}:R H (.int i) (.int i):=by unfold R;rfl
theorem R.mkB {H:Hp} {i:Bool}:R H (.bl i) (.bl i):=by unfold R;rfl
theorem R.mkN {H:Hp}:R H .non .non:=by unfold R;rfl
theorem R.mkT {H:Hp} {a:Addr} {ds:List D} {vs:List V} (h:H a=some (.tup vs)) (t:Rs H ds vs):R H (.tup ds) (.ref a):=by unfold R;exact ⟨a,vs,rfl,h,t⟩
theorem R.mkL {H:Hp} {a:Addr} {ds:List D} {vs:List V} (h:Rd H a (.lst vs)) (t:Rs H ds vs):R H (.lst ds) (.ref a):=by unfold R;exact ⟨a,vs,rfl,h,t⟩
inductive Slot where
 | un | pu (d:D) | ow (b:Bool) (xs:List D)
abbrev DS:=List Slot
structure Ct where
 Z:Hp
 B:List Addr
 H0:Hp
def tE (δ:DS) (σ:St) (a:Addr):Prop:=∃ (i:Nat) (b:Bool) (xs:List D),δ[i]? = some (.ow b xs)∧σ[i]? = some (some (.ref a))
open Classical in
def Cg (p:Addr->Prop) (H:Hp):Hp:=fun a=>if p a then none else H a
def Hd (c:Ct) (δ:DS) (σ:St) (a:Addr):Prop:=(∃ o,c.Z a=some o) ∨ tE δ σ a
abbrev eD (c:Ct) (δ:DS) (σ:St) (H:Hp):Hp:=Cg (Hd c δ σ) H
theorem dM {p:Addr->Prop} {H:Hp} {a:Addr} {o:HO}:Cg p H a=some o ↔ ¬ p a∧H a=some o:= by
 unfold Cg
 by_cases h:p a
 ·rw [if_pos h];exact Iff.intro (fun z=>nomatch z) (fun z=>absurd h z.1)
 ·rw [if_neg h];exact Iff.intro (fun z=>And.intro h z) (fun z=>z.2)
theorem aV {p q:Addr->Prop} {H H':Hp} (hp:∀ a o,H a=some o->q a->p a) (hH:∀ a o,¬ p a->H a=some o->H' a=some o):∀ b o,Cg p H b=some o->Cg q H' b=some o:=fun b o h=>by
 obtain ⟨h1,h2⟩:=dM.mp h
 exact dM.mpr ⟨fun z=>h1 (hp b o h2 z),hH b o h1 h2⟩
def Ee (Z H:Hp):Prop:=∀ a o,Z a=some o->H a=some o∧∀ xs,o ≠ .tup xs
structure Sl (c:Ct) (δ:DS) (S:List D) (σ:St) (T:List V) (H:Hp):Prop where
 len:δ.length=σ.length
 pu:∀ (i:Nat) d,δ[i]? = some (.pu d)->∃ v,σ[i]? = some (some v)∧R (eD c δ σ H) d v
 ow:∀ (i:Nat) b xs,δ[i]? = some (.ow b xs)->∃ a vs,σ[i]? = some (some (.ref a))∧H a=some (.lst vs)∧Rs (eD c δ σ H) xs vs∧(b=true->a ∈ c.B)∧(b=false->a ∉ c.B∧c.H0 a=none)∧c.Z a=none
 ne:∀ (i j:Nat) b b' xs ys a,δ[i]? = some (.ow b xs)->δ[j]? = some (.ow b' ys)->σ[i]? = some (some (.ref a))->σ[j]? = some (some (.ref a))->i=j
 st:Rs (eD c δ σ H) S T
 keep:∀ b o,b ∉ c.B->c.H0 b=some o->H b=some o
 bb:∀ b ∈ c.B,∃ o,H b=some o
 zk:Ee c.Z H
section
variable {c:Ct} {δ:DS} {S:List D} {σ:St} {T:List V} {H:Hp}
theorem Sl.zz (s:Sl c δ S σ T H):∀ a o,c.Z a=some o->H a=some o:=fun a o h=>(s.zk a o h).1
theorem Sl.hdSome (s:Sl c δ S σ T H) {a:Addr} (h:Hd c δ σ a):∃ o,H a=some o:= by
 rcases h with ⟨o,h⟩ | ⟨i,b,xs,h1,h2⟩
 ·exact ⟨o,s.zz _ _ h⟩
 ·obtain ⟨a',vs,e,h3,_⟩:=s.ow i b xs h1
  rw [h2] at e;cases e
  exact ⟨_,h3⟩
theorem Sl.stk (s:Sl c δ S σ T H) {S':List D} {T':List V} (h:Rs (eD c δ σ H) S' T'):Sl c δ S' σ T' H:=⟨s.len,s.pu,s.ow,s.ne,h,s.keep,s.bb,s.zk⟩
theorem Sl.pop {d:D} {v:V} (s:Sl c δ (d :: S) σ (v :: T) H):Sl c δ S σ T H:=s.stk s.st.tail
theorem Sl.grow (s:Sl c δ S σ T H) {H':Hp} (g:xW H H'):Sl c δ S σ T H':= by
 have m:∀ b o,eD c δ σ H b=some o->eD c δ σ H' b=some o:=aV (fun _ _ _ z=>z) fun a o _ h=>g a o h
 refine ⟨s.len,fun i d h=>?_,fun i b xs h=>?_,s.ne,s.st.mono m,fun b o h1 h2=>g _ _ (s.keep b o h1 h2),fun b hb=>?_,fun a o hz=>⟨g _ _ (s.zz a o hz),(s.zk a o hz).2⟩⟩
 ·obtain ⟨v,e,r⟩:=s.pu i d h
  exact ⟨v,e,r.mono m⟩
 ·obtain ⟨a,vs,e,h1,h2,h3⟩:=s.ow i b xs h
  exact ⟨a,vs,e,g _ _ h1,h2.mono m,h3⟩
 ·obtain ⟨o,h⟩:=s.bb b hb
  exact ⟨o,g _ _ h⟩
theorem iX {H:Hp} {p:Addr} (h:H p=none) (o:HO):xW H (upd H p o):=fun b u q=>by rw [aq (aJ q h)];exact q
theorem Sl.hdNew (s:Sl c δ S σ T H) {p:Addr} (h:H p=none):¬ Hd c δ σ p:=fun z=>by
 obtain ⟨o,e⟩:=s.hdSome z
 rw [h] at e;cases e
theorem Sl.fresh (s:Sl c δ S σ T H) {p:Addr} (h:H p=none):c.Z p=none∧p ∉ c.B∧c.H0 p=none:= by
 have hB:p ∉ c.B:=fun z=>by
  obtain ⟨o,e⟩:=s.bb p z
  rw [h] at e;cases e
 refine ⟨?_,hB,?_⟩
 ·cases e:c.Z p with
  | none=>rfl
  | some o=>have:=s.zz p o e;rw [h] at this;cases this
 ·cases e:c.H0 p with
  | none=>rfl
  | some o=>have:=s.keep p o hB e;rw [h] at this;cases this
theorem Sl.newTup {ds:List D} {vs:List V} (s:Sl c δ (ds ++ S) σ (vs ++ T) H) (l:vs.length=ds.length) {p:Addr} (h:H p=none):Sl c δ (.tup ds :: S) σ (.ref p :: T) (upd H p (.tup vs)):= by
 have s':=s.grow (iX h (.tup vs))
 exact s'.stk (.cons (.mkT (dM.mpr ⟨s.hdNew h,ay⟩) (s'.st.left l)) (s'.st.right l))
theorem Sl.hide (s:Sl c δ S σ T H) {p:Addr} {o:HO} (h:H p=none) (hn:∀ xs,o ≠ .tup xs:=by exact fun _ h=>nomatch h):Sl { c with Z:=upd c.Z p o } δ S σ T (upd H p o):= by
 have g:=iX h o
 have m:∀ b u,eD c δ σ H b=some u->eD { c with Z:=upd c.Z p o } δ σ (upd H p o) b=some u:=aV (fun a u e z=>by
  rcases z with ⟨w,z⟩ | z
  ·have:a ≠ p:=fun q=>by rw [q,h] at e;cases e
   exact .inl ⟨w,(show c.Z a=upd c.Z p o a from (aq this).symm).trans z⟩
  ·exact .inr z) fun a u _ e=>g a u e
 refine ⟨s.len,fun i d e=>?_,fun i b xs e=>?_,s.ne,s.st.mono m,fun b u h1 h2=>g _ _ (s.keep b u h1 h2),fun b hb=>?_,fun a u hz=>?_⟩
 ·obtain ⟨v,e,r⟩:=s.pu i d e
  exact ⟨v,e,r.mono m⟩
 ·obtain ⟨a,vs,e,h1,h2,h3,h4,h5⟩:=s.ow i b xs e
  refine ⟨a,vs,e,g _ _ h1,h2.mono m,h3,h4,?_⟩
  show upd c.Z p o a=none
  rw [aq fun q=>by rw [q,h] at h1;cases h1];exact h5
 ·obtain ⟨u,e⟩:=s.bb b hb
  exact ⟨u,g _ _ e⟩
 ·have hz':upd c.Z p o a=some u:=hz
  by_cases q:a=p
  ·subst q;rw [ay] at hz' ⊢;exact ⟨hz',by cases hz';exact hn⟩
  ·rw [aq q] at hz' ⊢;exact s.zk a u hz'
theorem Sl.noOw {p:Addr} {o:HO} (s:Sl { c with Z:=upd c.Z p o } δ S σ T H):¬ tE δ σ p:=fun ⟨i,b,xs,h1,h2⟩=>by
 obtain ⟨a,vs,e,_,_,_,_,h4⟩:=s.ow i b xs h1
 rw [h2] at e;cases e
 have h4':upd c.Z p o p=none:=h4
 rw [ay] at h4';cases h4'
theorem Sl.hideSet {p:Addr} {o:HO} (o':HO) (s:Sl { c with Z:=upd c.Z p o } δ S σ T H) (hB:p ∉ c.B) (h0:c.H0 p=none) (hn:∀ xs,o' ≠ .tup xs:=by exact fun _ h=>nomatch h):Sl { c with Z:=upd c.Z p o' } δ S σ T (upd H p o'):= by
 have hpH:H p=some o:=s.zz p o ay
 have npow:=s.noOw
 have m:∀ b u,eD { c with Z:=upd c.Z p o } δ σ H b=some u->eD { c with Z:=upd c.Z p o' } δ σ (upd H p o') b=some u:=aV (fun a u e z=>by
  rcases z with ⟨w,z⟩ | z
  ·have z':upd c.Z p o' a=some w:=z
   by_cases q:a=p
   ·subst q;exact .inl ⟨o,ay⟩
   ·rw [aq q] at z';exact .inl ⟨w,by show upd c.Z p o a=some w;rw [aq q];exact z'⟩
  ·exact .inr z) fun a u ha e=>by
   have:a ≠ p:=fun z=>ha (.inl ⟨o,by rw [z];exact ay⟩)
   rw [aq this];exact e
 refine ⟨s.len,fun i d e=>?_,fun i b xs e=>?_,s.ne,s.st.mono m,fun b u h1 h2=>?_,fun b hb=>?_,fun a u hz=>?_⟩
 ·obtain ⟨v,e,r⟩:=s.pu i d e
  exact ⟨v,e,r.mono m⟩
 ·have hx:=e
  obtain ⟨a,vs,e,h1,h2,h3,h4,h5⟩:=s.ow i b xs e
  have hap:a ≠ p:=fun z=>npow ⟨i,b,xs,hx,by rw [e,z]⟩
  refine ⟨a,vs,e,by rw [aq hap];exact h1,h2.mono m,h3,h4,?_⟩
  have h5':upd c.Z p o a=none:=h5
  show upd c.Z p o' a=none
  rw [aq hap] at h5' ⊢;exact h5'
 ·have:b ≠ p:=fun z=>by
   have h2':c.H0 b=some u:=h2
   rw [z,h0] at h2';cases h2'
  rw [aq this];exact s.keep b u h1 h2
 ·have:b ≠ p:=fun z=>hB (z ▸ hb)
  rw [aq this];exact s.bb b hb
 ·have hz':upd c.Z p o' a=some u:=hz
  by_cases q:a=p
  ·subst q;rw [ay] at hz' ⊢;exact ⟨hz',by cases hz';exact hn⟩
  ·rw [aq q] at hz' ⊢;exact s.zk a u (by show upd c.Z p o a=some u;rw [aq q];exact hz')
theorem Sl.unhideL {p:Addr} {xs:List D} {vs:List V} (s:Sl { c with Z:=upd c.Z p (.lst vs) } δ (xs ++ S) σ (vs ++ T) H) (l:vs.length=xs.length) (hp:c.Z p=none):Sl c δ (.lst xs :: S) σ (.ref p :: T) H:= by
 have hpH:H p=some (.lst vs):=s.zz p _ ay
 have npow:=s.noOw
 have zc:∀ a u,c.Z a=some u->upd c.Z p (.lst vs) a=some u:=fun a u h=>by rw [aq fun q=>by rw [q,hp] at h;cases h];exact h
 have m:∀ b u,eD { c with Z:=upd c.Z p (.lst vs) } δ σ H b=some u->eD c δ σ H b=some u:=aV (fun a u e z=>by
  rcases z with ⟨w,z⟩ | z
  ·exact .inl ⟨w,zc a w z⟩
  ·exact .inr z) fun a u ha e=>e
 refine ⟨s.len,fun i d e=>?_,fun i b xs e=>?_,s.ne,.cons (.mkL (.inl (dM.mpr ⟨fun z=>?_,hpH⟩)) ((s.st.left l).mono m)) ((s.st.right l).mono m),s.keep,s.bb,fun a u hz=>s.zk a u (zc a u hz)⟩
 ·obtain ⟨v,e,r⟩:=s.pu i d e
  exact ⟨v,e,r.mono m⟩
 ·obtain ⟨a,vs',e,h1,h2,h3,h4,h5⟩:=s.ow i b xs e
  refine ⟨a,vs',e,h1,h2.mono m,h3,h4,?_⟩
  have h5':upd c.Z p (.lst vs) a=none:=h5
  by_cases q:a=p
  ·rw [q];exact hp
  ·rwa [aq q] at h5'
 ·rcases z with ⟨u,z⟩ | z
  ·rw [hp] at z;cases z
  ·exact npow z
theorem Sl.setPu {d:D} {v:V} {i:Nat} (s:Sl c δ (d :: S) σ (v :: T) H) (hi:i < δ.length):Sl c (δ.set i (.pu d)) S (σ.set i (some v)) T H:= by
 have ow':∀ a,tE (δ.set i (.pu d)) (σ.set i (some v)) a->tE δ σ a:=fun a ⟨j,b,xs,h1,h2⟩=>by
  by_cases e:i=j
  ·subst e;rw [List.getElem?_set_self hi] at h1;cases h1
  ·rw [List.getElem?_set_ne e] at h1 h2;exact ⟨j,b,xs,h1,h2⟩
 have m:∀ b u,eD c δ σ H b=some u->eD c (δ.set i (.pu d)) (σ.set i (some v)) H b=some u:=aV (fun a u e z=>z.elim .inl fun z=>.inr (ow' a z)) fun a u _ e=>e
 refine ⟨by simpa using s.len,fun j d' h=>?_,fun j b xs h=>?_,fun j k b b' xs ys a h1 h2 h3 h4=>?_,s.st.tail.mono m,s.keep,s.bb,s.zk⟩
 ·by_cases e:i=j
  ·subst e
   rw [List.getElem?_set_self hi] at h;cases h
   exact ⟨v,by rw [List.getElem?_set_self (by rw [<- s.len];exact hi)],s.st.head.mono m⟩
  ·rw [List.getElem?_set_ne e] at h ⊢
   obtain ⟨v',e',r⟩:=s.pu j d' h
   exact ⟨v',e',r.mono m⟩
 ·by_cases e:i=j
  ·subst e;rw [List.getElem?_set_self hi] at h;cases h
  ·rw [List.getElem?_set_ne e] at h ⊢
   obtain ⟨a,vs,e,h1,h2,h3⟩:=s.ow j b xs h
   exact ⟨a,vs,e,h1,h2.mono m,h3⟩
 ·by_cases e:i=j
  ·subst e;rw [List.getElem?_set_self hi] at h1;cases h1
  ·by_cases e':i=k
   ·subst e';rw [List.getElem?_set_self hi] at h2;cases h2
   ·rw [List.getElem?_set_ne e] at h1 h3;rw [List.getElem?_set_ne e'] at h2 h4
    exact s.ne j k b b' xs ys a h1 h2 h3 h4
theorem Sl.setOw {p:Addr} {xs:List D} {vs:List V} {i:Nat} (s:Sl { c with Z:=upd c.Z p (.lst vs) } δ (xs ++ S) σ (vs ++ T) H) (l:vs.length=xs.length) (hp:c.Z p=none) (hB:p ∉ c.B) (h0:c.H0 p=none) (hi:i < δ.length) :
  Sl c (δ.set i (.ow false xs)) S (σ.set i (some (.ref p))) T H:= by
 have hpH:H p=some (.lst vs):=s.zz p _ ay
 have npow:∀ (j:Nat) b ys,δ[j]? = some (.ow b ys)->σ[j]? ≠ some (some (.ref p)):=fun j b ys h1 h2=>s.noOw ⟨j,b,ys,h1,h2⟩
 have zc:∀ a u,c.Z a=some u->upd c.Z p (.lst vs) a=some u:=fun a u h=>by rw [aq fun q=>by rw [q,hp] at h;cases h];exact h
 have hiσ:i < σ.length:=by rw [<- s.len];exact hi
 have m:∀ b u,eD { c with Z:=upd c.Z p (.lst vs) } δ σ H b=some u->eD c (δ.set i (.ow false xs)) (σ.set i (some (.ref p))) H b=some u:=aV (fun a u e z=>by
  rcases z with ⟨w,z⟩ | ⟨j,b,ys,h1,h2⟩
  ·exact .inl ⟨w,zc a w z⟩
  ·by_cases e:i=j
   ·subst e
    rw [List.getElem?_set_self hiσ] at h2;cases h2
    exact .inl ⟨_,ay⟩
   ·rw [List.getElem?_set_ne e] at h1 h2;exact .inr ⟨j,b,ys,h1,h2⟩) fun a u _ e=>e
 refine ⟨by simpa using s.len,fun j d' h=>?_,fun j b ys h=>?_,fun j k b b' ys zs a h1 h2 h3 h4=>?_,(s.st.right l).mono m,s.keep,s.bb,fun a u hz=>s.zk a u (zc a u hz)⟩
 ·by_cases e:i=j
  ·subst e;rw [List.getElem?_set_self hi] at h;cases h
  ·rw [List.getElem?_set_ne e] at h ⊢
   obtain ⟨v',e',r⟩:=s.pu j d' h
   exact ⟨v',e',r.mono m⟩
 ·by_cases e:i=j
  ·subst e
   rw [List.getElem?_set_self hi] at h;cases h
   exact ⟨p,vs,by rw [List.getElem?_set_self hiσ],hpH,(s.st.left l).mono m,(fun z=>absurd z Bool.false_ne_true),(fun _=>⟨hB,h0⟩),hp⟩
  ·rw [List.getElem?_set_ne e] at h ⊢
   have hx:=h
   obtain ⟨a,ws,e,h1,h2,h3,h4,h5⟩:=s.ow j b ys h
   refine ⟨a,ws,e,h1,h2.mono m,h3,h4,?_⟩
   have h5':upd c.Z p (.lst vs) a=none:=h5
   rwa [aq fun q=>npow j b ys hx (by rw [e,q])] at h5'
 ·by_cases e:i=j
  ·subst e
   rw [List.getElem?_set_self hiσ] at h3;cases h3
   by_cases e':i=k
   ·exact e'
   ·rw [List.getElem?_set_ne e'] at h2 h4
    exact absurd h4 (npow k b' zs h2)
  ·rw [List.getElem?_set_ne e] at h1 h3
   by_cases e':i=k
   ·subst e'
    rw [List.getElem?_set_self hiσ] at h4;cases h4
    exact absurd h3 (npow j b ys h1)
   ·rw [List.getElem?_set_ne e'] at h2 h4
    exact s.ne j k b b' ys zs a h1 h2 h3 h4
theorem Sl.giveOw {a:Addr} {xs:List D} {i:Nat} (s:Sl c δ S σ T H) (hi:δ[i]? = some (.ow false xs)) (ha:σ[i]? = some (some (.ref a))) :
  ∃ vs,vs.length=xs.length∧Sl { c with Z:=upd c.Z a (.lst vs) } (δ.set i .un) (xs ++ S) σ (vs ++ T) H∧c.Z a=none∧a ∉ c.B∧c.H0 a=none:= by
 have hiδ:i < δ.length:=(List.getElem?_eq_some_iff.mp hi).1
 obtain ⟨a',vs,e,hH,hv,_,hB,hZ⟩:=s.ow i false xs hi
 rw [ha] at e;cases e
 have owi:∀ b,tE (δ.set i .un) σ b->tE δ σ b∧b ≠ a:=fun b ⟨j,bb,ys,h1,h2⟩=>by
  by_cases e:i=j
  ·subst e;rw [List.getElem?_set_self hiδ] at h1;cases h1
  ·rw [List.getElem?_set_ne e] at h1
   exact ⟨⟨j,bb,ys,h1,h2⟩,fun q=>e (s.ne i j _ _ _ _ a hi h1 ha (by rw [h2,q]))⟩
 have m:∀ b u,eD c δ σ H b=some u->eD { c with Z:=upd c.Z a (.lst vs) } (δ.set i .un) σ H b=some u:=aV (fun b u e z=>by
  rcases z with ⟨w,z⟩ | z
  ·by_cases q:b=a
   ·subst q;exact .inr ⟨i,false,xs,hi,ha⟩
   ·exact .inl ⟨w,(show c.Z b=upd c.Z a (.lst vs) b from (aq q).symm).trans z⟩
  ·exact .inr (owi b z).1) fun b u _ e=>e
 refine ⟨vs,hv.length,⟨by simpa using s.len,fun j d h=>?_,fun j b ys h=>?_,fun j k b b' ys zs x h1 h2 h3 h4=>?_,(hv.append s.st).mono m,s.keep,s.bb,fun x u hz=>?_⟩,hZ,(hB rfl).1,(hB rfl).2⟩
 ·have e:i ≠ j:=fun e=>by subst e;rw [List.getElem?_set_self hiδ] at h;cases h
  rw [List.getElem?_set_ne e] at h
  obtain ⟨v',e',r⟩:=s.pu j d h
  exact ⟨v',e',r.mono m⟩
 ·have e:i ≠ j:=fun e=>by subst e;rw [List.getElem?_set_self hiδ] at h;cases h
  rw [List.getElem?_set_ne e] at h
  obtain ⟨b1,ws,e',h1,h2,h3,h4,h5⟩:=s.ow j b ys h
  refine ⟨b1,ws,e',h1,h2.mono m,h3,h4,?_⟩
  show upd c.Z a (.lst vs) b1=none
  rw [aq fun q=>e (s.ne i j _ _ _ _ a hi h ha (by rw [e',q]))];exact h5
 ·have g:∀ (j:Nat) b ys,(δ.set i Slot.un)[j]? = some (.ow b ys)->δ[j]? = some (.ow b ys):=fun j b ys h=>by
   have e:i ≠ j:=fun e=>by subst e;rw [List.getElem?_set_self hiδ] at h;cases h
   rwa [List.getElem?_set_ne e] at h
  exact s.ne j k b b' ys zs x (g _ _ _ h1) (g _ _ _ h2) h3 h4
 ·have hz':upd c.Z a (.lst vs) x=some u:=hz
  by_cases q:x=a
  ·subst q;rw [ay] at hz';cases hz';exact ⟨hH,fun _ h=>nomatch h⟩
  ·rw [aq q] at hz';exact s.zk x u hz'
theorem Sl.mut {a:Addr} {b0:Bool} {xs xs':List D} {vs':List V} {i:Nat} (s:Sl c δ S σ T H) (hi:δ[i]? = some (.ow b0 xs)) (ha:σ[i]? = some (some (.ref a))) (hv:Rs (eD c δ σ H) xs' vs') :
  Sl c (δ.set i (.ow b0 xs')) S σ T (upd H a (.lst vs')):= by
 have hiδ:i < δ.length:=(List.getElem?_eq_some_iff.mp hi).1
 obtain ⟨a',vs,e,hH,_,hB,hB',hZ⟩:=s.ow i b0 xs hi
 rw [ha] at e;cases e
 have owi:∀ b,tE (δ.set i (.ow b0 xs')) σ b->tE δ σ b:=fun b ⟨j,bb,ys,h1,h2⟩=>by
  by_cases e:i=j
  ·subst e;exact ⟨i,b0,xs,hi,h2⟩
  ·rw [List.getElem?_set_ne e] at h1;exact ⟨j,bb,ys,h1,h2⟩
 have m:∀ b u,eD c δ σ H b=some u->eD c (δ.set i (.ow b0 xs')) σ (upd H a (.lst vs')) b=some u:=aV (fun b u e z=>z.elim .inl fun z=>.inr (owi b z)) fun b u hb e=>by
  have:b ≠ a:=fun z=>hb (.inr ⟨i,b0,xs,hi,by rw [z];exact ha⟩)
  rw [aq this];exact e
 refine ⟨by simpa using s.len,fun j d' h=>?_,fun j b ys h=>?_,fun j k b b' ys zs x h1 h2 h3 h4=>?_,s.st.mono m,fun b u h1 h2=>?_,fun b hb=>?_,fun x u hz=>?_⟩
 ·have e:i ≠ j:=fun e=>by subst e;rw [List.getElem?_set_self hiδ] at h;cases h
  rw [List.getElem?_set_ne e] at h
  obtain ⟨v',e',r⟩:=s.pu j d' h
  exact ⟨v',e',r.mono m⟩
 ·by_cases e:i=j
  ·subst e
   rw [List.getElem?_set_self hiδ] at h;cases h
   exact ⟨a,vs',ha,ay,hv.mono m,hB,hB',hZ⟩
  ·rw [List.getElem?_set_ne e] at h
   obtain ⟨b1,ws,e',h1,h2,h3⟩:=s.ow j b ys h
   have:b1 ≠ a:=fun z=>e (s.ne i j _ _ xs ys a hi h ha (by rw [e',z]))
   exact ⟨b1,ws,e',by rw [aq this];exact h1,h2.mono m,h3⟩
 ·have g:∀ (j:Nat) b ys,(δ.set i (.ow b0 xs'))[j]? = some (.ow b ys)->∃ b ys,δ[j]? = some (.ow b ys):=fun j b ys h=>by
   by_cases e:i=j
   ·subst e;exact ⟨b0,xs,hi⟩
   ·rw [List.getElem?_set_ne e] at h;exact ⟨b,ys,h⟩
  obtain ⟨c1,ys',h1⟩:=g j b ys h1
  obtain ⟨c2,zs',h2⟩:=g k b' zs h2
  exact s.ne j k c1 c2 ys' zs' x h1 h2 h3 h4
 ·have:b ≠ a:=fun z=>by
   subst z
   cases b0 with
   | true=>exact h1 (hB rfl)
   | false=>rw [(hB' rfl).2] at h2;cases h2
  rw [aq this];exact s.keep b u h1 h2
 ·by_cases e:b=a
  ·subst e;exact ⟨_,ay⟩
  ·rw [aq e];exact s.bb b hb
 ·have:x ≠ a:=fun e=>by rw [e,hZ] at hz;cases hz
  rw [aq this];exact s.zk x u hz
theorem Sl.ext (s:Sl c δ S σ T H) (k:Nat):Sl c (δ ++ List.replicate k .un) S (σ ++ List.replicate k none) T H:= by
 have g:∀ (i:Nat) x,(δ ++ List.replicate k Slot.un)[i]? = some x->x ≠ .un->δ[i]? = some x:=fun i x h n=>by
  by_cases hi:i < δ.length
  ·rwa [List.getElem?_append_left hi] at h
  ·rw [List.getElem?_append_right (by omega),List.getElem?_replicate] at h
   split at h
   ·exact absurd (Option.some.inj h).symm n
   ·cases h
 have gσ:∀ (i:Nat) x,δ[i]? = some x->(σ ++ List.replicate k none)[i]? = σ[i]?:=fun i x h=>by
  rw [List.getElem?_append_left (by rw [<- s.len];exact (List.getElem?_eq_some_iff.mp h).1)]
 have ow':∀ a,tE (δ ++ List.replicate k .un) (σ ++ List.replicate k none) a->tE δ σ a:=fun a ⟨j,b,xs,h1,h2⟩=>by
  have h1':=g j _ h1 (by simp)
  rw [gσ j _ h1'] at h2
  exact ⟨j,b,xs,h1',h2⟩
 have m:∀ b u,eD c δ σ H b=some u->eD c (δ ++ List.replicate k .un) (σ ++ List.replicate k none) H b=some u:=aV (fun a u e z=>z.elim .inl fun z=>.inr (ow' a z)) fun a u _ e=>e
 refine ⟨by simp [s.len],fun j d' h=>?_,fun j b xs h=>?_,fun j l b b' xs ys a h1 h2 h3 h4=>?_,s.st.mono m,s.keep,s.bb,s.zk⟩
 ·have h':=g j _ h (by simp)
  obtain ⟨v,e,r⟩:=s.pu j d' h'
  exact ⟨v,by rw [gσ j _ h'];exact e,r.mono m⟩
 ·have h':=g j _ h (by simp)
  obtain ⟨a,vs,e,h1,h2,h3⟩:=s.ow j b xs h'
  exact ⟨a,vs,by rw [gσ j _ h'];exact e,h1,h2.mono m,h3⟩
 ·have h1':=g j _ h1 (by simp)
  have h2':=g l _ h2 (by simp)
  rw [gσ j _ h1'] at h3;rw [gσ l _ h2'] at h4
  exact s.ne j l b b' xs ys a h1' h2' h3 h4
theorem Sl.cut (s:Sl c δ S σ T H) (n:Nat):Sl c (δ.take n) S (σ.take n) T H:= by
 have g:∀ (i:Nat) x,(δ.take n)[i]? = some x->i < n∧δ[i]? = some x:=fun i x h=>by
  have hi:i < n:= by
   have:=(List.getElem?_eq_some_iff.mp h).1
   rw [List.length_take] at this;omega
  exact ⟨hi,by rwa [List.getElem?_take_of_lt hi] at h⟩
 have ow':∀ a,tE (δ.take n) (σ.take n) a->tE δ σ a:=fun a ⟨j,b,xs,h1,h2⟩=>by
  obtain ⟨hj,h1'⟩:=g j _ h1
  rw [List.getElem?_take_of_lt hj] at h2
  exact ⟨j,b,xs,h1',h2⟩
 have m:∀ b u,eD c δ σ H b=some u->eD c (δ.take n) (σ.take n) H b=some u:=aV (fun a u e z=>z.elim .inl fun z=>.inr (ow' a z)) fun a u _ e=>e
 refine ⟨by simp [s.len],fun j d' h=>?_,fun j b xs h=>?_,fun j l b b' xs ys a h1 h2 h3 h4=>?_,s.st.mono m,s.keep,s.bb,s.zk⟩
 ·obtain ⟨hj,h'⟩:=g j _ h
  obtain ⟨v,e,r⟩:=s.pu j d' h'
  exact ⟨v,by rw [List.getElem?_take_of_lt hj];exact e,r.mono m⟩
 ·obtain ⟨hj,h'⟩:=g j _ h
  obtain ⟨a,vs,e,h1,h2,h3⟩:=s.ow j b xs h'
  exact ⟨a,vs,by rw [List.getElem?_take_of_lt hj];exact e,h1,h2.mono m,h3⟩
 ·obtain ⟨hj,h1'⟩:=g j _ h1
  obtain ⟨hl,h2'⟩:=g l _ h2
  rw [List.getElem?_take_of_lt hj] at h3;rw [List.getElem?_take_of_lt hl] at h4
  exact s.ne j l b b' xs ys a h1' h2' h3 h4
theorem Sl.seeT (s:Sl c δ S σ T H) {b:Addr} {vs:List V} (h:H b=some (.tup vs)):eD c δ σ H b=some (.tup vs):= by
 refine dM.mpr ⟨fun z=>?_,h⟩
 rcases z with ⟨o,z⟩ | ⟨i,bb,xs,h1,h2⟩
 ·obtain ⟨h1,h2⟩:=s.zk b o z
  rw [h] at h1;cases h1
  exact h2 vs rfl
 ·obtain ⟨a,ws,e,h3,_⟩:=s.ow i bb xs h1
  rw [h2] at e;cases e
  rw [h] at h3;cases h3
end
end Jt
namespace Jt
open PySem L2
def M (α:Type):=DS->Option (α × DS)
instance:Monad M where
 pure a:=fun s=>some (a,s)
 bind x f:=fun s=>match x s with
  | none=>none
  | some (a,s')=>f a s'
def lift {α:Type} (o:Option α):M α:=fun s=>match o with
 | none=>none
 | some a=>some (a,s)
theorem M.bind_def {α β:Type} (x:M α) (f:α->M β) (s:DS):(x >>= f) s=(match x s with | none=>none | some (a,s')=>f a s'):=rfl
theorem M.pure_def {α:Type} (a:α) (s:DS):(pure a:M α) s=some (a,s):=rfl
inductive Hv {α β:Type} (x:M α) (f:α->M β) (s:DS) (b:β) (s2:DS):Prop
 | mk (a:α) (s1:DS) (e1:x s=some (a,s1)) (e2:f a s1=some (b,s2)):Hv x f s b s2
theorem bind_some {α β:Type} {x:M α} {f:α->M β} {s:DS} {b:β} {s2:DS} (h:(x >>= f) s=some (b,s2)):Hv x f s b s2:= by
 rw [M.bind_def] at h
 cases e:x s with
 | none=>rw [e] at h;cases h
 | some p=>obtain ⟨a,s1⟩:=p;rw [e] at h;exact ⟨a,s1,e,h⟩
theorem ai {α:Type} {a b:α} {s s':DS} (h:(pure a:M α) s=some (b,s')):a=b∧s=s':= by
 rw [M.pure_def] at h;cases h;exact ⟨rfl,rfl⟩
theorem ax {α:Type} {o:Option α} {b:α} {s s':DS} (h:lift o s=some (b,s')):o=some b∧s=s':= by
 unfold lift at h
 cases o with
 | none=>cases h
 | some a=>cases h;exact ⟨rfl,rfl⟩
theorem aK {p:Addr->Prop} {H:Hp}:∀ b o,Cg p H b=some o->H b=some o:=fun b o h=>(dM.mp h).2
inductive tM (f:M D) (σ:St) (H:Hp) (Q:VK):Prop
 | mk (c:Ct) (δ:DS) (S:List D) (T:List V) (d:D) (δ':DS) (s:Sl c δ S σ T H) (e:f δ=some (d,δ')) (q:∀ v H',Sl c δ' (d :: S) σ (v :: T) H' -> Q v H'):tM f σ H Q
inductive qS (f:M Bool) (σ:St) (H:Hp) (Q:Bool->Hp->Prop):Prop
 | mk (c:Ct) (δ:DS) (S:List D) (T:List V) (b:Bool) (δ':DS) (s:Sl c δ S σ T H) (e:f δ=some (b,δ')) (q:∀ H',Sl c δ' S σ T H' -> Q b H'):qS f σ H Q
inductive GV (f:M (List D)) (σ:St) (H:Hp) (Q:List V->Hp->Prop):Prop
 | mk (c:Ct) (δ:DS) (S:List D) (T:List V) (ds:List D) (δ':DS) (s:Sl c δ S σ T H) (e:f δ=some (ds,δ')) (q:∀ vs H',vs.length=ds.length->Sl c δ' (ds ++ S) σ (vs ++ T) H' -> Q vs H'):GV f σ H Q
inductive Fu (f:M (List D)) (σ:St) (H:Hp) (Q:VK):Prop
 | mk (c:Ct) (δ:DS) (S:List D) (T:List V) (xs:List D) (δ':DS) (s:Sl c δ S σ T H) (e:f δ=some (xs,δ')) (q:∀ l vs H',vs.length=xs.length->Sl { c with Z:=upd c.Z l (.lst vs) } δ' (xs ++ S) σ (vs ++ T) H' -> c.Z l=none->l ∉ c.B->c.H0 l=none->Q (.ref l) H'):Fu f σ H Q
abbrev DE (X:Cx) (e:Expr) (f:M D):Prop:=PE X e (tM f)
abbrev DT (X:Cx) (e:Expr) (f:M Bool):Prop:=PT X e (qS f)
abbrev DW (X:Cx) (e:Expr) (f:M Bool):Prop:=PW X e (qS f)
abbrev DA (X:Cx) (es:List Expr) (f:M (List D)):Prop:=PA X es (GV f)
abbrev DF (X:Cx) (e:Expr) (f:M (List D)):Prop:=PE X e (Fu f)
theorem b4 {X:Cx} {e:Expr} {t t':TE} (h:PE X e t) (w:∀ σ H Q,t' σ H Q->t σ H Q):PE X e t':=fun pins s σ H Q I q=>h pins s σ H Q I (w σ H Q q)
theorem yJ {X:Cx} {e:Expr} {t t':TT} (h:PT X e t) (w:∀ σ H Q,t' σ H Q->t σ H Q):PT X e t':=fun pins s σ H Q I q=>h pins s σ H Q I (w σ H Q q)
theorem FT {X:Cx} {e:Expr} {t t':TT} (h:PW X e t) (w:∀ σ H Q,t' σ H Q->t σ H Q):PW X e t':=fun wh pins s σ H Q I q=>h wh pins s σ H Q I (w σ H Q q)
theorem E9 {X:Cx} {e:List Expr} {t t':TA} (h:PA X e t) (w:∀ σ H Q,t' σ H Q->t σ H Q):PA X e t':=fun ps pins s σ H Q I q=>h ps pins s σ H Q I (w σ H Q q)
section
variable {X:Cx} {a b e:Expr} {fa fb:M D} {pos:Pos}
def ag (i:Nat):M D:=fun δ=>match δ[i]? with
 | some (.pu d)=>some (d,δ)
 | _=>none
theorem jw {i:Nat} {δ δ':DS} {d:D} (h:ag i δ=some (d,δ')):δ[i]? = some (.pu d)∧δ=δ':= by
 unfold ag at h
 split at h
 ·rename_i d0 e;cases h;exact ⟨e,rfl⟩
 ·cases h
theorem ab (i:Nat) {x:Str} {pos:Pos} (hN:X.N[i]? = some x:=by rfl) (hv:pk X.env.scope x:=by first | exact Or.inl rfl | exact Or.inr (Or.inl rfl) | exact Or.inr (Or.inr rfl)) (hd:(x == ("__debug__":Str))=false:=by decide)
  (hcd:(x == ("__classdict__":Str))=false:=by decide):DE X (.Name x pos) (ag i):=b4 (dk hN hv hd hcd) fun σ H Q ⟨c,δ,S,T,d,δ',s,e,k⟩=>by
 obtain ⟨e',rfl⟩:=jw e
 obtain ⟨v,ev,r⟩:=s.pu i d e'
 exact ⟨v,ev,k v H (s.stk (.cons r s.st))⟩
theorem Gn {e:Expr} {v:V} {d:D} (h:PE X e (tC v)) (r:∀ H,R H d v):DE X e (pure d):=b4 h fun σ H Q ⟨c,δ,S,T,d',δ',s,e,k⟩=>by
 obtain ⟨rfl,rfl⟩:=ai e
 exact k v H (s.stk (.cons (r _) s.st))
theorem au {i:Int} {j pos}:DE X (.Constant (.int i) j pos) (pure (.int i)):=Gn xG fun _=>.mkI
theorem j6 {i:Bool} {j pos}:DE X (.Constant (.bool i) j pos) (pure (.bl i)):=Gn FV fun _=>.mkB
theorem u_ {j pos}:DE X (.Constant .none j pos) (pure .non):=Gn B4 fun _=>.mkN
theorem aG {f:M (List D)} (h:DF X e f):DE X e (do let xs <- f;pure (.lst xs)):=b4 h fun σ H Q ⟨c,δ,S,T,d,δ',s,e,k⟩=>by
 obtain ⟨xs,δ1,e1,e2⟩:=bind_some e
 obtain ⟨rfl,rfl⟩:=ai e2
 exact ⟨c,δ,S,T,xs,δ1,s,e1,fun l vs H' hl s' hz _ _=>k _ _ (s'.unhideL hl hz)⟩
def nv (r:R2) (f:D->D->Option D):Prop:=∀ (c:Ct) (δ:DS) (S:List D) (σ:St) (T:List V) (H:Hp) (x y:D) (v u:V) (d:D) (Q:VK),Sl c δ (y :: x :: S) σ (u :: v :: T) H->f x y=some d->(∀ z H',Sl c δ (d :: S) σ (z :: T) H' -> Q z H')->r v u H Q
def m2 (f:D->D->Option D) (fa fb:M D):M D:=do
 let x <- fa
 let y <- fb
 lift (f x y)
theorem rq {r:R2} {f:D->D->Option D} (hd:nv r f):∀ σ H Q,tM (m2 f fa fb) σ H Q->Ba r (tM fa) (tM fb) σ H Q:=fun σ H Q ⟨c,δ,S,T,d,δ',s,e,k⟩=>by
 obtain ⟨x,δ1,e1,e⟩:=bind_some e
 obtain ⟨y,δ2,e2,e⟩:=bind_some e
 obtain ⟨e3,rfl⟩:=ax e
 exact ⟨c,δ,S,T,x,δ1,s,e1,fun v H1 s1=>⟨c,δ1,x :: S,v :: T,y,δ2,s1,e2,fun u H2 s2=>hd _ _ _ _ _ _ _ _ _ _ _ _ s2 e3 k⟩⟩
theorem kn {op:Operator} {r:R2} {f:D->D->Option D} (ho:hU X (binaryOp op) r) (hd:nv r f) (ha:DE X a fa) (hb:DE X b fb):DE X (.BinOp a op b pos) (m2 f fa fb):=b4 (Bg ho ha hb) (rq hd)
theorem nu {op:CmpOp} {r:R2} {f:D->D->Option D} (ho:hU X (compareOp op) r) (hd:nv r f) (ha:DE X a fa) (hb:DE X b fb) (hm:behindInMarks op b=false:=by first | exact mV _ | rfl):DE X (.Compare a [op] [b] pos) (m2 f fa fb):=b4 (rO ho ha hb hm) (rq hd)
theorem xY {r:R2} {f:D->D->Option D} (hr:tm X r) (hd:nv r f) (ha:DE X a fa) (hb:DE X b fb) (hs:gY b:=by exact fun _ _=>rfl):DE X (.Subscript a b pos) (m2 f fa fb):=b4 (A0 hr ha hb hs) (rq hd)
def bC (C:Int->Int->Bool) (g:Int->Int->D):D->D->Option D
 | .int i,.int j=>if C i j=true then some (g i j) else none
 | _,_=>none
theorem fA {C:Int->Int->Bool} {g:Int->Int->D} {x y d:D} (h:bC C g x y=some d):∃ i j,x=.int i∧y=.int j∧C i j=true∧d=g i j:= by
 unfold bC at h
 split at h
 ·rename_i i j
  split at h
  ·cases h;exact ⟨i,j,rfl,rfl,‹_›,rfl⟩
  ·cases h
 ·cases h
theorem tq {C:Int->Int->Prop} {C':Int->Int->Bool} {g:Int->Int->V} {g':Int->Int->D} (hC:∀ i j,C' i j=true->C i j) (hg:∀ H i j,R H (g' i j) (g i j)):nv (rI C g) (bC C' g'):=fun c δ S σ T H x y v u d Q s e k=>by
 obtain ⟨i,j,rfl,rfl,e1,rfl⟩:=fA e
 have h1:=s.st.head.int
 have h2:=s.st.tail.head.int
 exact ⟨i,j,h2,h1,hC i j e1,k _ _ (s.stk (.cons (hg _ _ _) s.st.tail.tail))⟩
theorem kE {g:Int->Int->V} {g':Int->Int->D} (hg:∀ H i j,R H (g' i j) (g i j)):nv (yi g) (bC (fun _ _=>true) g'):=fun c δ S σ T H x y v u d Q s e k=>by
 obtain ⟨i,j,rfl,rfl,e1,rfl⟩:=fA e
 have h1:=s.st.head.int
 have h2:=s.st.tail.head.int
 exact ⟨i,j,h2,h1,k _ _ (s.stk (.cons (hg _ _ _) s.st.tail.tail))⟩
def b8:=bC (fun _ _=>true) fun i j=>.int (i + j)
def du:=bC (fun _ _=>true) fun i j=>.int (i - j)
def lr:=bC (fun i j=>(decide (-(2 ^ 64) < i) && decide (i < 2 ^ 64)) || (decide (-(2 ^ 64) < j) && decide (j < 2 ^ 64))) fun i j=>.int (i * j)
def pX:=bC (fun _ j=>decide (0 < j)) fun i j=>.int (i % j)
def D0:=bC (fun _ j=>decide (0 < j) && decide (j < 1073741824)) fun i j=>.int (i / j)
def A7:=bC (fun _ _=>true) fun i j=>.bl (decide (i < j))
def F5:=bC (fun _ _=>true) fun i j=>.bl (decide (i ≤ j))
def uX:=bC (fun _ _=>true) fun i j=>.bl (decide (j < i))
theorem cf (ha:DE X a fa) (hb:DE X b fb):DE X (.BinOp a .Add b pos) (m2 b8 fa fb):=kn D9 (kE fun _ _ _=>.mkI) ha hb
theorem fT (ha:DE X a fa) (hb:DE X b fb):DE X (.BinOp a .Sub b pos) (m2 du fa fb):=kn Dq (kE fun _ _ _=>.mkI) ha hb
theorem nH (ha:DE X a fa) (hb:DE X b fb):DE X (.BinOp a .Mult b pos) (m2 lr fa fb):=kn BG (tq (fun i j h=>by
 simp only [Bool.or_eq_true,Bool.and_eq_true,decide_eq_true_eq] at h;exact h) fun _ _ _=>.mkI) ha hb
theorem mZ (ha:DE X a fa) (hb:DE X b fb):DE X (.BinOp a .Mod b pos) (m2 pX fa fb):=kn B5 (tq (fun i j h=>of_decide_eq_true h) fun _ _ _=>.mkI) ha hb
theorem C5 (ha:DE X a fa) (hb:DE X b fb):DE X (.BinOp a .FloorDiv b pos) (m2 D0 fa fb):=kn zw (tq (fun i j h=>by
 simp only [Bool.and_eq_true,decide_eq_true_eq] at h;exact h) fun _ _ _=>.mkI) ha hb
theorem Eo (ha:DE X a fa) (hb:DE X b fb):DE X (.Compare a [.Gt] [b] pos) (m2 uX fa fb):=nu Bf (kE fun _ _ _=>.mkB) ha hb
def e_:D->D->Option D
 | .tup ds,.int i=>jh ds i
 | .lst ds,.int i=>jh ds i
 | _,_=>none
theorem qm {H:Hp} {ds:List D} {vs:List V} {i:Int} {d:D} (h:Rs H ds vs) (e:jh ds i=some d):∃ v,jh vs i=some v∧R H d v:= by
 unfold jh at *
 rw [h.length]
 cases q:uY ds.length i with
 | none=>rw [q] at e;cases e
 | some j=>
  rw [q] at e
  exact h.get e
theorem u7 {K:PySem.W.Frag}:nv (G8 K) e_:=fun c δ S σ T H x y v u d Q s e k=>by
 cases x with
 | tup ds=>
  cases y with
  | int i=>
   have e':jh ds i=some d:=e
   obtain ⟨p,vs,rfl,h1,h2⟩:=s.st.tail.head.tup
   obtain ⟨z,e2,r⟩:=qm h2 e'
   exact .inr (.inl ⟨p,vs,i,z,rfl,s.st.head.int,.of (aK _ _ h1),e2,k _ _ (s.stk (.cons r s.st.tail.tail))⟩)
  | _=>cases e
 | lst ds=>
  cases y with
  | int i=>
   have e':jh ds i=some d:=e
   obtain ⟨p,vs,rfl,h1,h2⟩:=s.st.tail.head.lst
   obtain ⟨z,e2,r⟩:=qm h2 e'
   exact .inl ⟨p,vs,i,z,rfl,s.st.head.int,.inl (Rd.mono aK h1),e2,k _ _ (s.stk (.cons r s.st.tail.tail))⟩
  | _=>cases e
 | _=>cases e
theorem bu (ha:DE X a fa) (hb:DE X b fb) (hs:gY b:=by exact fun _ _=>rfl):DE X (.Subscript a b pos) (m2 e_ fa fb):=xY qT u7 ha hb hs
def dG:D->M Bool
 | .bl b=>pure b
 | _=>lift none
theorem kU {d:D} {b:Bool} {δ δ':DS} (h:dG d δ=some (b,δ')):d=.bl b∧δ=δ':= by
 unfold dG at h
 split at h
 ·obtain ⟨rfl,rfl⟩:=ai h;exact ⟨rfl,rfl⟩
 ·cases h
theorem gF {op:CmpOp} {r:R2} {f:D->D->Option D} (ho:hU X (compareOp op) r) (hd:nv r f) (ha:DE X a fa) (hb:DE X b fb) (hm:behindInMarks op b=false:=by first | exact mV _ | rfl):DT X (.Compare a [op] [b] pos) (m2 f fa fb >>= dG) :=
 yJ (rm ho ha hb hm) fun σ H Q ⟨c,δ,S,T,d,δ',s,e,k⟩=>by
  obtain ⟨x,δ1,e1,e⟩:=bind_some e
  obtain ⟨rfl,rfl⟩:=kU e
  exact rq hd σ H _ ⟨c,δ,S,T,.bl d,δ1,s,e1,fun v H' s'=>⟨d,s'.st.head.bl,k _ s'.pop⟩⟩
theorem Fq (ha:DE X a fa) (hb:DE X b fb):DT X (.Compare a [.Lt] [b] pos) (m2 A7 fa fb >>= dG):=gF A4 (kE fun _ _ _=>.mkB) ha hb
theorem Bt (ha:DE X a fa) (hb:DE X b fb):DT X (.Compare a [.Gt] [b] pos) (m2 uX fa fb >>= dG):=gF Bf (kE fun _ _ _=>.mkB) ha hb
def iz:D->Option Bool
 | .non=>some false
 | .bl b=>some b
 | .int i=>some (i != 0)
 | .str _=>none
 | .tup ds=>some (!ds.isEmpty)
 | .lst ds=>some (!ds.isEmpty)
 | .dct=>none
 | .dic _=>none
 | .dip _=>none
theorem kH {H:Hp} {ds:List D} {vs:List V} (h:Rs H ds vs):(!ds.isEmpty) = !vs.isEmpty:= by
 cases ds with
 | nil=>rw [h.inv0];rfl
 | cons d ds=>obtain ⟨v,r,e,_⟩:=h.inv;rw [e];rfl
theorem Ao {K:PySem.W.Frag} {Hh H:Hp} {d:D} {v:V} {b:Bool} (m:∀ b o,Hh b=some o->H b=some o) (r:R Hh d v) (e:iz d=some b):CK K v H b:= by
 cases d with
 | non=>cases r.non;cases e;rfl
 | bl x=>cases r.bl;cases e;rfl
 | int i=>cases r.int;cases e;rfl
 | str x=>cases e
 | dct=>cases e
 | dic _=>cases e
 | dip _=>cases e
 | tup ds=>
  obtain ⟨p,vs,rfl,h1,h2⟩:=r.tup
  cases e
  exact .inr (.inl ⟨vs,.of (m _ _ h1),kH h2⟩)
 | lst ds=>
  obtain ⟨p,vs,rfl,h1,h2⟩:=r.lst
  cases e
  exact .inl ⟨vs,.inl (Rd.mono m h1),kH h2⟩
theorem eo (ha:DE X a fa) (he:∀ whole,isTrue a X.env whole=(do let v <- whole;standAt a.pos;holding [v] (truthy v)):=by intro _;rfl):DT X a (do let x <- fa;lift (iz x)) :=
 yJ (xt ha he) fun σ H Q ⟨c,δ,S,T,d,δ',s,e,k⟩=>by
  obtain ⟨x,δ1,e1,e⟩:=bind_some e
  obtain ⟨e2,rfl⟩:=ax e
  exact ⟨c,δ,S,T,x,δ1,s,e1,fun v H' s'=>⟨d,Ao aK s'.st.head e2,k _ s'.pop⟩⟩
def mY (fa fb:M Bool):M Bool:=do
 let x <- fa
 if x=true then fb else pure false
def Du (fa fb:M Bool):M Bool:=do
 let x <- fa
 if x=true then pure true else fb
def pf (fa:M Bool):M Bool:=do
 let x <- fa
 pure (!x)
variable {ta tb:M Bool} {rest:List Expr}
theorem iH (ha:DT X a ta):DW X (.BoolOp .And [a] pos) ta:=zB ha
theorem nY (ha:DT X a ta):DW X (.BoolOp .Or [a] pos) ta:=CV ha
theorem ji (ha:DT X a ta) (hb:DW X (.BoolOp .And (b :: rest) pos) tb):DW X (.BoolOp .And (a :: b :: rest) pos) (mY ta tb):=FT (Dk ha hb) fun σ H Q ⟨c,δ,S,T,d,δ',s,e,k⟩=>by
 obtain ⟨x,δ1,e1,e⟩:=bind_some e
 refine ⟨c,δ,S,T,x,δ1,s,e1,fun H' s'=>?_⟩
 cases x with
 | true=>rw [if_pos rfl] at e ⊢;exact ⟨c,δ1,S,T,d,δ',s',e,k⟩
 | false=>
  rw [if_neg Bool.false_ne_true] at e ⊢
  obtain ⟨rfl,rfl⟩:=ai e
  exact k _ s'
theorem tu (ha:DT X a ta) (hb:DW X (.BoolOp .Or (b :: rest) pos) tb):DW X (.BoolOp .Or (a :: b :: rest) pos) (Du ta tb):=FT (E8 ha hb) fun σ H Q ⟨c,δ,S,T,d,δ',s,e,k⟩=>by
 obtain ⟨x,δ1,e1,e⟩:=bind_some e
 refine ⟨c,δ,S,T,x,δ1,s,e1,fun H' s'=>?_⟩
 cases x with
 | false=>rw [if_neg Bool.false_ne_true] at e ⊢;exact ⟨c,δ1,S,T,d,δ',s',e,k⟩
 | true=>
  rw [if_pos rfl] at e ⊢
  obtain ⟨rfl,rfl⟩:=ai e
  exact k _ s'
theorem nD (h:DW X a ta):DT X a ta:=h.pt
theorem j9 (ha:DT X a ta):DT X (.UnaryOp .Not a pos) (pf ta):=yJ (C6 ha) fun σ H Q ⟨c,δ,S,T,d,δ',s,e,k⟩=>by
 obtain ⟨x,δ1,e1,e⟩:=bind_some e
 obtain ⟨rfl,rfl⟩:=ai e
 exact ⟨c,δ,S,T,x,δ1,s,e1,fun H' s'=>k _ s'⟩
def uR (fa fb:M D):M D:=do
 let x <- fa
 match x with
 | .bl true=>fb
 | .bl false=>pure (.bl false)
 | _=>lift none
def wU (fa:M D):M D:=do
 let x <- fa
 match x with
 | .bl b=>pure (.bl (!b))
 | _=>lift none
theorem qf {op} (h:DE X a fa):DE X (.BoolOp op [a] pos) fa:=Dv h
theorem qE (ha:DE X a fa) (hb:DE X (.BoolOp .And (b :: rest) pos) fb):DE X (.BoolOp .And (a :: b :: rest) pos) (uR fa fb):=b4 (CF ha hb) fun σ H Q ⟨c,δ,S,T,d,δ',s,e,k⟩=>by
 obtain ⟨x,δ1,e1,e⟩:=bind_some e
 refine ⟨c,δ,S,T,x,δ1,s,e1,fun v H' s'=>?_⟩
 cases x with
 | bl q=>
  cases q with
  | true=>exact ⟨true,s'.st.head.bl,zK ⟨c,δ1,S,T,d,δ',s'.pop,e,k⟩⟩
  | false=>
   obtain ⟨rfl,rfl⟩:=ai e
   exact ⟨false,s'.st.head.bl,y3 (k _ _ (s'.stk (.cons .mkB s'.st.tail)))⟩
 | _=>cases e
theorem vZ (ha:DE X a fa):DE X (.UnaryOp .Not a pos) (wU fa):=b4 (BR ha) fun σ H Q ⟨c,δ,S,T,d,δ',s,e,k⟩=>by
 obtain ⟨x,δ1,e1,e⟩:=bind_some e
 refine ⟨c,δ,S,T,x,δ1,s,e1,fun v H' s'=>?_⟩
 cases x with
 | bl q=>
  obtain ⟨rfl,rfl⟩:=ai e
  exact ⟨q,s'.st.head.bl,k _ _ (s'.stk (.cons .mkB s'.st.tail))⟩
 | _=>cases e
def ia {α:Type} (t:M Bool) (fa fb:M α):M α:=do
 let x <- t
 if x=true then fa else fb
theorem Ft {t:Expr} (ht:DT X t ta) (ha:DE X a fa) (hb:DE X b fb):DE X (.IfExp t a b pos) (ia ta fa fb):=b4 (we ht ha hb) fun σ H Q ⟨c,δ,S,T,d,δ',s,e,k⟩=>by
 obtain ⟨x,δ1,e1,e⟩:=bind_some e
 refine ⟨c,δ,S,T,x,δ1,s,e1,fun H' s'=>?_⟩
 cases x with
 | true=>rw [if_pos rfl] at e ⊢;exact ⟨c,δ1,S,T,d,δ',s',e,k⟩
 | false=>rw [if_neg Bool.false_ne_true] at e ⊢;exact ⟨c,δ1,S,T,d,δ',s',e,k⟩
variable {es:List Expr} {fs:M (List D)}
theorem ae:DA X [] (pure []):=E9 eY fun σ H Q ⟨c,δ,S,T,d,δ',s,e,k⟩=>by
 obtain ⟨rfl,rfl⟩:=ai e
 exact k [] H rfl s
def af (fa:M D) (fs:M (List D)):M (List D):=do
 let x <- fa
 let xs <- fs
 pure (x :: xs)
theorem aa (ha:DE X a fa) (hr:DA X es fs) (hs:starEach (a :: es) X.env=(false,eval a X.env) :: starEach es X.env:=by rfl):DA X (a :: es) (af fa fs):=E9 (cx ha hr hs) fun σ H Q ⟨c,δ,S,T,d,δ',s,e,k⟩=>by
 obtain ⟨x,δ1,e1,e⟩:=bind_some e
 obtain ⟨xs,δ2,e2,e⟩:=bind_some e
 obtain ⟨rfl,rfl⟩:=ai e
 refine ⟨c,δ,S,T,x,δ1,s,e1,fun v H1 s1=>⟨c,δ1,x :: S,v :: T,xs,δ2,s1,e2,fun vs H2 l s2=>k (v :: vs) H2 (by simp [l]) (s2.stk ?_)⟩⟩
 have h1:=s2.st.left l
 have h2:=s2.st.right l
 exact .cons h2.head (h1.append h2.tail)
def few (n:Nat):Option Unit:=if n ≤ 100000 then some () else none
theorem gM {n:Nat} {u:Unit} (h:few n=some u):n ≤ sizeLine∧n < sizeLine:= by
 unfold few at h
 split at h
 ·have:(100000:Nat) < sizeLine:=by rw [sizeLine_eq];decide
  omega
 ·cases h
def fU (fs:M (List D)):M D:=do
 let ds <- fs
 let _ <- lift (few ds.length)
 pure (.tup ds)
def di (fs:M (List D)):M (List D):=do
 let ds <- fs
 let _ <- lift (few ds.length)
 pure ds
theorem cK {x1} (h:DA X es fs):DE X (.Tuple es x1 pos) (fU fs):=b4 (Dr h) fun σ H Q ⟨c,δ,S,T,d,δ',s,e,k⟩=>by
 obtain ⟨ds,δ1,e1,e⟩:=bind_some e
 obtain ⟨_,δ2,e2,e⟩:=bind_some e
 obtain ⟨e3,rfl⟩:=ax e2
 obtain ⟨rfl,rfl⟩:=ai e
 exact ⟨c,δ,S,T,ds,δ1,s,e1,fun vs H1 l s1=>⟨by rw [l];exact (gM e3).1,fun p hp=>k _ _ (s1.newTup l hp)⟩⟩
theorem bB (h:DA X es fs):DF X (.List es pos) (di fs):=b4 (BK h) fun σ H Q ⟨c,δ,S,T,d,δ',s,e,k⟩=>by
 obtain ⟨ds,δ1,e1,e⟩:=bind_some e
 obtain ⟨_,δ2,e2,e⟩:=bind_some e
 obtain ⟨e3,rfl⟩:=ax e2
 obtain ⟨rfl,rfl⟩:=ai e
 refine ⟨c,δ,S,T,ds,δ1,s,e1,fun vs H1 l s1=>⟨by rw [l];exact (gM e3).1,fun p hp=>?_⟩⟩
 obtain ⟨f1,f2,f3⟩:=s1.fresh hp
 exact k p vs _ l (s1.hide hp) f1 f2 f3
def iY (r:List V->Hp->VK->Prop) (f:List D->Option D):Prop:=∀ (c:Ct) (δ:DS) (S:List D) (σ:St) (T:List V) (H:Hp) (ds:List D) (vs:List V) (d:D) (Q:VK),vs.length=ds.length->Sl c δ (ds ++ S) σ (vs ++ T) H->f ds=some d->(∀ z H',Sl c δ (d :: S) σ (z :: T) H' -> Q z H')->r vs H Q
def mC {α:Type} (f:List D->Option α) (fs:M (List D)):M α:=do
 let ds <- fs
 lift (f ds)
variable {x:Str} {p:Pos} {id T:String} {r:List V->Hp->VK->Prop} {f:List D->Option D} {g:List D->Option (List D)}
theorem Br (hd:iY r f):∀ σ H Q,tM (mC f fs) σ H Q->G7 r (GV fs) σ H Q:=fun σ H Q ⟨c,δ,S,T,d,δ',s,e,k⟩=>by
 obtain ⟨ds,δ1,e1,e⟩:=bind_some e
 obtain ⟨e2,rfl⟩:=ax e
 exact ⟨c,δ,S,T,ds,δ1,s,e1,fun vs H1 l s1=>hd _ _ _ _ _ _ _ _ _ _ l s1 e2 k⟩
def bW:List D->Option D
 | [.tup ds]=>some (.int ds.length)
 | [.lst ds]=>some (.int ds.length)
 | _=>none
theorem ud {H:Hp} {d:D} {vs:List V} (h:Rs H [d] vs):∃ v,vs=[v]∧R H d v:= by
 obtain ⟨v,r,e,h1,h2⟩:=h.inv
 rw [h2.inv0] at e
 exact ⟨v,e,h1⟩
theorem G6 {H:Hp} {d d':D} {vs:List V} (h:Rs H [d,d'] vs):∃ v u,vs=[v,u]∧R H d v∧R H d' u:= by
 obtain ⟨v,r,e,h1,h2⟩:=h.inv
 obtain ⟨u,rfl,h3⟩:=ud h2
 exact ⟨v,u,e,h1,h3⟩
theorem Dg {K:PySem.W.Frag}:iY (fun xs H Q=>∃ p ys,xs=[.ref p]∧(iV K H p ys ∨ jd K H p ys)∧Q (.int ys.length) H) bW:=fun c δ S σ T H ds vs d Q l s e k=>by
 have h:=s.st.left l
 have h2:=s.st.right l
 unfold bW at e
 split at e
 ·obtain ⟨v,rfl,r⟩:=ud h
  obtain ⟨p,ws,rfl,h1,h3⟩:=r.tup
  cases e
  exact ⟨p,ws,rfl,.inr (.of (aK _ _ h1)),k _ _ (s.stk (.cons (by rw [h3.length];exact .mkI) h2))⟩
 ·obtain ⟨v,rfl,r⟩:=ud h
  obtain ⟨p,ws,rfl,h1,h3⟩:=r.lst
  cases e
  exact ⟨p,ws,rfl,.inl (.inl (Rd.mono aK h1)),k _ _ (s.stk (.cons (by rw [h3.length];exact .mkI) h2))⟩
 ·cases e
theorem gj {f:List D->Option D} (hc:dR X (.builtin id) r) (hd:iY r f) (hg:Gl X x) (hm:X.mg x=none) (hv:bootBuiltins x=some (.builtin id)) (ha:DA X (a :: es) fs) (hn:x ≠ "__name__":=by decide) (hdb:(x == ("__debug__":Str))=false:=by decide)
  (he:starEach (a :: es) X.env=(false,eval a X.env) :: starEach es X.env:=by rfl) (hpl:(backTo pos (starEach es X.env)).any (·.1)=false:=by rfl):DE X (.Call (.Name x p) (a :: es) [] pos) (mC f fs) :=
 b4 (gB hc hg hm hv ha hn hdb he hpl) (Br hd)
end
end Jt
namespace Jt
open PySem L2
inductive Fl where
 | nx | bk | ct | rt (d:D) | rf (xs:List D)
def Fin (c:Ct) (δ:DS) (S:List D) (T:List V) (fl:Fl) (E:Ends):Prop :=
 match fl with
 | .nx=>∀ σ H,Sl c δ S σ T H->E.nx σ H
 | .bk=>∀ σ H,Sl c δ S σ T H->E.bk σ H
 | .ct=>∀ σ H,Sl c δ S σ T H->E.ct σ H
 | .rt d=>∀ v σ H,Sl c δ (d :: S) σ (v :: T) H->E.rt v H
 | .rf xs=>∀ l vs σ H,vs.length=xs.length->Sl { c with Z:=upd c.Z l (.lst vs) } δ (xs ++ S) σ (vs ++ T) H->c.Z l=none->l ∉ c.B->c.H0 l=none->E.rt (.ref l) H
inductive Fw (f:M Fl) (E:Ends) (σ:St) (H:Hp):Prop
 | mk (c:Ct) (δ:DS) (S:List D) (T:List V) (fl:Fl) (δ':DS) (s:Sl c δ S σ T H) (e:f δ=some (fl,δ')) (q:Fin c δ' S T fl E):Fw f E σ H
abbrev mE (X:Cx) (st:Stmt) (f:M Fl):Prop:=PS X st (Fw f)
abbrev og (X:Cx) (st:List Stmt) (f:M Fl):Prop:=p9 X st (Fw f)
theorem ig {X:Cx} {e:Stmt} {t t':TS} (h:PS X e t) (w:∀ E σ H,t' E σ H->t E σ H):PS X e t':=fun pins s σ H Q I q=>h pins s σ H Q I (w Q σ H q)
theorem Bc {X:Cx} {e:List Stmt} {t t':TS} (h:p9 X e t) (w:∀ E σ H,t' E σ H->t E σ H):p9 X e t':=fun pins s σ H Q I q=>h pins s σ H Q I (w Q σ H q)
section
variable {X:Cx} {a b e:Expr} {fa fb:M D} {fF:M (List D)} {pos:Pos} {st:Stmt} {rest:List Stmt} {f g:M Fl} {tt:M Bool}
theorem bj:og X [] (pure .nx):=Bc zj fun E σ H ⟨c,δ,S,T,fl,δ',s,e,k⟩=>by
 obtain ⟨rfl,rfl⟩:=ai e
 exact k σ H s
def aE (f g:M Fl):M Fl:=do
 let fl <- f
 match fl with
 | .nx=>g
 | fl=>pure fl
theorem ah (h1:mE X st f) (h2:og X rest g):og X (st :: rest) (aE f g):=Bc (x8 h1 h2) fun E σ H ⟨c,δ,S,T,fl,δ',s,e,k⟩=>by
 obtain ⟨fl1,δ1,e1,e⟩:=bind_some e
 refine ⟨c,δ,S,T,fl1,δ1,s,e1,?_⟩
 cases fl1 with
 | nx=>exact fun σ' H' s'=>⟨c,δ1,S,T,fl,δ',s',e,k⟩
 | bk=>obtain ⟨rfl,rfl⟩:=ai e;exact k
 | ct=>obtain ⟨rfl,rfl⟩:=ai e;exact k
 | rt d=>obtain ⟨rfl,rfl⟩:=ai e;exact k
 | rf xs=>obtain ⟨rfl,rfl⟩:=ai e;exact k
theorem ao (h1:mE X st f):og X [st] f:=zL h1
theorem a_ (he:DE X e fa):mE X (.Return (some e) pos) (do let d <- fa;pure (.rt d)):=ig (wd he) fun E σ H ⟨c,δ,S,T,fl,δ',s,e,k⟩=>by
 obtain ⟨d,δ1,e1,e⟩:=bind_some e
 obtain ⟨rfl,rfl⟩:=ai e
 exact ⟨c,δ,S,T,d,δ1,s,e1,fun v H' s'=>k v σ H' s'⟩
theorem fY (he:DF X e fF):mE X (.Return (some e) pos) (do let d <- fF;pure (.rf d)):=ig (wd he) fun E σ H ⟨c,δ,S,T,fl,δ',s,e,k⟩=>by
 obtain ⟨d,δ1,e1,e⟩:=bind_some e
 obtain ⟨rfl,rfl⟩:=ai e
 exact ⟨c,δ,S,T,d,δ1,s,e1,fun l vs H' h1 h2 h3 h4 h5=>k l vs σ H' h1 h2 h3 h4 h5⟩
def jH (i:Nat):M (List D):=fun δ=>match δ[i]? with
 | some (.ow false xs)=>some (xs,δ.set i .un)
 | _=>none
theorem qA (i:Nat) {x:Str} {pos:Pos} (hN:X.N[i]? = some x:=by rfl) (hv:pk X.env.scope x:=by first | exact Or.inl rfl | exact Or.inr (Or.inl rfl) | exact Or.inr (Or.inr rfl)) (hd:(x == ("__debug__":Str))=false:=by decide)
  (hcd:(x == ("__classdict__":Str))=false:=by decide):DF X (.Name x pos) (jH i):=b4 (dk hN hv hd hcd) fun σ H Q ⟨c,δ,S,T,xs,δ',s,e,k⟩=>by
 unfold jH at e
 split at e
 ·rename_i ys hi
  cases e
  obtain ⟨a,vs0,ea,_⟩:=s.ow i _ _ hi
  obtain ⟨vs,h1,h2,h3,h4,h5⟩:=s.giveOw hi ea
  exact ⟨_,ea,k a vs H h1 h2 h3 h4 h5⟩
 ·cases e
theorem cn {t:Expr} {as bs:List Stmt} (ht:DT X t tt) (ha:og X as f) (hb:og X bs g):mE X (.If t as bs pos) (ia tt f g):=ig (FI ht ha hb) fun E σ H ⟨c,δ,S,T,fl,δ',s,e,k⟩=>by
 obtain ⟨x,δ1,e1,e⟩:=bind_some e
 refine ⟨c,δ,S,T,x,δ1,s,e1,fun H' s'=>?_⟩
 cases x with
 | true=>rw [if_pos rfl] at e ⊢;exact ⟨c,δ1,S,T,fl,δ',s',e,k⟩
 | false=>rw [if_neg Bool.false_ne_true] at e ⊢;exact ⟨c,δ1,S,T,fl,δ',s',e,k⟩
theorem rN (he:DE X e fa) (hs:swapsWith e none pos.line X.env=pure false:=by rfl):mE X (.Expr e pos) (do let _ <- fa;pure .nx):=ig (m5 he hs) fun E σ H ⟨c,δ,S,T,fl,δ',s,e,k⟩=>by
 obtain ⟨x,δ1,e1,e⟩:=bind_some e
 obtain ⟨rfl,rfl⟩:=ai e
 exact ⟨c,δ,S,T,x,δ1,s,e1,fun v H' s'=>k _ _ s'.pop⟩
def ba (i:Nat) (d:D):M Unit:=fun δ=>if i < δ.length then some ((),δ.set i (.pu d)) else none
def vk (i:Nat) (xs:List D):M Unit:=fun δ=>if i < δ.length then some ((),δ.set i (.ow false xs)) else none
theorem gU {i:Nat} {d:D} {δ δ':DS} {u:Unit} (h:ba i d δ=some (u,δ')):i < δ.length∧δ' = δ.set i (.pu d):= by
 unfold ba at h;split at h
 ·cases h;exact ⟨‹_›,rfl⟩
 ·cases h
theorem lY {i:Nat} {d:List D} {δ δ':DS} {u:Unit} (h:vk i d δ=some (u,δ')):i < δ.length∧δ' = δ.set i (.ow false d):= by
 unfold vk at h;split at h
 ·cases h;exact ⟨‹_›,rfl⟩
 ·cases h
def c_ (i:Nat) (fa:M D):M Fl:=do
 let d <- fa
 ba i d
 pure .nx
def qp (i:Nat) (fF:M (List D)):M Fl:=do
 let d <- fF
 vk i d
 pure .nx
theorem EW {te:TE} {i:Nat} (w:∀ σ H Q,tM fa σ H Q->te σ H Q):∀ E σ H,Fw (c_ i fa) E σ H->vC te (p7 i) E σ H:=fun E σ H ⟨c,δ,S,T,fl,δ',s,e,k⟩=>by
 obtain ⟨d,δ1,e1,e⟩:=bind_some e
 obtain ⟨u,δ2,e2,e⟩:=bind_some e
 obtain ⟨rfl,rfl⟩:=ai e
 obtain ⟨hi,rfl⟩:=gU e2
 exact w _ _ _ ⟨c,δ,S,T,d,δ1,s,e1,fun v H' s'=>k _ _ (s'.setPu hi)⟩
theorem E_ {te:TE} {i:Nat} (w:∀ σ H Q,Fu fF σ H Q->te σ H Q):∀ E σ H,Fw (qp i fF) E σ H->vC te (p7 i) E σ H:=fun E σ H ⟨c,δ,S,T,fl,δ',s,e,k⟩=>by
 obtain ⟨d,δ1,e1,e⟩:=bind_some e
 obtain ⟨u,δ2,e2,e⟩:=bind_some e
 obtain ⟨rfl,rfl⟩:=ai e
 obtain ⟨hi,rfl⟩:=lY e2
 exact w _ _ _ ⟨c,δ,S,T,d,δ1,s,e1,fun l vs H' h1 h2 h3 h4 h5=>k _ _ (h2.setOw h1 h3 h4 h5 hi)⟩
theorem aI (i:Nat) {x:Str} {pos':Pos} (hN:X.N.Nodup) (he:DE X e fa) (hi:X.N[i]? = some x:=by rfl) (hx:Loc X.env.scope x:=by first | exact Or.inl rfl | exact Or.inr rfl) (hs:swapsWith e (some (.Name x pos')) pos.line X.env=pure false:=by rfl)
  (hf:X.fn x=true ∨ X.env.scope.names.lookup x=some .local:=by first | exact .inl rfl | exact .inr rfl | assumption):mE X (.Assign [.Name x pos'] e pos) (c_ i fa):=ig (xy hN hi hx he hs hf) (EW fun _ _ _ h=>h)
theorem dX (i:Nat) {x:Str} {pos':Pos} (hN:X.N.Nodup) (he:DF X e fF) (hi:X.N[i]? = some x:=by rfl) (hx:Loc X.env.scope x:=by first | exact Or.inl rfl | exact Or.inr rfl) (hs:swapsWith e (some (.Name x pos')) pos.line X.env=pure false:=by rfl)
  (hf:X.fn x=true ∨ X.env.scope.names.lookup x=some .local:=by first | exact .inl rfl | exact .inr rfl | assumption):mE X (.Assign [.Name x pos'] e pos) (qp i fF):=ig (xy hN hi hx he hs hf) (E_ fun _ _ _ h=>h)
inductive Eg (lo:Nat) (f:D->M Unit) (v:V) (σ:St) (H:Hp) (Q:St->Hp->Prop):Prop
 | mk (c:Ct) (δ:DS) (S:List D) (T:List V) (d:D) (δ':DS) (s:Sl c δ (d :: S) σ (v :: T) H) (e:f d δ=some ((),δ')) (q:∀ σ' H',(∀ n,n ≤ lo->σ'.take n=σ.take n)->Sl c δ' S σ' T H' -> Q σ' H'):Eg lo f v σ H Q
inductive EK (lo:Nat) (f:List D->M Unit) (vs:List V) (σ:St) (H:Hp) (Q:St->Hp->Prop):Prop
 | mk (c:Ct) (δ:DS) (S:List D) (T:List V) (ds:List D) (δ':DS) (l:vs.length=ds.length) (s:Sl c δ (ds ++ S) σ (vs ++ T) H) (e:f ds δ=some ((),δ')) (q:∀ σ' H',(∀ n,n ≤ lo->σ'.take n=σ.take n)->Sl c δ' S σ' T H' -> Q σ' H'):EK lo f vs σ H Q
abbrev DG (X:Cx) (lo:Nat) (tg:Expr) (f:D->M Unit):Prop:=PG X tg (Eg lo f)
abbrev Gf (X:Cx) (lo:Nat) (tg:List Expr) (f:List D->M Unit):Prop:=Ec X tg (EK lo f)
theorem EA {X:Cx} {e:Expr} {t t':TG} (h:PG X e t) (w:∀ v σ H Q,t' v σ H Q->t v σ H Q):PG X e t':=fun pins s σ H v u Q I r q=>h pins s σ H v u Q I r (w v σ H Q q)
theorem BA {X:Cx} {e:List Expr} {t t':Bl} (h:Ec X e t) (w:∀ v σ H Q,t' v σ H Q->t v σ H Q):Ec X e t':=fun pins s σ H v u Q I r q=>h pins s σ H v u Q I r (w v σ H Q q)
theorem aw {lo:Nat} (i:Nat) {x:Str} {pos:Pos} (hN:X.N.Nodup) (hlo:lo ≤ i:=by decide) (hi:X.N[i]? = some x:=by rfl) (hx:Loc X.env.scope x:=by first | exact Or.inl rfl | exact Or.inr rfl)
  (hf:X.fn x=true ∨ X.env.scope.names.lookup x=some .local:=by first | exact .inl rfl | exact .inr rfl | assumption):DG X lo (.Name x pos) (ba i):=EA (yv hN hi hx hf) fun v σ H Q ⟨c,δ,S,T,d,δ',s,e,k⟩=>by
 obtain ⟨hi,rfl⟩:=gU e
 exact k _ _ (fun n hn=>List.take_set_of_le (Nat.le_trans hn hlo)) (s.setPu hi)
def fK:List D->M Unit
 | []=>pure ()
 | _=>lift none
def bJ (f:D->M Unit) (g:List D->M Unit):List D->M Unit
 | d :: ds=>do
  f d
  g ds
 | _=>lift none
theorem c4 {lo:Nat}:Gf X lo [] fK:=BA yw fun v σ H Q ⟨c,δ,S,T,ds,δ',l,s,e,k⟩=>by
 cases ds with
 | nil=>
  obtain ⟨_,rfl⟩:=ai e
  have:v=[]:=List.eq_nil_of_length_eq_zero l
  subst this
  exact ⟨rfl,k σ H (fun _ _=>rfl) s⟩
 | cons d ds=>cases e
theorem aY {lo:Nat} {e:Expr} {es:List Expr} {f:D->M Unit} {g:List D->M Unit} (h1:DG X lo e f) (h2:Gf X lo es g)
  (hs:(assignEach (e :: es) X.env).map (·.2)=assign e X.env :: (assignEach es X.env).map (·.2):=by rfl):Gf X lo (e :: es) (bJ f g):=BA (xC h1 h2 hs) fun vs σ H Q ⟨c,δ,S,T,ds,δ',l,s,e,k⟩=>by
 cases ds with
 | nil=>cases e
 | cons d ds=>
  cases vs with
  | nil=>cases l
  | cons v vs=>
   obtain ⟨u,δ1,e1,e2⟩:=bind_some e
   exact ⟨v,vs,rfl,c,δ,ds ++ S,vs ++ T,d,δ1,s,e1,fun σ1 H1 t1 s1=>⟨c,δ1,S,T,ds,δ',by simpa using l,s1,e2,fun σ2 H2 t2 s2=>k σ2 H2 (fun n hn=>(t2 n hn).trans (t1 n hn)) s2⟩⟩
def dF (n:Nat) (g:List D->M Unit):D->M Unit
 | .tup ds=>if ds.length=n then g ds else lift none
 | _=>lift none
theorem d3 {lo:Nat} {es:List Expr} {k:Nat} {g:List D->M Unit} {n:Nat} (h:Gf X lo es g) (hc:X.calm=true:=by rfl)
  (hn:(assignEach es X.env).length=n:=by rfl) (hst:(assignEach es X.env).findIdx? (·.1)=none:=by rfl):DG X lo (.Tuple es k pos) (dF n g):=EA (DM hc h hn hst) fun v σ H Q ⟨c,δ,S,T,d,δ',s,e,k⟩=>by
 cases d with
 | tup ds=>
  have e':(if ds.length=n then g ds else lift none) δ=some ((),δ'):=e
  split at e'
  ·rename_i hl
   obtain ⟨p,vs,rfl,h1,h2⟩:=s.st.head.tup
   exact ⟨p,vs,rfl,.of (aK _ _ h1),by rw [h2.length];exact hl,c,δ,S,T,ds,δ',h2.length,s.stk (h2.append s.st.tail),e',k⟩
  ·cases e'
 | _=>cases e
theorem x_ {tg:Expr} {g:D->M Unit} (he:DE X e fa) (hg:DG X 0 tg g) (hs:swapsWithSole [tg] e pos.line X.env=pure false:=by rfl) (hw:swappedStores [tg] e X.env=pure none:=by rfl)
  (h1:(assignEach [tg] X.env).map (·.2)=[assign tg X.env]:=by rfl):mE X (.Assign [tg] e pos) (do let d <- fa;g d;pure .nx):=ig (vj he hg hs hw h1) fun E σ H ⟨c,δ,S,T,fl,δ',s,e,k⟩=>by
 obtain ⟨d,δ1,e1,e⟩:=bind_some e
 obtain ⟨u,δ2,e2,e⟩:=bind_some e
 obtain ⟨rfl,rfl⟩:=ai e
 exact ⟨c,δ,S,T,d,δ1,s,e1,fun v H' s'=>⟨c,δ1,S,T,d,δ2,s',e2,fun σ' H2 _ s2=>k _ _ s2⟩⟩
abbrev iB:=List (DS->Option D) × (DS->Bool)
def El (J:It) (its:iB) (Sx:List D) (Tx:List V):Prop:=∀ (c:Ct) (δ:DS) (S:List D) (σ:St) (T:List V) (H:Hp) (i:Nat),Sl c δ (Sx ++ S) σ (Tx ++ T) H ->
 (∀ act d,its.1[i]? = some act->act δ=some d->J.go i H∧∀ x H',J.yld i H x H' -> Sl c δ (d :: (Sx ++ S)) σ (x :: (Tx ++ T)) H')∧(i=its.1.length->its.2 δ=true->J.stop i H)
inductive F3 (f:M iB) (σ:St) (H:Hp) (R:It->Hp->Prop):Prop
 | mk (c:Ct) (δ:DS) (S:List D) (T:List V) (it:iB) (δ':DS) (s:Sl c δ S σ T H) (e:f δ=some (it,δ')) (q:∀ J Sx Tx H',Tx.length=Sx.length->El J it Sx Tx->Sl c δ' (Sx ++ S) σ (Tx ++ T) H' -> R J H'):F3 f σ H R
abbrev DI (X:Cx) (tg iter:Expr) (f:M iB):Prop:=PI X tg iter (F3 f)
theorem qO {X:Cx} {tg e:Expr} {t t':TI} (h:PI X tg e t) (w:∀ σ H Q,t' σ H Q->t σ H Q):PI X tg e t':=fun pins s σ H Q I q=>h pins s σ H Q I (w σ H Q q)
def aQ (ds:List D):iB:=(ds.map fun d _=>some d,fun _=>true)
theorem fu {ds:List D} {i:Nat} {act:DS->Option D} {δ:DS} {d:D} (h:(aQ ds).1[i]? = some act) (e:act δ=some d):ds[i]? = some d:= by
 unfold aQ at h
 rw [List.getElem?_map] at h
 cases q:ds[i]? with
 | none=>rw [q] at h;cases h
 | some d'=>rw [q] at h;cases h;exact e
theorem yK {K:PySem.W.Frag} {X:Cx} (hK:X.K=K) {a:Addr} {ds:List D}:El (G4 K a) (aQ ds) [.tup ds] [.ref a]:=fun c δ S σ T H i s=>by
 obtain ⟨p,vs,e,h1,h2⟩:=s.st.head.tup
 cases e
 have hq:jd K H a vs:=.of (aK _ _ h1)
 refine ⟨fun act d ha hd=>?_,fun e _=>⟨vs,hq,by rw [h2.length,e];simp [aQ]⟩⟩
 obtain ⟨v,hv,r⟩:=h2.get (fu ha hd)
 refine ⟨⟨vs,v,hq,hv⟩,fun x H' y=>?_⟩
 obtain ⟨rfl,y⟩:=y
 have:=y vs hq
 rw [hv] at this;cases this
 exact s.stk (.cons r s.st)
theorem zd {K:PySem.W.Frag} {a:Addr} {ds:List D}:El (FY K a) (aQ ds) [.lst ds] [.ref a]:=fun c δ S σ T H i s=>by
 obtain ⟨p,vs,e,h1,h2⟩:=s.st.head.lst
 cases e
 have hq:iV K H a vs:=.inl (Rd.mono aK h1)
 refine ⟨fun act d ha hd=>?_,fun e _=>⟨vs,hq,by rw [h2.length,e];simp [aQ]⟩⟩
 obtain ⟨v,hv,r⟩:=h2.get (fu ha hd)
 refine ⟨⟨vs,v,hq,hv⟩,fun x H' y=>?_⟩
 obtain ⟨rfl,y⟩:=y
 have:=y vs hq
 rw [hv] at this;cases this
 exact s.stk (.cons r s.st)
def bO:D->Option iB
 | .tup ds=>some (aQ ds)
 | .lst ds=>some (aQ ds)
 | _=>none
theorem BH {tg l:Expr} {tl:TE} (hl:PE X l tl):PI X tg l (fun σ H R=>tl σ H fun x H1=>∃ a,x=.ref a∧(((∃ xs,iV X.K H1 a xs)∧R (FY X.K a) H1) ∨ ((∃ xs,jd X.K H1 a xs)∧R (G4 X.K a) H1))):= by
 intro pins s σ H R I h
 refine bx (hl pins s σ H _ I h) fun v s1 ⟨x,H1,I1,r1,q1⟩=>?_
 obtain ⟨a,e,q⟩:=q1
 subst e
 cases r1
 rcases q with ⟨⟨xs,hq⟩,q⟩ | ⟨⟨xs,hq⟩,q⟩
 ·obtain ⟨its,rv,p,hz⟩:=I1.list hq
  refine wpAny_pyIter_list p.isList ?_
  refine ⟨s1.heap.objs.size,[s1.heap.objs.size],_,_,H1,rfl,I1.kept (t':=s1.toks) fun b o e=>Heap.get?_push_of_some _ e,mI a _,⟨_,Heap.get?_push_size _ rfl,rfl,rfl⟩,fun b hb=>?_,q⟩
  have e:b=s1.heap.objs.size:=by simpa using hb
  subst e
  exact I1.fpOk (Nat.le_refl _) (I1.hok.fresh (Nat.le_refl _))
 ·obtain ⟨its,rv,p,hz⟩:=I1.tuple hq
  refine wpAny_pyIter_tuple (show s1.heap.IsTuple a its.toArray from p) ?_
  refine ⟨s1.heap.objs.size,[s1.heap.objs.size],_,_,H1,rfl,I1.kept (t':=s1.toks) fun b o e=>Heap.get?_push_of_some _ e,qH a _,⟨_,Heap.get?_push_size _ rfl,rfl,rfl⟩,fun b hb=>?_,q⟩
  have e:b=s1.heap.objs.size:=by simpa using hb
  subst e
  exact I1.fpOk (Nat.le_refl _) (I1.hok.fresh (Nat.le_refl _))
theorem dN {tg l:Expr} (hl:DE X l fa):DI X tg l (do let x <- fa;lift (bO x)):=qO (BH hl) fun σ H R ⟨c,δ,S,T,it,δ',s,e,k⟩=>by
 obtain ⟨x,δ1,e1,e⟩:=bind_some e
 obtain ⟨e2,rfl⟩:=ax e
 refine ⟨c,δ,S,T,x,δ1,s,e1,fun v H' s'=>?_⟩
 cases x with
 | tup ds=>
  cases e2
  obtain ⟨p,vs,rfl,h1,h2⟩:=s'.st.head.tup
  exact ⟨p,rfl,.inr ⟨⟨vs,.of (aK _ _ h1)⟩,k _ [.tup ds] [.ref p] H' rfl (yK rfl) s'⟩⟩
 | lst ds=>
  cases e2
  obtain ⟨p,vs,rfl,h1,h2⟩:=s'.st.head.lst
  exact ⟨p,rfl,.inl ⟨⟨vs,.inl (Rd.mono aK h1)⟩,k _ [.lst ds] [.ref p] H' rfl zd s'⟩⟩
 | _=>cases e2
def bo (lo:Int) (n:Nat):List D:=(List.range n).map fun (i:Nat)=>D.int (lo + (i:Int))
theorem sv {lo:Int} {n:Nat}:El (EC lo n) (aQ (bo lo n)) [] []:=fun c δ S σ T H i s=>by
 refine ⟨fun act d ha hd=>?_,fun e _=>by
  have:(aQ (bo lo n)).1.length=n:=by simp [aQ,bo]
  show n ≤ i
  omega⟩
 have h:=fu ha hd
 unfold bo at h
 rw [List.getElem?_map] at h
 have hi:i < n:= by
  by_cases hi:i < n
  ·exact hi
  ·rw [List.getElem?_eq_none (by simp;omega)] at h;cases h
 rw [List.getElem?_range hi] at h
 cases h
 refine ⟨hi,fun x H' y=>?_⟩
 obtain ⟨rfl,rfl⟩:=y
 exact s.stk (.cons .mkI s.st)
def aF (i:Int):Bool:=decide (-(2 ^ 62) ≤ i) && decide (i < 2 ^ 62)
def bT:List D->Option iB
 | [.int j]=>if aF j=true then some (aQ (bo 0 j.toNat)) else none
 | _=>none
def pq:List D->Option iB
 | [.int i,.int j]=>if (aF i && aF j)=true then some (aQ (bo i (j - i).toNat)) else none
 | _=>none
theorem aX {tg a:Expr} {p:Pos} {fs:M (List D)} (hg:Gl X "range") (hm:X.mg "range" = none) (ha:DA X [a] fs) (hs:starEach [a] X.env=[(false,eval a X.env)]:=by rfl):DI X tg (.Call (.Name "range" p) [a] [] pos) (mC bT fs) :=
 qO (uQ hg hm ha hs) fun σ H R ⟨c,δ,S,T,it,δ',s,e,k⟩=>by
  obtain ⟨ds,δ1,e1,e⟩:=bind_some e
  obtain ⟨e2,rfl⟩:=ax e
  refine ⟨c,δ,S,T,ds,δ1,s,e1,fun vs H' l s'=>?_⟩
  unfold bT at e2
  split at e2
  ·split at e2
   ·rename_i j hj
    cases e2
    obtain ⟨v,rfl,r⟩:=ud (s'.st.left l)
    cases r.int
    simp only [aF,Bool.and_eq_true,decide_eq_true_eq] at hj
    exact ⟨j,rfl,hj.1,hj.2,k _ [] [] H' rfl sv (s'.stk (s'.st.right l))⟩
   ·cases e2
  ·cases e2
theorem jq {tg a b:Expr} {p:Pos} {fs:M (List D)} (hg:Gl X "range") (hm:X.mg "range" = none) (ha:DA X [a,b] fs) (hs:starEach [a,b] X.env=[(false,eval a X.env),(false,eval b X.env)]:=by rfl) (hs2:starEach [b] X.env=[(false,eval b X.env)]:=by rfl) :
  DI X tg (.Call (.Name "range" p) [a,b] [] pos) (mC pq fs) :=
 qO (uM hg hm ha hs hs2) fun σ H R ⟨c,δ,S,T,it,δ',s,e,k⟩=>by
  obtain ⟨ds,δ1,e1,e⟩:=bind_some e
  obtain ⟨e2,rfl⟩:=ax e
  refine ⟨c,δ,S,T,ds,δ1,s,e1,fun vs H' l s'=>?_⟩
  unfold pq at e2
  split at e2
  ·split at e2
   ·rename_i i j hj
    cases e2
    obtain ⟨v,u,rfl,r1,r2⟩:=G6 (s'.st.left l)
    cases r1.int
    cases r2.int
    simp only [aF,Bool.and_eq_true,decide_eq_true_eq] at hj
    exact ⟨i,j,rfl,⟨hj.1.1,hj.1.2,hj.2.1,hj.2.2⟩,k _ [] [] H' rfl sv (s'.stk (s'.st.right l))⟩
   ·cases e2
  ·cases e2
def cj (i n:Nat):iB:=((List.range n).map fun (j:Nat) (δ:DS)=>match δ[i]? with
 | some (.ow _ xs)=>if xs.length=n then xs[j]? else none
 | _=>none,fun δ=>match δ[i]? with
 | some (.ow _ xs)=>decide (xs.length=n)
 | _=>false)
def aO (i:Nat):M (List D):=fun δ=>match δ[i]? with
 | some (.ow _ xs)=>some (xs,δ)
 | _=>none
theorem aZ {i:Nat} {xs:List D} {δ δ':DS} (h:aO i δ=some (xs,δ')):(∃ b,δ[i]? = some (.ow b xs))∧δ=δ':= by
 unfold aO at h
 split at h
 ·rename_i b ys e;cases h;exact ⟨⟨b,e⟩,rfl⟩
 ·cases h
end
end Jt
namespace Jt
open PySem L2
section
variable {X:Cx} {a b e tg iter elt:Expr} {fa fb te:M D} {fF:M (List D)} {pos:Pos} {st:Stmt} {rest:List Stmt} {f g body:M Fl} {tt:M Bool} {fi:M iB} {gt:D->M Unit}
theorem Sl.drop {c:Ct} {δ:DS} {A S:List D} {σ:St} {P T:List V} {H:Hp} (s:Sl c δ (A ++ S) σ (P ++ T) H) (l:P.length=A.length):Sl c δ S σ T H:=s.stk (s.st.right l)
theorem Sl.rot {c:Ct} {δ:DS} {A B S:List D} {σ:St} {P Q T:List V} {H:Hp} (s:Sl c δ (A ++ (B ++ S)) σ (P ++ (Q ++ T)) H) (l:P.length=A.length) (l2:Q.length=B.length):Sl c δ (B ++ (A ++ S)) σ (Q ++ (P ++ T)) H :=
 s.stk (((s.st.right l).left l2).append ((s.st.left l).append ((s.st.right l).right l2)))
def forM (gt:D->M Unit) (body:M Fl) (fin:DS->Bool):List (DS->Option D)->M Fl
 | []=>fun δ=>if fin δ=true then some (.nx,δ) else none
 | a :: r=>fun δ=>match a δ with
  | none=>none
  | some d=>(do
   gt d
   let fl <- body
   match fl with
   | .nx=>forM gt body fin r
   | .ct=>forM gt body fin r
   | .bk=>pure .nx
   | .rt d=>pure (.rt d)
   | .rf d=>pure (.rf d)) δ
theorem c6 {sts:List Stmt} (hi:DI X tg iter fi) (hg:DG X 0 tg gt) (hb:og X sts body) (hp:PassesOwn (model X.prog X.w) X.A X.env X.xe:=by exact PassesOwn.never) (hc:X.calm=true:=by rfl)
  (hs:∀ x,foldedSetIterable iter X.env x=pure x:=by intro _;rfl):mE X (.For tg iter sts [] pos) (do let it <- fi;forM gt body it.2 it.1):=ig (D5 hp hc hi hg hb hs) fun E σ0 H0 ⟨c,δ0,S,T,fl,δ',s0,e,k⟩=>by
 obtain ⟨it,δ1,e1,e⟩:=bind_some e
 refine ⟨c,δ0,S,T,it,δ1,s0,e1,fun J Sx Tx H1 l hJ s1=>?_⟩
 obtain ⟨items,fin⟩:=it
 refine ⟨fun i m σ H=>∃ δi,m=items.length - i∧i ≤ items.length∧Sl c δi (Sx ++ S) σ (Tx ++ T) H∧forM gt body fin (items.drop i) δi=some (fl,δ'),⟨_,δ1,rfl,Nat.zero_le _,s1,e⟩,?_⟩
 rintro i m σ H ⟨δi,rfl,hi,s,em⟩
 by_cases hlt:i < items.length
 ·rw [List.drop_eq_getElem_cons hlt] at em
  unfold forM at em
  cases ea:items[i] δi with
  | none=>rw [ea] at em;cases em
  | some d=>
   rw [ea] at em
   dsimp only at em
   obtain ⟨u,δ2,e2,em⟩:=bind_some em
   obtain ⟨fl1,δ3,e3,em⟩:=bind_some em
   obtain ⟨go,yld⟩:=(hJ c δi S σ T H i s).1 items[i] d (List.getElem?_eq_getElem hlt) ea
   refine .inr ⟨go,fun σ' H'=>∃ δi,Sl c δi (Sx ++ S) σ' (Tx ++ T) H' ∧ forM gt body fin (items.drop (i + 1)) δi=some (fl,δ'),fun σ' H' ⟨δj,sj,ej⟩=>⟨items.length - (i + 1),by omega,δj,rfl,hlt,sj,ej⟩,fun x H' y=>?_⟩
   refine ⟨c,δi,Sx ++ S,Tx ++ T,d,δ2,yld x H' y,e2,fun σ2 H2 _ s2=>⟨c,δ2,Sx ++ S,Tx ++ T,fl1,δ3,s2,e3,?_⟩⟩
   cases fl1 with
   | nx=>exact fun σ' H' s'=>⟨δ3,s',em⟩
   | ct=>exact fun σ' H' s'=>⟨δ3,s',em⟩
   | bk=>
    obtain ⟨rfl,rfl⟩:=ai em
    exact fun σ' H' s'=>k _ _ (s'.drop l)
   | rt d'=>
    obtain ⟨rfl,rfl⟩:=ai em
    exact fun v σ' H' s'=>k v σ' H' (s'.stk (.cons s'.st.head (s'.st.tail.right l)))
   | rf xs=>
    obtain ⟨rfl,rfl⟩:=ai em
    exact fun q vs σ' H' h1 h2 h3 h4 h5=>k q vs σ' H' h1 (h2.stk ((h2.st.left h1).append ((h2.st.right h1).right l))) h3 h4 h5
 ·have ei:i=items.length:=by omega
  subst ei
  rw [List.drop_length] at em
  unfold forM at em
  by_cases hf:fin δi=true
  ·rw [if_pos hf] at em
   cases em
   exact .inl ⟨(hJ c _ S σ T H _ s).2 rfl hf,k _ _ (s.drop l)⟩
  ·rw [if_neg hf] at em;cases em
def HR (J:It) (its:iB) (Sx:List D) (Tx:List V) (σ:St):Prop:=∀ (c:Ct) (δ:DS) (S:List D) (T:List V) (H:Hp) (i:Nat),Sl c δ (Sx ++ S) σ (Tx ++ T) H ->
 (∀ act d,its.1[i]? = some act->act δ=some d->J.go i H∧∀ x H',J.yld i H x H' -> Sl c δ (d :: (Sx ++ S)) σ (x :: (Tx ++ T)) H')∧(i=its.1.length->its.2 δ=true->J.stop i H)
inductive FW (f:M iB) (σ:St) (H:Hp) (R:It->Hp->Prop):Prop
 | mk (c:Ct) (δ:DS) (S:List D) (T:List V) (it:iB) (δ':DS) (s:Sl c δ S σ T H) (e:f δ=some (it,δ')) (q:∀ J Sx Tx H',Tx.length=Sx.length->HR J it Sx Tx σ->Sl c δ' (Sx ++ S) σ (Tx ++ T) H' -> R J H'):FW f σ H R
abbrev DC (X:Cx) (tg iter:Expr) (f:M iB):Prop:=PI X tg iter (FW f)
theorem cu (h:DI X tg iter fi):DC X tg iter fi:=qO h fun σ H R ⟨c,δ,S,T,it,δ',s,e,k⟩=>⟨c,δ,S,T,it,δ',s,e,fun J Sx Tx H' l hJ s'=>k J Sx Tx H' l (fun c δ S T H i=>hJ c δ S σ T H i) s'⟩
theorem D2 (i:Nat) {x:Str} {pos:Pos} (hN:X.N[i]? = some x:=by rfl) (hv:pk X.env.scope x:=by first | exact Or.inl rfl | exact Or.inr (Or.inl rfl) | exact Or.inr (Or.inr rfl)) (hd:(x == ("__debug__":Str))=false:=by decide)
  (hcd:(x == ("__classdict__":Str))=false:=by decide):DC X tg (.Name x pos) (do let xs <- aO i;pure (cj i xs.length)):=qO (yx (dk hN hv hd hcd)) fun σ H R ⟨c,δ,S,T,it,δ',s,e,k⟩=>by
 obtain ⟨xs,δ1,e1,e⟩:=bind_some e
 obtain ⟨rfl,rfl⟩:=ai e
 obtain ⟨⟨b,hi⟩,rfl⟩:=aZ e1
 obtain ⟨a,vs,ea,hH,hv,_⟩:=s.ow i b xs hi
 refine ⟨_,ea,a,rfl,⟨vs,.of hH⟩,k _ [] [] H rfl ?_ s⟩
 intro c δ S T H j s
 refine ⟨fun act d ha hd=>?_,fun ej hf=>?_⟩
 ·unfold cj at ha
  rw [List.getElem?_map] at ha
  have hj:j < xs.length:= by
   by_cases hj:j < xs.length
   ·exact hj
   ·rw [List.getElem?_eq_none (by simp;omega)] at ha;cases ha
  rw [List.getElem?_range hj] at ha
  cases ha
  dsimp only at hd
  split at hd
  ·rename_i b' ys hy
   split at hd
   ·obtain ⟨a',ws,ea',hH',hv',_⟩:=s.ow i b' ys hy
    rw [ea] at ea';cases ea'
    obtain ⟨v,hv2,r⟩:=hv'.get hd
    refine ⟨⟨ws,v,.of hH',hv2⟩,fun x H' y=>?_⟩
    obtain ⟨rfl,y⟩:=y
    have:=y ws (.of hH')
    rw [hv2] at this;cases this
    exact s.stk (.cons r s.st)
   ·cases hd
  ·cases hd
 ·unfold cj at hf ej
  dsimp only at hf
  split at hf
  ·rename_i b' ys hy
   obtain ⟨a',ws,ea',hH',hv',_⟩:=s.ow i b' ys hy
   rw [ea] at ea';cases ea'
   have hl:ys.length=xs.length:=of_decide_eq_true hf
   refine ⟨ws,.of hH',?_⟩
   rw [hv'.length,ej]
   simp
   omega
  ·cases hf
def bz (gt:D->M Unit) (tt:M Bool) (te:M D) (d:D):M (Option D):=do
 gt d
 let b <- tt
 if b=true then do
  let x <- te
  pure (some x)
 else pure none
def d_ (own:Nat) (turn:D->M (Option D)) (fin:DS->Bool):List (DS->Option D)->M (List D)
 | []=>fun δ=>if fin δ=true then some ([],δ) else none
 | a :: r=>fun δ=>match a δ with
  | none=>none
  | some d=>match turn d (δ ++ List.replicate own .un) with
   | none=>none
   | some (o,δ2)=>match d_ own turn fin r (δ2.take δ.length) with
    | none=>none
    | some (xs,δ3)=>some (o.toList ++ xs,δ3)
def f9 (n:Nat):M Unit:=fun δ=>if δ.length=n then some ((),δ) else none
def bh (lo own:Nat) (fi:M iB) (turn:D->M (Option D)):M (List D):=do
 f9 lo
 let it <- fi
 let _ <- lift (few it.1.length)
 d_ own turn it.2 it.1
theorem k5 {lo own:Nat}:∀ σ H Q,Fu (bh lo own fi (bz gt tt te)) σ H Q->r8 (FW fi) own (Eg lo gt) (qS tt) (tM te) σ H Q:=fun σ H Q ⟨c,δ0,S,T,xs,δ',s0,e,k⟩=>by
 obtain ⟨u,δ1,e0,e⟩:=bind_some e
 have hlo:σ.length=lo∧δ0=δ1:= by
  unfold f9 at e0
  split at e0
  ·cases e0;exact ⟨by rw [<- s0.len];assumption,rfl⟩
  ·cases e0
 obtain ⟨hlo,rfl⟩:=hlo
 obtain ⟨it,δ2,e1,e⟩:=bind_some e
 obtain ⟨u',δ3,e2,e⟩:=bind_some e
 obtain ⟨e3,rfl⟩:=ax e2
 have hfew:=(gM e3).2
 refine ⟨c,δ0,S,T,it,δ2,s0,e1,fun J Sx Tx H1 l hJ s1 q hq=>?_⟩
 obtain ⟨items,fin⟩:=it
 dsimp only at e hfew
 obtain ⟨f1,f2,f3⟩:=s1.fresh hq
 refine ⟨fun i m acc H=>∃ δi accD xsR,m=items.length - i∧i ≤ items.length∧acc.length=accD.length∧acc.length ≤ i∧Sl { c with Z:=upd c.Z q (.lst acc) } δi (accD ++ (Sx ++ S)) σ (acc ++ (Tx ++ T)) H ∧
  d_ own (bz gt tt te) fin (items.drop i) δi=some (xsR,δ')∧accD ++ xsR=xs,⟨_,δ2,[],xs,rfl,Nat.zero_le _,rfl,Nat.le_refl _,s1.hide hq,e,rfl⟩,?_⟩
 rintro i m acc H ⟨δi,accD,xsR,rfl,hi,la,li,s,em,ex⟩
 have hacc:H q=some (.lst acc):=s.zz q _ ay
 refine ⟨hacc,?_⟩
 have sr:=s.rot la l
 by_cases hlt:i < items.length
 ·rw [List.drop_eq_getElem_cons hlt] at em
  unfold d_ at em
  cases ea:items[i] δi with
  | none=>rw [ea] at em;cases em
  | some d=>
   rw [ea] at em
   dsimp only at em
   cases et:bz gt tt te d (δi ++ List.replicate own .un) with
   | none=>rw [et] at em;cases em
   | some p=>
    obtain ⟨o,δt⟩:=p
    rw [et] at em
    dsimp only at em
    cases ec:d_ own (bz gt tt te) fin (items.drop (i + 1)) (δt.take δi.length) with
    | none=>rw [ec] at em;cases em
    | some p=>
     obtain ⟨xs3,δ3⟩:=p
     rw [ec] at em
     cases em
     obtain ⟨u1,δa,ea1,et⟩:=bind_some et
     obtain ⟨b,δb,eb1,et⟩:=bind_some et
     obtain ⟨go,yld⟩:=(hJ { c with Z:=upd c.Z q (.lst acc) } δi (accD ++ S) (acc ++ T) H i sr).1 items[i] d (List.getElem?_eq_getElem hlt) ea
     refine .inr ⟨go,fun x H' y=>?_⟩
     refine ⟨{ c with Z:=upd c.Z q (.lst acc) },δi ++ List.replicate own .un,Sx ++ (accD ++ S),Tx ++ (acc ++ T),d,δa,(yld x H' y).ext own,ea1,fun σ2 H2 hn s2=>?_⟩
     have ht:σ2.take σ.length=σ:= by
      rw [hn _ (Nat.le_of_eq hlo)]
      exact List.take_left' rfl
     refine ⟨ht,{ c with Z:=upd c.Z q (.lst acc) },δa,Sx ++ (accD ++ S),Tx ++ (acc ++ T),b,δb,s2,eb1,fun H3 s3=>?_⟩
     have cutL:δi.length=σ.length:=s.len
     cases b with
     | true=>
      rw [if_pos rfl] at et
      refine zK ?_
      obtain ⟨y1,δy,ey,et⟩:=bind_some et
      obtain ⟨rfl,rfl⟩:=ai et
      refine ⟨{ c with Z:=upd c.Z q (.lst acc) },δb,Sx ++ (accD ++ S),Tx ++ (acc ++ T),y1,δy,s3,ey,fun v H4 s4=>?_⟩
      refine ⟨s4.zz q _ ay,by omega,items.length - (i + 1),by omega,δy.take δi.length,accD ++ [y1],xs3,rfl,hlt,by simp [la],by simp;omega,?_,ec,by rw [<- ex];simp⟩
      have s5:=s4.cut σ.length
      rw [ht,<- cutL] at s5
      have s6:=Sl.hideSet (.lst (acc ++ [v])) s5 f2 f3
      refine s6.stk ?_
      have h1:=s6.st.head
      have h2:=s6.st.tail.left l
      have h3:=s6.st.tail.right l
      have h4:=h3.left la
      have h5:=h3.right la
      exact (h4.append (.cons h1 .nil)).append (h2.append h5)
     | false=>
      rw [if_neg Bool.false_ne_true] at et
      refine y3 ?_
      obtain ⟨rfl,rfl⟩:=ai et
      refine ⟨items.length - (i + 1),by omega,δb.take δi.length,accD,xs3,rfl,hlt,la,by omega,?_,ec,ex⟩
      have s5:=s3.cut σ.length
      rw [ht,<- cutL] at s5
      exact s5.rot l la
 ·have ei:i=items.length:=by omega
  subst ei
  rw [List.drop_length] at em
  unfold d_ at em
  by_cases hf:fin δi=true
  ·rw [if_pos hf] at em
   cases em
   rw [List.append_nil] at ex
   subst ex
   refine .inl ⟨(hJ { c with Z:=upd c.Z q (.lst acc) } _ (accD ++ S) (acc ++ T) H _ sr).2 rfl hf,k q acc H la ?_ f1 f2 f3⟩
   exact s.stk ((s.st.left la).append ((s.st.right la).right l))
  ·rw [if_neg hf] at em;cases em
theorem bX:qj X [] (qS (pure true)):=fun pins s σ H Q I ⟨c,δ,S,T,b,δ',sl,e,k⟩=>by
 obtain ⟨rfl,rfl⟩:=ai e
 exact yH pins s σ H Q I (k H sl)
theorem dv {t:Expr} (h:DT X t tt):qj X [t] (qS tt):=zU h
variable {N' own:List Str} {scope:Scope} {ifs:List Expr} {lo:Nat}
theorem bP (hi:DC X tg iter fi) (hg:∀ s H fp pins,DG (blk X N' own scope s H fp pins) lo tg gt) (ht:∀ s H fp pins,qj (blk X N' own scope s H fp pins) ifs (qS tt)) (he:∀ s H fp pins,DE (blk X N' own scope s H fp pins) elt te)
  (hS:dP N' own X.env.scope scope=true:=by rfl) (hM:dQ X.N N' scope=true:=by rfl) (hk:scope.kind=.function:=by rfl) (hc:X.calm=true:=by rfl) (hs:∀ x,foldedSetIterable iter X.env x=pure x:=by intro _;rfl) :
  DF X (.ListComp elt [⟨tg,iter,ifs,0⟩] scope pos) (bh lo own.length fi (bz gt tt te)):=b4 (Av hi hg ht he hS hM hk hc hs) k5
theorem yS (i:Nat) {x:Str} {pos'' pos1:Pos} (hN:X.N.Nodup) (hi:DC X tg iter fi) (hg:∀ s H fp pins,DG (blk X N' own scope s H fp pins) lo tg gt) (ht:∀ s H fp pins,qj (blk X N' own scope s H fp pins) ifs (qS tt)) (he:∀ s H fp pins,DE (blk X N' own scope s H fp pins) elt te)
  (hx0:X.N[i]? = some x:=by rfl) (hx:X.env.scope.names.lookup x=some .local:=by rfl)
  (hsw:swapsWith (.ListComp elt [⟨tg,iter,ifs,0⟩] scope pos) (some (.Name x pos'')) pos1.line X.env=pure true:=by rfl)
  (hS:dP N' own X.env.scope scope=true:=by rfl) (hM:dQ X.N N' scope=true:=by rfl) (hk:scope.kind=.function:=by rfl) (hc:X.calm=true:=by rfl) (hs:∀ x,foldedSetIterable iter X.env x=pure x:=by intro _;rfl) :
  mE X (.Assign [.Name x pos''] (.ListComp elt [⟨tg,iter,ifs,0⟩] scope pos) pos1) (qp i (bh lo own.length fi (bz gt tt te))) :=
 ig (tH hN hx0 hx hi hg ht he hsw hS hM hk hc hs) (E_ k5)
theorem HU {te:TE} {f:M (List D)} (w:∀ σ H Q,Fu f σ H Q->te σ H Q):∀ σ H Q,tM (do let xs <- f;pure (.lst xs)) σ H Q->te σ H Q:=fun σ H Q ⟨c,δ,S,T,d,δ',s,e,k⟩=>by
 obtain ⟨xs,δ1,e1,e2⟩:=bind_some e
 obtain ⟨rfl,rfl⟩:=ai e2
 exact w _ _ _ ⟨c,δ,S,T,xs,δ1,s,e1,fun l vs H' hl s' hz _ _=>k _ _ (s'.unhideL hl hz)⟩
theorem iQ (i:Nat) {x:Str} {pos'' pos1:Pos} (hN:X.N.Nodup) (hi:DC X tg iter fi) (hg:∀ s H fp pins,DG (blk X N' own scope s H fp pins) lo tg gt) (ht:∀ s H fp pins,qj (blk X N' own scope s H fp pins) ifs (qS tt)) (he:∀ s H fp pins,DE (blk X N' own scope s H fp pins) elt te)
  (hx0:X.N[i]? = some x:=by rfl) (hx:X.env.scope.names.lookup x=some .local:=by rfl)
  (hsw:swapsWith (.ListComp elt [⟨tg,iter,ifs,0⟩] scope pos) (some (.Name x pos'')) pos1.line X.env=pure true:=by rfl)
  (hS:dP N' own X.env.scope scope=true:=by rfl) (hM:dQ X.N N' scope=true:=by rfl) (hk:scope.kind=.function:=by rfl) (hc:X.calm=true:=by rfl) (hs:∀ x,foldedSetIterable iter X.env x=pure x:=by intro _;rfl) :
  mE X (.Assign [.Name x pos''] (.ListComp elt [⟨tg,iter,ifs,0⟩] scope pos) pos1) (c_ i (do let xs <- bh lo own.length fi (bz gt tt te);pure (.lst xs))) :=
 ig (tH hN hx0 hx hi hg ht he hsw hS hM hk hc hs) (EW (HU k5))
end
end Jt
namespace Jt
open PySem L2
def hz (Z H:Hp):Hp:=Cg (fun a=>∃ o,Z a=some o) H
def jX (n:Nat) (mf:List D->Option D):Sp:=fun vs H Q _=>vs.length=n∧∃ (Z:Hp) (ds:List D) (d:D),Ee Z H∧Rs (hz Z H) ds vs∧mf ds=some d∧∀ v H',xW H H' -> R (hz Z H') d v->Q v H'
def uW (n:Nat) (mf:List D->Option (List D)):Sp:=fun vs H Q _=>vs.length=n∧∃ (Z:Hp) (ds:List D) (xs:List D),Ee Z H∧Rs (hz Z H) ds vs∧mf ds=some xs ∧
 ∀ l ws H',xW H H' -> H l=none->H' l=some (.lst ws)->Rs (hz (upd Z l (.lst ws)) H') xs ws->Q (.ref l) H'
def ym (n:Nat) (mf:List D->List D->Option (D × List D)):Sp:=fun vs H Q _=>vs.length=n∧∃ (Z:Hp) (a:Addr) (ws:List V) (xs:List D) (us:List V) (ds:List D) (d:D) (xs':List D),vs=.ref a :: us∧Ee Z H∧Z a=none∧H a=some (.lst ws) ∧
 Rs (hz (upd Z a (.lst ws)) H) xs ws∧Rs (hz (upd Z a (.lst ws)) H) ds us∧mf xs ds=some (d,xs') ∧
 ∀ v ws' H',(∀ b o,b ≠ a->H b=some o->H' b=some o)->H' a=some (.lst ws')->Rs (hz (upd Z a (.lst ws')) H') xs' ws' -> R (hz (upd Z a (.lst ws')) H') d v->Q v H'
section
variable {c:Ct} {δ:DS} {S:List D} {σ:St} {T:List V} {H:Hp}
open Classical in
def zF (c:Ct) (δ:DS) (σ:St) (H:Hp):Hp:=fun a=>if Hd c δ σ a then H a else none
theorem gW (s:Sl c δ S σ T H) (a:Addr):(∃ o,zF c δ σ H a=some o) ↔ Hd c δ σ a:= by
 unfold zF
 by_cases h:Hd c δ σ a
 ·rw [if_pos h];exact Iff.intro (fun _=>h) fun _=>s.hdSome h
 ·rw [if_neg h];exact Iff.intro (fun ⟨o,z⟩=>nomatch z) fun z=>absurd z h
theorem qN (s:Sl c δ S σ T H):Ee (zF c δ σ H) H:=fun a o h=>by
 unfold zF at h
 split at h
 ·rename_i hd
  refine ⟨h,fun xs e=>?_⟩
  subst e
  rcases hd with ⟨o,z⟩ | ⟨i,bb,ys,h1,h2⟩
  ·obtain ⟨h1,h2⟩:=s.zk a o z
   rw [h] at h1;cases h1
   exact h2 xs rfl
  ·obtain ⟨a',ws,e,h3,_⟩:=s.ow i bb ys h1
   rw [h2] at e;cases e
   rw [h] at h3;cases h3
 ·cases h
end
section
variable {X:Cx} {a b e:Expr} {fa fb:M D} {fs:M (List D)} {pos p:Pos} {es:List Expr} {x:Str} {k:Nat} {f:Addr} {fd:FuncData} {ps:List Str}
theorem yF {mf:List D->Option D} {n:Nat} (F:c9 X.prog X.w X.K X.mg X.base cV k f fd ps (jX n mf)) (hr:bU k X.A) (hm:X.mg x=some (.ref f)) (hk:PySem.W.keepIn X.K (.ref f)=true) (hb:Binds X.K fd ps []) (ha:DA X (a :: es) fs)
  (hg:Gl X x:=by rfl) (hdb:(x == ("__debug__":Str))=false:=by decide) (he:starEach (a :: es) X.env=(false,eval a X.env) :: starEach es X.env:=by rfl) (hpl:(backTo pos (starEach es X.env)).any (·.1)=false:=by rfl) :
  DE X (.Call (.Name x p) (a :: es) [] pos) (mC (fun ds=>if ds.length=n then mf ds else none) fs):=b4 (m7 F hr hg hm hk hb .nil vt ha hdb he hpl) fun σ H Q ⟨c,δ,S,T,d,δ',s,e,k⟩=>by
 obtain ⟨ds,δ1,e1,e⟩:=bind_some e
 obtain ⟨e2,rfl⟩:=ax e
 refine ⟨c,δ,S,T,ds,δ1,s,e1,fun vs H1 l s1=>?_⟩
 dsimp only at e2 ⊢
 split at e2
 ·rename_i hn
  rw [List.append_nil]
  refine ⟨l.trans hn,zF c δ1 σ H1,ds,d,qN s1,(s1.st.left l).mono (aV (fun a o _ z=>(gW s1 a).mp z) fun _ _ _ h=>h),e2,fun v H' g r=>k v H' ?_⟩
  have s2:=s1.grow g
  exact s2.stk (.cons (r.mono (aV (fun a o _ z=>(gW s1 a).mpr z) fun _ _ _ h=>h)) (s2.st.right l))
 ·cases e2
theorem zE {mf:List D->Option (List D)} {n:Nat} (F:c9 X.prog X.w X.K X.mg X.base cV k f fd ps (uW n mf)) (hr:bU k X.A) (hm:X.mg x=some (.ref f)) (hk:PySem.W.keepIn X.K (.ref f)=true) (hb:Binds X.K fd ps []) (ha:DA X (a :: es) fs)
  (hg:Gl X x:=by rfl) (hdb:(x == ("__debug__":Str))=false:=by decide) (he:starEach (a :: es) X.env=(false,eval a X.env) :: starEach es X.env:=by rfl) (hpl:(backTo pos (starEach es X.env)).any (·.1)=false:=by rfl) :
  DF X (.Call (.Name x p) (a :: es) [] pos) (mC (fun ds=>if ds.length=n then mf ds else none) fs):=b4 (m7 F hr hg hm hk hb .nil vt ha hdb he hpl) fun σ H Q ⟨c,δ,S,T,d,δ',s,e,k⟩=>by
 obtain ⟨ds,δ1,e1,e⟩:=bind_some e
 obtain ⟨e2,rfl⟩:=ax e
 refine ⟨c,δ,S,T,ds,δ1,s,e1,fun vs H1 l s1=>?_⟩
 dsimp only at e2 ⊢
 split at e2
 ·rename_i hn
  rw [List.append_nil]
  refine ⟨l.trans hn,zF c δ1 σ H1,ds,d,qN s1,(s1.st.left l).mono (aV (fun a o _ z=>(gW s1 a).mp z) fun _ _ _ h=>h),e2,fun q ws H' g hq hq' r=>?_⟩
  obtain ⟨f1,f2,f3⟩:=s1.fresh hq
  have s2:Sl { c with Z:=upd c.Z q (.lst ws) } δ1 S σ T H':= by
   have h0:=(s1.drop l).hide (o:=.lst ws) hq
   refine h0.grow fun b o hb=>?_
   by_cases eb:b=q
   ·subst eb;rw [ay] at hb;cases hb;exact hq'
   ·rw [aq eb] at hb;exact g b o hb
  refine k q ws H' r.length (s2.stk ((r.mono (aV (fun a o ha z=>?_) fun _ _ _ h=>h)).append s2.st)) f1 f2 f3
  rcases z with ⟨w,z⟩ | z
  ·have z':upd c.Z q (.lst ws) a=some w:=z
   by_cases ea:a=q
   ·subst ea;exact ⟨_,ay⟩
   ·rw [aq ea] at z'
    obtain ⟨o',h'⟩:=(gW s1 a).mpr (.inl ⟨w,z'⟩)
    exact ⟨o',by rw [aq ea];exact h'⟩
  ·have ea:a ≠ q:=fun ea=>s1.hdNew hq (.inr (by rw [<- ea];exact z))
   obtain ⟨o',h'⟩:=(gW s1 a).mpr (.inr z)
   exact ⟨o',by rw [aq ea];exact h'⟩
 ·cases e2
def cq (i n:Nat) (mf:List D->List D->Option (D × List D)) (fs:M (List D)):M D:=fun δ=>match fs δ with
 | none=>none
 | some (ds,δ1)=>match δ1[i]? with
  | some (.ow b xs)=>if ds.length + 1=n then (match mf xs ds with
   | none=>none
   | some (d,xs')=>some (d,δ1.set i (.ow b xs'))) else none
  | _=>none
theorem uy (i:Nat) {mf:List D->List D->Option (D × List D)} {n:Nat} {y:Str} {py:Pos} (F:c9 X.prog X.w X.K X.mg X.base cV k f fd ps (ym n mf)) (hr:bU k X.A) (hm:X.mg x=some (.ref f)) (hk:PySem.W.keepIn X.K (.ref f)=true) (hb:Binds X.K fd ps []) (ha:DA X es fs)
  (hN:X.N[i]? = some y:=by rfl) (hv:pk X.env.scope y:=by first | exact Or.inl rfl | exact Or.inr (Or.inl rfl) | exact Or.inr (Or.inr rfl)) (hd:(y == ("__debug__":Str))=false:=by decide) (hcd:(y == ("__classdict__":Str))=false:=by decide)
  (hg:Gl X x:=by rfl) (hdb:(x == ("__debug__":Str))=false:=by decide) (he:starEach (.Name y py :: es) X.env=(false,eval (.Name y py) X.env) :: starEach es X.env:=by rfl) (hpl:(backTo pos (starEach es X.env)).any (·.1)=false:=by rfl) :
  DE X (.Call (.Name x p) (.Name y py :: es) [] pos) (do let _ <- aO i;cq i n mf fs):=b4 (m7 F hr hg hm hk hb .nil vt (cx (dk hN hv hd hcd) ha he) hdb he hpl) fun σ H Q ⟨c,δ,S,T,d,δ',s,e,k⟩=>by
 obtain ⟨xs0,δ0,e0,e⟩:=bind_some e
 obtain ⟨⟨b0,hi0⟩,rfl⟩:=aZ e0
 obtain ⟨a,vs0,ea,_⟩:=s.ow i b0 xs0 hi0
 unfold cq at e
 cases e1:fs δ with
 | none=>rw [e1] at e;cases e
 | some q=>
  obtain ⟨ds,δ1⟩:=q
  rw [e1] at e
  dsimp only at e
  split at e
  ·rename_i b xs hi
   split at e
   ·rename_i hn
    cases e2:mf xs ds with
    | none=>rw [e2] at e;cases e
    | some q=>
     obtain ⟨d',xs'⟩:=q
     rw [e2] at e
     cases e
     refine ⟨_,ea,c,δ,S,T,ds,δ1,s,e1,fun vs H1 l s1=>?_⟩
     dsimp only
     rw [List.append_nil]
     obtain ⟨a',ws,ea',hH,hxs,hB,hB',hZ⟩:=s1.ow i b xs hi
     rw [ea] at ea';cases ea'
     have hda:Hd c δ1 σ a:=.inr ⟨i,b,xs,hi,ea⟩
     have zi:∀ (o:HO) (y:Addr),(∃ u,upd (fun z=>if z=a then none else zF c δ1 σ H1 z) a o y=some u) ↔ Hd c δ1 σ y:=fun o y=>by
      by_cases ey:y=a
      ·subst ey;rw [ay];exact Iff.intro (fun _=>hda) fun _=>⟨o,rfl⟩
      ·rw [aq ey,if_neg ey];exact gW s1 y
     refine ⟨by simp [l];omega,fun z=>if z=a then none else zF c δ1 σ H1 z,a,ws,xs,vs,ds,d,xs',rfl,fun b o h=>?_,if_pos rfl,hH,hxs.mono (aV (fun y o _ z=>(zi _ y).mp z) fun _ _ _ h=>h),
      (s1.st.left l).mono (aV (fun y o _ z=>(zi _ y).mp z) fun _ _ _ h=>h),e2,fun v ws' H' g ga r1 r2=>k v H' ?_⟩
     ·dsimp only at h;split at h
      ·cases h
      ·exact qN s1 _ _ h
     ·have gr:xW H1 (upd H' a (.lst ws)):=fun y o hy=>by
       by_cases ey:y=a
       ·subst ey;rw [hH] at hy;cases hy;exact ay
       ·rw [aq ey];exact g y o ey hy
      have s2:=(s1.drop l).grow gr
      have m2:∀ y o,hz (upd (fun z=>if z=a then none else zF c δ1 σ H1 z) a (.lst ws')) H' y=some o->eD c δ1 σ (upd H' a (.lst ws)) y=some o :=
       aV (fun y o _ z=>(zi _ y).mpr z) fun y o hy h=>by
        have:y ≠ a:=fun ey=>hy (by rw [ey];exact ⟨_,ay⟩)
        rw [aq this];exact h
      have s3:=(s2.stk (.cons (r2.mono m2) s2.st)).mut hi ea (r1.mono m2)
      have eH:upd (upd H' a (.lst ws)) a (.lst ws')=H':= by
       rw [yX]
       funext y
       by_cases ey:y=a
       ·subst ey;rw [ay,ga]
       ·rw [aq ey]
      rw [eH] at s3
      exact s3
   ·cases e
  ·cases e
end
def entry (N:List Str) (ds:List D):DS:=ds.map .pu ++ List.replicate (N.length - ds.length) .un
def aU (N:List Str) (body:M Fl) (ds:List D):Option D:=match body (entry N ds) with
 | some (.rt d,_)=>some d
 | some (.nx,_)=>some .non
 | _=>none
def eF (N:List Str) (body:M Fl) (ds:List D):Option (List D):=match body (entry N ds) with
 | some (.rf xs,_)=>some xs
 | _=>none
def d5 (N:List Str) (xs ds:List D):DS:=.ow true xs :: (ds.map .pu ++ List.replicate (N.length - (ds.length + 1)) .un)
def bL (N:List Str) (body:M Fl) (xs ds:List D):Option (D × List D):=match body (d5 N xs ds) with
 | some (.rt d,δ)=>(match (show DS from δ)[0]? with
  | some (Slot.ow true xs')=>some (d,xs')
  | _=>none)
 | _=>none
theorem dC {ds:List D} {n:Nat} {i:Nat} {x:Slot} (h:(ds.map Slot.pu ++ List.replicate n .un)[i]? = some x):(∃ d,x=.pu d∧ds[i]? = some d) ∨ x=.un:= by
 by_cases hi:i < ds.length
 ·rw [List.getElem?_append_left (by simpa using hi),List.getElem?_map] at h
  cases q:ds[i]? with
  | none=>rw [q] at h;cases h
  | some d=>rw [q] at h;cases h;exact .inl ⟨d,rfl,rfl⟩
 ·rw [List.getElem?_append_right (by simpa using hi),List.getElem?_replicate] at h
  split at h
  ·cases h;exact .inr rfl
  ·cases h
theorem kC {Z H:Hp} {N:List Str} {ds:List D} {vs:List V} (hZ:Ee Z H) (r:Rs (hz Z H) ds vs) (hl:vs.length ≤ N.length):Sl ⟨Z,[],H⟩ (entry N ds) [] (L2.start N vs) [] H:= by
 have noow:∀ a,¬ tE (entry N ds) (L2.start N vs) a:=fun a ⟨i,b,xs,h1,_⟩=>by
  rcases dC h1 with ⟨d,e,_⟩ | e <;> cases e
 have m:∀ b o,hz Z H b=some o->eD ⟨Z,[],H⟩ (entry N ds) (L2.start N vs) H b=some o:=aV (fun a o _ z=>z.elim (fun z=>z) fun z=>absurd z (noow a)) fun _ _ _ h=>h
 refine ⟨?_,fun i d h=>?_,fun i b xs h=>?_,fun i j b b' xs ys a h=>?_,.nil,fun b o _ h=>h,fun b hb=>(nomatch hb),hZ⟩
 ·have:=r.length
  simp only [entry,L2.start,List.length_append,List.length_map,List.length_replicate]
  omega
 ·rcases dC h with ⟨d',e,hd⟩ | e
  ·cases e
   obtain ⟨v,hv,rv⟩:=r.get hd
   refine ⟨v,?_,rv.mono m⟩
   have hi:i < vs.length:=(List.getElem?_eq_some_iff.mp hv).1
   unfold L2.start
   rw [List.getElem?_append_left (by simpa using hi),List.getElem?_map,hv];rfl
  ·cases e
 ·rcases dC h with ⟨d',e,hd⟩ | e <;> cases e
 ·rcases dC h with ⟨d',e,hd⟩ | e <;> cases e
section
variable {P:Program} {w:World} {K:PySem.W.Frag} {mg:Str->Option Value} {base:Heap} {x qual:Str} {st:Stmt} {f:Addr} {fd:FuncData} {N ps:List Str} {k:Nat} {body:M Fl}
theorem Hs (F:yj K x qual st f fd) (S:az N ps (ak st)) (hb:∀ (cdv:Value) (A:Around) (outer:List Env) (s:Shared) (H:Hp) (E:XK),bU k (A.deeper (PyProof.Rows.envOfC qual (ak st) s.heap.objs.size f cdv))->og (gZ cV P w K mg base N qual (ak st) f cdv A outer s H E).nox (bG st) body) :
  c9 P w K mg base cV (k + 1) f fd ps (jX ps.length (aU N body)):= by
 refine F.ok S (fun vs H Q E h=>h.1) (fun cdv A outer s H vs Q E hr h=>⟨_,hb cdv A outer s H E hr,?_⟩)
 obtain ⟨hl,Z,ds,d,hZ,r,e,q⟩:=h
 have hpl:ps.length ≤ N.length:=by have:=congrArg List.length S.pre;rw [List.length_take] at this;omega
 have s0:=kC (N:=N) hZ r (by rw [hl];exact hpl)
 have fin:∀ {δ':DS} {σ':St} {v:V} {H':Hp},Sl ⟨Z,[],H⟩ δ' [d] σ' [v] H' -> Q v H':=fun {δ' σ' v H'} s'=>
  q v H' (fun b o hb=>s'.keep b o (by simp) hb) (s'.st.head.mono (aV (fun a o _ z=>.inl z) fun _ _ _ h=>h))
 unfold aU at e
 split at e
 ·rename_i d' δ' eb
  cases e
  exact ⟨_,_,_,_,_,_,s0,eb,fun v σ' H' s'=>fin s'⟩
 ·rename_i δ' eb
  cases e
  exact ⟨_,_,_,_,_,_,s0,eb,fun σ' H' s'=>fin (v:=.non) (s'.stk (.cons .mkN .nil))⟩
 ·cases e
theorem HV (F:yj K x qual st f fd) (S:az N ps (ak st)) (hb:∀ (cdv:Value) (A:Around) (outer:List Env) (s:Shared) (H:Hp) (E:XK),bU k (A.deeper (PyProof.Rows.envOfC qual (ak st) s.heap.objs.size f cdv))->og (gZ cV P w K mg base N qual (ak st) f cdv A outer s H E).nox (bG st) body) :
  c9 P w K mg base cV (k + 1) f fd ps (uW ps.length (eF N body)):= by
 refine F.ok S (fun vs H Q E h=>h.1) (fun cdv A outer s H vs Q E hr h=>⟨_,hb cdv A outer s H E hr,?_⟩)
 obtain ⟨hl,Z,ds,d,hZ,r,e,q⟩:=h
 have hpl:ps.length ≤ N.length:=by have:=congrArg List.length S.pre;rw [List.length_take] at this;omega
 have s0:=kC (N:=N) hZ r (by rw [hl];exact hpl)
 unfold eF at e
 split at e
 ·rename_i d' δ' eb
  cases e
  refine ⟨_,_,_,_,_,_,s0,eb,fun l vs' σ' H' h1 s' h3 h4 h5=>?_⟩
  refine q l vs' H' (fun b o hb=>s'.keep b o (by simp) hb) h5 (s'.zz l _ ay) ?_
  exact (s'.st.left h1).mono (aV (fun a o _ z=>.inl z) fun _ _ _ h=>h)
 ·cases e
theorem HL (F:yj K x qual st f fd) (S:az N ps (ak st)) (hb:∀ (cdv:Value) (A:Around) (outer:List Env) (s:Shared) (H:Hp) (E:XK),bU k (A.deeper (PyProof.Rows.envOfC qual (ak st) s.heap.objs.size f cdv))->og (gZ cV P w K mg base N qual (ak st) f cdv A outer s H E).nox (bG st) body) :
  c9 P w K mg base cV (k + 1) f fd ps (ym ps.length (bL N body)):= by
 refine F.ok S (fun vs H Q E h=>h.1) (fun cdv A outer s H vs Q E hr h=>⟨_,hb cdv A outer s H E hr,?_⟩)
 obtain ⟨hl,Z,a,ws,xs,us,ds,d,xs',rfl,hZ,hZa,hH,hxs,hds,e,q⟩:=h
 have hpl:ps.length ≤ N.length:=by have:=congrArg List.length S.pre;rw [List.length_take] at this;omega
 have hlu:us.length + 1 ≤ N.length:=by rw [<- hl] at hpl;simpa using hpl
 have ld:=hds.length
 have ow0:∀ b,tE (d5 N xs ds) (L2.start N (.ref a :: us)) b->b=a:=fun b ⟨i,bb,ys,h1,h2⟩=>by
  cases i with
  | zero=>cases h2;rfl
  | succ i=>
   have h1':(ds.map Slot.pu ++ List.replicate (N.length - (ds.length + 1)) .un)[i]? = some (.ow bb ys):=by simpa [d5] using h1
   rcases dC h1' with ⟨d,e,_⟩ | e <;> cases e
 have m:∀ b o,hz (upd Z a (.lst ws)) H b=some o->eD ⟨Z,[a],H⟩ (d5 N xs ds) (L2.start N (.ref a :: us)) H b=some o:=aV (fun b o _ z=>by
  rcases z with ⟨o',z⟩ | z
  ·have z':Z b=some o':=z
   by_cases eb:b=a
   ·rw [eb,hZa] at z';cases z'
   ·exact ⟨o',by rw [aq eb];exact z'⟩
  ·rw [ow0 b z];exact ⟨_,ay⟩) fun _ _ _ h=>h
 have s0:Sl ⟨Z,[a],H⟩ (d5 N xs ds) [] (L2.start N (.ref a :: us)) [] H:= by
  refine ⟨?_,fun i d h=>?_,fun i b ys h=>?_,fun i j b b' ys zs y h h'=>?_,.nil,fun b o _ h=>h,fun b hb=>?_,hZ⟩
  ·simp only [d5,L2.start,List.length_append,List.length_map,List.length_replicate,List.length_cons]
   omega
  ·cases i with
   | zero=>cases h
   | succ i=>
    have h':(ds.map Slot.pu ++ List.replicate (N.length - (ds.length + 1)) .un)[i]? = some (.pu d):=by simpa [d5] using h
    rcases dC h' with ⟨d',e,hd⟩ | e
    ·cases e
     obtain ⟨v,hv,rv⟩:=hds.get hd
     refine ⟨v,?_,rv.mono m⟩
     have hi:i < us.length:=(List.getElem?_eq_some_iff.mp hv).1
     have:(L2.start N (.ref a :: us))[i + 1]? = some (some v):= by
      unfold L2.start
      rw [List.getElem?_append_left (by simpa using hi),List.getElem?_map,List.getElem?_cons_succ,hv];rfl
     exact this
    ·cases e
  ·cases i with
   | zero=>
    cases h
    exact ⟨a,ws,rfl,hH,hxs.mono m,(fun _=>List.mem_singleton.mpr rfl),(fun z=>absurd z (by simp)),hZa⟩
   | succ i=>
    have h':(ds.map Slot.pu ++ List.replicate (N.length - (ds.length + 1)) .un)[i]? = some (.ow b ys):=by simpa [d5] using h
    rcases dC h' with ⟨d',e,hd⟩ | e <;> cases e
  ·intro _ _
   have z:∀ (i:Nat) b ys,(d5 N xs ds)[i]? = some (.ow b ys)->i=0:=fun i b ys h=>by
    cases i with
    | zero=>rfl
    | succ i=>
     have h':(ds.map Slot.pu ++ List.replicate (N.length - (ds.length + 1)) .un)[i]? = some (.ow b ys):=by simpa [d5] using h
     rcases dC h' with ⟨d',e,hd⟩ | e <;> cases e
   rw [z i b ys h,z j b' zs h']
  ·rw [List.mem_singleton.mp hb];exact ⟨_,hH⟩
 unfold bL at e
 split at e
 ·rename_i d' δ' eb
  split at e
  ·rename_i ys hy
   cases e
   refine ⟨_,_,_,_,_,_,s0,eb,fun v σ' H' s'=>?_⟩
   obtain ⟨a',ws',ea,hH',hv',hB',_,_⟩:=s'.ow 0 true _ hy
   have ea2:a' = a:=List.mem_singleton.mp (hB' rfl)
   subst ea2
   have m':∀ b o,eD ⟨Z,[a'],H⟩ δ' σ' H' b=some o->hz (upd Z a' (.lst ws')) H' b=some o:=aV (fun b o _ z=>by
    obtain ⟨o',z⟩:=z
    by_cases eb:b=a'
    ·subst eb;exact .inr ⟨0,true,_,hy,ea⟩
    ·rw [aq eb] at z;exact .inl ⟨o',z⟩) fun _ _ _ h=>h
   exact q v ws' H' (fun b o hb h=>s'.keep b o (fun z=>hb (List.mem_singleton.mp z)) h) hH' (hv'.mono m') (s'.st.head.mono m')
  ·cases e
 ·cases e
end
end Jt
namespace Jt
open PySem L2
section
variable {X:Cx} {a b e:Expr} {fa fb:M D} {fs:M (List D)} {pos p apos cpos:Pos} {es:List Expr} {x:Str}
theorem Sl.own {c:Ct} {δ:DS} {S:List D} {σ:St} {T:List V} {H:Hp} (s:Sl c δ S σ T H) {i:Nat} {b:Bool} {xs:List D} (hi:δ[i]? = some (.ow b xs)):∃ a vs,σ[i]? = some (some (.ref a))∧H a=some (.lst vs)∧Rs (eD c δ σ H) xs vs:= by
 obtain ⟨a,vs,h1,h2,h3,_⟩:=s.ow i b xs hi
 exact ⟨a,vs,h1,h2,h3⟩
def setOw (i:Nat) (xs:List D):M Unit:=fun δ=>match δ[i]? with
 | some (.ow b _)=>some ((),δ.set i (.ow b xs))
 | _=>none
theorem d9 {i:Nat} {xs:List D} {δ δ':DS} {u:Unit} (h:setOw i xs δ=some (u,δ')):∃ b ys,δ[i]? = some (.ow b ys)∧δ' = δ.set i (.ow b xs):= by
 unfold setOw at h
 split at h
 ·rename_i b ys e;cases h;exact ⟨b,ys,e,rfl⟩
 ·cases h
def eO (i:Nat) (fs:M (List D)):M Fl:=do
 let _ <- aO i
 let ds <- fs
 match ds with
 | [d]=>do
  let xs <- aO i
  let _ <- lift (few xs.length)
  setOw i (xs ++ [d])
  pure .nx
 | _=>lift none
theorem ff (i:Nat) (ha:DA X [a] fs) (hN:X.N[i]? = some x:=by rfl) (hv:pk X.env.scope x:=by first | exact Or.inl rfl | exact Or.inr (Or.inl rfl) | exact Or.inr (Or.inr rfl)) (hd:(x == ("__debug__":Str))=false:=by decide) (hcd:(x == ("__classdict__":Str))=false:=by decide)
  (hfew:((backTo cpos (starEach [a] X.env)).all (fun x=>!x.1) && (backToKw cpos (keywordEach [] X.env)).all (fun x=>x.1.isSome)
   && decide (([a]:List Expr).length + ([]:List Keyword).length + (if ([]:List Keyword).isEmpty then 0 else 1) < 30))=true:=by rfl)
  (hline:(apos.endLine == cpos.line)=true:=by rfl) (hs:starEach [a] X.env=[(false,eval a X.env)]:=by rfl) (hsw:swapsWith (.Call (.Attribute (.Name x p) "append" apos) [a] [] cpos) none pos.line X.env=pure false:=by rfl) :
  mE X (.Expr (.Call (.Attribute (.Name x p) "append" apos) [a] [] cpos) pos) (eO i fs) :=
 ig (m5 (w8 PySem.F.plainAttrs_list PySem.F.slot_list_append PySem.F.type_list_append mh (dk hN hv hd hcd) ha rfl hfew hline hs rfl) hsw) fun E σ H ⟨c,δ,S,T,fl,δ',s,e,k⟩=>by
  obtain ⟨xs0,δ0,e0,e⟩:=bind_some e
  obtain ⟨⟨b0,hi0⟩,rfl⟩:=aZ e0
  obtain ⟨q,vs0,eq,hq,_⟩:=s.own hi0
  obtain ⟨ds,δ1,e1,e⟩:=bind_some e
  refine ⟨_,eq,.inl ⟨rfl,vs0,.of hq⟩,c,δ,S,T,ds,δ1,s,e1,fun vs H1 l s1=>?_⟩
  split at e
  ·rename_i d
   obtain ⟨xs,δ2,e2,e⟩:=bind_some e
   obtain ⟨⟨b1,hi1⟩,rfl⟩:=aZ e2
   obtain ⟨_,δ3,e3,e⟩:=bind_some e
   obtain ⟨e4,rfl⟩:=ax e3
   obtain ⟨_,δ4,e5,e⟩:=bind_some e
   obtain ⟨rfl,rfl⟩:=ai e
   obtain ⟨b2,ys,hi2,rfl⟩:=d9 e5
   rw [hi1] at hi2;cases hi2
   obtain ⟨q',ws,eq',hq',hx⟩:=s1.own hi1
   rw [eq] at eq';cases eq'
   obtain ⟨v,rfl,r⟩:=ud (s1.st.left l)
   refine ⟨q,ws,v,rfl,rfl,hq',by rw [hx.length];exact (gM e4).2,k _ _ ?_⟩
   exact (s1.drop l).mut hi1 eq (hx.append (.cons r .nil))
  ·cases e
def wz (i:Nat) (fs:M (List D)):M D:=do
 let _ <- aO i
 let ds <- fs
 match ds with
 | [.int j]=>do
  let xs <- aO i
  let d <- lift (if 0 ≤ j∧j < 100000 then xs[j.toNat]? else none)
  setOw i (xs.eraseIdx j.toNat)
  pure d
 | _=>lift none
theorem Rs.erase {H:Hp}:∀ {ds:List D} {vs:List V} (i:Nat),Rs H ds vs->Rs H (ds.eraseIdx i) (vs.eraseIdx i)
 | [],vs,i,h=>by rw [h.inv0];simpa using Rs.nil
 | d :: ds,vs,0,h=>by obtain ⟨v,r,e,_,h2⟩:=h.inv;subst e;exact h2
 | d :: ds,vs,i + 1,h=>by obtain ⟨v,r,e,h1,h2⟩:=h.inv;subst e;exact .cons h1 (Rs.erase i h2)
theorem wk (i:Nat) (ha:DA X [a] fs) (hN:X.N[i]? = some x:=by rfl) (hv:pk X.env.scope x:=by first | exact Or.inl rfl | exact Or.inr (Or.inl rfl) | exact Or.inr (Or.inr rfl)) (hd:(x == ("__debug__":Str))=false:=by decide) (hcd:(x == ("__classdict__":Str))=false:=by decide)
  (hfew:((backTo cpos (starEach [a] X.env)).all (fun x=>!x.1) && (backToKw cpos (keywordEach [] X.env)).all (fun x=>x.1.isSome)
   && decide (([a]:List Expr).length + ([]:List Keyword).length + (if ([]:List Keyword).isEmpty then 0 else 1) < 30))=true:=by rfl)
  (hline:(apos.endLine == cpos.line)=true:=by rfl) (hs:starEach [a] X.env=[(false,eval a X.env)]:=by rfl) :
  DE X (.Call (.Attribute (.Name x p) "pop" apos) [a] [] cpos) (wz i fs) :=
 b4 (w8 PySem.F.plainAttrs_list PySem.F.slot_list_pop PySem.F.type_list_pop vo (dk hN hv hd hcd) ha rfl hfew hline hs rfl) fun σ H Q ⟨c,δ,S,T,fl,δ',s,e,k⟩=>by
  obtain ⟨xs0,δ0,e0,e⟩:=bind_some e
  obtain ⟨⟨b0,hi0⟩,rfl⟩:=aZ e0
  obtain ⟨q,vs0,eq,hq,_⟩:=s.own hi0
  obtain ⟨ds,δ1,e1,e⟩:=bind_some e
  refine ⟨_,eq,.inl ⟨rfl,vs0,.of hq⟩,c,δ,S,T,ds,δ1,s,e1,fun vs H1 l s1=>?_⟩
  split at e
  ·rename_i j
   obtain ⟨xs,δ2,e2,e⟩:=bind_some e
   obtain ⟨⟨b1,hi1⟩,rfl⟩:=aZ e2
   obtain ⟨d,δ3,e3,e⟩:=bind_some e
   obtain ⟨e4,rfl⟩:=ax e3
   obtain ⟨_,δ4,e5,e⟩:=bind_some e
   obtain ⟨rfl,rfl⟩:=ai e
   obtain ⟨b2,ys,hi2,rfl⟩:=d9 e5
   rw [hi1] at hi2;cases hi2
   obtain ⟨q',ws,eq',hq',hx⟩:=s1.own hi1
   rw [eq] at eq';cases eq'
   obtain ⟨v,rfl,r⟩:=ud (s1.st.left l)
   cases r.int
   split at e4
   ·rename_i hj
    obtain ⟨y,hy,ry⟩:=hx.get e4
    have hjl:j.toNat < ws.length:=(List.getElem?_eq_some_iff.mp hy).1
    refine ⟨q,ws,j,j.toNat,y,rfl,rfl,hq',by omega,by omega,?_,hy,k _ _ ?_⟩
    ·unfold seqIndex?
     have h1:¬ j < 0:=by omega
     simp only [h1,if_false]
     rw [if_pos]
     simp only [Bool.and_eq_true,decide_eq_true_eq]
     omega
    ·have s2:=s1.drop l
     exact (s2.stk (.cons ry s2.st)).mut hi1 eq (hx.erase j.toNat)
   ·cases e4
  ·cases e
def mX (i:Nat) (fa:M D) (k:Int):M Fl:=do
 let d <- fa
 let xs <- aO i
 let j <- lift (uY xs.length k)
 setOw i (xs.set j d)
 pure .nx
theorem Rs.set {H:Hp} {d:D} {v:V} (r:R H d v):∀ {ds:List D} {vs:List V} (i:Nat),Rs H ds vs->Rs H (ds.set i d) (vs.set i v)
 | [],vs,i,h=>by rw [h.inv0];simpa using Rs.nil
 | d :: ds,vs,0,h=>by obtain ⟨v,q,e,_,h2⟩:=h.inv;subst e;exact .cons r h2
 | d :: ds,vs,i + 1,h=>by obtain ⟨v,q,e,h1,h2⟩:=h.inv;subst e;exact .cons h1 (Rs.set r i h2)
theorem u4 (i:Nat) {k:Int} {j:Nat} {pc psub:Pos} (he:DE X e fa) (hN:X.N[i]? = some x:=by rfl) (hv:pk X.env.scope x:=by first | exact Or.inl rfl | exact Or.inr (Or.inl rfl) | exact Or.inr (Or.inr rfl)) (hd:(x == ("__debug__":Str))=false:=by decide) (hcd:(x == ("__classdict__":Str))=false:=by decide)
  (ha:∀ v,assign (.Subscript (.Name x p) (.Constant (.int k) j pc) psub) X.env v=(do
   let ov <- holding [v] (eval (.Name x p) X.env)
   let iv <- holding [v,ov] (eval (.Constant (.int k) j pc) X.env)
   standAt psub
   holding [v,ov,iv] (setItem ov iv v)
   release [v,ov,iv] []):=by intro _;rfl)
  (hs:swapsWithSole [.Subscript (.Name x p) (.Constant (.int k) j pc) psub] e pos.line X.env=pure false:=by rfl) (hw:swappedStores [.Subscript (.Name x p) (.Constant (.int k) j pc) psub] e X.env=pure none:=by rfl)
  (h1:(assignEach [.Subscript (.Name x p) (.Constant (.int k) j pc) psub] X.env).map (·.2)=[assign (.Subscript (.Name x p) (.Constant (.int k) j pc) psub) X.env]:=by rfl) :
  mE X (.Assign [.Subscript (.Name x p) (.Constant (.int k) j pc) psub] e pos) (mX i fa k) :=
 ig (vj he (CB (dk hN hv hd hcd) xG set_list ha) hs hw h1) fun E σ H ⟨c,δ,S,T,fl,δ',s,e,kk⟩=>by
  obtain ⟨d,δ1,e1,e⟩:=bind_some e
  obtain ⟨xs,δ2,e2,e⟩:=bind_some e
  obtain ⟨⟨b1,hi1⟩,rfl⟩:=aZ e2
  obtain ⟨jj,δ3,e3,e⟩:=bind_some e
  obtain ⟨e4,rfl⟩:=ax e3
  obtain ⟨_,δ4,e5,e⟩:=bind_some e
  obtain ⟨rfl,rfl⟩:=ai e
  obtain ⟨b2,ys,hi2,rfl⟩:=d9 e5
  rw [hi1] at hi2;cases hi2
  refine ⟨c,δ,S,T,d,δ1,s,e1,fun v H1 s1=>?_⟩
  obtain ⟨q,ws,eq,hq,hx⟩:=s1.own hi1
  refine ⟨_,eq,q,ws,k,jj,rfl,rfl,hq,by rw [hx.length];exact e4,kk _ _ ?_⟩
  exact s1.pop.mut hi1 eq (hx.set s1.st.head jj)
def uA (i:Nat) (fb:M D):M D:=do
 let _ <- aO i
 let y <- fb
 let xs <- aO i
 lift (e_ (.lst xs) y)
theorem qK (i:Nat) {px:Pos} (hb:DE X b fb) (hN:X.N[i]? = some x:=by rfl) (hv:pk X.env.scope x:=by first | exact Or.inl rfl | exact Or.inr (Or.inl rfl) | exact Or.inr (Or.inr rfl)) (hd:(x == ("__debug__":Str))=false:=by decide) (hcd:(x == ("__classdict__":Str))=false:=by decide)
  (hs:gY b:=by exact fun _ _=>rfl):DE X (.Subscript (.Name x px) b pos) (uA i fb):=b4 (A0 tJ (dk hN hv hd hcd) hb hs) fun σ H Q ⟨c,δ,S,T,fl,δ',s,e,k⟩=>by
 obtain ⟨xs0,δ0,e0,e⟩:=bind_some e
 obtain ⟨⟨b0,hi0⟩,rfl⟩:=aZ e0
 obtain ⟨q,vs0,eq,hq,_⟩:=s.own hi0
 obtain ⟨y,δ1,e1,e⟩:=bind_some e
 obtain ⟨xs,δ2,e2,e⟩:=bind_some e
 obtain ⟨⟨b1,hi1⟩,rfl⟩:=aZ e2
 obtain ⟨e3,rfl⟩:=ax e
 refine ⟨_,eq,c,δ,S,T,y,δ1,s,e1,fun u H2 s2=>?_⟩
 obtain ⟨q',ws,eq',hq',hx⟩:=s2.own hi1
 rw [eq] at eq';cases eq'
 cases y with
 | int j=>
  have e':jh xs j=some fl:=e3
  obtain ⟨z,e4,r⟩:=qm hx e'
  exact ⟨q,ws,j,z,rfl,s2.st.head.int,.of hq',e4,k _ _ (s2.stk (.cons r s2.st.tail))⟩
 | _=>cases e3
def jK (i:Nat):M D:=do
 let xs <- aO i
 pure (.int xs.length)
theorem iJ (i:Nat) {px:Pos} (hm:X.mg "len" = none) (hg:Gl X "len":=by rfl) (hN:X.N[i]? = some x:=by rfl) (hv:pk X.env.scope x:=by first | exact Or.inl rfl | exact Or.inr (Or.inl rfl) | exact Or.inr (Or.inr rfl)) (hd:(x == ("__debug__":Str))=false:=by decide) (hcd:(x == ("__classdict__":Str))=false:=by decide) :
  DE X (.Call (.Name "len" p) [.Name x px] [] pos) (jK i):=b4 (gB i7 hg hm PySem.boot_len (cx (dk hN hv hd hcd) eY) (by decide) (by decide) rfl rfl) fun σ H Q ⟨c,δ,S,T,fl,δ',s,e,k⟩=>by
 obtain ⟨xs,δ1,e1,e⟩:=bind_some e
 obtain ⟨rfl,rfl⟩:=ai e
 obtain ⟨⟨b1,hi1⟩,rfl⟩:=aZ e1
 obtain ⟨q,ws,eq,hq,hx⟩:=s.own hi1
 refine ⟨_,eq,q,ws,rfl,.inl (.of hq),k _ _ (s.stk (.cons ?_ s.st))⟩
 rw [hx.length];exact .mkI
theorem b_ (hm:X.mg "len" = none) (ha:DA X [a] fs) (hg:Gl X "len":=by rfl) (he:starEach [a] X.env=[(false,eval a X.env)]:=by rfl):DE X (.Call (.Name "len" p) [a] [] pos) (mC bW fs) :=
 gj i7 Dg hg hm PySem.boot_len ha (by decide) (by decide) he rfl
theorem my {T:String} {r:List V->Hp->VK->Prop} {f:List D->Option D} (hc:dR X (.type T) r) (hd:iY r f) (hg:Gl X x) (hm:X.mg x=none) (hv:bootBuiltins x=some (.type T)) (ha:DA X (a :: es) fs) (hn:x ≠ "__name__":=by decide) (hdb:(x == ("__debug__":Str))=false:=by decide)
  (he:starEach (a :: es) X.env=(false,eval a X.env) :: starEach es X.env:=by rfl) (hpl:(backTo pos (starEach es X.env)).any (·.1)=false:=by rfl):DE X (.Call (.Name x p) (a :: es) [] pos) (mC f fs) :=
 b4 (fC hc hg hm hv ha hn hdb he hpl) (Br hd)
def jT:D->Option (List D)
 | .tup ds=>some ds
 | .lst ds=>some ds
 | _=>none
def cG:List D->Option D
 | [x]=>(jT x).map .tup
 | _=>none
theorem wm {K:PySem.W.Frag}:iY (fun xs H Q=>∃ p ys,xs=[.ref p]∧((iV K H p ys∧∀ l,H l=none->Q (.ref l) (upd H l (.tup ys))) ∨ (jd K H p ys∧Q (.ref p) H))) cG:=fun c δ S σ T H ds vs d Q l s e k=>by
 unfold cG at e
 split at e
 ·rename_i x
  have h:=s.st.left l
  have h2:=s.st.right l
  obtain ⟨v,rfl,r⟩:=ud h
  cases x with
  | tup es=>
   cases e
   obtain ⟨p,ws,rfl,h1,h3⟩:=r.tup
   exact ⟨p,ws,rfl,.inr ⟨.of (aK _ _ h1),k _ _ (s.stk (.cons (.mkT h1 h3) h2))⟩⟩
  | lst es=>
   cases e
   obtain ⟨p,ws,rfl,h1,h3⟩:=r.lst
   exact ⟨p,ws,rfl,.inl ⟨.inl (Rd.mono aK h1),fun q hq=>k _ _ ((s.stk (h3.append h2)).newTup h3.length hq)⟩⟩
  | _=>cases e
 ·cases e
theorem dH (hm:X.mg "tuple" = none) (ha:DA X [a] fs) (hg:Gl X "tuple":=by rfl) (he:starEach [a] X.env=[(false,eval a X.env)]:=by rfl):DE X (.Call (.Name "tuple" p) [a] [] pos) (mC cG fs) :=
 my g9 wm hg hm (by decide +kernel) ha (by decide) (by decide) he rfl
def flat:D->Option V
 | .non=>some .non
 | .bl b=>some (.bl b)
 | .int i=>some (.int i)
 | .str x=>some (.str x)
 | _=>none
theorem dz {H:Hp} {d:D} {v u:V} (r:R H d v) (e:flat d=some u):v=u∧gH u=true:= by
 cases d with
 | non=>cases e;exact ⟨r.non,rfl⟩
 | bl b=>cases e;exact ⟨r.bl,rfl⟩
 | int b=>cases e;exact ⟨r.int,rfl⟩
 | str b=>cases e;exact ⟨r.str,rfl⟩
 | _=>cases e
def kQ:List D->Option (List V)
 | []=>some []
 | d :: ds=>match flat d,kQ ds with
  | some v,some vs=>some (v :: vs)
  | _,_=>none
theorem j7 {H:Hp}:∀ {ds:List D} {vs us:List V},Rs H ds vs->kQ ds=some us->vs=us∧us.all gH=true
 | [],vs,us,h,e=>by cases e;exact ⟨h.inv0,rfl⟩
 | d :: ds,vs,us,h,e=>by
  obtain ⟨v,r,ev,h1,h2⟩:=h.inv
  unfold kQ at e
  split at e
  ·rename_i w ws e1 e2
   cases e
   obtain ⟨a1,a2⟩:=dz h1 e1
   obtain ⟨b1,b2⟩:=j7 h2 e2
   refine ⟨by rw [ev,a1,b1],?_⟩
   rw [List.all_cons,a2,b2];rfl
  ·cases e
def l_ (neg:Bool) (x y:D):Option D:=match flat x,jT y with
 | some v,some ds=>(kQ ds).map fun vs=>.bl (if neg then !Ef v vs else Ef v vs)
 | _,_=>none
theorem qz {K:PySem.W.Frag} {neg:Bool}:nv (GK K neg) (l_ neg):=fun c δ S σ T H x y v u d Q s e k=>by
 unfold l_ at e
 split at e
 ·rename_i w ds e1 e2
  cases e3:kQ ds with
  | none=>rw [e3] at e;cases e
  | some vs=>
   rw [e3] at e;cases e
   obtain ⟨rfl,f1⟩:=dz s.st.tail.head e1
   cases y with
   | tup es=>
    cases e2
    obtain ⟨p,ws,rfl,h1,h3⟩:=s.st.head.tup
    obtain ⟨rfl,f2⟩:=j7 h3 e3
    exact ⟨p,ws,rfl,.inr (.of (aK _ _ h1)),f1,f2,k _ _ (s.stk (.cons .mkB s.st.tail.tail))⟩
   | lst es=>
    cases e2
    obtain ⟨p,ws,rfl,h1,h3⟩:=s.st.head.lst
    obtain ⟨rfl,f2⟩:=j7 h3 e3
    exact ⟨p,ws,rfl,.inl (.inl (Rd.mono aK h1)),f1,f2,k _ _ (s.stk (.cons .mkB s.st.tail.tail))⟩
   | _=>cases e2
 ·cases e
theorem v_ (ha:DE X a fa) (hb:DE X b fb) (hm:behindInMarks .In b=false:=by rfl):DE X (.Compare a [.In] [b] pos) (m2 (l_ false) fa fb):=nu lL qz ha hb hm
theorem mB (ha:DE X a fa) (hb:DE X b fb) (hm:behindInMarks .In b=false:=by rfl):DT X (.Compare a [.In] [b] pos) (m2 (l_ false) fa fb >>= dG):=gF lL qz ha hb hm
theorem vD (ha:DE X a fa) (hb:DE X b fb) (hm:behindInMarks .NotIn b=false:=by rfl):DT X (.Compare a [.NotIn] [b] pos) (m2 (l_ true) fa fb >>= dG):=gF nT qz ha hb hm
def b9 (neg:Bool) (x y:D):Option D:=match flat x,flat y with
 | some v,some u=>if jZ v u=true then some (.bl (if neg then !decide (v=u) else decide (v=u))) else none
 | _,_=>none
theorem m6:nv GH (b9 false):=fun c δ S σ T H x y v u d Q s e k=>by
 unfold b9 at e
 split at e
 ·rename_i w z e1 e2
  split at e
  ·rename_i hs
   cases e
   obtain ⟨rfl,_⟩:=dz s.st.tail.head e1
   obtain ⟨rfl,_⟩:=dz s.st.head e2
   exact ⟨hs,k _ _ (s.stk (.cons .mkB s.st.tail.tail))⟩
  ·cases e
 ·cases e
theorem rZ:nv GP (b9 true):=fun c δ S σ T H x y v u d Q s e k=>by
 unfold b9 at e
 split at e
 ·rename_i w z e1 e2
  split at e
  ·rename_i hs
   cases e
   obtain ⟨rfl,_⟩:=dz s.st.tail.head e1
   obtain ⟨rfl,_⟩:=dz s.st.head e2
   exact ⟨hs,k _ _ (s.stk (.cons .mkB s.st.tail.tail))⟩
  ·cases e
 ·cases e
theorem Dh (ha:DE X a fa) (hb:DE X b fb):DE X (.Compare a [.Eq] [b] pos) (m2 (b9 false) fa fb):=nu vN m6 ha hb
theorem eZ (ha:DE X a fa) (hb:DE X b fb):DT X (.Compare a [.Eq] [b] pos) (m2 (b9 false) fa fb >>= dG):=gF vN m6 ha hb
theorem Dm (ha:DE X a fa) (hb:DE X b fb):DT X (.Compare a [.NotEq] [b] pos) (m2 (b9 true) fa fb >>= dG):=gF Bk rZ ha hb
end
end Jt
namespace Jt
open PySem L2
section
variable {X:Cx} {a b e:Expr} {fa fb:M D} {fs:M (List D)} {fF:M (List D)} {pos p apos cpos:Pos} {es rest:List Expr} {x:Str}
def i9:List D->Option D
 | [.int i,.int j]=>some (.int (if j < i then j else i))
 | _=>none
def iR:List D->Option D
 | [.int i,.int j]=>some (.int (if j > i then j else i))
 | _=>none
theorem AU (g:Int->Int->Int) (f:List D->Option D) (hf:∀ ds d,f ds=some d->∃ i j,ds=[.int i,.int j]∧d=.int (g i j)):iY (fun xs H Q=>∃ i j,xs=[.int i,.int j]∧Q (.int (g i j)) H) f:=fun c δ S σ T H ds vs d Q l s e k=>by
 obtain ⟨i,j,rfl,rfl⟩:=hf _ _ e
 obtain ⟨v,u,rfl,r1,r2⟩:=G6 (s.st.left l)
 cases r1.int
 cases r2.int
 exact ⟨i,j,rfl,k _ _ (s.stk (.cons .mkI (s.st.right l)))⟩
theorem uO (ds:List D) (d:D) (h:i9 ds=some d):∃ i j,ds=[.int i,.int j]∧d=.int (if j < i then j else i):= by
 unfold i9 at h
 split at h
 ·cases h;exact ⟨_,_,rfl,rfl⟩
 ·cases h
theorem ur (ds:List D) (d:D) (h:iR ds=some d):∃ i j,ds=[.int i,.int j]∧d=.int (if j > i then j else i):= by
 unfold iR at h
 split at h
 ·cases h;exact ⟨_,_,rfl,rfl⟩
 ·cases h
theorem m4 (hm:X.mg "min" = none) (ha:DA X [a,b] fs) (hg:Gl X "min":=by rfl) (hc:X.calm=true:=by rfl) (he:starEach [a,b] X.env=(false,eval a X.env) :: starEach [b] X.env:=by rfl) (hp:(backTo pos (starEach [b] X.env)).any (·.1)=false:=by rfl):DE X (.Call (.Name "min" p) [a,b] [] pos) (mC i9 fs) :=
 gj (uz hc) (AU _ i9 uO) hg hm (by decide +kernel) ha (by decide) (by decide) he hp
theorem m8 (hm:X.mg "max" = none) (ha:DA X [a,b] fs) (hg:Gl X "max":=by rfl) (hc:X.calm=true:=by rfl) (he:starEach [a,b] X.env=(false,eval a X.env) :: starEach [b] X.env:=by rfl) (hp:(backTo pos (starEach [b] X.env)).any (·.1)=false:=by rfl):DE X (.Call (.Name "max" p) [a,b] [] pos) (mC iR fs) :=
 gj (uf hc) (AU _ iR ur) hg hm (by decide +kernel) ha (by decide) (by decide) he hp
def A_:D->D->Option D
 | .tup (x :: xs),.tup ys=>if xs.length + 1 + ys.length ≤ 100000 then some (.tup ((x :: xs) ++ ys)) else none
 | _,_=>none
theorem wB {K:PySem.W.Frag}:nv (wY K) A_:=fun c δ S σ T H x y v u d Q s e k=>by
 unfold A_ at e
 split at e
 ·rename_i x xs ys
  split at e
  ·rename_i hn
   cases e
   obtain ⟨p,ws,rfl,h1,h3⟩:=s.st.tail.head.tup
   obtain ⟨q,zs,rfl,h4,h5⟩:=s.st.head.tup
   have hl:(100000:Nat) < sizeLine:=by rw [sizeLine_eq];decide
   have l1:=h3.length
   have l2:=h5.length
   rw [List.length_cons] at l1
   refine ⟨p,q,ws,zs,rfl,rfl,.of (aK _ _ h1),.of (aK _ _ h4),fun z=>(by rw [z] at l1;simp at l1),by omega,fun z=>?_,fun z r hr=>?_⟩
   ·rw [z] at h5
    cases ys with
    | nil=>
     rw [List.append_nil] at k
     exact k _ _ (s.stk (.cons s.st.tail.head s.st.tail.tail))
    | cons y ys=>obtain ⟨_,_,e,_⟩:=h5.inv;cases e
   ·have s1:=s.stk ((h3.append h5).append s.st.tail.tail)
    exact k _ _ (s1.newTup (by rw [List.length_append,List.length_append,h5.length,h3.length]) hr)
  ·cases e
 ·cases e
def cP:Nat->D->D->Option Bool
 | 0,_,_=>none
 | n + 1,.tup xs,.tup ys=>(go n xs ys).map fun b=>b && xs.length == ys.length
 | n + 1,.lst xs,.lst ys=>if xs.length=ys.length then go n xs ys else some false
 | _ + 1,x,y=>match flat x,flat y with
  | some v,some u=>some (uZ v u)
  | _,_=>none
where
 go (n:Nat):List D->List D->Option Bool
  | x :: xs,y :: ys=>match cP n x y,go n xs ys with
   | some a,some b=>some (a && b)
   | _,_=>none
  | _,_=>some true
theorem rF:∀ {a b:List (Int × Int)},(a.map fun p=>((.inl p.1,.int p.2):Key × V))=b.map (fun p=>(.inl p.1,.int p.2))->a=b
 | [],[],_=>rfl
 | [],_ :: _,h=>by cases h
 | _ :: _,[],h=>by cases h
 | (x,y) :: a,(z,w) :: b,h=>by
  simp only [List.map_cons,List.cons.injEq,Prod.mk.injEq,Sum.inl.injEq,V.int.injEq] at h
  rw [rF h.2,h.1.1,h.1.2]
theorem rG:∀ {a b:List ((Int × Int) × Int)},(a.map fun p=>(([.inl p.1.1,.inl p.1.2],.int p.2):List Key × V))=b.map (fun p=>([.inl p.1.1,.inl p.1.2],.int p.2))->a=b
 | [],[],_=>rfl
 | [],_ :: _,h=>by cases h
 | _ :: _,[],h=>by cases h
 | ((x,x'),y) :: a,((z,z'),w) :: b,h=>by
  simp only [List.map_cons,List.cons.injEq,Prod.mk.injEq,Sum.inl.injEq,V.int.injEq,and_true] at h
  rw [rG h.2,h.1.1.1,h.1.1.2,h.1.2]
mutual
theorem R.inj {H:Hp}:∀ (x y:D) (v:V),R H x v->R H y v->x=y
 | .non,y,v,h,g=>by
  cases h.non
  cases y with
  | non=>rfl
  | bl b=>cases g.bl
  | int b=>cases g.int
  | str b=>cases g.str
  | tup b=>obtain ⟨_,_,e,_⟩:=g.tup;cases e
  | lst b=>obtain ⟨_,_,e,_⟩:=g.lst;cases e
  | dct=>obtain ⟨_,e,_⟩:=g.dct;cases e
  | dic _=>obtain ⟨_,e,_⟩:=g.dic;cases e
  | dip _=>obtain ⟨_,e,_⟩:=g.dip;cases e
 | .bl x,y,v,h,g=>by
  cases h.bl
  cases y with
  | non=>cases g.non
  | bl b=>cases g.bl;rfl
  | int b=>cases g.int
  | str b=>cases g.str
  | tup b=>obtain ⟨_,_,e,_⟩:=g.tup;cases e
  | lst b=>obtain ⟨_,_,e,_⟩:=g.lst;cases e
  | dct=>obtain ⟨_,e,_⟩:=g.dct;cases e
  | dic _=>obtain ⟨_,e,_⟩:=g.dic;cases e
  | dip _=>obtain ⟨_,e,_⟩:=g.dip;cases e
 | .int x,y,v,h,g=>by
  cases h.int
  cases y with
  | non=>cases g.non
  | bl b=>cases g.bl
  | int b=>cases g.int;rfl
  | str b=>cases g.str
  | tup b=>obtain ⟨_,_,e,_⟩:=g.tup;cases e
  | lst b=>obtain ⟨_,_,e,_⟩:=g.lst;cases e
  | dct=>obtain ⟨_,e,_⟩:=g.dct;cases e
  | dic _=>obtain ⟨_,e,_⟩:=g.dic;cases e
  | dip _=>obtain ⟨_,e,_⟩:=g.dip;cases e
 | .str x,y,v,h,g=>by
  cases h.str
  cases y with
  | non=>cases g.non
  | bl b=>cases g.bl
  | int b=>cases g.int
  | str b=>cases g.str;rfl
  | tup b=>obtain ⟨_,_,e,_⟩:=g.tup;cases e
  | lst b=>obtain ⟨_,_,e,_⟩:=g.lst;cases e
  | dct=>obtain ⟨_,e,_⟩:=g.dct;cases e
  | dic _=>obtain ⟨_,e,_⟩:=g.dic;cases e
  | dip _=>obtain ⟨_,e,_⟩:=g.dip;cases e
 | .tup xs,y,v,h,g=>by
  obtain ⟨a,vs,rfl,h1,h2⟩:=h.tup
  cases y with
  | non=>cases g.non
  | bl b=>cases g.bl
  | int b=>cases g.int
  | str b=>cases g.str
  | tup ys=>
   obtain ⟨a',vs',e,g1,g2⟩:=g.tup
   cases e
   rw [h1] at g1;cases g1
   rw [Rs.inj xs ys vs h2 g2]
  | lst ys=>
   obtain ⟨a',vs',e,g1,g2⟩:=g.lst
   cases e
   rcases g1 with g1 | ⟨o,g1⟩ <;> (rw [h1] at g1;cases g1)
  | dct=>
   obtain ⟨a',e,g1⟩:=g.dct
   cases e
   rw [h1] at g1;cases g1
  | dic _=>
   obtain ⟨a',e,g1⟩:=g.dic
   cases e
   rw [h1] at g1;cases g1
  | dip _=>
   obtain ⟨a',e,g1⟩:=g.dip
   cases e
   rw [h1] at g1;cases g1
 | .lst xs,y,v,h,g=>by
  obtain ⟨a,vs,rfl,h1,h2⟩:=h.lst
  cases y with
  | non=>cases g.non
  | bl b=>cases g.bl
  | int b=>cases g.int
  | str b=>cases g.str
  | tup ys=>
   obtain ⟨a',vs',e,g1,g2⟩:=g.tup
   cases e
   rcases h1 with h1 | ⟨o,h1⟩ <;> (rw [h1] at g1;cases g1)
  | lst ys=>
   obtain ⟨a',vs',e,g1,g2⟩:=g.lst
   cases e
   have:vs' = vs:= by
    rcases h1 with h1 | ⟨o,h1⟩ <;> rcases g1 with g1 | ⟨o',g1⟩ <;> (rw [h1] at g1;first | (cases g1;rfl) | cases g1)
   subst this
   rw [Rs.inj xs ys _ h2 g2]
  | dct=>
   obtain ⟨a',e,g1⟩:=g.dct
   cases e
   rcases h1 with h1 | ⟨o,h1⟩ <;> (rw [h1] at g1;cases g1)
  | dic _=>
   obtain ⟨a',e,g1⟩:=g.dic
   cases e
   rcases h1 with h1 | ⟨o,h1⟩ <;> (rw [h1] at g1;cases g1)
  | dip _=>
   obtain ⟨a',e,g1⟩:=g.dip
   cases e
   rcases h1 with h1 | ⟨o,h1⟩ <;> (rw [h1] at g1;cases g1)
 | .dct,y,v,h,g=>by
  obtain ⟨a,rfl,h1⟩:=h.dct
  cases y with
  | non=>cases g.non
  | bl b=>cases g.bl
  | int b=>cases g.int
  | str b=>cases g.str
  | tup ys=>
   obtain ⟨a',vs',e,g1,g2⟩:=g.tup
   cases e
   rw [h1] at g1;cases g1
  | lst ys=>
   obtain ⟨a',vs',e,g1,g2⟩:=g.lst
   cases e
   rcases g1 with g1 | ⟨o,g1⟩ <;> (rw [h1] at g1;cases g1)
  | dct=>rfl
  | dic _=>
   obtain ⟨a',e,g1⟩:=g.dic
   cases e
   rw [h1] at g1;cases g1
  | dip _=>
   obtain ⟨a',e,g1⟩:=g.dip
   cases e
   rw [h1] at g1;cases g1
 | .dic xs,y,v,h,g=>by
  obtain ⟨a,rfl,h1⟩:=h.dic
  cases y with
  | non=>cases g.non
  | bl b=>cases g.bl
  | int b=>cases g.int
  | str b=>cases g.str
  | tup ys=>
   obtain ⟨a',vs',e,g1,g2⟩:=g.tup
   cases e
   rw [h1] at g1;cases g1
  | lst ys=>
   obtain ⟨a',vs',e,g1,g2⟩:=g.lst
   cases e
   rcases g1 with g1 | ⟨o,g1⟩ <;> (rw [h1] at g1;cases g1)
  | dct=>
   obtain ⟨a',e,g1⟩:=g.dct
   cases e
   rw [h1] at g1;cases g1
  | dic ys=>
   obtain ⟨a',e,g1⟩:=g.dic
   cases e
   rw [h1] at g1
   rw [rF (HO.dK.inj (Option.some.inj g1))]
  | dip ys=>
   obtain ⟨a',e,g1⟩:=g.dip
   cases e
   rw [h1] at g1;cases g1
 | .dip xs,y,v,h,g=>by
  obtain ⟨a,rfl,h1⟩:=h.dip
  cases y with
  | non=>cases g.non
  | bl b=>cases g.bl
  | int b=>cases g.int
  | str b=>cases g.str
  | tup ys=>
   obtain ⟨a',vs',e,g1,g2⟩:=g.tup
   cases e
   rw [h1] at g1;cases g1
  | lst ys=>
   obtain ⟨a',vs',e,g1,g2⟩:=g.lst
   cases e
   rcases g1 with g1 | ⟨o,g1⟩ <;> (rw [h1] at g1;cases g1)
  | dct=>
   obtain ⟨a',e,g1⟩:=g.dct
   cases e
   rw [h1] at g1;cases g1
  | dic ys=>
   obtain ⟨a',e,g1⟩:=g.dic
   cases e
   rw [h1] at g1;cases g1
  | dip ys=>
   obtain ⟨a',e,g1⟩:=g.dip
   cases e
   rw [h1] at g1
   rw [rG (HO.dT.inj (Option.some.inj g1))]
theorem Rs.inj {H:Hp}:∀ (xs ys:List D) (vs:List V),Rs H xs vs->Rs H ys vs->xs=ys
 | [],ys,vs,h,g=>by
  cases h.inv0
  cases ys with
  | nil=>rfl
  | cons y ys=>obtain ⟨_,_,e,_⟩:=g.inv;cases e
 | x :: xs,ys,vs,h,g=>by
  obtain ⟨v,r,rfl,h1,h2⟩:=h.inv
  cases ys with
  | nil=>cases g.inv0
  | cons y ys=>rw [R.inj x y v h1 g.head,Rs.inj xs ys r h2 g.tail]
end
theorem jx {n:Nat}:∀ {xs ys:List D} {b:Bool},cP.go n xs ys=some b->∃ e:Nat->Bool,(∀ (j:Nat) x y,xs[j]? = some x->ys[j]? = some y->cP n x y=some (e j))∧b=(List.range (min xs.length ys.length)).all e
 | [],ys,b,h=>by
  unfold cP.go at h
  cases h;exact ⟨fun _=>true,fun j x y h1=>by simp at h1,by simp⟩
 | x :: xs,[],b,h=>by
  unfold cP.go at h
  cases h;exact ⟨fun _=>true,fun j x y h1 h2=>by simp at h2,by simp⟩
 | x :: xs,y :: ys,b,h=>by
  unfold cP.go at h
  split at h
  ·rename_i b1 b2 e1 e2
   cases h
   obtain ⟨e,he,hb⟩:=jx e2
   refine ⟨fun j=>match j with | 0=>b1 | j + 1=>e j,fun j x' y' h1 h2=>?_,?_⟩
   ·cases j with
    | zero=>cases h1;cases h2;exact e1
    | succ j=>exact he j x' y' (by simpa using h1) (by simpa using h2)
   ·rw [List.length_cons,List.length_cons,Nat.add_min_add_right,List.range_succ_eq_map,List.all_cons,List.all_map,hb];rfl
  ·cases h
theorem iU {v:V} (h:gH v=true):uZ v v=true:= by
 cases v with
 | non=>rfl
 | bl b=>cases b <;> rfl
 | int i=>exact beq_self_eq_true i
 | str x=>exact beq_self_eq_true x
 | _=>cases h
theorem vm:∀ (n:Nat) (x:D) (b:Bool),cP n x x=some b->b=true:= by
 intro n
 induction n with
 | zero=>intro x b h;simp [cP] at h
 | succ n ih=>
  have go:∀ (xs:List D) (b:Bool),cP.go n xs xs=some b->b=true:=fun xs b h=>by
   obtain ⟨e,he,hb⟩:=jx h
   rw [Nat.min_self] at hb
   subst hb
   rw [List.all_eq_true]
   intro j hj
   have hj':=List.mem_range.mp hj
   exact ih _ _ (he j _ _ (List.getElem?_eq_getElem hj') (List.getElem?_eq_getElem hj'))
  intro x b h
  cases x with
  | tup xs=>
   unfold cP at h
   cases q:cP.go n xs xs with
   | none=>rw [q] at h;cases h
   | some b'=>rw [q] at h;cases h;rw [go xs b' q];simp
  | lst xs=>unfold cP at h;rw [if_pos rfl] at h;exact go xs b h
  | non=>simp [cP,flat] at h;rw [<- h];exact iU rfl
  | bl q=>simp [cP,flat] at h;rw [<- h];exact iU rfl
  | int q=>simp [cP,flat] at h;rw [<- h];exact iU rfl
  | str q=>simp [cP,flat] at h;rw [<- h];exact iU rfl
  | dct=>simp [cP,flat] at h
  | dic _=>simp [cP,flat] at h
  | dip _=>simp [cP,flat] at h
open SeqAt in
theorem xQ {pins:List (Addr × Obj)} {σ:St} {H Hh:Hp} {s:Shared} (I:Inv X pins σ H s) (m:∀ b o,Hh b=some o->H b=some o):∀ (n:Nat) (A:Around),A.units + n < cLine->∀ (x y:D) (v w:V) (u z:Value) (b:Bool),R Hh x v->R Hh y w->RelV v u->RelV w z->cP n x y=some b ->
  EqAt A s u z b∧((∃ xs,x=.tup xs ∨ x=.lst xs)->RcAt A s u z b):= by
 intro n
 induction n with
 | zero=>intro A _ x y v w u z b _ _ _ _ h;simp [cP] at h
 | succ n ih=>
  intro A hu x y v w u z b rx ry ru rz h
  have hu':A.units < cLine:=by omega
  have items:∀ {xs ys:List D} {vs ws:List V} {is js:List Value} {e:Nat->Bool},Rs Hh xs vs->Rs Hh ys ws->Vals vs is->Vals ws js->(∀ (j:Nat) x y,xs[j]? = some x->ys[j]? = some y->cP n x y=some (e j)) ->
    ∀ j (h1:j < is.toArray.size) (h2:j < js.toArray.size),EqAt A.in1 s is.toArray[j] js.toArray[j] (e j):=fun {xs ys vs ws is js e} r1 r2 v1 v2 he j h1 h2=>by
   have l1:j < xs.length:=by rw [<- r1.length,v1.length];simpa using h1
   have l2:j < ys.length:=by rw [<- r2.length,v2.length];simpa using h2
   obtain ⟨v',e1,q1⟩:=r1.get (List.getElem?_eq_getElem l1)
   obtain ⟨w',e2,q2⟩:=r2.get (List.getElem?_eq_getElem l2)
   obtain ⟨u',e3,q3⟩:=v1.get e1
   obtain ⟨z',e4,q4⟩:=v2.get e2
   have:=(ih A.in1 (by show A.units + 1 + n < _;omega) _ _ v' w' u' z' (e j) q1 q2 q3 q4 (he j _ _ (List.getElem?_eq_getElem l1) (List.getElem?_eq_getElem l2))).1
   have a1:is.toArray[j]=u':= by
    have:=(List.getElem?_eq_some_iff.mp e3).2
    simpa using this
   have a2:js.toArray[j]=z':= by
    have:=(List.getElem?_eq_some_iff.mp e4).2
    simpa using this
   rw [a1,a2];exact this
  have refs:∀ {l k:Addr},u=.ref l->z=.ref k->v=.ref l->w=.ref k->RcAt A s u z b->EqAt A s u z b:=fun {l k} eu ez ev ew rc=>by
   by_cases hlk:l=k
   ·subst hlk
    rw [ev] at rx;rw [ew] at ry
    have:=R.inj x y _ rx ry
    subst this
    rw [vm _ _ _ h,eu,ez]
    exact EqAt.same _
   ·rw [eu,ez] at rc ⊢;exact EqAt.of_refs hlk rc
  have flatCase:∀ {p q:V},flat x=some p->flat y=some q->b=uZ p q->EqAt A s u z b:=fun {p q} e1 e2 eb=>by
   obtain ⟨rfl,f1⟩:=dz rx e1
   obtain ⟨rfl,f2⟩:=dz ry e2
   rw [eb];exact xK ru rz f1 f2
  have flatAll:(∀ xs,x ≠ .tup xs)->(∀ xs,x ≠ .lst xs)->∀ p,flat x=some p->EqAt A s u z b:=fun _ _ p e1=>by
   cases y with
   | tup ys=>cases x <;> first | (simp [cP,flat] at h;done) | (cases e1;done)
   | lst ys=>cases x <;> first | (simp [cP,flat] at h;done) | (cases e1;done)
   | dct=>cases x <;> first | (simp [cP,flat] at h;done) | (cases e1;done)
   | dic _=>cases x <;> first | (simp [cP,flat] at h;done) | (cases e1;done)
   | dip _=>cases x <;> first | (simp [cP,flat] at h;done) | (cases e1;done)
   | non=>exact flatCase e1 rfl (by cases x <;> first | (cases e1;simpa [cP,flat] using h.symm) | cases e1)
   | bl q=>exact flatCase e1 rfl (by cases x <;> first | (cases e1;simpa [cP,flat] using h.symm) | cases e1)
   | int q=>exact flatCase e1 rfl (by cases x <;> first | (cases e1;simpa [cP,flat] using h.symm) | cases e1)
   | str q=>exact flatCase e1 rfl (by cases x <;> first | (cases e1;simpa [cP,flat] using h.symm) | cases e1)
  cases x with
  | dct=>simp [cP,flat] at h
  | dic _=>simp [cP,flat] at h
  | dip _=>simp [cP,flat] at h
  | non=>exact ⟨flatAll (fun _ z=>nomatch z) (fun _ z=>nomatch z) _ rfl,fun ⟨xs,z⟩=>by rcases z with z | z <;> cases z⟩
  | bl q=>exact ⟨flatAll (fun _ z=>nomatch z) (fun _ z=>nomatch z) _ rfl,fun ⟨xs,z⟩=>by rcases z with z | z <;> cases z⟩
  | int q=>exact ⟨flatAll (fun _ z=>nomatch z) (fun _ z=>nomatch z) _ rfl,fun ⟨xs,z⟩=>by rcases z with z | z <;> cases z⟩
  | str q=>exact ⟨flatAll (fun _ z=>nomatch z) (fun _ z=>nomatch z) _ rfl,fun ⟨xs,z⟩=>by rcases z with z | z <;> cases z⟩
  | tup xs=>
   cases y with
   | tup ys=>
    obtain ⟨l,vs,rfl,h1,h2⟩:=rx.tup
    obtain ⟨k,ws,rfl,g1,g2⟩:=ry.tup
    cases ru;cases rz
    obtain ⟨is,v1,p1,_⟩:=I.tuple (.of (m _ _ h1))
    obtain ⟨js,v2,p2,_⟩:=I.tuple (.of (m _ _ g1))
    have s1:is.toArray.size=xs.length:=by rw [List.size_toArray,<- v1.length,h2.length]
    have s2:js.toArray.size=ys.length:=by rw [List.size_toArray,<- v2.length,g2.length]
    have rc:RcAt A s (.ref l) (.ref k) b:= by
     unfold cP at h
     cases q:cP.go n xs ys with
     | none=>rw [q] at h;cases h
     | some b'=>
      rw [q] at h;cases h
      obtain ⟨e,he,hb⟩:=jx q
      have:=RcAt.tuples p1 p2 hu' (items h2 g2 v1 v2 he)
      rw [s1,s2,<- hb] at this
      exact this
    exact ⟨refs rfl rfl rfl rfl rc,fun _=>rc⟩
   | _=>simp [cP,flat] at h
  | lst xs=>
   cases y with
   | lst ys=>
    obtain ⟨l,vs,rfl,h1,h2⟩:=rx.lst
    obtain ⟨k,ws,rfl,g1,g2⟩:=ry.lst
    cases ru;cases rz
    obtain ⟨is,v1,p1,_⟩:=I.list (.inl (Rd.mono m h1))
    obtain ⟨js,v2,p2,_⟩:=I.list (.inl (Rd.mono m g1))
    have s1:is.toArray.size=xs.length:=by rw [List.size_toArray,<- v1.length,h2.length]
    have s2:js.toArray.size=ys.length:=by rw [List.size_toArray,<- v2.length,g2.length]
    have rc:RcAt A s (.ref l) (.ref k) b:= by
     unfold cP at h
     split at h
     ·rename_i hl
      obtain ⟨e,he,hb⟩:=jx h
      have:=RcAt.lists p1.isList p2.isList (by rw [s1,s2,hl]) hu' (items h2 g2 v1 v2 he)
      rw [hb,<- hl,Nat.min_self,<- s1];exact this
     ·rename_i hl
      cases h
      exact RcAt.lists_lengths p1.isList p2.isList (by rw [s1,s2];simpa using hl) hu'
    exact ⟨refs rfl rfl rfl rfl rc,fun _=>rc⟩
   | _=>simp [cP,flat] at h
theorem ju {k:Nat} {A:Around} (hr:bU k A):A.units + 20 < cLine:=by have:=hr.un;omega
def jz:D->D->Bool
 | .tup _,.tup _=>true
 | .lst _,.lst _=>true
 | _,_=>false
def iC (neg:Bool) (x y:D):Option D:=if jz x y=true then (cP 9 x y).map fun b=>.bl (if neg then !b else b) else b9 neg x y
def Fv:R2:=fun v u H Q=>GH v u H Q ∨ ∃ (Hh:Hp) (x y:D) (b:Bool),(∀ b o,Hh b=some o->H b=some o)∧R Hh x v∧R Hh y u∧jz x y=true∧cP 9 x y=some b∧Q (.bl b) H
theorem u2 (hu:X.A.units + 20 < cLine):hU X (compareOp .Eq) Fv:= by
 intro pins s σ H v w u z Q I ru rz h
 rcases h with h | ⟨Hh,x,y,b,m,rx,ry,hs,e,q⟩
 ·exact vN pins s σ H v w u z Q I ru rz h
 ·have:=(xQ I m 9 X.A (by omega) x y v w u z b rx ry ru rz e).2 (by
   cases x <;> first | exact ⟨_,.inl rfl⟩ | exact ⟨_,.inr rfl⟩ | (simp [jz] at hs))
  exact this _ _ _ _ ⟨.bl b,H,I,rfl,q⟩
theorem Ab:nv Fv (iC false):=fun c δ S σ T H x y v u d Q s e k=>by
 unfold iC at e
 split at e
 ·rename_i hs
  cases q:cP 9 x y with
  | none=>rw [q] at e;cases e
  | some b=>
   rw [q] at e;cases e
   exact .inr ⟨_,x,y,b,aK,s.st.tail.head,s.st.head,hs,q,k _ _ (s.stk (.cons .mkB s.st.tail.tail))⟩
 ·exact .inl (m6 c δ S σ T H x y v u d Q s e k)
theorem sU {k:Nat} (hr:bU k X.A) (ha:DE X a fa) (hb:DE X b fb):DT X (.Compare a [.Eq] [b] pos) (m2 (iC false) fa fb >>= dG):=gF (u2 (ju hr)) Ab ha hb
end
end Jt
namespace Jt
open PySem L2
section
variable {X:Cx} {a b e:Expr} {fa fb:M D} {fs:M (List D)} {pos p apos cpos:Pos} {es rest:List Expr} {x:Str}
open SeqAt in
theorem Eb {pins:List (Addr × Obj)} {σ:St} {H Hh:Hp} {s:Shared} (I:Inv X pins σ H s) (m:∀ b o,Hh b=some o->H b=some o) {n:Nat} {A:Around} (hu:A.units + (n + 1) < cLine) {x y:D} {v w:V} {u z:Value} {b:Bool} (rx:R Hh x v) (ry:R Hh y w) (ru:RelV v u) (rz:RelV w z)
  (hs:jz x y=true) (h:cP (n + 1) x y=some b):RcNeAt A s u z (!b):= by
 have hu':A.units < cLine:=by omega
 have items:∀ {xs ys:List D} {vs ws:List V} {is js:List Value} {e:Nat->Bool},Rs Hh xs vs->Rs Hh ys ws->Vals vs is->Vals ws js->(∀ (j:Nat) x y,xs[j]? = some x->ys[j]? = some y->cP n x y=some (e j)) ->
   ∀ j (h1:j < is.toArray.size) (h2:j < js.toArray.size),EqAt A.in1 s is.toArray[j] js.toArray[j] (e j):=fun {xs ys vs ws is js e} r1 r2 v1 v2 he j h1 h2=>by
  have l1:j < xs.length:=by rw [<- r1.length,v1.length];simpa using h1
  have l2:j < ys.length:=by rw [<- r2.length,v2.length];simpa using h2
  obtain ⟨v',e1,q1⟩:=r1.get (List.getElem?_eq_getElem l1)
  obtain ⟨w',e2,q2⟩:=r2.get (List.getElem?_eq_getElem l2)
  obtain ⟨u',e3,q3⟩:=v1.get e1
  obtain ⟨z',e4,q4⟩:=v2.get e2
  have:=(xQ I m n A.in1 (by show A.units + 1 + n < _;omega) _ _ v' w' u' z' (e j) q1 q2 q3 q4 (he j _ _ (List.getElem?_eq_getElem l1) (List.getElem?_eq_getElem l2))).1
  have a1:is.toArray[j]=u':= by
   have:=(List.getElem?_eq_some_iff.mp e3).2
   simpa using this
  have a2:js.toArray[j]=z':= by
   have:=(List.getElem?_eq_some_iff.mp e4).2
   simpa using this
  rw [a1,a2];exact this
 cases x with
 | tup xs=>
  cases y with
  | tup ys=>
   obtain ⟨l,vs,rfl,h1,h2⟩:=rx.tup
   obtain ⟨k,ws,rfl,g1,g2⟩:=ry.tup
   cases ru;cases rz
   obtain ⟨is,v1,p1,_⟩:=I.tuple (.of (m _ _ h1))
   obtain ⟨js,v2,p2,_⟩:=I.tuple (.of (m _ _ g1))
   have s1:is.toArray.size=xs.length:=by rw [List.size_toArray,<- v1.length,h2.length]
   have s2:js.toArray.size=ys.length:=by rw [List.size_toArray,<- v2.length,g2.length]
   unfold cP at h
   cases q:cP.go n xs ys with
   | none=>rw [q] at h;cases h
   | some b'=>
    rw [q] at h;cases h
    obtain ⟨e,he,hb⟩:=jx q
    have:=RcNeAt.tuples p1 p2 hu' (items h2 g2 v1 v2 he)
    rw [s1,s2,<- hb] at this
    exact this
  | _=>simp [jz] at hs
 | lst xs=>
  cases y with
  | lst ys=>
   obtain ⟨l,vs,rfl,h1,h2⟩:=rx.lst
   obtain ⟨k,ws,rfl,g1,g2⟩:=ry.lst
   cases ru;cases rz
   obtain ⟨is,v1,p1,_⟩:=I.list (.inl (Rd.mono m h1))
   obtain ⟨js,v2,p2,_⟩:=I.list (.inl (Rd.mono m g1))
   have s1:is.toArray.size=xs.length:=by rw [List.size_toArray,<- v1.length,h2.length]
   have s2:js.toArray.size=ys.length:=by rw [List.size_toArray,<- v2.length,g2.length]
   unfold cP at h
   split at h
   ·rename_i hl
    obtain ⟨e,he,hb⟩:=jx h
    have:=RcNeAt.lists p1.isList p2.isList (by rw [s1,s2,hl]) hu' (items h2 g2 v1 v2 he)
    rw [hb,<- hl,Nat.min_self,<- s1];exact this
   ·rename_i hl
    cases h
    exact RcNeAt.lists_lengths p1.isList p2.isList (by rw [s1,s2];simpa using hl) hu'
  | _=>simp [jz] at hs
 | _=>simp [jz] at hs
def FQ:R2:=fun v u H Q=>GP v u H Q ∨ ∃ (Hh:Hp) (x y:D) (b:Bool),(∀ b o,Hh b=some o->H b=some o)∧R Hh x v∧R Hh y u∧jz x y=true∧cP 9 x y=some b∧Q (.bl (!b)) H
theorem vz (hu:X.A.units + 20 < cLine):hU X (compareOp .NotEq) FQ:= by
 intro pins s σ H v w u z Q I ru rz h
 rcases h with h | ⟨Hh,x,y,b,m,rx,ry,hs,e,q⟩
 ·exact Bk pins s σ H v w u z Q I ru rz h
 ·exact Eb I m (n:=8) (A:=X.A) (by omega) rx ry ru rz hs e _ _ _ _ ⟨.bl (!b),H,I,rfl,q⟩
theorem Aw:nv FQ (iC true):=fun c δ S σ T H x y v u d Q s e k=>by
 unfold iC at e
 split at e
 ·rename_i hs
  cases q:cP 9 x y with
  | none=>rw [q] at e;cases e
  | some b=>
   rw [q] at e;cases e
   exact .inr ⟨_,x,y,b,aK,s.st.tail.head,s.st.head,hs,q,k _ _ (s.stk (.cons .mkB s.st.tail.tail))⟩
 ·exact .inl (rZ c δ S σ T H x y v u d Q s e k)
theorem h9 {k:Nat} (hr:bU k X.A) (ha:DE X a fa) (hb:DE X b fb):DT X (.Compare a [.NotEq] [b] pos) (m2 (iC true) fa fb >>= dG):=gF (vz (ju hr)) Aw ha hb
def ET (ta:TA):TE:=fun σ H Q=>ta σ H fun vs H1=>∃ j:Int,vs=[.int j]∧∀ q,H1 q=none->Q (.ref q) (upd H1 q (.rng 0 j))
theorem mD {ta:TA} (hg:Gl X "range") (hm:X.mg "range" = none) (ha:PA X [a] ta) (hs:starEach [a] X.env=[(false,eval a X.env)]:=by rfl):PE X (.Call (.Name "range" p) [a] [] pos) (ET ta):= by
 intro pins s σ H Q I h
 refine PyProof.Rows.Call_ (gw I hg hm (show bootBuiltins "range" = some (.type "range") by decide +kernel) (PyProof.Rows.callWith_type1 (bx (ha pos pins s σ H _ I h) fun us s1 ⟨vs,H1,I1,r1,q1⟩=>?_) hs rfl))
 obtain ⟨j,e,q⟩:=q1
 subst e
 cases r1 with
 | cons r rr=>
  cases rr
  obtain ⟨t,rfl⟩:=r
  refine call_range_1 ⟨.ref s1.heap.objs.size,upd H1 s1.heap.objs.size (.rng 0 j),I1.laid (fun b u e=>Heap.get?_push_of_some _ e) (Nat.le_refl _) ?_,rfl,q _ I1.fresh⟩
  exact ⟨_,_,_,Heap.get?_push_size _ rfl⟩
theorem kq {lo:Int} {n:Nat} {acc:Array Value} (h:ItemsOf (fun i v=>∃ t,v=.int (lo + i * 1) t) acc n):Vals ((List.range n).map fun (i:Nat)=>V.int (lo + (i:Int))) acc.toList:= by
 obtain ⟨hn,hi⟩:=h
 have gen:∀ (us:List Value) (k:Nat),(∀ (j:Nat) v,us[j]? = some v->∃ t,v=.int (lo + ((k + j:Nat):Int)) t)->Vals ((List.range us.length).map fun (i:Nat)=>V.int (lo + ((k + i:Nat):Int))) us:= by
  intro us
  induction us with
  | nil=>intro k _;exact .nil
  | cons u us ih=>
   intro k hk
   rw [List.length_cons,List.range_succ_eq_map,List.map_cons,List.map_map]
   obtain ⟨t,e⟩:=hk 0 u rfl
   refine .cons ⟨t,by simpa using e⟩ ?_
   have:=ih (k + 1) fun j v hj=>by
    obtain ⟨t,e⟩:=hk (j + 1) v (by simpa using hj)
    exact ⟨t,by rw [e];congr 2;omega⟩
   have e2:((fun (i:Nat)=>V.int (lo + ((k + i:Nat):Int))) ∘ Nat.succ)=fun (i:Nat)=>V.int (lo + ((k + 1 + i:Nat):Int)):= by
    funext i;show V.int _=V.int _;congr 2;omega
   rw [e2];exact this
 have:=gen acc.toList 0 fun j v hj=>by
  obtain ⟨t,e⟩:=hi j v (by simpa using hj)
  exact ⟨t,by rw [e];simp⟩
 simpa [hn] using this
theorem qX (hc:X.calm=true):dR X (.type "list") (fun xs H Q=>∃ q j,xs=[.ref q]∧H q=some (.rng 0 j)∧j < 100000 ∧ -(2 ^ 62) ≤ j∧∀ l,H l=none->Q (.ref l) (upd H l (.lst ((List.range j.toNat).map fun (i:Nat)=>V.int (0 + (i:Int)))))):= by
 intro pins s σ H xs us Q I r h
 obtain ⟨q,j,rfl,hq,hj,hj2,k⟩:=h
 obtain ⟨u,rfl,rx⟩:=r.one
 cases rx
 obtain ⟨t,u',v,hr⟩:=I.hok q _ hq
 refine call_list_range (n:=j.toNat) (I.ok.hd hc) hr (small_one (by omega) (by omega) hj2 (by omega)) (by rw [rangeSize_one];split <;> omega) (by omega) fun h' tk acc' c' kp e hi=>?_
 refine ⟨.ref s.heap.objs.size,_,I.laid (t':=tk) kp (Nat.le_refl _) (show bK X.prog X.w _ h' _ (.lst _) from ⟨?_,acc'.toList,c',kq hi,by simpa using e⟩),rfl,k _ I.fresh⟩
 have:(100000:Nat) < sizeLine:=by rw [sizeLine_eq];decide
 simp;omega
def j8:List D->Option (List D)
 | [.int j]=>if j < 100000 ∧ -(2 ^ 62) ≤ j then some (bo 0 j.toNat) else none
 | _=>none
theorem nZ {H:Hp} {lo:Int} {n:Nat}:Rs H (bo lo n) ((List.range n).map fun (i:Nat)=>V.int (lo + (i:Int))):= by
 unfold bo
 induction (List.range n) with
 | nil=>exact .nil
 | cons i r ih=>exact .cons .mkI ih
theorem ph {p2 pos2:Pos} (hml:X.mg "list" = none) (hmr:X.mg "range" = none) (ha:DA X [a] fs) (hgl:Gl X "list":=by rfl) (hgr:Gl X "range":=by rfl) (hc:X.calm=true:=by rfl) (hs:starEach [a] X.env=[(false,eval a X.env)]:=by rfl) :
  DF X (.Call (.Name "list" p) [.Call (.Name "range" p2) [a] [] pos2] [] pos) (mC j8 fs) :=
 b4 (fC (qX hc) hgl hml (by decide +kernel) (cx (mD hgr hmr ha hs) eY) (by decide) (by decide) rfl rfl) fun σ H Q ⟨c,δ,S,T,d,δ',s,e,k⟩=>by
  obtain ⟨ds,δ1,e1,e⟩:=bind_some e
  obtain ⟨e2,rfl⟩:=ax e
  refine ⟨c,δ,S,T,ds,δ1,s,e1,fun vs H1 l s1=>?_⟩
  unfold j8 at e2
  split at e2
  ·rename_i j
   split at e2
   ·rename_i hj
    cases e2
    obtain ⟨v,rfl,r⟩:=ud (s1.st.left l)
    cases r.int
    refine ⟨j,rfl,fun q hq=>⟨q,j,rfl,ay,hj.1,hj.2,fun m hm=>?_⟩⟩
    have s2:=(s1.drop l).grow (iX hq (.rng 0 j))
    obtain ⟨f1,f2,f3⟩:=s2.fresh hm
    refine k m _ _ (nZ (H:=H)).length ((s2.hide hm).stk ?_) f1 f2 f3
    exact nZ.append (s2.hide hm).st
   ·cases e2
  ·cases e2
end
end Jt
namespace Jt
open PySem L2
section
variable {prog:Program} {w:World} {A:Around} {E:Value->Shared->Prop} {s:Shared}
theorem lq {Q:List Value->Shared->Prop} {r:Addr} {a b c:Int} {t u v:Tok} {n:Nat} (hh:A.handled=none) (hr:IsRange s.heap r a b c t u v) (hsmall:Builtin.Range.small a b c=true) (hn:Builtin.Range.rangeSize a b c=n) (hlen:n ≤ 2 ^ 24)
  (hQ:∀ h' tk acc,(∀ b o',s.heap.get? b=some o' -> h'.get? b=some o')->ItemsOf (fun i v=>∃ t,v=.int (a + i * c) t) acc n->Q acc.toList { s with heap:=h',toks:=tk }) :
  wpAny (model prog w) A (collect (.ref r)) Q E s:= by
 unfold collect
 refine wpAny_bind (wpAny_runValue (codeAny_builtin F.entry_proto_collect ?_))
 rw [Around.under_plainId F.plain_proto_collect _]
 show wpAny _ A.in1 (newList [] >>= fun l=>again (.builtin "list.__iadd__" ⟨[l,.ref r],[]⟩)) _ _ s
 refine wpAny_bind (wpAny_newObj_type ?_)
 refine wpAny_pure ⟨plainId_quiet F.plain_list_iadd _,codeAny_builtin F.entry_list_iadd ?_⟩
 rw [Around.under_plainId F.plain_list_iadd _]
 show wpAny _ A.in1 (Builtin.List.listExtendWith (.ref s.heap.objs.size) (.ref r) (.ref s.heap.objs.size)) _ _ _
 have hS:(s.heap.push { cls:=.type "list",data:=.seq ([]:List Value).toArray }).get? s.heap.objs.size=some { cls:=.type "list",data:=.seq #[] 0 }:=Heap.get?_push_size _ rfl
 refine wpAny_mono (wpAny_extend_range (A:=A) (R:=fun q s'=>q=.ok (.ret (.ref s.heap.objs.size))∧∃ h' tk acc c',s' = { s with heap:=h',toks:=tk }∧(∀ b o',s.heap.get? b=some o' -> h'.get? b=some o')∧h'.get? s.heap.objs.size=some { cls:=.type "list",dict:=none,data:=.seq acc c',slots:=#[] }∧ItemsOf (fun i v=>∃ t,v=.int (a + i * c) t) acc n)
  (s:={ s with heap:=s.heap.push { cls:=.type "list",data:=.seq ([]:List Value).toArray } }) hh (Heap.get?_push_of_some _ hr) hsmall hn hlen _ _ 0 hS fun h' tk acc' c' hk hS' hi=>⟨rfl,h',tk,acc',c',rfl,fun b o e=>hk b o (Nat.ne_of_lt (Heap.lt_size e)) (Heap.get?_push_of_some _ e),hS',hi⟩) (fun fin s' h=>?_) (fun e s' h=>?_)
 ·have fin':∀ s',(∃ h' tk acc c',s' = { s with heap:=h',toks:=tk }∧(∀ b o',s.heap.get? b=some o' -> h'.get? b=some o')∧h'.get? s.heap.objs.size=some { cls:=.type "list",dict:=none,data:=.seq acc c',slots:=#[] }∧ItemsOf (fun i v=>∃ t,v=.int (a + i * c) t) acc n) ->
    wpAny (model prog w) A (match Value.ref s.heap.objs.size with
     | Value.ref a=>do
      match (<- load a).data with
       | Data.seq xs _=>pure xs.toList
       | _=>unsupported "internal:collect"
     | _=>unsupported "internal:collect") Q E s':=fun s' ⟨h',tk,acc,c',e,hk,hS',hi⟩=>by
   subst e
   show wpAny _ A (load s.heap.objs.size >>= _) _ _ _
   refine wpAny_bind (wpAny_load hS' ?_)
   exact wpAny_pure (hQ h' tk acc hk hi)
  cases fin with
  | done f=>
   obtain ⟨e,h⟩:=h
   cases e
   exact fin' s' h
  | again c'=>exact ⟨h.1,codeAny_mono h.2 fun r s'' hr=>by obtain ⟨rfl,hr⟩:=hr;exact fin' s'' hr⟩
 ·exact absurd h.1 (by simp)
end
theorem i8 (r:Addr) {a b c:Int} {t u v:Tok} {n:Nat} (hsmall:Builtin.Range.small a b c=true) (hn:Builtin.Range.rangeSize a b c=n) (hlen:n ≤ 100000) :
  Meets (Builtin.«tuple.__new__» ⟨[.type "tuple",.ref r],[]⟩)
   (fun A R s=>A.handled=none∧IsRange s.heap r a b c t u v∧∀ (h':Heap) (tk:Nat) (acc:Array Value),(∀ b o',s.heap.get? b=some o' -> h'.get? b=some o')->ItemsOf (fun i v=>∃ t,v=.int (a + i * c) t) acc n->R (.ok (.ret (.ref h'.objs.size))) { s with heap:=h'.push { cls:=.type "tuple",data:=.seq acc },toks:=tk }) :=
 .of_wp fun prog w A R s h=>by
  obtain ⟨hp,g,d,tk,os⟩:=s;obtain ⟨hh,ht,h⟩:=h
  have hsub:=sub_tuple_self
  have hinit:=init_tuple_lookup
  have hmh:=madeHere_tuple
  have hT:Shared.TypeIs ⟨hp,g,d,tk,os⟩ (.ref r) "range":=⟨_,ht,rfl⟩
  wp_walk using wpAny_loadPart' ht,wpAny_typeOf hT,lq (A:=A.in1) (show A.in1.handled=none from hh) ht hsmall hn (show n ≤ 2 ^ 24 by omega)
  intro h' tk' acc hk hi
  show wpAny _ _ (Builtin.Tuple.tupleExact acc.toList.toArray >>= fun v=>ret v) _ _ _
  unfold Builtin.Tuple.tupleExact
  have hz:acc.size ≤ sizeLine:=by rw [hi.1,sizeLine_eq];omega
  refine wpAny_bind (wpAny_newObj_type ?_ (by show acc.toList.toArray.size ≤ sizeLine;simpa using hz))
  refine wpAny_pure ⟨_,rfl,?_⟩
  have e:acc.toList.toArray=acc:=by simp
  rw [e]
  exact h h' tk' acc hk hi
section
variable {X:Cx} {a b e:Expr} {fa fb:M D} {fs:M (List D)} {pos p apos cpos:Pos}
theorem o4 (hc:X.calm=true):dR X (.type "tuple") (fun xs H Q=>∃ q j,xs=[.ref q]∧H q=some (.rng 0 j)∧j < 100000 ∧ -(2 ^ 62) ≤ j∧∀ l,H l=none->Q (.ref l) (upd H l (.tup ((List.range j.toNat).map fun (i:Nat)=>V.int (0 + (i:Int)))))):= by
 intro pins s σ H xs us Q I r h
 obtain ⟨q,j,rfl,hq,hj,hj2,k⟩:=h
 obtain ⟨u,rfl,rx⟩:=r.one
 cases rx
 obtain ⟨t,u',v,hr⟩:=I.hok q _ hq
 refine callType_new F.called_tuple (by decide) (F.typeCall_tuple_1 _) (F.newCall_tuple_1 _) (fun obj=>F.args_object_init_2 obj _) F.entry_tuple_new
  (i8 q (n:=j.toNat) (small_one (by omega) (by omega) hj2 (by omega)) (by rw [rangeSize_one];split <;> omega) (by omega)) ⟨I.ok.hd hc,hr,fun h' tk acc kp hi=>⟨⟨_,Heap.get?_push_size _ rfl,rfl⟩,?_⟩⟩
 have I1:Inv X pins σ H { s with heap:=h',toks:=tk }:=I.kept kp
 refine ⟨.ref h'.objs.size,_,I1.laid (t':=tk) (fun b o e=>Heap.get?_push_of_some _ e) (Nat.le_refl _) (show bK X.prog X.w _ _ _ (.tup _) from ⟨?_,acc.toList,kq hi,by simpa using q0.new _ _⟩),rfl,k _ (I1.hok.fresh (Nat.le_refl _))⟩
 have:(100000:Nat) < sizeLine:=by rw [sizeLine_eq];decide
 simp;omega
theorem mw {p2 pos2:Pos} (hml:X.mg "tuple" = none) (hmr:X.mg "range" = none) (ha:DA X [a] fs) (hgl:Gl X "tuple":=by rfl) (hgr:Gl X "range":=by rfl) (hc:X.calm=true:=by rfl) (hs:starEach [a] X.env=[(false,eval a X.env)]:=by rfl) :
  DE X (.Call (.Name "tuple" p) [.Call (.Name "range" p2) [a] [] pos2] [] pos) (do let xs <- mC j8 fs;pure (.tup xs)) :=
 b4 (fC (o4 hc) hgl hml (by decide +kernel) (cx (mD hgr hmr ha hs) eY) (by decide) (by decide) rfl rfl) fun σ H Q ⟨c,δ,S,T,d,δ',s,e,k⟩=>by
  obtain ⟨xs,δ0,e0,e⟩:=bind_some e
  obtain ⟨rfl,rfl⟩:=ai e
  obtain ⟨ds,δ1,e1,e⟩:=bind_some e0
  obtain ⟨e2,rfl⟩:=ax e
  refine ⟨c,δ,S,T,ds,δ1,s,e1,fun vs H1 l s1=>?_⟩
  unfold j8 at e2
  split at e2
  ·rename_i j
   split at e2
   ·rename_i hj
    cases e2
    obtain ⟨v,rfl,r⟩:=ud (s1.st.left l)
    cases r.int
    refine ⟨j,rfl,fun q hq=>⟨q,j,rfl,ay,hj.1,hj.2,fun m hm=>?_⟩⟩
    have s2:=(s1.drop l).grow (iX hq (.rng 0 j))
    exact k _ _ ((s2.stk (nZ.append s2.st)).newTup (nZ (H:=H)).length hm)
   ·cases e2
  ·cases e2
end
end Jt
namespace Jt
open PySem L2
section
variable {X:Cx} {a b e:Expr} {fa fb:M D} {fs:M (List D)} {pos p apos cpos:Pos}
inductive Ty where
 | int | bool | tup | lst | str
def Ty.name:Ty->String
 | .int => "int"
 | .bool => "bool"
 | .tup => "tuple"
 | .lst => "list"
 | .str => "str"
def oj:Ty->D->Option Bool
 | .int,.int _=>some true
 | .int,.bl _=>some true
 | .bool,.bl _=>some true
 | .tup,.tup _=>some true
 | .lst,.lst _=>some true
 | .str,.str _=>some true
 | _,_=>some false
theorem dictAt {pins:List (Addr × Obj)} {σ:St} {H:Hp} {s:Shared} {a:Addr} (I:Inv X pins σ H s) (h:H a=some (wH a)):∃ o,s.heap.get? a=some o∧o.cls=.type "dict":= by
 obtain ⟨⟨_,o,_,h1,h2,_⟩,_⟩:=I.hok a _ h
 exact ⟨o,h1,h2⟩
theorem E7 {pins:List (Addr × Obj)} {σ:St} {H:Hp} {s:Shared} {a:Addr} {kvs:List (Int × Int)} (I:Inv X pins σ H s) (h:H a=some (yU kvs)):∃ o,s.heap.get? a=some o∧o.cls=.type "dict":= by
 obtain ⟨_,_,vs,_,o,_,_,h1,h2,_⟩:=(show bK X.prog X.w H s.heap a (yU kvs) from I.hok a _ h)
 exact ⟨o,h1,h2.1⟩
theorem Fj {pins:List (Addr × Obj)} {σ:St} {H:Hp} {s:Shared} {a:Addr} {kvs:List ((Int × Int) × Int)} (I:Inv X pins σ H s) (h:H a=some (eC kvs)):∃ o,s.heap.get? a=some o∧o.cls=.type "dict":= by
 obtain ⟨_,_,xs,_,o,_,_,h1,h2,_⟩:=(show bK X.prog X.w H s.heap a (eC kvs) from I.hok a _ h)
 exact ⟨o,h1,h2.1⟩
theorem o9:dR X (.builtin "isinstance") (fun xs H Q=>∃ (Hh:Hp) (d:D) (v:V) (T:Ty) (k:Bool),xs=[v,.ty T.name]∧(∀ b o,Hh b=some o->H b=some o)∧R Hh d v∧oj T d=some k∧Q (.bl k) H):= by
 intro pins s σ H xs us Q I r h
 obtain ⟨Hh,d,v,T,k,rfl,m,rd,ek,q⟩:=h
 obtain ⟨u,z,rfl,ru,rz⟩:=r.two
 cases rz
 have fin:∀ tk,EP X pins σ Q (.bool k) { s with toks:=tk }:=fun tk=>⟨.bl k,H,I.tok _,rfl,q⟩
 have fin0:EP X pins σ Q (.bool k) s:=⟨.bl k,H,I,rfl,q⟩
 cases d with
 | non=>
  cases rd.non
  cases ru
  cases T <;> cases ek
  ·exact IsiPair.NoneType_int (fin _)
  ·exact IsiPair.NoneType_bool (fin _)
  ·exact IsiPair.NoneType_tuple (fin _)
  ·exact IsiPair.NoneType_list (fin _)
  ·exact IsiPair.NoneType_str (fin _)
 | int i=>
  cases rd.int
  obtain ⟨t,rfl⟩:=ru
  cases T <;> cases ek
  ·exact IsiPair.int_int fin0
  ·exact IsiPair.int_bool (fin _)
  ·exact IsiPair.int_tuple (fin _)
  ·exact IsiPair.int_list (fin _)
  ·exact IsiPair.int_str (fin _)
 | bl i=>
  cases rd.bl
  cases ru
  cases T <;> cases ek
  ·exact IsiPair.bool_int fin0
  ·exact IsiPair.bool_bool fin0
  ·exact IsiPair.bool_tuple (fin _)
  ·exact IsiPair.bool_list (fin _)
  ·exact IsiPair.bool_str (fin _)
 | str i=>
  cases rd.str
  obtain ⟨t,rfl⟩:=ru
  cases T <;> cases ek
  ·exact IsiPair.str_int (fin _)
  ·exact IsiPair.str_bool (fin _)
  ·exact IsiPair.str_tuple (fin _)
  ·exact IsiPair.str_list (fin _)
  ·exact IsiPair.str_str fin0
 | tup ds=>
  obtain ⟨q',vs,rfl,h1,h2⟩:=rd.tup
  cases ru
  obtain ⟨its,_,⟨o,ho,hc,_⟩,_⟩:=I.tuple (.of (m _ _ h1))
  cases T <;> cases ek
  ·exact IsiPair.tuple_int ho hc (fin _)
  ·exact IsiPair.tuple_bool ho hc (fin _)
  ·exact IsiPair.tuple_tuple ho hc fin0
  ·exact IsiPair.tuple_list ho hc (fin _)
  ·exact IsiPair.tuple_str ho hc (fin _)
 | lst ds=>
  obtain ⟨q',vs,rfl,h1,h2⟩:=rd.lst
  cases ru
  obtain ⟨its,_,pl,_⟩:=I.list (.inl (Rd.mono m h1))
  obtain ⟨o,ho,hc,_⟩:=pl.isList
  cases T <;> cases ek
  ·exact IsiPair.list_int ho hc (fin _)
  ·exact IsiPair.list_bool ho hc (fin _)
  ·exact IsiPair.list_tuple ho hc (fin _)
  ·exact IsiPair.list_list ho hc fin0
  ·exact IsiPair.list_str ho hc (fin _)
 | dct=>
  obtain ⟨q',rfl,h1⟩:=rd.dct
  cases ru
  obtain ⟨o,ho,hc⟩:=dictAt I (m _ _ h1)
  cases T <;> cases ek
  ·exact IsiPair.dict_int ho hc (fin _)
  ·exact IsiPair.dict_bool ho hc (fin _)
  ·exact IsiPair.dict_tuple ho hc (fin _)
  ·exact IsiPair.dict_list ho hc (fin _)
  ·exact IsiPair.dict_str ho hc (fin _)
 | dic kvs=>
  obtain ⟨q',rfl,h1⟩:=rd.dic
  cases ru
  obtain ⟨o,ho,hc⟩:=E7 I (m _ _ h1)
  cases T <;> cases ek
  ·exact IsiPair.dict_int ho hc (fin _)
  ·exact IsiPair.dict_bool ho hc (fin _)
  ·exact IsiPair.dict_tuple ho hc (fin _)
  ·exact IsiPair.dict_list ho hc (fin _)
  ·exact IsiPair.dict_str ho hc (fin _)
 | dip kvs=>
  obtain ⟨q',rfl,h1⟩:=rd.dip
  cases ru
  obtain ⟨o,ho,hc⟩:=Fj I (m _ _ h1)
  cases T <;> cases ek
  ·exact IsiPair.dict_int ho hc (fin _)
  ·exact IsiPair.dict_bool ho hc (fin _)
  ·exact IsiPair.dict_tuple ho hc (fin _)
  ·exact IsiPair.dict_list ho hc (fin _)
  ·exact IsiPair.dict_str ho hc (fin _)
def qv (T:Ty) (fa:M D):M D:=do
 let d <- fa
 let k <- lift (oj T d)
 pure (.bl k)
theorem AZ (T:Ty) {y:Str} {py:Pos} (hg:Gl X y) (hm:X.mg y=none) (hv:bootBuiltins y=some (.type T.name)) (hn:y ≠ "__name__":=by decide) (hd:(y == ("__debug__":Str))=false:=by decide):PE X (.Name y py) (tC (.ty T.name)):=yQ hg hm hv rfl hn hd
theorem nC (T:Ty) {y:Str} {py:Pos} (hmi:X.mg "isinstance" = none) (hmy:X.mg y=none) (ha:DE X a fa) (hv:bootBuiltins y=some (.type T.name):=by decide +kernel) (hgi:Gl X "isinstance":=by rfl) (hgy:Gl X y:=by rfl) (hn:y ≠ "__name__":=by decide) (hd:(y == ("__debug__":Str))=false:=by decide)
  (he:starEach [a,.Name y py] X.env=(false,eval a X.env) :: starEach [.Name y py] X.env:=by rfl):DE X (.Call (.Name "isinstance" p) [a,.Name y py] [] pos) (qv T fa) :=
 b4 (gB o9 hgi hmi (by decide +kernel) (cx ha (cx (AZ T hgy hmy hv hn hd) eY) he) (by decide) (by decide) he rfl) fun σ H Q ⟨c,δ,S,TT,d,δ',s,e,k⟩=>by
  obtain ⟨x,δ1,e1,e⟩:=bind_some e
  obtain ⟨b,δ2,e2,e⟩:=bind_some e
  obtain ⟨e3,rfl⟩:=ax e2
  obtain ⟨rfl,rfl⟩:=ai e
  exact ⟨c,δ,S,TT,x,δ1,s,e1,fun v H1 s1=>⟨_,x,v,T,b,rfl,aK,s1.st.head,e3,k _ _ (s1.stk (.cons .mkB s1.st.tail))⟩⟩
end
end Jt
namespace Jt
open PySem L2
def uD (x:Int):List Int->List Int
 | []=>[x]
 | y :: r=>if x ≤ y then x :: y :: r else y :: uD x r
def cQ:List Int->List Int
 | []=>[]
 | x :: r=>uD x (cQ r)
theorem jE (x:Int):∀ l,(uD x l).Perm (x :: l)
 | []=>List.Perm.refl _
 | y :: r=>by
  unfold uD
  split
  ·exact List.Perm.refl _
  ·exact ((jE x r).cons y).trans (List.Perm.swap _ _ _)
theorem dZ:∀ l,(cQ l).Perm l
 | []=>List.Perm.refl _
 | x :: r=>(jE x _).trans ((dZ r).cons x)
theorem sD (x:Int):∀ l:List Int,l.Pairwise (· ≤ ·)->(uD x l).Pairwise (· ≤ ·)
 | [],_=>List.pairwise_singleton _ _
 | y :: r,h=>by
  obtain ⟨h1,h2⟩:=List.pairwise_cons.mp h
  unfold uD
  split
  ·rename_i hx
   refine List.pairwise_cons.mpr ⟨fun z hz=>?_,h⟩
   rcases List.mem_cons.mp hz with e | hz
   ·rw [e];exact hx
   ·exact Int.le_trans hx (h1 z hz)
  ·rename_i hx
   refine List.pairwise_cons.mpr ⟨fun z hz=>?_,sD x r h2⟩
   rcases List.mem_cons.mp ((jE x r).mem_iff.mp hz) with e | hz
   ·rw [e];omega
   ·exact h1 z hz
theorem kK:∀ l,(cQ l).Pairwise (· ≤ ·)
 | []=>List.Pairwise.nil
 | x :: r=>sD x _ (kK r)
theorem mJ:∀ {a b:List Int},a.Perm b->a.Pairwise (· ≤ ·)->b.Pairwise (· ≤ ·)->a=b
 | [],b,p,_,_=>(List.nil_perm.mp p).symm
 | x :: a,[],p,_,_=>absurd p (by simp)
 | x :: a,y :: b,p,ha,hb=>by
  obtain ⟨a1,a2⟩:=List.pairwise_cons.mp ha
  obtain ⟨b1,b2⟩:=List.pairwise_cons.mp hb
  have e:x=y:= by
   have hx:x ∈ y :: b:=p.mem_iff.mp List.mem_cons_self
   have hy:y ∈ x :: a:=p.mem_iff.mpr List.mem_cons_self
   rcases List.mem_cons.mp hx with e | hx
   ·exact e
   ·rcases List.mem_cons.mp hy with e | hy
    ·exact e.symm
    ·exact Int.le_antisymm (a1 y hy) (b1 x hx)
  subst e
  rw [mJ ((List.perm_cons x).mp p) a2 b2]
theorem xI {a b:List Int} (p:a.Perm b) (h:a.Pairwise (· ≤ ·)):a=cQ b:=mJ (p.trans (dZ b).symm) h (kK b)
inductive Hy (K:PySem.W.Frag) (f:M (List D)) (σ:St) (H:Hp) (Q:VK):Prop
 | mk (c:Ct) (δ:DS) (S:List D) (T:List V) (xs:List D) (δ':DS) (s:Sl c δ S σ T H) (e:f δ=some (xs,δ')) (q:∀ p vs H',vs.length=xs.length->(iV K H' p vs ∨ jd K H' p vs)->Sl c δ' (xs ++ S) σ (vs ++ T) H' -> Q (.ref p) H'):Hy K f σ H Q
abbrev DQ (X:Cx) (e:Expr) (f:M (List D)):Prop:=PE X e (Hy X.K f)
section
variable {X:Cx} {a b e:Expr} {fa fb:M D} {fs fF fq:M (List D)} {pos p apos cpos:Pos} {es rest:List Expr} {x:Str}
theorem xk (h:DE X e fa):DQ X e (do let x <- fa;lift (jT x)):=b4 h fun σ H Q ⟨c,δ,S,T,xs,δ',s,e,k⟩=>by
 obtain ⟨d,δ1,e1,e⟩:=bind_some e
 obtain ⟨e2,rfl⟩:=ax e
 refine ⟨c,δ,S,T,d,δ1,s,e1,fun v H' s'=>?_⟩
 cases d with
 | tup ds=>
  cases e2
  obtain ⟨q,vs,rfl,h1,h2⟩:=s'.st.head.tup
  exact k q vs H' h2.length (.inr (.of (aK _ _ h1))) (s'.stk (h2.append s'.st.tail))
 | lst ds=>
  cases e2
  obtain ⟨q,vs,rfl,h1,h2⟩:=s'.st.head.lst
  exact k q vs H' h2.length (.inl (.inl (Rd.mono aK h1))) (s'.stk (h2.append s'.st.tail))
 | _=>cases e2
theorem Inv.kd {pins:List (Addr × Obj)} {σ:St} {H:Hp} {s:Shared} {h':Heap} {t':Nat} {d':Drawn} (I:Inv X pins σ H s) (k:∀ b u,s.heap.get? b=some u->h'.get? b=some u):Inv X pins σ H { s with heap:=h',toks:=t',drawn:=d' }:= by
 have I1:=I.kept (t':=t') k
 exact ⟨I1.ok,I1.os,I1.bare,I1.base,I1.loc,I1.cell,I1.free,I1.freeC,I1.pin,I1.hok,I1.len⟩
theorem fB {ns:List Int}:∀ {us:List Value},PyProof.Rows.IntsAre us ns->Vals (ns.map V.int) us:= by
 induction ns with
 | nil=>intro us h;cases h;exact .nil
 | cons n ns ih=>
  intro us h
  cases h with
  | cons _ t h=>exact .cons ⟨t,rfl⟩ (ih h)
theorem qh {pins:List (Addr × Obj)} {σ:St} {H:Hp} {s:Shared} {ns ms:List Int} {Q:VK} {h1 h':Heap} {tk:Nat} {d:Drawn} {out:List Value} {e:Nat} (I:Inv X pins σ H s) (k:∀ b o,s.heap.get? b=some o->h1.get? b=some o) (k2:∀ b o,h1.get? b=some o->h'.get? b=some o)
  (hg:h'.get? h1.objs.size=some { cls:=.type "list",data:=.seq out.toArray e }) (hi:PyProof.Rows.IntsAre out ms) (hp:ms.Perm ns) (hu:ms.Pairwise (· ≤ ·)) (hl:ns.length < 64) (q:∀ l,H l=none->Q (.ref l) (upd H l (.lst ((cQ ns).map V.int)))) :
  EP X pins σ Q (.ref h1.objs.size) { s with heap:=h',toks:=tk,drawn:=d }:= by
 have I1:Inv X pins σ H { s with heap:=h1,toks:=tk,drawn:=d }:=Inv.kd I k
 have em:=xI hp hu
 refine ⟨.ref h1.objs.size,_,I1.laid (t':=tk) (o:=.lst ((cQ ns).map V.int)) k2 (Nat.le_refl _) ⟨?_,out,e,em ▸ fB hi,hg⟩,rfl,q _ (I1.hok.fresh (Nat.le_refl _))⟩
 rw [List.length_map,<- em,hp.length_eq,sizeLine_eq]
 omega
theorem pV:dR X (.builtin "sorted") (fun xs H Q=>∃ p ns,xs=[.ref p]∧(iV X.K H p (ns.map V.int) ∨ jd X.K H p (ns.map V.int))∧ns.length < 64∧∀ l,H l=none->Q (.ref l) (upd H l (.lst ((cQ ns).map V.int)))):= by
 intro pins s σ H xs us Q I r h
 obtain ⟨p,ns,rfl,hq,hl,q⟩:=h
 obtain ⟨u,rfl,ru⟩:=r.one
 cases ru
 refine oA (ns:=ns) (fun A' Q' E' hA hQ'=>?_) hl fun h1 h' tk d out ms e k k2 hg hi hp hu=>qh I k k2 hg hi hp hu hl q
 rcases hq with hq | hq
 ·obtain ⟨its,rv,pl,hz⟩:=I.list hq
  obtain ⟨o,ho,hc,n,hd⟩:=pl.isList
  exact wpAny_collect_seq p (.inl rfl) ho hc hd (fun h' k=>hQ' _ ns h' s.toks s.drawn (by simpa using intsAre_of rv) (List.Perm.refl _) k) (by rw [List.size_toArray,<- rv.length];exact hz)
 ·obtain ⟨its,rv,⟨o,ho,hc,n,hd⟩,hz⟩:=I.tuple hq
  exact wpAny_collect_seq p (.inr rfl) ho hc hd (fun h' k=>hQ' _ ns h' s.toks s.drawn (by simpa using intsAre_of rv) (List.Perm.refl _) k) (by rw [List.size_toArray,<- rv.length];exact hz)
def f_:List D->Option (List Int)
 | []=>some []
 | .int i :: r=>(f_ r).map (i :: ·)
 | _=>none
theorem nK {H:Hp}:∀ {ds:List D} {vs:List V} {ns:List Int},Rs H ds vs->f_ ds=some ns->vs=ns.map V.int
 | [],vs,ns,h,e=>by cases e;exact h.inv0
 | d :: ds,vs,ns,h,e=>by
  obtain ⟨v,r,ev,h1,h2⟩:=h.inv
  cases d with
  | int b=>
   unfold f_ at e
   cases q:f_ ds with
   | none=>rw [q] at e;cases e
   | some bs'=>
    rw [q] at e;cases e
    rw [ev,h1.int,nK h2 q];rfl
  | _=>cases e
theorem jA {H:Hp}:∀ (ns:List Int),Rs H (ns.map D.int) (ns.map V.int)
 | []=>.nil
 | n :: ns=>.cons .mkI (jA ns)
def sortI (xs:List D):Option (List D):=match f_ xs with
 | some ns=>if ns.length < 64 then some ((cQ ns).map D.int) else none
 | none=>none
def mQ {α:Type} (g:List D->Option α) (f:M (List D)):M α:=do
 let xs <- f
 lift (g xs)
theorem jy (hm:X.mg "sorted" = none) (h:DQ X e fq) (hg:Gl X "sorted":=by rfl) (he:starEach [e] X.env=[(false,eval e X.env)]:=by rfl):DF X (.Call (.Name "sorted" p) [e] [] pos) (mQ sortI fq) :=
 b4 (gB pV hg hm PyProof.Rows.boot_sorted (cx h eY he) (by decide) (by decide) he rfl) fun σ H Q ⟨c,δ,S,T,xs,δ',s,e,k⟩=>by
  obtain ⟨ds,δ1,e1,e⟩:=bind_some e
  obtain ⟨e2,rfl⟩:=ax e
  refine ⟨c,δ,S,T,ds,δ1,s,e1,fun q vs H1 l hq s1=>?_⟩
  unfold sortI at e2
  split at e2
  ·rename_i ns en
   split at e2
   ·rename_i hn
    cases e2
    have ev:=nK (s1.st.left l) en
    subst ev
    refine ⟨q,ns,rfl,hq,hn,fun m hm=>?_⟩
    obtain ⟨f1,f2,f3⟩:=s1.fresh hm
    have s2:=(s1.drop l).hide (o:=.lst ((cQ ns).map V.int)) hm
    exact k m _ _ (by simp) (s2.stk ((jA _).append s2.st)) f1 f2 f3
   ·cases e2
  ·cases e2
def pS (xs ys:List D):Option (List D):=if xs.length + ys.length ≤ 100000 then some (xs ++ ys) else none
end
end Jt
namespace Jt
open PySem L2
inductive Hn where
 | th (x:D) | ls (j:Nat)
def Dt (c:Ct) (δ:DS) (S:List D) (σ:St) (T:List V) (H:Hp) (v:V):Hn->Prop
 | .th d=>Sl c δ (d :: S) σ (v :: T) H
 | .ls i=>Sl c δ S σ T H∧σ[i]? = some (some v)
inductive BF (f:M Hn) (σ:St) (H:Hp) (Q:VK):Prop
 | mk (c:Ct) (δ:DS) (S:List D) (T:List V) (h:Hn) (δ':DS) (s:Sl c δ S σ T H) (e:f δ=some (h,δ')) (q:∀ v H',Dt c δ' S σ T H' v h->Q v H'):BF f σ H Q
abbrev DH (X:Cx) (e:Expr) (f:M Hn):Prop:=PE X e (BF f)
def Hn.ds:Hn->List D
 | .th z=>[z]
 | .ls _=>[]
def Hn.vs (v:V):Hn->List V
 | .th _=>[v]
 | .ls _=>[]
theorem Hn.len (v:V) (h:Hn):(h.vs v).length=h.ds.length:=by cases h <;> rfl
def rdH (h:Hn):M D:=fun δ=>match h with
 | .th d=>some (d,δ)
 | .ls i=>match δ[i]? with
  | some (.ow _ xs)=>some (.lst xs,δ)
  | _=>none
theorem Dt.sl {c:Ct} {δ:DS} {S:List D} {σ:St} {T:List V} {H:Hp} {v:V} {h:Hn} (k:Dt c δ S σ T H v h):Sl c δ (h.ds ++ S) σ (h.vs v ++ T) H:= by
 cases h with
 | th d=>exact k
 | ls i=>exact k.1
theorem oB {c:Ct} {δ δ':DS} {S:List D} {σ:St} {T:List V} {H:Hp} {v:V} {h:Hn} {d:D} (s:Sl c δ S σ T H) (hs:∀ d',h=.th d' -> R (eD c δ σ H) d' v) (ho:∀ i,h=.ls i->σ[i]? = some (some v)) (e:rdH h δ=some (d,δ')):δ=δ' ∧ R H d v ∧
  (∀ xs,d=.lst xs->∃ p vs,v=.ref p∧Rd H p (.lst vs)∧Rs (eD c δ σ H) xs vs)∧((∀ xs,d ≠ .lst xs)->R (eD c δ σ H) d v):= by
 cases h with
 | th d0=>
  cases e
  have r:=hs d rfl
  refine ⟨rfl,r.mono aK,fun xs ex=>?_,fun _=>r⟩
  subst ex
  obtain ⟨p,vs,ev,h1,h2⟩:=r.lst
  exact ⟨p,vs,ev,Rd.mono aK h1,h2⟩
 | ls i=>
  unfold rdH at e
  dsimp only at e
  split at e
  ·rename_i b xs hx
   cases e
   obtain ⟨p,vs,ev,hp,hr⟩:=s.own hx
   rw [ho i rfl] at ev
   cases ev
   exact ⟨rfl,.mkL (.inl hp) (hr.mono aK),fun ys ey=>by cases ey;exact ⟨p,vs,rfl,.inl hp,hr⟩,fun z=>absurd rfl (z xs)⟩
  ·cases e
section
variable {X:Cx} {a b e:Expr} {fa fb:M D} {ha' hb':M Hn} {fs fF fq:M (List D)} {pos p apos cpos:Pos} {es rest:List Expr} {x:Str}
theorem gi (h:DE X e fa):DH X e (do let x <- fa;pure (.th x)):=b4 h fun σ H Q ⟨c,δ,S,T,h,δ',s,e,k⟩=>by
 obtain ⟨d,δ1,e1,e⟩:=bind_some e
 obtain ⟨rfl,rfl⟩:=ai e
 exact ⟨c,δ,S,T,d,δ1,s,e1,fun v H' s'=>k v H' s'⟩
def oy (i:Nat):M Hn:=do
 let _ <- aO i
 pure (.ls i)
theorem k3 (i:Nat) {px:Pos} (hN:X.N[i]? = some x:=by rfl) (hv:pk X.env.scope x:=by first | exact Or.inl rfl | exact Or.inr (Or.inl rfl) | exact Or.inr (Or.inr rfl)) (hd:(x == ("__debug__":Str))=false:=by decide) (hcd:(x == ("__classdict__":Str))=false:=by decide) :
  DH X (.Name x px) (oy i):=b4 (dk hN hv hd hcd) fun σ H Q ⟨c,δ,S,T,h,δ',s,e,k⟩=>by
 obtain ⟨xs,δ1,e1,e⟩:=bind_some e
 obtain ⟨rfl,rfl⟩:=ai e
 obtain ⟨⟨b,hi⟩,rfl⟩:=aZ e1
 obtain ⟨q,vs,ev,hq,hx⟩:=s.own hi
 exact ⟨_,ev,k _ H ⟨s,ev⟩⟩
def qa {α:Type} (g:D->D->Option α) (fa fb:M Hn):M α:=do
 let h1 <- fa
 let h2 <- fb
 let x <- rdH h1
 let y <- rdH h2
 lift (g x y)
structure Hz (c:Ct) (δ:DS) (S:List D) (σ:St) (T:List V) (H:Hp) (x y:D) (v u:V):Prop where
 sl:Sl c δ S σ T H
 rx:R H x v
 ry:R H y u
 lx:∀ xs,x=.lst xs->∃ p vs,v=.ref p∧Rd H p (.lst vs)∧Rs (eD c δ σ H) xs vs
 ly:∀ xs,y=.lst xs->∃ p vs,u=.ref p∧Rd H p (.lst vs)∧Rs (eD c δ σ H) xs vs
theorem BZ {α:Type} {r:R2} {g:D->D->Option α} {W:Ct->DS->List D->St->List V->VK->α->Prop}
  (hr:∀ c δ S σ T H x y v u z Q,Hz c δ S σ T H x y v u->g x y=some z->W c δ S σ T Q z->r v u H Q) :
  ∀ σ H Q,(∃ c δ S T z δ',Sl c δ S σ T H∧qa g ha' hb' δ=some (z,δ')∧W c δ' S σ T Q z)->Ba r (BF ha') (BF hb') σ H Q:=fun σ H Q ⟨c,δ,S,T,z,δ',s,e,k⟩=>by
 obtain ⟨h1,δ1,e1,e⟩:=bind_some e
 obtain ⟨h2,δ2,e2,e⟩:=bind_some e
 obtain ⟨x,δ3,e3,e⟩:=bind_some e
 obtain ⟨y,δ4,e4,e⟩:=bind_some e
 obtain ⟨e5,rfl⟩:=ax e
 refine ⟨c,δ,S,T,h1,δ1,s,e1,fun v H1 k1=>?_⟩
 refine ⟨c,δ1,h1.ds ++ S,h1.vs v ++ T,h2,δ2,k1.sl,e2,fun u H2 k2=>?_⟩
 have s2:=k2.sl
 have s3:Sl c δ2 S σ T H2:=(s2.drop (Hn.len u h2)).drop (Hn.len v h1)
 obtain ⟨rfl,r1,l1,_⟩:=oB s3 (v:=v) (h:=h1) (fun d' ed=>by
  subst ed
  exact (s2.drop (Hn.len u h2)).st.head) (fun i ei=>by subst ei;exact k1.2) e3
 obtain ⟨rfl,r2,l2,_⟩:=oB s3 (v:=u) (h:=h2) (fun d' ed=>by
  subst ed
  exact s2.st.head) (fun i ei=>by subst ei;exact k2.2) e4
 exact hr c δ2 S σ T H2 x y v u z Q ⟨s3,r1,r2,l1,l2⟩ e5 k
def ED:R2:=fun x y H Q=>∃ l b xs zs,x=.ref l∧y=.ref b∧Rd H l (.lst xs)∧Rd H b (.lst zs)∧xs.length + zs.length ≤ sizeLine∧∀ p,H p=none->Q (.ref p) (upd H p (.lst (xs ++ zs)))
theorem zu:hU X (binaryOp .Add) ED:= by
 intro pins s σ H x y v u Q I rx ry h
 obtain ⟨l,b,xs,zs,rfl,rfl,hH,hB,hz,q⟩:=h
 cases rx
 cases ry
 obtain ⟨z,its,n,r,e⟩:=hH.ok I.hok
 obtain ⟨z2,its2,n2,r2,e2⟩:=hB.ok I.hok
 refine PySem.P.add_list e e2 ?_ (by rw [List.size_toArray,List.size_toArray,<- r.length,<- r2.length];exact hz)
 rw [show its.toArray ++ its2.toArray=(its ++ its2).toArray by simp]
 exact ⟨.ref _,_,I.lnew (t':=s.toks) (r.append r2) (by rw [List.length_append];exact hz),rfl,q _ I.fresh⟩
def ny:D->D->Option (List D)
 | .lst xs,.lst ys=>pS xs ys
 | _,_=>none
theorem oa (ha:DH X a ha') (hb:DH X b hb'):DF X (.BinOp a .Add b pos) (qa ny ha' hb'):=b4 (Bg zu ha hb) fun σ H Q ⟨c,δ,S,T,z,δ',s,e,k⟩=>by
 refine BZ (W:=fun c δ' S σ T Q z=>∀ l vs H',vs.length=z.length->Sl { c with Z:=upd c.Z l (.lst vs) } δ' (z ++ S) σ (vs ++ T) H' -> c.Z l=none->l ∉ c.B->c.H0 l=none->Q (.ref l) H') (fun c δ S σ T H x y v u z Q t eg w=>?_) σ H Q ⟨c,δ,S,T,z,δ',s,e,k⟩
 cases x with
 | lst xs=>
  cases y with
  | lst ys=>
   have eg':(if xs.length + ys.length ≤ 100000 then some (xs ++ ys) else none)=some z:=eg
   split at eg'
   ·rename_i hn
    cases eg'
    obtain ⟨p1,vs,rfl,a1,a2⟩:=t.lx xs rfl
    obtain ⟨p2,us,rfl,b1,b2⟩:=t.ly ys rfl
    have hl:(100000:Nat) < sizeLine:=by rw [sizeLine_eq];decide
    refine ⟨p1,p2,vs,us,rfl,rfl,a1,b1,by rw [a2.length,b2.length];omega,fun q hq=>?_⟩
    have s1:=t.sl.stk ((a2.append b2).append t.sl.st)
    obtain ⟨f1,f2,f3⟩:=s1.fresh hq
    exact w q _ _ (by rw [List.length_append,List.length_append,a2.length,b2.length]) (s1.hide hq) f1 f2 f3
   ·cases eg'
  | _=>cases eg
 | _=>cases eg
def qd (neg:Bool) (x y:D):Option D:=if jz x y=true then (cP 9 x y).map fun b=>.bl (if neg then !b else b) else b9 neg x y
theorem sH {c:Ct} {δ:DS} {S:List D} {σ:St} {T:List V} {H:Hp} {x y:D} {v u:V} {z:D} {Q:VK} {neg:Bool} {r:R2} (t:Hz c δ S σ T H x y v u) (eg:qd neg x y=some z) (w:∀ v H',Sl c δ (z :: S) σ (v :: T) H' -> Q v H')
  (hs:∀ (b:Bool),jz x y=true->cP 9 x y=some b->Q (.bl (if neg then !b else b)) H->r v u H Q) (hf:jZ v u=true->Q (.bl (if neg then !decide (v=u) else decide (v=u))) H->r v u H Q):r v u H Q:= by
 unfold qd at eg
 split at eg
 ·rename_i hq
  cases q:cP 9 x y with
  | none=>rw [q] at eg;cases eg
  | some b=>
   rw [q] at eg;cases eg
   exact hs b hq q (w _ _ (t.sl.stk (.cons .mkB t.sl.st)))
 ·unfold b9 at eg
  split at eg
  ·rename_i w1 z1 e1 e2
   split at eg
   ·rename_i hsc
    cases eg
    obtain ⟨rfl,_⟩:=dz t.rx e1
    obtain ⟨rfl,_⟩:=dz t.ry e2
    exact hf hsc (w _ _ (t.sl.stk (.cons .mkB t.sl.st)))
   ·cases eg
  ·cases eg
theorem DD {k:Nat} (hr:bU k X.A) (ha:DH X a ha') (hb:DH X b hb'):DE X (.Compare a [.Eq] [b] pos) (qa (qd false) ha' hb'):=b4 (rO (u2 (ju hr)) ha hb (mV _)) fun σ H Q ⟨c,δ,S,T,z,δ',s,e,k⟩=>
 BZ (W:=fun c δ' S σ T Q z=>∀ v H',Sl c δ' (z :: S) σ (v :: T) H' -> Q v H') (fun c δ S σ T H x y v u z Q t eg w=>sH t eg w (fun b hs he q=>.inr ⟨H,x,y,b,fun _ _ h=>h,t.rx,t.ry,hs,he,q⟩) fun hs q=>.inl ⟨hs,q⟩) σ H Q ⟨c,δ,S,T,z,δ',s,e,k⟩
theorem HQ {g:D->D->Option D} {r:R2} (w:∀ σ H Q,tM (qa g ha' hb') σ H Q->Ba r (BF ha') (BF hb') σ H Q):∀ σ H Q,qS (qa g ha' hb' >>= dG) σ H Q->Bx (Ba r (BF ha') (BF hb')) σ H Q:=fun σ H Q ⟨c,δ,S,T,d,δ',s,e,k⟩=>by
 obtain ⟨x,δ1,e1,e⟩:=bind_some e
 obtain ⟨rfl,rfl⟩:=kU e
 exact w σ H _ ⟨c,δ,S,T,.bl d,δ1,s,e1,fun v H' s'=>⟨d,s'.st.head.bl,k _ s'.pop⟩⟩
theorem qq {k:Nat} (hr:bU k X.A) (ha:DH X a ha') (hb:DH X b hb'):DT X (.Compare a [.NotEq] [b] pos) (qa (qd true) ha' hb' >>= dG):=yJ (rm (vz (ju hr)) ha hb (mV _)) (HQ fun σ H Q ⟨c,δ,S,T,z,δ',s,e,k⟩=>
 BZ (W:=fun c δ' S σ T Q z=>∀ v H',Sl c δ' (z :: S) σ (v :: T) H' -> Q v H') (fun c δ S σ T H x y v u z Q t eg w=>sH t eg w (fun b hs he q=>.inr ⟨H,x,y,b,fun _ _ h=>h,t.rx,t.ry,hs,he,q⟩) fun hs q=>.inl ⟨hs,q⟩) σ H Q ⟨c,δ,S,T,z,δ',s,e,k⟩)
def flatOnly (d:D):Option D:=match flat d with
 | some _=>some d
 | none=>none
def HS (n:Nat) (mf:List D->Option D) (ds:List D):Option D:=if ds.length=n then (mf ds).bind flatOnly else none
variable {k:Nat} {f:Addr} {fd:FuncData} {ps:List Str}
def cutD (xs:List D) (lo hi:Option Int):List D:=(xs.drop (HT.sIx xs.length 0 lo)).take (HT.sIx xs.length xs.length hi - HT.sIx xs.length 0 lo)
theorem xo {H:Hp} {ds:List D} {vs:List V} (h:Rs H ds vs) (lo hi:Option Int):Rs H (cutD ds lo hi) (ni vs lo hi):= by
 unfold cutD ni
 rw [h.length]
 have dr:∀ (n:Nat) {ds:List D} {vs:List V},Rs H ds vs->Rs H (ds.drop n) (vs.drop n):= by
  intro n
  induction n with
  | zero=>intro ds vs h;exact h
  | succ n ih=>
   intro ds vs h
   cases ds with
   | nil=>rw [h.inv0];exact .nil
   | cons d ds=>obtain ⟨v,r,e,h1,h2⟩:=h.inv;subst e;exact ih h2
 have tk:∀ (n:Nat) {ds:List D} {vs:List V},Rs H ds vs->Rs H (ds.take n) (vs.take n):= by
  intro n
  induction n with
  | zero=>intro ds vs h;rw [List.take_zero,List.take_zero];exact .nil
  | succ n ih=>
   intro ds vs h
   cases ds with
   | nil=>rw [h.inv0];exact .nil
   | cons d ds=>obtain ⟨v,r,e,h1,h2⟩:=h.inv;subst e;exact .cons h1 (ih h2)
 exact tk _ (dr _ h)
theorem pb {t sl:Addr} {items:Array Value} {vl vu:Value} {lo hi:Option Int} {prog:Program} {w:World} {A:Around} {E:Value->Shared->Prop} {s:Shared} {Q:Value->Shared->Prop} (ht:PyProof.Rows.IsTup s.heap t items) (hs:s.heap.IsSliceOf sl vl vu .none) (pl:IsPart vl lo) (pu:IsPart vu hi)
  (hw:HT.sIx items.size 0 lo=0∧HT.sIx items.size items.size hi=items.size) (h:Q (.ref t) s):wpAny (model prog w) A (getItem (.ref t) (.ref sl)) Q E s:= by
 obtain ⟨os,hos,hcs,hds⟩:=id hs
 have hTs:s.TypeIs (.ref sl) "slice":=⟨os,hos,hcs⟩
 unfold getItem
 try with_reducible refine wpAny_holding ?_
 first | refine wpAny_bind (wpAny_pure ?_) | skip
 refine wpAny_bind (wpAny_sequenceKey ht.typeIs (by decide) ?_)
 refine wpAny_bind (wpAny_callSpecial?_slot (name:=Str.ofString "__getitem__") ht.typeIs PyProof.Rows.slot_tuple_getitem (wpAny_call_entry PyProof.Rows.slot_tuple_getitem ht.typeIs PyProof.Rows.entry_tuple_getitem ?_ (PyProof.Rows.args_tuple_getitem _ _)))
 show wpAny (model prog w) _ (Builtin.Tuple.tupleItemsOf (.ref t) >>= _) _ _ s
 refine wpAny_bind (PyProof.Rows.tupleItemsOf_ ht (wpAny_bind (wpAny_typeOf hTs ?_)))
 rw [if_pos (by decide)]
 refine wpAny_bind (HT.sliceApplied_gen hs pl pu ?_)
 have hyes:(((HT.sIx items.size 0 lo:Nat):Int) == 0 && (1:Int) == 1 && (HT.sIx items.size items.size hi - HT.sIx items.size 0 lo) == items.size)=true:= by
  rw [hw.1,hw.2];simp
 show wpAny (model prog w) _ (if (((HT.sIx items.size 0 lo:Nat):Int) == 0 && (1:Int) == 1 && (HT.sIx items.size items.size hi - HT.sIx items.size 0 lo) == items.size)=true then _ else _) _ _ s
 rw [if_pos hyes]
 refine wpAny_bind ?_
 unfold Builtin.Tuple.tupleIsExact
 refine wpAny_bind (wpAny_typeOf ht.typeIs (wpAny_pure ?_))
 rw [if_pos (by decide)]
 exact wpAny_bind (wpAny_rule (wpAny_bind (wpAny_pure (wpAny_pure ⟨_,rfl,wpAny_pure h⟩))))
end
end Jt
namespace Jt
open PySem L2
section
variable {X:Cx} {pins:List (Addr × Obj)} {σ:St} {H:Hp} {s:Shared} {h':Heap}
theorem _root_.L2.Inv.turnedN {t':Nat} {fp:List Addr} {p:Addr} {o:HO} (I:Inv X pins σ H s) (k:∀ b o,b ∉ fp->s.heap.get? b=some o->h'.get? b=some o) (hf:∀ b ∈ fp,dg X pins H b) (hp:s.heap.objs.size ≤ p) (new:bK X.prog X.w (upd H p o) h' p o) :
  Inv X pins σ (upd H p o) { s with heap:=h',toks:=t' }:= by
 have hn:H p=none:=I.hok.fresh hp
 have nit:∀ b u,H b=some u->b ∉ fp:=fun b u e z=>by rw [(hf b z).1] at e;cases e
 refine I.step (g':=s.gens) (d':=s.drawn) (ch:=fp) (fun b hb=>?_) (fun b o _ _ hc e _=>k b o hc e) (fun b o _ _ hc e _=>⟨o.slots,k b o hc e⟩) (fun b o _ e n=>?_)
  (fun b o hc e=>⟨o,k b o hc e⟩) (fun b xs e=>by rw [aq (aJ e hn)];exact e) (fun b o u e=>by rw [aq (aJ e hn)];exact e) (fun b ps e=>⟨#[],by rw [aq (aJ e hn),e];simp⟩) (fun m hm=>?_) (fun b u e=>?_) I.bare
 ·obtain ⟨_,f1,_,f3,f4,f5⟩:=hf b hb
  exact ⟨f3,f1,f4,f5⟩
 ·rw [aq fun z=>by subst z;exact Nat.lt_irrefl _ (Nat.lt_of_lt_of_le (Heap.lt_size e) hp)];exact n
 ·obtain ⟨o',es,ep,ho,r⟩:=hm
  exact ⟨o',es,ep,k _ o' (fun z=>(hf _ z).2.1 rfl) ho,r⟩
 ·by_cases hb:b=p
  ·subst hb;rw [ay] at e;cases e;exact new
  ·rw [aq hb] at e
   refine (I.hok b u e).stay (fun c v hc q=>k c v ?_ q) (fun c q=>by rw [aq (aJ q hn)];exact q) (fun c xs q=>by rw [aq (aJ q hn)];exact q) fun c ob v q=>by rw [aq (aJ q hn)];exact q
   rcases hc with z | z
   ·rw [z];exact nit b u e
   ·exact nit c _ z
theorem _root_.L2.Inv.turnedL {t':Nat} {fp:List Addr} (I:Inv X pins σ H s) (k:∀ b o,b ∉ fp->s.heap.get? b=some o->h'.get? b=some o) (hf:∀ b ∈ fp,dg X pins H b):Inv X pins σ H { s with heap:=h',toks:=t' }:= by
 have nit:∀ b u,H b=some u->b ∉ fp:=fun b u e z=>by rw [(hf b z).1] at e;cases e
 refine I.step (g':=s.gens) (d':=s.drawn) (ch:=fp) (fun b hb=>?_) (fun b o _ _ hc e _=>k b o hc e) (fun b o _ _ hc e _=>⟨o.slots,k b o hc e⟩) (fun _ _ _ _ n=>n)
  (fun b o hc e=>⟨o,k b o hc e⟩) (fun _ _ e=>e) (fun _ _ _ e=>e) (fun b ps e=>⟨#[],by rw [e];simp⟩) (fun m hm=>?_) (fun b u e=>?_) I.bare
 ·obtain ⟨_,f1,_,f3,f4,f5⟩:=hf b hb
  exact ⟨f3,f1,f4,f5⟩
 ·obtain ⟨o',es,ep,ho,r⟩:=hm
  exact ⟨o',es,ep,k _ o' (fun z=>(hf _ z).2.1 rfl) ho,r⟩
 ·refine (I.hok b u e).stay (fun c v hc q=>k c v ?_ q) (fun _ q=>q) fun _ _ q=>q
  rcases hc with z | z
  ·rw [z];exact nit b u e
  ·exact nit c _ z
def Sq (b:Bool) (K:PySem.W.Frag) (H:Hp) (q:Addr) (xs:List V):Prop:=match b with
 | true=>jd K H q xs
 | false=>iV K H q xs
theorem _root_.L2.Inv.sq {b:Bool} {q:Addr} {xs:List V} (I:Inv X pins σ H s) (h:Sq b X.K H q xs):∃ its:List Value,Vals xs its∧sI b s.heap q its.toArray:= by
 cases b with
 | true=>obtain ⟨its,r,p,_⟩:=I.tuple h;exact ⟨its,r,p⟩
 | false=>obtain ⟨its,r,p,_⟩:=I.list h;exact ⟨its,r,p.isList⟩
theorem _root_.L2.Inv.sq_inj {b:Bool} {q:Addr} {xs ys:List V} (I:Inv X pins σ H s) (h:Sq b X.K H q xs) (h':Sq b X.K H q ys):xs=ys:= by
 cases b with
 | true=>exact I.tuple_inj h h'
 | false=>exact I.list_inj h h'
def Gz (K:PySem.W.Frag) (b:Bool) (l:Addr):It :=
 ⟨fun i H=>∃ xs x,Sq b K H l xs∧xs[i]? = some x,
   fun i H x H'=>∃ p v,x=.ref p∧H p=none∧H' = upd H p (.tup [.int i,v])∧∀ xs,Sq b K H l xs->xs[i]? = some v,
   fun i H=>∃ xs,Sq b K H l xs∧xs.length ≤ i⟩
def Et (b:Bool) (e it l:Addr) (k:Nat) (h:Heap):Prop:=(∃ old,IsEnum h e it k old)∧se b h it l k
theorem zM {prog:Program} {w:World} {A:Around} {E:Value->Shared->Prop} {s:Shared} {es:List Expr} {x1} {pos:Pos} {e it T:Addr} {i:Int} {v:Value} {Q:Unit->Shared->Prop} (he:IsEnumOut s.heap e it i v T)
  (hQ:∀ h',(∃ old,IsEnum h' e it i old)->Heap.SameBut e s.heap h' -> Q () { s with heap:=h' }):wpAny (model prog w) A (letOwnedTupleGo (.Tuple es x1 pos) (.ref e) (.ref T)) Q E s:= by
 unfold letOwnedTupleGo
 refine wpAny_bind (wpAny_load he ?_)
 dsimp only
 split
 ·refine wpAny_bind (wpAny_rule ?_)
  refine wpAny_setField_rec he (by simp) fun h' he' sb=>hQ h' ⟨v,he'⟩ sb
 ·rename_i hno
  exact absurd (by simp) hno
theorem tU {P:Program} {w:World} {K:PySem.W.Frag} {es:List Expr} {x1} {pt:Pos} (b:Bool) {e it l:Addr} (hne:e ≠ it) (hqe:l ≠ e) (hqi:l ≠ it):Turn P w K (.Tuple es x1 pt) (Gz K b l) [e,it] e (Et b e it l) where
 mem:=by simp
 obj:=fun i h st c hc=>by
  obtain ⟨⟨old,s1⟩,s2⟩:=st
  simp only [List.mem_cons,List.not_mem_nil,or_false] at hc
  rcases hc with q | q <;> subst q
  ·exact ⟨_,s1,fun v q=>by cases q⟩
  ·cases b with
   | true=>obtain ⟨o,e,_,d⟩:=s2;exact ⟨o,e,fun v z=>by rw [d] at z;cases z⟩
   | false=>obtain ⟨o,e,_,d⟩:=s2;exact ⟨o,e,fun v z=>by rw [d] at z;cases z⟩
 keep:=fun i h h' st k=>by
  obtain ⟨⟨old,s1⟩,s2⟩:=st
  exact ⟨⟨old,k e (by simp) _ s1⟩,s2.at (k it (by simp))⟩
 item:= by
  intro X hP hw hK hc i pins s σ H E I hf st hg
  subst hP hw hK
  obtain ⟨xs,x,hq1,hx⟩:=hg
  obtain ⟨it1,r1,p1⟩:=I.sq hq1
  obtain ⟨u1,e1,ru1⟩:=r1.get hx
  obtain ⟨s1,s2⟩:=st
  refine ua hne hqe hqi ⟨s1,s2,p1⟩ (by simpa using e1) fun h' t1 t2 t3 hp kp=>?_
  have hel:e < s.heap.objs.size:=by obtain ⟨_,s1⟩:=s1;exact Heap.lt_size s1
  refine ⟨.ref s.heap.objs.size,rfl,zM (s:={ s with heap:=h',toks:=s.toks + 1 }) t1 fun h2 z2 sb=>?_⟩
  have new2:IsPair h2 s.heap.objs.size (.int i s.toks) u1:=sb.extBut _ _ (Nat.ne_of_gt hel) hp
  refine ⟨.ref s.heap.objs.size,upd H s.heap.objs.size (.tup [.int i,x]),I.turnedN (t':=s.toks + 1) (fp:=[e,it]) (fun c o hb q=>sb.extBut _ _ (fun z=>hb (by rw [z];simp)) (kp c o (fun z=>hb (by rw [z];simp)) (fun z=>hb (by rw [z];simp)) q)) hf (Nat.le_refl _) ⟨by rw [sizeLine_eq];show 2 ≤ _;decide,[.int i s.toks,u1],.cons ⟨_,rfl⟩ (.cons ru1 .nil),⟨_,new2,rfl,_,rfl⟩,_,new2,rfl⟩,rfl,
   ⟨_,x,rfl,I.fresh,rfl,fun zs hz=>by rw [I.sq_inj hz hq1];exact hx⟩,⟨by obtain ⟨old,z2⟩:=z2;exact ⟨old,by simpa using z2⟩,t2.at fun o q=>sb.extBut _ _ hne.symm q⟩,fun c hb=>?_⟩
  have hb0:=(hf c hb).1
  rw [aq fun q=>?_]
  ·exact hb0
  ·have:c < s.heap.objs.size:= by
    simp only [List.mem_cons,List.not_mem_nil,or_false] at hb
    rcases hb with e | e <;> subst e
    ·exact hel
    ·exact s2.lt
   rw [q] at this
   exact Nat.lt_irrefl _ this
 done:= by
  intro X hP hw hK hc i pins s σ H E I hf st hg
  subst hP hw hK
  obtain ⟨xs,hq1,hx⟩:=hg
  obtain ⟨it1,r1,p1⟩:=I.sq hq1
  obtain ⟨s1,s2⟩:=st
  have l1:=r1.length
  exact wK (I.ok.hd hc) ⟨s1,s2,p1⟩ (by simp;omega) fun h' kp=>⟨rfl,I.turnedL (t':=s.toks) (fp:=[e,it]) (fun c o hb q=>kp c o (fun z=>hb (by rw [z];simp)) q) hf⟩
 self:=fun A i s Q E st h=>by
  obtain ⟨⟨old,s1⟩,_⟩:=st
  exact wpAny_pyIter_enum s1 h
end
end Jt
namespace Jt
open PySem L2
section
variable {X:Cx} {a b c0 e tg:Expr} {fa fb fc:M D} {fs fF fq:M (List D)} {pos p p2 apos cpos pt:Pos} {es rest:List Expr} {x:Str} {x1:Nat}
def vB:D->Option (Bool × List D)
 | .tup ds=>some (true,ds)
 | .lst ds=>some (false,ds)
 | _=>none
theorem r6 {c:Ct} {δ:DS} {σ:St} {H:Hp} {K:PySem.W.Frag} {d:D} {v:V} {b:Bool} {xs:List D} (r:R (eD c δ σ H) d v) (e:vB d=some (b,xs)):∃ p vs,v=.ref p∧Sq b K H p vs∧Rs (eD c δ σ H) xs vs:= by
 cases d with
 | tup ds=>
  cases e
  obtain ⟨p,vs,ev,h1,h2⟩:=r.tup
  exact ⟨p,vs,ev,.of (aK _ _ h1),h2⟩
 | lst ds=>
  cases e
  obtain ⟨p,vs,ev,h1,h2⟩:=r.lst
  exact ⟨p,vs,ev,.inl (Rd.mono aK h1),h2⟩
 | _=>cases e
def jo:Nat->List D->List D
 | _,[]=>[]
 | n,x :: xs=>.tup [.int n,x] :: jo (n + 1) xs
theorem pN:∀ {xs:List D} {n i:Nat} {d:D},(jo n xs)[i]? = some d->∃ x,xs[i]? = some x∧d=.tup [.int ((n + i:Nat):Int),x]
 | x :: xs,n,0,d,h=>by cases h;exact ⟨x,rfl,rfl⟩
 | x :: xs,n,i + 1,d,h=>by
  obtain ⟨x',h1,h2⟩:=pN (xs:=xs) (n:=n + 1) (i:=i) (by simpa [jo] using h)
  exact ⟨x',by simpa using h1,by rw [h2];congr 4;omega⟩
 | [],n,i,d,h=>by simp [jo] at h
theorem oJ:∀ (xs:List D) (n:Nat),(jo n xs).length=xs.length
 | [],_=>rfl
 | x :: xs,n=>by simp [jo,oJ xs]
theorem AG {ta:TA} (hg:Gl X "enumerate") (hm:X.mg "enumerate" = none) (ha:PA X [a] ta) (hs:starEach [a] X.env=[(false,eval a X.env)]:=by rfl) :
  PI X (.Tuple es x1 pt) (.Call (.Name "enumerate" p) [a] [] pos) (fun σ H R=>ta σ H fun vs H1=>∃ b1 l1 xs,vs=[.ref l1]∧Sq b1 X.K H1 l1 xs∧R (Gz X.K b1 l1) H1):= by
 intro pins s σ H R I h
 refine PyProof.Rows.Call_ (gw I hg hm (show bootBuiltins "enumerate" = some (.type "enumerate") by decide +kernel) (PyProof.Rows.callWith_type1 (bx (ha pos pins s σ H _ I h) fun us s1 ⟨vs,H1,I1,r1,q1⟩=>?_) hs rfl))
 obtain ⟨b1,l1,xs,e,h1,q⟩:=q1
 subst e
 obtain ⟨u1,rfl,ru1⟩:=r1.one
 cases ru1
 obtain ⟨i1s,rv1,p1⟩:=I1.sq h1
 refine vW p1 fun h' e it n1 n2 n3 st kp f1 f2=>?_
 have I2:Inv X pins σ H1 { s1 with heap:=h' }:=I1.kept (t':=s1.toks) kp
 obtain ⟨⟨old,t1⟩,t2,_⟩:=st
 refine wpAny_pyIter_enum (s:={ s1 with heap:=h' }) t1 ⟨e,[e,it],_,_,H1,rfl,I2,tU b1 n1 n2 n3,⟨⟨old,t1⟩,t2⟩,fun c hc=>?_,q⟩
 have hc':s1.heap.objs.size ≤ c:= by
  simp only [List.mem_cons,List.not_mem_nil,or_false] at hc
  rcases hc with z | z <;> rw [z] <;> assumption
 exact I1.fpOk hc' (I1.hok.fresh hc')
def gz:List D->Option iB
 | [x]=>match vB x with
  | some (_,xs)=>some (aQ (jo 0 xs))
  | _=>none
 | _=>none
theorem Ar {K:PySem.W.Frag} {b1:Bool} {dx:D} {xs:List D} {l1:Addr} (e1:vB dx=some (b1,xs)):El (Gz K b1 l1) (aQ (jo 0 xs)) [dx] [.ref l1]:=fun c δ S σ T H i s=>by
 obtain ⟨p1,vs,q1,h1,r1⟩:=r6 (K:=K) s.st.head e1
 cases q1
 refine ⟨fun act d ha hd=>?_,fun ei _=>⟨vs,h1,?_⟩⟩
 ·obtain ⟨x,g1,rfl⟩:=pN (fu ha hd)
  obtain ⟨v,gv,rv⟩:=r1.get g1
  refine ⟨⟨vs,v,h1,gv⟩,fun z H' yl=>?_⟩
  obtain ⟨q,v',rfl,hq,rfl,y1⟩:=yl
  have ev:=y1 vs h1
  rw [gv] at ev;cases ev
  rw [Nat.zero_add]
  exact (s.stk (.cons .mkI (.cons rv s.st))).newTup (ds:=[.int i,x]) (vs:=[.int i,v]) rfl hq
 ·rw [r1.length]
  have:(aQ (jo 0 xs)).1.length=xs.length:=by simp [aQ,oJ]
  omega
theorem m3 (hm:X.mg "enumerate" = none) (ha:DA X [a] fs) (hg:Gl X "enumerate":=by rfl) (hs:starEach [a] X.env=[(false,eval a X.env)]:=by rfl) :
  DI X (.Tuple es x1 pt) (.Call (.Name "enumerate" p) [a] [] pos) (mC gz fs):=qO (AG hg hm ha hs) fun σ H Rr ⟨c,δ,S,T,it,δ',s,e,k⟩=>by
 obtain ⟨ds,δ1,e1,e⟩:=bind_some e
 obtain ⟨e2,rfl⟩:=ax e
 refine ⟨c,δ,S,T,ds,δ1,s,e1,fun vs H1 l s1=>?_⟩
 unfold gz at e2
 split at e2
 ·rename_i dx
  split at e2
  ·rename_i b1 xs q1
   cases e2
   obtain ⟨v,rfl,r1⟩:=ud (s1.st.left l)
   obtain ⟨p1,vs,rfl,h1,_⟩:=r6 (K:=X.K) r1 q1
   exact ⟨b1,p1,vs,rfl,h1,k _ [dx] [.ref p1] H1 rfl (Ar q1) s1⟩
  ·cases e2
 ·cases e2
def bH (T:Ty) (d:D):Bool:=(oj T d).getD false
theorem uB (T:Ty) (d:D):oj T d=some (bH T d):=by cases T <;> cases d <;> rfl
def En (r1 r2:D->D->Option D) (fa fb fc:M D):M D:=do
 let x <- fa
 let y <- fb
 let z <- lift (r1 x y)
 match z with
 | .bl true=>do
  let w <- fc
  lift (r2 y w)
 | .bl false=>pure (.bl false)
 | _=>lift none
theorem x5 {op op':CmpOp} {g g':Int->Int->V} {h h':Int->Int->D} (ho:hU X (compareOp op) (yi g)) (ho':hU X (compareOp op') (yi g')) (hg:∀ H i j,R H (h i j) (g i j)) (hg':∀ H i j,R H (h' i j) (g' i j)) (ha:DE X a fa) (hb:DE X b fb) (hc:DE X c0 fc)
  (hm:lastMarks [op,op'] [b,c0]=false:=by with_unfolding_all rfl):DE X (.Compare a [op,op'] [b,c0] pos) (En (bC (fun _ _=>true) h) (bC (fun _ _=>true) h') fa fb fc):=b4 (wO ho ho' ha hb hc hm) fun σ H Q ⟨c,δ,S,T,d,δ',s,e,k⟩=>by
 obtain ⟨x,δ1,e1,e⟩:=bind_some e
 obtain ⟨y,δ2,e2,e⟩:=bind_some e
 obtain ⟨z,δ3,e3,e⟩:=bind_some e
 obtain ⟨e4,rfl⟩:=ax e3
 obtain ⟨i,j,rfl,rfl,_,rfl⟩:=fA e4
 refine ⟨c,δ,S,T,.int i,δ1,s,e1,fun v H1 s1=>⟨c,δ1,.int i :: S,v :: T,.int j,δ2,s1,e2,fun u H2 s2=>?_⟩⟩
 refine ⟨i,j,s2.st.tail.head.int,s2.st.head.int,?_⟩
 have rg:=hg (eD c δ2 σ H2) i j
 cases hz:h i j with
 | bl q=>
  rw [hz] at e rg
  refine ⟨q,rg.bl,?_⟩
  cases q with
  | true=>
   obtain ⟨w,δ4,e5,e⟩:=bind_some e
   obtain ⟨e6,rfl⟩:=ax e
   rw [if_pos rfl]
   obtain ⟨i',j',ei,rfl,_,rfl⟩:=fA e6
   cases ei
   exact ⟨c,δ2,.int j :: .int i :: S,u :: v :: T,.int j',δ4,s2,e5,fun w' H4 s4=>⟨j,j',s4.st.tail.head.int,s4.st.head.int,k _ _ (s4.stk (.cons (hg' _ _ _) s4.st.tail.tail.tail))⟩⟩
  | false=>
   obtain ⟨rfl,rfl⟩:=ai e
   rw [if_neg Bool.false_ne_true]
   exact k _ _ (s2.stk (.cons .mkB s2.st.tail.tail))
 | _=>rw [hz] at e;cases e
theorem yR (ha:DE X a fa) (hb:DE X b fb) (hc:DE X c0 fc) (hm:lastMarks [.LtE,.Lt] [b,c0]=false:=by with_unfolding_all rfl):DE X (.Compare a [.LtE,.Lt] [b,c0] pos) (En F5 A7 fa fb fc):=x5 FL A4 (fun _ _ _=>.mkB) (fun _ _ _=>.mkB) ha hb hc hm
def sk:D->Bool
 | .non=>true
 | _=>false
theorem xr {H:Hp} {d:D} {v:V} (r:R H d v):decide (v=.non)=sk d:= by
 cases d with
 | non=>rw [r.non];rfl
 | bl b=>rw [r.bl];rfl
 | int b=>rw [r.int];rfl
 | str b=>rw [r.str];rfl
 | tup b=>obtain ⟨_,_,rfl,_⟩:=r.tup;rfl
 | lst b=>obtain ⟨_,_,rfl,_⟩:=r.lst;rfl
 | dct=>obtain ⟨_,rfl,_⟩:=r.dct;rfl
 | dic _=>obtain ⟨_,rfl,_⟩:=r.dic;rfl
 | dip _=>obtain ⟨_,rfl,_⟩:=r.dip;rfl
def xp (neg:Bool):D->D->Option D
 | x,.non=>some (.bl (if neg then !sk x else sk x))
 | _,_=>none
theorem zR:nv (fun x y H Q=>y=.non∧Q (.bl (decide (x=.non))) H) (xp false):=fun c δ S σ T H x y v u d Q s e k=>by
 cases y with
 | non=>
  cases e
  refine ⟨s.st.head.non,?_⟩
  rw [xr s.st.tail.head]
  exact k _ _ (s.stk (.cons .mkB s.st.tail.tail))
 | _=>cases e
theorem DU (ha:DE X a fa) (hb:DE X b fb):DE X (.Compare a [.Is] [b] pos) (m2 (xp false) fa fb):=nu D6 zR ha hb
def Bh (tt:M Bool) (body:M Fl):Nat->M Fl
 | 0=>lift none
 | n + 1=>do
  let b <- tt
  if b=true then do
   let fl <- body
   match fl with
   | .nx=>Bh tt body n
   | .ct=>Bh tt body n
   | .bk=>pure .nx
   | .rt d=>pure (.rt d)
   | .rf d=>pure (.rf d)
  else pure .nx
theorem wX {t:Expr} {sts:List Stmt} {tt:M Bool} {body:M Fl} (n:Nat) (ht:DT X t tt) (hb:og X sts body) (hp:PassesOwn (model X.prog X.w) X.A X.env X.xe:=by exact PassesOwn.never):mE X (.While t sts [] pos) (Bh tt body n) :=
 ig (u3 hp ht hb) fun E σ0 H0 ⟨c,δ0,S,T,fl,δ',s0,e0,k⟩=>by
  refine ⟨fun m σ H=>∃ δ,Sl c δ S σ T H∧Bh tt body m δ=some (fl,δ'),⟨n,δ0,s0,e0⟩,?_⟩
  rintro m σ H ⟨δ,s,e⟩
  cases m with
  | zero=>cases e
  | succ m=>
   obtain ⟨b,δ1,e1,e⟩:=bind_some e
   refine ⟨c,δ,S,T,b,δ1,s,e1,fun H1 s1=>?_⟩
   cases b with
   | false=>
    rw [if_neg Bool.false_ne_true] at e ⊢
    obtain ⟨rfl,rfl⟩:=ai e
    exact k _ _ s1
   | true=>
    rw [if_pos rfl] at e ⊢
    obtain ⟨fl1,δ2,e2,e⟩:=bind_some e
    refine ⟨fun σ' H'=>∃ δi,Sl c δi S σ' T H' ∧ Bh tt body m δi=some (fl,δ'),fun σ' H' q=>⟨m,Nat.lt_succ_self m,q⟩,c,δ1,S,T,fl1,δ2,s1,e2,?_⟩
    cases fl1 with
    | nx=>exact fun σ' H' s'=>⟨δ2,s',e⟩
    | ct=>exact fun σ' H' s'=>⟨δ2,s',e⟩
    | bk=>obtain ⟨rfl,rfl⟩:=ai e;exact k
    | rt d'=>obtain ⟨rfl,rfl⟩:=ai e;exact k
    | rf xs=>obtain ⟨rfl,rfl⟩:=ai e;exact k
inductive HA (f:M (Option Int)) (σ:St) (H:Hp) (Q:Option Int->Hp->Prop):Prop
 | mk (c:Ct) (δ:DS) (S:List D) (T:List V) (o:Option Int) (δ':DS) (s:Sl c δ S σ T H) (e:f δ=some (o,δ')) (q:∀ H',Sl c δ' S σ T H' -> Q o H'):HA f σ H Q
abbrev DO (X:Cx) (e:Option Expr) (f:M (Option Int)):Prop:=PO X e (HA f)
theorem Fb {e:Option Expr} {t t':TO} (h:PO X e t) (w:∀ σ H Q,t' σ H Q->t σ H Q):PO X e t':=fun pins s σ H Q I q=>h pins s σ H Q I (w σ H Q q)
theorem ng:DO X none (pure none):=Fb Ae fun σ H Q ⟨c,δ,S,T,o,δ',s,e,k⟩=>by
 obtain ⟨rfl,rfl⟩:=ai e
 exact k _ s
def Ei:D->M (Option Int)
 | .int i=>pure (some i)
 | _=>lift none
theorem nG (h:DE X e fa):DO X (some e) (fa >>= Ei):=Fb (zl h) fun σ H Q ⟨c,δ,S,T,o,δ',s,e,k⟩=>by
 obtain ⟨d,δ1,e1,e⟩:=bind_some e
 refine ⟨c,δ,S,T,d,δ1,s,e1,fun v H' s'=>?_⟩
 cases d with
 | int i=>
  obtain ⟨rfl,rfl⟩:=ai e
  exact ⟨i,s'.st.head.int,k _ s'.pop⟩
 | _=>cases e
def GN (K:PySem.W.Frag):V->Option Int->Option Int->Hp->VK->Prop:=fun x lo hi H Q=>∃ a xs,x=.ref a∧jd K H a xs∧(HT.sIx xs.length 0 lo=0∧HT.sIx xs.length xs.length hi=xs.length)∧Q (.ref a) H
theorem xc:Bj X (GN X.K):= by
 intro pins s σ H x v vl vu lo hi sl Q I rx hs pl pu h
 obtain ⟨a,xs,rfl,hx,hw,q⟩:=h
 cases rx
 obtain ⟨its,r,ht,hz⟩:=I.tuple hx
 have hlen:its.toArray.size=xs.length:=by rw [List.size_toArray];exact r.length.symm
 refine ⟨"tuple",_,PyProof.Rows.slot_tuple_getitem.lookup,ht.typeIs,?_⟩
 exact pb ht hs pl pu (by rw [hlen];exact hw) ⟨.ref a,H,I,rfl,q⟩
def Fy (x:D) (lo hi:Option Int):Option D:=match x with
 | .tup xs=>some (.tup (cutD xs lo hi))
 | .lst xs=>some (.lst (cutD xs lo hi))
 | _=>none
def Ej (fa:M D) (fl fh:M (Option Int)):M D:=do
 let x <- fa
 let lo <- fl
 let hi <- fh
 lift (Fy x lo hi)
theorem uw {α:Type} (xs:List α) (lo hi:Option Int) (h1:HT.sIx xs.length 0 lo=0) (h2:HT.sIx xs.length xs.length hi=xs.length):(xs.drop (HT.sIx xs.length 0 lo)).take (HT.sIx xs.length xs.length hi - HT.sIx xs.length 0 lo)=xs:= by
 rw [h1,h2];simp
theorem kG {lo hi:Option Expr} {fl fh:M (Option Int)} (he:DE X e fa) (hl:DO X lo fl) (hh:DO X hi fh):DE X (.Subscript e (.Slice lo hi none p2) pos) (Ej fa fl fh):=b4 (wI ((C_.or xc).or yZ) he hl hh) fun σ H Q ⟨c,δ,S,T,d,δ',s,e,k⟩=>by
 obtain ⟨x,δ1,e1,e⟩:=bind_some e
 obtain ⟨l,δ2,e2,e⟩:=bind_some e
 obtain ⟨h,δ3,e3,e⟩:=bind_some e
 obtain ⟨e4,rfl⟩:=ax e
 refine ⟨c,δ,S,T,x,δ1,s,e1,fun v H1 s1=>⟨c,δ1,x :: S,v :: T,l,δ2,s1,e2,fun H2 s2=>⟨c,δ2,x :: S,v :: T,h,δ3,s2,e3,fun H3 s3=>?_⟩⟩⟩
 cases x with
 | tup xs=>
  cases e4
  obtain ⟨q,vs,rfl,h1,h2⟩:=s3.st.head.tup
  by_cases hw:HT.sIx vs.length 0 l=0∧HT.sIx vs.length vs.length h=vs.length
  ·refine .inl (.inr ⟨q,vs,rfl,.of (aK _ _ h1),hw,k _ _ ?_⟩)
   rw [h2.length] at hw
   rw [show cutD xs l h=xs from uw xs l h hw.1 hw.2]
   exact s3
  ·refine .inl (.inl ⟨q,vs,rfl,.of (aK _ _ h1),hw,fun m hm=>k _ _ ?_⟩)
   have rc:=xo h2 l h
   exact (s3.stk (rc.append s3.st.tail)).newTup rc.length hm
 | lst xs=>
  cases e4
  obtain ⟨q,vs,rfl,h1,h2⟩:=s3.st.head.lst
  refine .inr ⟨q,vs,rfl,.inl (Rd.mono aK h1),fun m hm=>k _ _ ?_⟩
  have rc:=xo h2 l h
  have s4:=s3.stk (rc.append s3.st.tail)
  obtain ⟨f1,f2,f3⟩:=s4.fresh hm
  exact (s4.hide (o:=.lst (ni vs l h)) hm).unhideL rc.length f1
 | _=>cases e4
end
end Jt
namespace Jt
open PySem L2
section
variable {X:Cx} {a b e:Expr} {fa fb:M D} {ha' hb':M Hn} {fs fF fq:M (List D)} {pos p p2 apos cpos pt:Pos} {es rest:List Expr} {x:Str}
theorem l9 (i:Nat) {px:Pos} (hm:X.mg "tuple" = none) (hg:Gl X "tuple":=by rfl) (hN:X.N[i]? = some x:=by rfl) (hv:pk X.env.scope x:=by first | exact Or.inl rfl | exact Or.inr (Or.inl rfl) | exact Or.inr (Or.inr rfl)) (hd:(x == ("__debug__":Str))=false:=by decide) (hcd:(x == ("__classdict__":Str))=false:=by decide) :
  DE X (.Call (.Name "tuple" p) [.Name x px] [] pos) (do let xs <- aO i;pure (.tup xs)):=b4 (fC g9 hg hm (by decide +kernel) (cx (dk hN hv hd hcd) eY) (by decide) (by decide) rfl rfl) fun σ H Q ⟨c,δ,S,T,fl,δ',s,e,k⟩=>by
 obtain ⟨xs,δ1,e1,e⟩:=bind_some e
 obtain ⟨rfl,rfl⟩:=ai e
 obtain ⟨⟨b,hi⟩,rfl⟩:=aZ e1
 obtain ⟨q,vs,ev,hq,hx⟩:=s.own hi
 exact ⟨_,ev,q,vs,rfl,.inl ⟨.of hq,fun m hm=>k _ _ ((s.stk (hx.append s.st)).newTup hx.length hm)⟩⟩
end
abbrev aA {α:Type} (n:Nat) (mf:List D->Option α):List D->Option α:=fun ds=>if ds.length=n then mf ds else none
section
variable {P:Program} {w:World} {K:PySem.W.Frag} {mg:Str->Option Value} {base:Heap} {f:Addr} {fd:FuncData} {ps:List Str} {k n:Nat}
theorem AE:c9 P w K mg base cV k f fd ps (uW n fun _=>none):= by
 have no:∀ vs H Q E,¬ uW n (fun _=>none) vs H Q E:=fun vs H Q E h=>by
  obtain ⟨_,_,_,_,_,_,e,_⟩:=h
  cases e
 exact ⟨fun vs H Q E h=>absurd h (no vs H Q E),fun A outer s H args us vs Q E _ _ _ _ h=>absurd h (no vs H Q E)⟩
def x6 (K:PySem.W.Frag):Bool:=K.all fun p=>!(p.2.cls == Value.type "list")
theorem rd_of {H:Hp} {a:Addr} {xs:List V} (hK:x6 K=true) (h:iV K H a xs):Rd H a (.lst xs):= by
 rcases h with h | ⟨o,its,n,hk,hc,_⟩
 ·exact h
 ·have hm:∃ p ∈ K,p.2=o:= by
   clear hK
   induction K with
   | nil=>cases hk
   | cons q r ih=>
    rw [List.lookup_cons] at hk
    split at hk
    ·cases hk;exact ⟨q,List.mem_cons_self,rfl⟩
    ·obtain ⟨p,hp,e⟩:=ih hk
     exact ⟨p,List.mem_cons_of_mem _ hp,e⟩
  obtain ⟨p,hp,e⟩:=hm
  have:=List.all_eq_true.mp hK p hp
  rw [e,hc] at this
  simp at this
end
end Jt
namespace Jt
open PySem L2
def Ok {α:Type} (m:M α) (δ:DS) (Q:α->DS->Prop):Prop:=∃ a δ',m δ=some (a,δ')∧Q a δ'
theorem Ok.mono {α:Type} {m:M α} {δ:DS} {Q Q':α->DS->Prop} (h:Ok m δ Q) (k:∀ a δ',Q a δ' -> Q' a δ'):Ok m δ Q':=let ⟨a,δ',e,q⟩:=h;⟨a,δ',e,k a δ' q⟩
section
variable {α β:Type} {δ:DS} {Q:α->DS->Prop}
@[simp] theorem av {m:M β} {f:β->M α}:Ok (m >>= f) δ Q ↔ Ok m δ fun a δ'=>Ok (f a) δ' Q:= by
 constructor
 ·rintro ⟨a,δ',e,q⟩
  obtain ⟨b,δ1,e1,e2⟩:=bind_some e
  exact ⟨b,δ1,e1,a,δ',e2,q⟩
 ·rintro ⟨b,δ1,e1,a,δ',e2,q⟩
  exact ⟨a,δ',by rw [M.bind_def,e1];exact e2,q⟩
@[simp] theorem ar {a:α}:Ok (pure a) δ Q ↔ Q a δ:= by
 constructor
 ·rintro ⟨b,δ',e,q⟩
  obtain ⟨rfl,rfl⟩:=ai e
  exact q
 ·exact fun q=>⟨a,δ,rfl,q⟩
@[simp] theorem bA {a:α}:Ok (lift (some a)) δ Q ↔ Q a δ:= by
 constructor
 ·rintro ⟨b,δ',e,q⟩
  obtain ⟨e1,rfl⟩:=ax e
  cases e1;exact q
 ·exact fun q=>⟨a,δ,rfl,q⟩
@[simp] theorem z8:Ok (lift (none:Option α)) δ Q ↔ False:=⟨fun ⟨_,_,e,_⟩=>(by cases e),False.elim⟩
theorem AA {o:Option α} {a:α} (h:o=some a) (q:Q a δ):Ok (lift o) δ Q:=by subst h;exact bA.mpr q
@[simp] theorem Gk {c:Prop} [Decidable c] {m n:M α}:Ok (if c then m else n) δ Q ↔ (if c then Ok m δ Q else Ok n δ Q):=by split <;> exact Iff.rfl
end
section
variable {δ:DS}
@[simp] theorem bp {i:Nat} {Q:D->DS->Prop}:Ok (ag i) δ Q ↔ ∃ d,δ[i]? = some (.pu d)∧Q d δ:= by
 constructor
 ·rintro ⟨d,δ',e,q⟩
  obtain ⟨e1,rfl⟩:=jw e
  exact ⟨d,e1,q⟩
 ·rintro ⟨d,e,q⟩
  exact ⟨d,δ,by unfold ag;rw [e],q⟩
@[simp] theorem br {i:Nat} {d:D} {Q:Unit->DS->Prop}:Ok (ba i d) δ Q ↔ i < δ.length∧Q () (δ.set i (.pu d)):= by
 constructor
 ·rintro ⟨u,δ',e,q⟩
  obtain ⟨h,rfl⟩:=gU e
  exact ⟨h,q⟩
 ·rintro ⟨h,q⟩
  exact ⟨(),_,by unfold ba;rw [if_pos h],q⟩
@[simp] theorem F9 {i:Nat} {d:List D} {Q:Unit->DS->Prop}:Ok (vk i d) δ Q ↔ i < δ.length∧Q () (δ.set i (.ow false d)):= by
 constructor
 ·rintro ⟨u,δ',e,q⟩
  obtain ⟨h,rfl⟩:=lY e
  exact ⟨h,q⟩
 ·rintro ⟨h,q⟩
  exact ⟨(),_,by unfold vk;rw [if_pos h],q⟩
@[simp] theorem dJ {i:Nat} {Q:List D->DS->Prop}:Ok (aO i) δ Q ↔ ∃ b xs,δ[i]? = some (.ow b xs)∧Q xs δ:= by
 constructor
 ·rintro ⟨d,δ',e,q⟩
  obtain ⟨⟨b,e1⟩,rfl⟩:=aZ e
  exact ⟨b,d,e1,q⟩
 ·rintro ⟨b,d,e,q⟩
  exact ⟨d,δ,by unfold aO;rw [e],q⟩
@[simp] theorem kB {i:Nat} {xs:List D} {Q:Unit->DS->Prop}:Ok (setOw i xs) δ Q ↔ ∃ b ys,δ[i]? = some (.ow b ys)∧Q () (δ.set i (.ow b xs)):= by
 constructor
 ·rintro ⟨u,δ',e,q⟩
  obtain ⟨b,ys,h,rfl⟩:=d9 e
  exact ⟨b,ys,h,q⟩
 ·rintro ⟨b,ys,h,q⟩
  exact ⟨(),_,by unfold setOw;rw [h],q⟩
@[simp] theorem vV {i:Nat} {Q:List D->DS->Prop}:Ok (jH i) δ Q ↔ ∃ xs,δ[i]? = some (.ow false xs)∧Q xs (δ.set i .un):= by
 constructor
 ·rintro ⟨d,δ',e,q⟩
  unfold jH at e
  split at e
  ·rename_i ys h;cases e;exact ⟨d,h,q⟩
  ·cases e
 ·rintro ⟨d,e,q⟩
  exact ⟨d,_,by unfold jH;rw [e],q⟩
@[simp] theorem dt {i:Nat} {fa:M D} {Q:Fl->DS->Prop}:Ok (c_ i fa) δ Q ↔ Ok fa δ fun d δ1=>i < δ1.length∧Q .nx (δ1.set i (.pu d)):= by
 unfold c_;simp
@[simp] theorem BQ {i:Nat} {fa:M (List D)} {Q:Fl->DS->Prop}:Ok (qp i fa) δ Q ↔ Ok fa δ fun d δ1=>i < δ1.length∧Q .nx (δ1.set i (.ow false d)):= by
 unfold qp;simp
@[simp] theorem cb {f g:M Fl} {Q:Fl->DS->Prop}:Ok (aE f g) δ Q ↔ Ok f δ fun fl δ1=>match fl with
  | .nx=>Ok g δ1 Q
  | fl=>Q fl δ1:= by
 unfold aE
 rw [av]
 constructor <;>
 ·intro h
  refine h.mono fun fl δ1 q=>?_
  cases fl <;> simpa using q
theorem aB {f g:M Fl} {Q:Fl->DS->Prop} (P:DS->Prop) (h:Ok f δ fun fl δ1=>fl=.nx∧P δ1) (k:∀ δ1,P δ1->Ok g δ1 Q):Ok (aE f g) δ Q:= by
 rw [cb]
 refine h.mono fun fl δ1 ⟨e,p⟩=>?_
 subst e
 exact k δ1 p
theorem fW {t:M Bool} {fa g:M Fl} {Q:Fl->DS->Prop} (b:Bool) (ht:Ok t δ fun b' δ1=>b' = b∧δ1=δ) (h1:b=true->Ok fa δ fun fl δ1=>∃ d,fl=.rt d∧Q (.rt d) δ1) (h2:b=false->Ok g δ Q):Ok (aE (ia t fa (pure .nx)) g) δ Q:= by
 rw [cb]
 unfold ia
 rw [av]
 refine ht.mono fun b' δ1 ⟨e1,e2⟩=>?_
 subst e1;subst e2
 cases b' with
 | true=>
  refine Ok.mono (m:=fa) (h1 rfl) fun fl δ2 ⟨d,e,q⟩=>?_
  subst e
  exact q
 | false=>exact (ar (Q:=fun fl δ1=>_)).mpr (h2 rfl)
theorem fP {α:Type} {t:M Bool} {fa fb:M α} {Q:α->DS->Prop} (P:Bool->DS->Prop) (ht:Ok t δ P) (h1:∀ δ1,P true δ1->Ok fa δ1 Q) (h2:∀ δ1,P false δ1->Ok fb δ1 Q):Ok (ia t fa fb) δ Q:= by
 unfold ia
 rw [av]
 refine ht.mono fun b δ1 p=>?_
 cases b with
 | true=>exact h1 δ1 p
 | false=>exact h2 δ1 p
@[simp] theorem xl {α:Type} {t:M Bool} {fa fb:M α} {Q:α->DS->Prop}:Ok (ia t fa fb) δ Q ↔ Ok t δ fun b δ1=>if b=true then Ok fa δ1 Q else Ok fb δ1 Q:= by
 unfold ia;simp
@[simp] theorem nI {ta tb:M Bool} {Q:Bool->DS->Prop}:Ok (mY ta tb) δ Q ↔ Ok ta δ fun b δ1=>if b=true then Ok tb δ1 Q else Q false δ1:= by
 unfold mY;simp
@[simp] theorem GB {ta tb:M Bool} {Q:Bool->DS->Prop}:Ok (Du ta tb) δ Q ↔ Ok ta δ fun b δ1=>if b=true then Q true δ1 else Ok tb δ1 Q:= by
 unfold Du;simp
@[simp] theorem zr {ta:M Bool} {Q:Bool->DS->Prop}:Ok (pf ta) δ Q ↔ Ok ta δ fun b δ1=>Q (!b) δ1:= by
 unfold pf;simp
@[simp] theorem d7 {f:D->D->Option D} {fa fb:M D} {Q:D->DS->Prop}:Ok (m2 f fa fb) δ Q ↔ Ok fa δ fun x δ1=>Ok fb δ1 fun y δ2=>Ok (lift (f x y)) δ2 Q:= by
 unfold m2;simp
@[simp] theorem fw {α:Type} {f:List D->Option α} {fs:M (List D)} {Q:α->DS->Prop}:Ok (mC f fs) δ Q ↔ Ok fs δ fun ds δ1=>Ok (lift (f ds)) δ1 Q:= by
 unfold mC;simp
@[simp] theorem Fo {α:Type} {f:List D->Option α} {fs:M (List D)} {Q:α->DS->Prop}:Ok (mQ f fs) δ Q ↔ Ok fs δ fun ds δ1=>Ok (lift (f ds)) δ1 Q:= by
 unfold mQ;simp
@[simp] theorem bg {fa:M D} {fs:M (List D)} {Q:List D->DS->Prop}:Ok (af fa fs) δ Q ↔ Ok fa δ fun x δ1=>Ok fs δ1 fun xs δ2=>Q (x :: xs) δ2:= by
 unfold af;simp
@[simp] theorem gR {fs:M (List D)} {Q:D->DS->Prop}:Ok (fU fs) δ Q ↔ Ok fs δ fun xs δ1=>Ok (lift (few xs.length)) δ1 fun _ δ2=>Q (.tup xs) δ2:= by
 unfold fU;simp
@[simp] theorem gS {fs:M (List D)} {Q:List D->DS->Prop}:Ok (di fs) δ Q ↔ Ok fs δ fun xs δ1=>Ok (lift (few xs.length)) δ1 fun _ δ2=>Q xs δ2:= by
 unfold di;simp
@[simp] theorem cJ {n:Nat} {Q:Unit->DS->Prop}:Ok (lift (few n)) δ Q ↔ n ≤ 100000∧Q () δ:= by
 unfold few
 split
 ·rename_i h;rw [bA];exact ⟨fun q=>⟨h,q⟩,fun q=>q.2⟩
 ·rename_i h;rw [z8];exact ⟨False.elim,fun q=>h q.1⟩
@[simp] theorem ip {d:D} {Q:Bool->DS->Prop}:Ok (dG d) δ Q ↔ ∃ b,d=.bl b∧Q b δ:= by
 constructor
 ·rintro ⟨b,δ',e,q⟩
  obtain ⟨e1,rfl⟩:=kU e
  exact ⟨b,e1,q⟩
 ·rintro ⟨b,rfl,q⟩
  exact ⟨b,δ,rfl,q⟩
@[simp] theorem CW {d:D} {Q:Option Int->DS->Prop}:Ok (Ei d) δ Q ↔ ∃ i,d=.int i∧Q (some i) δ:= by
 cases d <;> simp [Ei]
@[simp] theorem Gj {i:Nat} {fb:M D} {Q:D->DS->Prop}:Ok (uA i fb) δ Q ↔ (∃ b xs,δ[i]? = some (.ow b xs))∧Ok fb δ fun y δ1=>∃ b xs,δ1[i]? = some (.ow b xs)∧Ok (lift (e_ (.lst xs) y)) δ1 Q:= by
 unfold uA
 simp only [av,dJ]
 constructor
 ·rintro ⟨b,xs,e,h⟩;exact ⟨⟨b,xs,e⟩,h⟩
 ·rintro ⟨⟨b,xs,e⟩,h⟩;exact ⟨b,xs,e,h⟩
@[simp] theorem E3 {i:Nat} {Q:D->DS->Prop}:Ok (jK i) δ Q ↔ ∃ b xs,δ[i]? = some (.ow b xs)∧Q (.int xs.length) δ:= by
 unfold jK;simp
@[simp] theorem Ek {i:Nat} {fa:M D} {k:Int} {Q:Fl->DS->Prop}:Ok (mX i fa k) δ Q ↔ Ok fa δ fun d δ1=>∃ b xs,δ1[i]? = some (.ow b xs)∧Ok (lift (uY xs.length k)) δ1 fun j δ2=>∃ b ys,δ2[i]? = some (.ow b ys)∧Q .nx (δ2.set i (.ow b (xs.set j d))):= by
 unfold mX;simp
theorem d8 {i:Nat} {fs:M (List D)} {Q:Fl->DS->Prop} (h0:∃ b xs,δ[i]? = some (.ow b xs)) (h:Ok fs δ fun ds δ1=>∃ d b xs,ds=[d]∧δ1[i]? = some (.ow b xs)∧xs.length ≤ 100000∧Q .nx (δ1.set i (.ow b (xs ++ [d])))):Ok (eO i fs) δ Q:= by
 unfold eO
 obtain ⟨b,xs,e⟩:=h0
 simp only [av,dJ]
 refine ⟨b,xs,e,h.mono fun ds δ1 q=>?_⟩
 obtain ⟨d,b',ys,rfl,e1,hn,q⟩:=q
 simp only [av,dJ,cJ,kB,ar]
 exact ⟨b',ys,e1,hn,b',ys,e1,q⟩
theorem rp {i:Nat} {fs:M (List D)} {Q:D->DS->Prop} (h0:∃ b xs,δ[i]? = some (.ow b xs)) (h:Ok fs δ fun ds δ1=>∃ (j:Nat) (b:Bool) (xs:List D) (d:D),ds=[.int j]∧δ1[i]? = some (.ow b xs)∧j < 100000∧xs[j]? = some d∧Q d (δ1.set i (.ow b (xs.eraseIdx j)))):Ok (wz i fs) δ Q:= by
 unfold wz
 obtain ⟨b,xs,e⟩:=h0
 simp only [av,dJ]
 refine ⟨b,xs,e,h.mono fun ds δ1 q=>?_⟩
 obtain ⟨j,b',ys,d,rfl,e1,hn,e2,q⟩:=q
 simp only [av,dJ,kB,ar]
 refine ⟨b',ys,e1,AA (a:=d) ?_ ⟨b',ys,e1,?_⟩⟩
 ·rw [if_pos (by omega),Int.toNat_natCast];exact e2
 ·rw [Int.toNat_natCast];exact q
@[simp] theorem FX {fa fb:M D} {Q:D->DS->Prop}:Ok (uR fa fb) δ Q ↔ Ok fa δ fun x δ1=>match x with
  | .bl true=>Ok fb δ1 Q
  | .bl false=>Q (.bl false) δ1
  | _=>False:= by
 unfold uR
 rw [av]
 constructor <;>
 ·intro h
  refine h.mono fun x δ1 q=>?_
  cases x with
  | bl b=>cases b <;> simpa using q
  | _=>simpa using q
@[simp] theorem F7 {fa:M D} {Q:D->DS->Prop}:Ok (wU fa) δ Q ↔ Ok fa δ fun x δ1=>match x with
  | .bl b=>Q (.bl (!b)) δ1
  | _=>False:= by
 unfold wU
 rw [av]
 constructor <;>
 ·intro h
  refine h.mono fun x δ1 q=>?_
  cases x <;> simpa using q
@[simp] theorem F_ {T:Ty} {fa:M D} {Q:D->DS->Prop}:Ok (qv T fa) δ Q ↔ Ok fa δ fun d δ1=>Q (.bl (bH T d)) δ1:= by
 unfold qv;simp [uB]
@[simp] theorem Dw {fa:M D} {fl fh:M (Option Int)} {Q:D->DS->Prop}:Ok (Ej fa fl fh) δ Q ↔ Ok fa δ fun x δ1=>Ok fl δ1 fun l δ2=>Ok fh δ2 fun h δ3=>Ok (lift (Fy x l h)) δ3 Q:= by
 unfold Ej;simp
@[simp] theorem qZ {α:Type} {g:D->D->Option α} {fa fb:M Hn} {Q:α->DS->Prop}:Ok (qa g fa fb) δ Q ↔ Ok fa δ fun h1 δ1=>Ok fb δ1 fun h2 δ2=>Ok (rdH h1) δ2 fun x δ3=>Ok (rdH h2) δ3 fun y δ4=>Ok (lift (g x y)) δ4 Q:= by
 unfold qa;simp
@[simp] theorem rb {x:D} {Q:D->DS->Prop}:Ok (rdH (.th x)) δ Q ↔ Q x δ:= by
 constructor
 ·rintro ⟨b,δ',e,q⟩;cases e;exact q
 ·exact fun q=>⟨x,δ,rfl,q⟩
@[simp] theorem C1 {i:Nat} {Q:D->DS->Prop}:Ok (rdH (.ls i)) δ Q ↔ ∃ b xs,δ[i]? = some (.ow b xs)∧Q (.lst xs) δ:= by
 constructor
 ·rintro ⟨d,δ',e,q⟩
  unfold rdH at e
  dsimp only at e
  split at e
  ·rename_i b xs h;cases e;exact ⟨b,xs,h,q⟩
  ·cases e
 ·rintro ⟨b,xs,h,q⟩
  exact ⟨_,δ,by unfold rdH;dsimp only;rw [h],q⟩
@[simp] theorem Au {i:Nat} {Q:Hn->DS->Prop}:Ok (oy i) δ Q ↔ ∃ b xs,δ[i]? = some (.ow b xs)∧Q (.ls i) δ:= by
 unfold oy;simp
@[simp] theorem rH {i n:Nat} {mf:List D->List D->Option (D × List D)} {fs:M (List D)} {Q:D->DS->Prop}:Ok (cq i n mf fs) δ Q ↔ Ok fs δ fun ds δ1=>∃ b xs,δ1[i]? = some (.ow b xs)∧ds.length + 1=n∧∃ r,mf xs ds=some r∧Q r.1 (δ1.set i (.ow b r.2)):= by
 constructor
 ·rintro ⟨d,δ',e,q⟩
  unfold cq at e
  split at e
  ·cases e
  ·rename_i ds δ1 e1
   split at e
   ·rename_i b xs e2
    split at e
    ·rename_i hn
     split at e
     ·cases e
     ·rename_i d' xs' e3
      cases e
      exact ⟨ds,δ1,e1,b,xs,e2,hn,(d,xs'),e3,q⟩
    ·cases e
   ·cases e
 ·rintro ⟨ds,δ1,e,b,xs,e1,hn,⟨d,xs'⟩,e2,q⟩
  exact ⟨d,_,by unfold cq;rw [e];dsimp only;rw [e1];dsimp only;rw [if_pos hn,e2],q⟩
@[simp] theorem eA {gt:D->M Unit} {tt:M Bool} {te:M D} {d:D} {Q:Option D->DS->Prop}:Ok (bz gt tt te d) δ Q ↔ Ok (gt d) δ fun _ δ1=>Ok tt δ1 fun b δ2=>if b=true then Ok te δ2 fun x δ3=>Q (some x) δ3 else Q none δ2:= by
 unfold bz;simp
@[simp] theorem i4 {n:Nat} {g:List D->M Unit} {ds:List D} {Q:Unit->DS->Prop}:Ok (dF n g (.tup ds)) δ Q ↔ (if ds.length=n then Ok (g ds) δ Q else False):= by
 show Ok (if ds.length=n then g ds else lift none) δ Q ↔ _
 split <;> simp
@[simp] theorem fI {f:D->M Unit} {g:List D->M Unit} {d:D} {ds:List D} {Q:Unit->DS->Prop}:Ok (bJ f g (d :: ds)) δ Q ↔ Ok (f d) δ fun _ δ1=>Ok (g ds) δ1 Q:= by
 show Ok (f d >>= fun _=>g ds) δ Q ↔ _
 simp
@[simp] theorem gq {Q:Unit->DS->Prop}:Ok (fK []) δ Q ↔ Q () δ:= by
 show Ok (pure ()) δ Q ↔ _
 simp
end
section
variable {δ:DS}
theorem bF {α:Type} {lo own:Nat} {fi:M iB} {turn:D->M (Option D)} {Q:List D->DS->Prop} (as:List α) (e:α->D) (g:α->Option D) (hl:δ.length=lo) (hi:Ok fi δ fun it δ'=>it=aQ (as.map e)∧δ' = δ) (hn:as.length ≤ 100000)
  (ht:∀ a ∈ as,Ok (turn (e a)) (δ ++ List.replicate own .un) fun o δ2=>o=g a∧δ2.take lo=δ) (hQ:Q (as.filterMap g) δ):Ok (bh lo own fi turn) δ Q:= by
 have gen:∀ es:List α,(∀ d ∈ es,d ∈ as)->d_ own turn (fun _=>true) (aQ (es.map e)).1 δ=some (es.filterMap g,δ):= by
  intro es
  induction es with
  | nil=>intro _;rfl
  | cons d es ih=>
   intro hs
   obtain ⟨o,δ2,e1,e0,e2⟩:=ht d (hs d List.mem_cons_self)
   show d_ own turn (fun _=>true) ((fun _=>some (e d)) :: (aQ (es.map e)).1) δ=_
   unfold d_
   dsimp only
   rw [e1]
   dsimp only
   rw [hl,e2,ih fun x hx=>hs x (List.mem_cons_of_mem _ hx)]
   dsimp only
   rw [List.filterMap_cons,<- e0]
   cases o <;> rfl
 unfold bh
 simp only [av]
 refine ⟨(),δ,by unfold f9;rw [if_pos hl],hi.mono fun it δ' ⟨e1,e2⟩=>?_⟩
 subst e1;subst e2
 refine cJ.mpr ⟨by simpa [aQ] using hn,as.filterMap g,δ',gen as fun _ h=>h,hQ⟩
theorem bR {α β:Type} (p:α->Bool) (f:α->β) (as:List α):(as.filterMap fun a=>if p a=true then some (f a) else none)=(as.filter p).map f:= by
 induction as with
 | nil=>rfl
 | cons a r ih=>
  rw [List.filterMap_cons,List.filter_cons,ih]
  cases p a <;> rfl
theorem dD {lo own:Nat} {fi:M iB} {turn:D->M (Option D)} {Q:List D->DS->Prop} (ds:List D) (I:Nat->List D->DS->Prop) (hl:δ.length=lo) (hi:Ok fi δ fun it δ'=>it=aQ ds∧δ' = δ) (hn:ds.length ≤ 100000) (h0:I 0 [] δ)
  (ht:∀ k (hk:k < ds.length) acc δ,acc.length ≤ k->δ.length=lo->I k acc δ->Ok (turn ds[k]) (δ ++ List.replicate own .un) fun o δ2=>(δ2.take lo).length=lo∧I (k + 1) (acc ++ o.toList) (δ2.take lo)) (hQ:∀ xs δ',xs.length ≤ ds.length->δ'.length=lo->I ds.length xs δ' -> Q xs δ'):Ok (bh lo own fi turn) δ Q:= by
 have gen:∀ (n k:Nat) (acc:List D) (δ:DS),ds.length - k=n->k ≤ ds.length->acc.length ≤ k->δ.length=lo->I k acc δ->∃ xs δ',d_ own turn (fun _=>true) (aQ (ds.drop k)).1 δ=some (xs,δ')∧δ'.length=lo∧I ds.length (acc ++ xs) δ' ∧ (acc ++ xs).length ≤ ds.length:= by
  intro n
  induction n with
  | zero=>
   intro k acc δ hk hk2 h0 h1 h2
   have:k=ds.length:=by omega
   subst this
   rw [List.drop_length]
   exact ⟨[],δ,rfl,h1,by simpa using h2,by simpa using h0⟩
  | succ n ih=>
   intro k acc δ hk hk2 h0 h1 h2
   have hlt:k < ds.length:=by omega
   rw [List.drop_eq_getElem_cons hlt]
   obtain ⟨o,δ2,e,q1,q2⟩:=ht k hlt acc δ h0 h1 h2
   have ho:o.toList.length ≤ 1:=by cases o <;> simp
   obtain ⟨xs,δ',e',r1,r2,r3⟩:=ih (k + 1) (acc ++ o.toList) (δ2.take lo) (by omega) hlt (by rw [List.length_append];omega) q1 q2
   refine ⟨o.toList ++ xs,δ',?_,r1,by simpa using r2,by simpa using r3⟩
   show d_ own turn (fun _=>true) ((fun _=>some ds[k]) :: (aQ (ds.drop (k + 1))).1) δ=_
   unfold d_
   dsimp only
   rw [e]
   dsimp only
   rw [h1,e']
 unfold bh
 simp only [av]
 refine ⟨(),δ,by unfold f9;rw [if_pos hl],hi.mono fun it δ' ⟨e1,e2⟩=>?_⟩
 subst e1;subst e2
 obtain ⟨xs,δ2,e,r1,r2,r3⟩:=gen ds.length 0 [] δ' (by omega) (Nat.zero_le _) (Nat.le_refl _) hl h0
 rw [List.drop_zero] at e
 exact cJ.mpr ⟨by simpa [aQ] using hn,xs,δ2,e,hQ xs δ2 (by simpa using r3) r1 (by simpa using r2)⟩
theorem qM {i n k:Nat} {b:Bool} {xs:List D} (h:k < (cj i n).1.length) (hx:δ[i]? = some (.ow b xs)) (hn:xs.length=n):(cj i n).1[k] δ=xs[k]?:= by
 have e:=List.getElem_map (fun (j:Nat) (δ:DS)=>(match δ[i]? with | some (.ow _ xs)=>if xs.length=n then xs[j]? else none | _=>none:Option D)) (l:=List.range n) (i:=k) (h:=by simpa [cj] using h)
 refine Eq.trans (congrFun e δ) ?_
 rw [List.getElem_range,hx]
 simp [hn]
theorem vI {α:Type} {lo own i:Nat} {b:Bool} {fi:M iB} {turn:D->M (Option D)} {Q:List D->DS->Prop} (as:List α) (e:α->D) (g:α->Option D) (hl:δ.length=lo) (hx:δ[i]? = some (.ow b (as.map e))) (hi:Ok fi δ fun it δ'=>it=cj i as.length∧δ' = δ) (hn:as.length ≤ 100000)
  (ht:∀ a ∈ as,Ok (turn (e a)) (δ ++ List.replicate own .un) fun o δ2=>o=g a∧δ2.take lo=δ) (hQ:Q (as.filterMap g) δ):Ok (bh lo own fi turn) δ Q:= by
 have gen:∀ (n k:Nat),as.length - k=n->k ≤ as.length->d_ own turn (cj i as.length).2 ((cj i as.length).1.drop k) δ=some ((as.drop k).filterMap g,δ):= by
  intro n
  induction n with
  | zero=>
   intro k hk hk2
   have:k=as.length:=by omega
   subst this
   rw [List.drop_length,List.drop_eq_nil_of_le (by simp [cj])]
   have ef:(cj i as.length).2 δ=true:=by simp [cj,hx]
   unfold d_
   rw [if_pos ef]
   rfl
  | succ n ih=>
   intro k hk hk2
   have hlt:k < as.length:=by omega
   have hlt2:k < (cj i as.length).1.length:=by simpa [cj] using hlt
   rw [List.drop_eq_getElem_cons hlt,List.drop_eq_getElem_cons hlt2]
   obtain ⟨o,δ2,e1,e0,e2⟩:=ht as[k] (List.getElem_mem hlt)
   unfold d_
   have ea:(cj i as.length).1[k] δ=some (e as[k]):= by
    rw [qM hlt2 hx (by simp)]
    simp [hlt]
   rw [ea]
   dsimp only
   rw [e1]
   dsimp only
   rw [hl,e2,ih (k + 1) (by omega) hlt]
   dsimp only
   rw [List.filterMap_cons,<- e0]
   cases o <;> rfl
 unfold bh
 simp only [av]
 refine ⟨(),δ,by unfold f9;rw [if_pos hl],hi.mono fun it δ' ⟨e1,e2⟩=>?_⟩
 subst e1;subst e2
 refine cJ.mpr ⟨by simpa [cj] using hn,as.filterMap g,δ',?_,hQ⟩
 have:=gen as.length 0 (by omega) (Nat.zero_le _)
 rwa [List.drop_zero,List.drop_zero] at this
def Ff (gt:D->M Unit) (body:M Fl) (its:List (DS->Option D)) (fl:Fl):M Fl:=match fl with
 | .nx=>forM gt body (fun _=>true) its
 | .ct=>forM gt body (fun _=>true) its
 | .bk=>pure .nx
 | .rt d=>pure (.rt d)
 | .rf d=>pure (.rf d)
theorem ue (gt:D->M Unit) (body:M Fl) (its:List (DS->Option D)) {d:D} {δ δ1 δ2:DS} {u:Unit} {fl:Fl} (e1:gt d δ=some (u,δ1)) (e2:body δ1=some (fl,δ2)):forM gt body (fun _=>true) ((fun _=>some d) :: its) δ=Ff gt body its fl δ2:= by
 rw [forM]
 dsimp only
 rw [M.bind_def,e1]
 dsimp only
 rw [M.bind_def,e2]
 cases fl <;> rfl
theorem wA {gt:D->M Unit} {body:M Fl} {Q:Fl->DS->Prop} (ds:List D) (I:Nat->DS->Prop) (h0:I 0 δ)
  (ht:∀ k (hk:k < ds.length) δ,I k δ->Ok (gt ds[k]) δ fun _ δ1=>Ok body δ1 fun fl δ2=>match fl with
   | .nx=>I (k + 1) δ2
   | .ct=>I (k + 1) δ2
   | .bk=>Q .nx δ2
   | .rt d=>Q (.rt d) δ2
   | .rf d=>Q (.rf d) δ2) (hQ:∀ δ,I ds.length δ->Q .nx δ):Ok (forM gt body (aQ ds).2 (aQ ds).1) δ Q:= by
 have gen:∀ (n k:Nat) (δ:DS),ds.length - k=n->k ≤ ds.length->I k δ->Ok (forM gt body (fun _=>true) (aQ (ds.drop k)).1) δ Q:= by
  intro n
  induction n with
  | zero=>
   intro k δ hk hk2 h
   have:k=ds.length:=by omega
   subst this
   rw [List.drop_length]
   exact ⟨.nx,δ,rfl,hQ δ h⟩
  | succ n ih=>
   intro k δ hk hk2 h
   have hlt:k < ds.length:=by omega
   rw [List.drop_eq_getElem_cons hlt]
   have ht':=ht k hlt δ h
   obtain ⟨u,δ1,e1,fl,δ2,e2,q⟩:=ht'
   have st:forM gt body (fun _=>true) (aQ (ds[k] :: ds.drop (k + 1))).1 δ=Ff gt body (aQ (ds.drop (k + 1))).1 fl δ2:= by
    show forM gt body (fun _=>true) ((fun _=>some ds[k]) :: (aQ (ds.drop (k + 1))).1) δ=_
    exact ue gt body _ e1 e2
   cases fl with
   | nx=>obtain ⟨a,δ',e,q'⟩:=ih (k + 1) δ2 (by omega) hlt q;exact ⟨a,δ',st.trans e,q'⟩
   | ct=>obtain ⟨a,δ',e,q'⟩:=ih (k + 1) δ2 (by omega) hlt q;exact ⟨a,δ',st.trans e,q'⟩
   | bk=>exact ⟨.nx,δ2,st,q⟩
   | rt d=>exact ⟨.rt d,δ2,st,q⟩
   | rf d=>exact ⟨.rf d,δ2,st,q⟩
 have:=gen ds.length 0 δ (by omega) (Nat.zero_le _) h0
 rwa [List.drop_zero] at this
theorem fL {fi:M iB} {gt:D->M Unit} {body:M Fl} {Q:Fl->DS->Prop} (ds:List D) (I:Nat->DS->Prop) (hi:Ok fi δ fun it δ'=>it=aQ ds∧δ' = δ) (h0:I 0 δ)
  (ht:∀ k (hk:k < ds.length) δ,I k δ->Ok (gt ds[k]) δ fun _ δ1=>Ok body δ1 fun fl δ2=>match fl with
   | .nx=>I (k + 1) δ2
   | .ct=>I (k + 1) δ2
   | .bk=>Q .nx δ2
   | .rt d=>Q (.rt d) δ2
   | .rf d=>Q (.rf d) δ2) (hQ:∀ δ,I ds.length δ->Q .nx δ):Ok (do let it <- fi;Jt.forM gt body it.2 it.1) δ Q:= by
 rw [av]
 refine hi.mono fun it δ' ⟨e1,e2⟩=>?_
 subst e1;subst e2
 exact wA ds I h0 ht hQ
end
theorem bZ {N:List Str} {body:M Fl} {ds:List D} {d:D} (h:Ok body (entry N ds) fun fl _=>fl=.rt d):aU N body ds=some d:= by
 obtain ⟨fl,δ',e,rfl⟩:=h
 unfold aU
 rw [e]
theorem nk {N:List Str} {body:M Fl} {ds:List D} {d:List D} (h:Ok body (entry N ds) fun fl _=>fl=.rf d):eF N body ds=some d:= by
 obtain ⟨fl,δ',e,rfl⟩:=h
 unfold eF
 rw [e]
theorem gX {N:List Str} {body:M Fl} {xs ds:List D} {Q:D->List D->Prop} (h:Ok body (d5 N xs ds) fun fl δ=>∃ d xs',fl=.rt d∧δ[0]? = some (.ow true xs')∧Q d xs'):∃ d xs',bL N body xs ds=some (d,xs')∧Q d xs':= by
 obtain ⟨fl,δ',e,d,xs',rfl,e1,q⟩:=h
 refine ⟨d,xs',?_,q⟩
 unfold bL
 rw [e]
 dsimp only
 rw [e1]
theorem rY {N:List Str} {body:M Fl} {ds:List D} {Q:D->Prop} (h:Ok body (entry N ds) fun fl _=>∃ d,fl=.rt d∧Q d):∃ d,aU N body ds=some d∧Q d:= by
 obtain ⟨fl,δ',e,d,rfl,q⟩:=h
 exact ⟨d,by unfold aU;rw [e],q⟩
theorem Ag {N:List Str} {body:M Fl} {ds:List D} {Q:List D->Prop} (h:Ok body (entry N ds) fun fl _=>∃ d,fl=.rf d∧Q d):∃ d,eF N body ds=some d∧Q d:= by
 obtain ⟨fl,δ',e,d,rfl,q⟩:=h
 exact ⟨d,by unfold eF;rw [e],q⟩
end Jt
namespace Jt
open PySem L2 PySem.Spec PyProof.Rows
def FZ {α:Type} (g:Nat->Nat->Bool):PySem.W.KasT α->α
 | .ret a=>a
 | .ask i j k=>FZ g (k (g i j))
section
variable {prog:Program} {w:World} {A:Around} {E:Value->Shared->Prop} {s:Shared}
end
section
variable {X:Cx}
theorem l6:∀ {vs:List V} {us:List Value},Vals vs us->∀ i:Nat,RelV (vs.getD i V.non) (us.getD i Value.none)
 | _,_,.nil,i=>by simpa using show RelV V.non Value.none from rfl
 | _,_,.cons r _,0=>by simpa using r
 | _,_,.cons _ h,i + 1=>by simpa using l6 h i
theorem oQ {f:Nat->V} {g:Nat->Value} (h:∀ i,RelV (f i) (g i)):∀ l:List Nat,Vals (l.map f) (l.map g)
 | []=>.nil
 | i :: l=>.cons (h i) (oQ h l)
end
section
variable {X:Cx} {e:Expr} {fq:M (List D)} {p pos:Pos}
end
end Jt
namespace Jt
open PySem L2
section
variable {X:Cx}
def never {α:Type}:M α:=fun _=>none
theorem pB {st:Stmt}:mE X st never:=fun pins s σ H E I h=>by
 obtain ⟨c,δ,S,T,fl,δ',s,e,k⟩:=h
 cases e
end
section
variable {X:Cx} {a:Expr} {fs:M (List D)} {pos p apos cpos:Pos} {x:Str}
end
section
variable {X:Cx} {a:Expr} {ha':M Hn} {fs:M (List D)} {pos p:Pos} {es:List Expr} {x:Str}
variable {k:Nat} {f:Addr} {fd:FuncData} {ps:List Str}
open Classical in
end
end Jt
namespace Jt
open PySem L2
section
variable {X:Cx} {a:Expr} {fa:M D} {pos:Pos}
def qD:D->Option D
 | .int i=>some (.int (-i))
 | _=>none
def m1 (f:D->Option D) (fa:M D):M D:=do
 let x <- fa
 lift (f x)
theorem CZ (ha:DE X a fa):DE X (.UnaryOp .USub a pos) (m1 qD fa):=b4 (EL Ea ha) fun σ H Q ⟨c,δ,S,T,d,δ',s,e,k⟩=>by
 obtain ⟨x,δ1,e1,e⟩:=bind_some e
 obtain ⟨e2,rfl⟩:=ax e
 refine ⟨c,δ,S,T,x,δ1,s,e1,fun v H' s'=>?_⟩
 cases x with
 | int i=>
  cases e2
  exact ⟨i,s'.st.head.int,k _ _ (s'.pop.stk (.cons .mkI s'.pop.st))⟩
 | _=>cases e2
end
end Jt
namespace Jt
open PySem L2
section
variable {δ:DS}
@[simp] theorem GF {r1 r2:D->D->Option D} {fa fb fc:M D} {Q:D->DS->Prop}:Ok (En r1 r2 fa fb fc) δ Q ↔ Ok fa δ fun x δ1=>Ok fb δ1 fun y δ2=>Ok (lift (r1 x y)) δ2 fun z δ3=>match z with
  | .bl true=>Ok fc δ3 fun w δ4=>Ok (lift (r2 y w)) δ4 Q
  | .bl false=>Q (.bl false) δ3
  | _=>False:= by
 unfold En
 simp only [av]
 constructor <;>
 ·intro h
  refine h.mono fun x δ1 h=>h.mono fun y δ2 h=>h.mono fun z δ3 h=>?_
  cases z with
  | bl b=>cases b <;> simpa using h
  | _=>simpa using h
theorem sE {tt:M Bool} {body:M Fl} {Q:Fl->DS->Prop} (I:Nat->DS->Prop) (h:∀ k δ,I k δ->Ok tt δ fun b δ1=>(b=true->∃ j,k=j + 1∧Ok body δ1 fun fl δ2=>fl=.nx∧I j δ2)∧(b=false->Q .nx δ1)) :
  ∀ (f n:Nat) (δ:DS),n < f->I n δ->Ok (Bh tt body f) δ Q
 | 0,n,δ,hf,_=>by omega
 | f + 1,n,δ,hf,hI=>by
  unfold Bh
  rw [av]
  refine (h n δ hI).mono fun b δ1 hb=>?_
  cases b with
  | false=>exact ar.mpr (hb.2 rfl)
  | true=>
   obtain ⟨j,rfl,hj⟩:=hb.1 rfl
   show Ok (body >>= _) δ1 Q
   rw [av]
   refine hj.mono fun fl δ2 ⟨e,hI2⟩=>?_
   subst e
   exact sE I h f j δ2 (by omega) hI2
end
end Jt
namespace Jt
open PySem L2 PySem.Spec PyProof.Rows
section
variable {prog:Program} {w:World} {A:Around} {E:Value->Shared->Prop} {s:Shared}
theorem u5 {t b:Addr} {ws:List Value} {Q:Value->Shared->Prop} (ht:IsTup s.heap t #[]) (hb:IsTup s.heap b ws.toArray) (h:Q (.ref b) s):wpAny (model prog w) A (binaryOp .Add (.ref t) (.ref b)) Q E s:= by
 obtain ⟨⟨cls,dd,data,sl⟩,ho,hc,n,hd⟩:=id ht
 obtain ⟨⟨cls2,dd2,data2,sl2⟩,ho2,hc2,n2,hd2⟩:=id hb
 simp only at hc hd hc2 hd2
 subst hc hd hc2 hd2
 exact concat_meets ⟨_,ho,rfl⟩ ⟨_,ho2,rfl⟩ noFill_tuple_add seq_tuple_add PySem.F.slot_tuple_add PySem.F.entry_tuple_add (PySem.F.args_tuple_add_2 _ _) (tuple_addW0 t b #[] ws.toArray n n2 dd dd2 sl sl2 rfl) ⟨ho,ho2,h⟩
end
section
variable {X:Cx} {a b e:Expr} {fa fb:M D} {pos:Pos}
def Bu (K:PySem.W.Frag):R2:=fun x y H Q=>wY K x y H Q ∨ ∃ p q ys,x=.ref p∧y=.ref q∧jd K H p []∧jd K H q ys∧Q (.ref q) H
theorem Az:hU X (binaryOp .Add) (Bu X.K):= by
 intro pins s σ H x y v u Q I rx ry h
 rcases h with h | ⟨p,q,ys,rfl,rfl,hp,hq,k⟩
 ·exact yr pins s σ H x y v u Q I rx ry h
 ·cases rx
  cases ry
  obtain ⟨its,r1,p1,_⟩:=I.tuple hp
  obtain ⟨its2,r2,p2,_⟩:=I.tuple hq
  have e:its=[]:=r1.nil_iff.mpr rfl
  subst e
  exact u5 p1 p2 ⟨.ref q,H,I,rfl,k⟩
def jO:D->D->Option D
 | .tup xs,.tup ys=>if xs.length + ys.length ≤ 100000 then some (.tup (xs ++ ys)) else none
 | _,_=>none
theorem w6 {K:PySem.W.Frag}:nv (Bu K) jO:=fun c δ S σ T H x y v u d Q s e k=>by
 unfold jO at e
 split at e
 ·rename_i xs ys
  split at e
  ·rename_i hn
   cases e
   cases xs with
   | cons x xs=>
    refine .inl (wB c δ S σ T H (.tup (x :: xs)) (.tup ys) v u _ Q s ?_ k)
    show (if xs.length + 1 + ys.length ≤ 100000 then _ else _)=_
    rw [if_pos (by simpa using hn)]
   | nil=>
    obtain ⟨p,ws,rfl,h1,h3⟩:=s.st.tail.head.tup
    obtain ⟨q,zs,rfl,h4,h5⟩:=s.st.head.tup
    rw [h3.inv0] at h1
    exact .inr ⟨p,q,zs,rfl,rfl,.of (aK _ _ h1),.of (aK _ _ h4),k _ _ (s.stk (.cons s.st.head s.st.tail.tail))⟩
  ·cases e
 ·cases e
theorem s_ (ha:DE X a fa) (hb:DE X b fb):DE X (.BinOp a .Add b pos) (m2 jO fa fb):=kn Az w6 ha hb
end
end Jt
namespace Jt
open PySem L2 PySem.Spec PyProof.Rows
section
variable {prog:Program} {w:World} {A:Around} {E:Value->Shared->Prop} {s:Shared}
theorem fH {α β:Type} {f g:α->Option β}:∀ l:List α,(∀ x ∈ l,f x=g x)->l.filterMap f=l.filterMap g
 | [],_=>rfl
 | a :: r,h=>by
  rw [List.filterMap_cons,List.filterMap_cons,h a List.mem_cons_self,fH r fun x hx=>h x (List.mem_cons_of_mem _ hx)]
end
section
variable {X:Cx} {e:Expr} {te:TE} {fa:M D} {j:Nat} {pos p2 p3 p4:Pos}
end
section
variable {X:Cx} {a:Expr} {fa:M D} {fs:M (List D)} {es us:List Expr} {vs:List (Option Expr)} {pos p2:Pos} {j:Nat} {c:Const} {o:UnaryOp} {env:Env}
end
theorem cW (neg:Bool) (a b:Int):b9 neg (.int a) (.int b)=some (.bl (if neg then !decide (a=b) else decide (a=b))):= by
 show (if jZ (.int a) (.int b)=true then some (D.bl (if neg then !decide (V.int a=V.int b) else decide (V.int a=V.int b))) else none)=_
 rw [if_pos (show jZ (.int a) (.int b)=true from rfl)]
 simp only [V.int.injEq]
theorem Dd (neg:Bool) (a b:Int):iC neg (.int a) (.int b)=some (.bl (if neg then !decide (a=b) else decide (a=b))):=cW neg a b
@[simp] theorem zO:bH .int .non=false:=rfl
@[simp] theorem Bz (b:Bool):bH .int (.bl b)=true:=rfl
@[simp] theorem zH (i:Int):bH .int (.int i)=true:=rfl
@[simp] theorem yT (x:Str):bH .int (.str x)=false:=rfl
@[simp] theorem zQ (xs:List D):bH .int (.tup xs)=false:=rfl
@[simp] theorem zY (xs:List D):bH .int (.lst xs)=false:=rfl
@[simp] theorem zG:bH .int .dct=false:=rfl
@[simp] theorem y9 (k:List (Int × Int)):bH .int (.dic k)=false:=rfl
@[simp] theorem ze (k:List ((Int × Int) × Int)):bH .int (.dip k)=false:=rfl
@[simp] theorem yd:bH .bool .non=false:=rfl
@[simp] theorem yY (b:Bool):bH .bool (.bl b)=true:=rfl
@[simp] theorem yn (i:Int):bH .bool (.int i)=false:=rfl
@[simp] theorem yk (x:Str):bH .bool (.str x)=false:=rfl
@[simp] theorem yg (xs:List D):bH .bool (.tup xs)=false:=rfl
@[simp] theorem ye (xs:List D):bH .bool (.lst xs)=false:=rfl
@[simp] theorem yc:bH .bool .dct=false:=rfl
@[simp] theorem yf (k:List (Int × Int)):bH .bool (.dic k)=false:=rfl
@[simp] theorem yh (k:List ((Int × Int) × Int)):bH .bool (.dip k)=false:=rfl
@[simp] theorem z5:bH .tup .non=false:=rfl
@[simp] theorem A6 (b:Bool):bH .tup (.bl b)=false:=rfl
@[simp] theorem yO (i:Int):bH .tup (.int i)=false:=rfl
@[simp] theorem yo (x:Str):bH .tup (.str x)=false:=rfl
@[simp] theorem z9 (xs:List D):bH .tup (.tup xs)=true:=rfl
@[simp] theorem Ak (xs:List D):bH .tup (.lst xs)=false:=rfl
@[simp] theorem AF:bH .tup .dct=false:=rfl
@[simp] theorem yN (k:List (Int × Int)):bH .tup (.dic k)=false:=rfl
@[simp] theorem zV (k:List ((Int × Int) × Int)):bH .tup (.dip k)=false:=rfl
@[simp] theorem zx:bH .lst .non=false:=rfl
@[simp] theorem AO (b:Bool):bH .lst (.bl b)=false:=rfl
@[simp] theorem zW (i:Int):bH .lst (.int i)=false:=rfl
@[simp] theorem Ah (x:Str):bH .lst (.str x)=false:=rfl
@[simp] theorem Af (xs:List D):bH .lst (.tup xs)=false:=rfl
@[simp] theorem zq (xs:List D):bH .lst (.lst xs)=true:=rfl
@[simp] theorem yp:bH .lst .dct=false:=rfl
@[simp] theorem Aj (k:List (Int × Int)):bH .lst (.dic k)=false:=rfl
@[simp] theorem z7 (k:List ((Int × Int) × Int)):bH .lst (.dip k)=false:=rfl
@[simp] theorem yG:bH .str .non=false:=rfl
@[simp] theorem A5 (b:Bool):bH .str (.bl b)=false:=rfl
@[simp] theorem zh (i:Int):bH .str (.int i)=false:=rfl
@[simp] theorem yD (x:Str):bH .str (.str x)=true:=rfl
@[simp] theorem zD (xs:List D):bH .str (.tup xs)=false:=rfl
@[simp] theorem za (xs:List D):bH .str (.lst xs)=false:=rfl
@[simp] theorem zo:bH .str .dct=false:=rfl
@[simp] theorem yB (k:List (Int × Int)):bH .str (.dic k)=false:=rfl
@[simp] theorem AI (k:List ((Int × Int) × Int)):bH .str (.dip k)=false:=rfl
end Jt
namespace Jt
open PySem L2 PySem.Spec PyProof.Rows
section
variable {prog:Program} {w:World} {A:Around} {E:Value->Shared->Prop} {s:Shared}
end
section
variable {X:Cx} {e:Expr} {fa:M D} {pos:Pos}
theorem y4:Gb X .Sub (GU fun i j=>i - j):= by
 intro pins s σ H x y v u Q I r1 r2 h
 obtain ⟨i,j,e1,e2,q⟩:=h
 subst e1;subst e2
 obtain ⟨t,rfl⟩:=r1
 obtain ⟨t',rfl⟩:=r2
 exact isub_int ⟨.int _,H,I.tok _,⟨_,rfl⟩,q⟩
theorem tB {g:Int->Int->Int}:nv (GU g) (bC (fun _ _=>true) fun i j=>.int (g i j)):=fun c δ S σ T H x y v u d Q s e k=>by
 obtain ⟨i,j,rfl,rfl,e1,rfl⟩:=fA e
 have h1:=s.st.head.int
 have h2:=s.st.tail.head.int
 exact ⟨i,j,h2,h1,k _ _ (s.stk (.cons .mkI s.st.tail.tail))⟩
theorem xH (i:Nat) {op:Operator} {r:R2} {f:D->D->Option D} (ho:Gb X op r) (hd:nv r f) {x:Str} {pos':Pos} (hN:X.N.Nodup) (he:DE X e fa) (hi:X.N[i]? = some x:=by rfl) (hx:Loc X.env.scope x:=by first | exact Or.inl rfl | exact Or.inr rfl)
  (hf:X.fn x=true ∨ X.env.scope.names.lookup x=some .local:=by first | exact .inl rfl | exact .inr rfl | assumption):mE X (.AugAssign (.Name x pos') op e pos) (c_ i (m2 f (ag i) fa)):=ig (DZ hN hi hx he ho hf) fun E σ H ⟨c,δ,S,T,fl,δ',s,e,k⟩=>by
 obtain ⟨d,δ1,e1,e⟩:=bind_some e
 obtain ⟨u,δ2,e2,e⟩:=bind_some e
 obtain ⟨rfl,rfl⟩:=ai e
 obtain ⟨hi',rfl⟩:=gU e2
 obtain ⟨y0,δa,ea,e1⟩:=bind_some e1
 obtain ⟨y,δb,eb,e1⟩:=bind_some e1
 obtain ⟨e3,rfl⟩:=ax e1
 obtain ⟨ea2,rfl⟩:=jw ea
 obtain ⟨v,ev,rv⟩:=s.pu i y0 ea2
 exact ⟨v,ev,c,δ,y0 :: S,v :: T,y,δb,s.stk (.cons rv s.st),eb,fun u H2 s2=>hd _ _ _ _ _ _ _ _ _ _ _ _ s2 e3 fun z H' s'=>k _ _ (s'.setPu hi')⟩
theorem Ay (i:Nat) {x:Str} {pos':Pos} (hN:X.N.Nodup) (he:DE X e fa) (hi:X.N[i]? = some x:=by rfl) (hx:Loc X.env.scope x:=by first | exact Or.inl rfl | exact Or.inr rfl)
  (hf:X.fn x=true ∨ X.env.scope.names.lookup x=some .local:=by first | exact .inl rfl | exact .inr rfl | assumption):mE X (.AugAssign (.Name x pos') .Add e pos) (c_ i (m2 b8 (ag i) fa)):=xH i CN tB hN he hi hx hf
theorem yV (i:Nat) {x:Str} {pos':Pos} (hN:X.N.Nodup) (he:DE X e fa) (hi:X.N[i]? = some x:=by rfl) (hx:Loc X.env.scope x:=by first | exact Or.inl rfl | exact Or.inr rfl)
  (hf:X.fn x=true ∨ X.env.scope.names.lookup x=some .local:=by first | exact .inl rfl | exact .inr rfl | assumption):mE X (.AugAssign (.Name x pos') .Sub e pos) (c_ i (m2 du (ag i) fa)):=xH i y4 tB hN he hi hx hf
end
end Jt
namespace Jt
open PySem L2
open PyProof.Rows (AllBare)
section
variable {M:Model} {A:Around} {E:Value->Shared->Prop} {s:Shared} {base:Heap} {env:Env} {outer:List Env} {L e:Addr} {oe:Obj} {vs ws:Array Value} {head fl:Value} {hadNext:Bool} {Q:Unit->Shared->Prop}
end
section
variable {X:Cx} {pins:List (Addr × Obj)} {σ:St} {H:Hp} {s s':Shared} {h':Heap}
end
end Jt
namespace Jt
open PySem L2
open PyProof.Rows (AllBare)
abbrev XW:=St->Value->Hp->Prop
abbrev HX:=Ends->XW->XW->St->Hp->Prop
section
variable {X:Cx} {e c:Expr} {es:List Expr} {st:Stmt} {rest as bs:List Stmt} {pos p:Pos}
end
end Jt
namespace Jt
open PySem L2
section
variable {X:Cx} {a b e:Expr} {fa fb:M D} {fs:M (List D)} {pos p:Pos}
def lX:=bC (fun i j=>decide (Builtin.Int.intBits i + Builtin.Int.intBits j ≤ 134217728)) fun i j=>.int (i * j)
theorem yz:hU X (binaryOp .Mult) (rI (fun i j=>Builtin.Int.intBits i + Builtin.Int.intBits j ≤ 134217728) fun i j=>.int (i * j)):=Gg fun i j _ _ _ _ _ hc q=>PyProof.Rows.mul_int q (PyProof.Rows.mulOk_of_bits (Nat.le_refl _) (Nat.le_refl _) hc)
theorem tj (ha:DE X a fa) (hb:DE X b fb):DE X (.BinOp a .Mult b pos) (m2 lX fa fb):=kn yz (tq (fun i j h=>of_decide_eq_true h) fun _ _ _=>.mkI) ha hb
def i_:List D->Option D
 | [.int i,.int j]=>if 0 < j∧j < 1073741824 then some (.tup [.int (i / j),.int (i % j)]) else none
 | _=>none
theorem uK:iY (fun xs H Q=>∃ i j,xs=[.int i,.int j]∧De i j∧∀ p,H p=none->Q (.ref p) (upd H p (.tup [.int (i / j),.int (i % j)]))) i_:=fun c δ S σ T H ds vs d Q l s e k=>by
 unfold i_ at e
 split at e
 ·rename_i i j
  split at e
  ·rename_i hj
   cases e
   obtain ⟨v,u,rfl,r1,r2⟩:=G6 (s.st.left l)
   cases r1.int
   cases r2.int
   refine ⟨i,j,rfl,hj,fun q hq=>k _ _ ?_⟩
   have s1:=s.stk (Rs.append (ds:=[.int (i / j),.int (i % j)]) (vs:=[.int (i / j),.int (i % j)]) (.cons .mkI (.cons .mkI .nil)) (s.st.right l))
   exact s1.newTup rfl hq
  ·cases e
 ·cases e
theorem uG (hm:X.mg "divmod" = none) (ha:DA X [a,b] fs) (hg:Gl X "divmod":=by rfl) (he:starEach [a,b] X.env=(false,eval a X.env) :: starEach [b] X.env:=by rfl) (hp:(backTo pos (starEach [b] X.env)).any (·.1)=false:=by rfl):DE X (.Call (.Name "divmod" p) [a,b] [] pos) (mC i_ fs) :=
 gj oI uK hg hm (by decide +kernel) ha (by decide) (by decide) he hp
def jG:List D->Option D
 | [.int i]=>some (.int i)
 | [.bl k]=>some (.int (if k then 1 else 0))
 | _=>none
theorem zt:iY (fun xs H Q=>(∃ i,xs=[.int i]∧Q (.int i) H) ∨ ∃ k,xs=[.bl k]∧Q (.int (if k then 1 else 0)) H) jG:=fun c δ S σ T H ds vs d Q l s e k=>by
 unfold jG at e
 split at e
 ·cases e
  obtain ⟨v,rfl,r⟩:=ud (s.st.left l)
  cases r.int
  exact .inl ⟨_,rfl,k _ _ (s.stk (.cons .mkI (s.st.right l)))⟩
 ·cases e
  obtain ⟨v,rfl,r⟩:=ud (s.st.left l)
  cases r.bl
  exact .inr ⟨_,rfl,k _ _ (s.stk (.cons .mkI (s.st.right l)))⟩
 ·cases e
theorem rJ (hm:X.mg "int" = none) (ha:DA X [a] fs) (hg:Gl X "int":=by rfl) (he:starEach [a] X.env=[(false,eval a X.env)]:=by rfl):DE X (.Call (.Name "int" p) [a] [] pos) (mC jG fs) :=
 my uH zt hg hm (by decide +kernel) ha (by decide) (by decide) he rfl
end
def qG:Sp:=fun vs H Q _=>∃ (a:Addr) (ns:List Int),vs=[.ref a]∧Rd H a (.lst (ns.map V.int))∧ns.length ≤ 63∧(∀ i ∈ ns,Builtin.Int.intBits i ≤ 2 ^ 20)∧∀ H',Q (.bl true) H'
section
variable {P:Program} {w:World} {K:PySem.W.Frag} {mg:Str->Option Value} {base:Heap} {k:Nat} {f:Addr} {fd:FuncData} {ps:List Str} {CX:p_}
theorem yA {mf:List D->Option D} (F:c9 P w K mg base cV k f fd ps (jX 1 mf)) (h:∀ ns:List Int,ns.length ≤ 63->(∀ i ∈ ns,Builtin.Int.intBits i ≤ 2 ^ 20)->mf [.lst (ns.map .int)]=some (.bl true)):c9 P w K mg base cV k f fd ps qG:=F.imp fun vs H Q E ⟨a,ns,ev,hr,hl,hb,q⟩=>by
 subst ev
 refine ⟨rfl,fun _=>none,[.lst (ns.map .int)],.bl true,(fun a o z=>nomatch z),.cons (.mkL (Rd.mono (fun b o e=>dM.mpr ⟨(fun ⟨_,z⟩=>nomatch z),e⟩) hr) (jA ns)) .nil,h ns hl hb,fun v H' g r=>?_⟩
 rw [r.bl]
 exact q H'
end
end Jt
namespace Jt
open PySem PySem.W PySem.Calls PyProof.Rows L2
theorem vG {ns:List Int} (h:WData.layableAll [WData.list (ns.map WData.int)]=true):∀ i ∈ ns,Builtin.Int.intBits i ≤ 2 ^ 20:=fun i hi=>by
 have h1:=layableW_arg h _ List.mem_cons_self
 have h2:=layableW_item h1 (.int i) (List.mem_map.mpr ⟨i,hi,rfl⟩)
 have h3:=lay0_int h2
 have h4:PyData.layable0 (.int i)=true:=by simpa [PyData.layableAll0] using h3
 exact PyData.bits_of_layable h4
end Jt
namespace Jt
open PySem L2
open PyProof.Rows (AllBare)
section
variable {X:Cx} {a e:Expr} {es:List Expr} {fa:M D} {fx:M (D ⊕ Addr)} {fxs:M (List D ⊕ Addr)} {fs:M (List D)} {pos p:Pos} {st:Stmt} {rest as bs:List Stmt} {f:M Fl} {g h:M (Fl ⊕ Addr)} {tt:M Bool} {k:Bool}
end
section
variable {P:Program} {w:World} {K:PySem.W.Frag} {mg:Str->Option Value} {base:Heap} {k:Nat} {f:Addr} {fd:FuncData} {N ps:List Str} {x qual:Str} {st:Stmt} {body:M (Fl ⊕ Addr)}
end
end Jt
namespace Jt
open PySem L2
open PyProof.Rows (AllBare)
def hx (X:Cx) (a:Addr) (o:Obj):Cx:={ X with A:=X.A.mark (some (.ref a)),calm:=false,pn:=(a,o) :: X.pn,xe:=fun _ _=>False }
section
variable {X:Cx} {pins:List (Addr × Obj)} {σ:St} {H:Hp} {s:Shared}
end
section
variable {X:Cx} {body sts:List Stmt} {b0:Stmt} {x n:Str} {C0:Addr} {i:Nat} {tb:HX} {th:Addr->Value->TS} {p hpos pos:Pos} {Adm:Value->Prop}
end
end Jt
namespace Jt
open PySem L2
open PySem.W (nd_bind Looks InstAt findIn specialIn takesIn mroIn clsIn findObj looks_findIn looks_find looks_mroIn KitX kitOne kitCls class_get)
section
variable {prog:Program} {w:World} {A:Around} {E:Value->Shared->Prop} {s:Shared} {K:PySem.W.Frag} {x D:Addr} {ox:Obj}
end
end Jt
namespace Jt
open PySem L2
open PySem.SeqAt (list_countAt list_indexAt)
section
variable {X:Cx}
end
end Jt
namespace Jt
open PySem L2 PySem.Spec PyProof.Rows
section
variable {P:Program} {w:World} {K:PySem.W.Frag} {mg:Str->Option Value} {base:Heap} {k:Nat} {f:Addr} {fd:FuncData} {N ps:List Str} {x qual:Str} {st:Stmt} {D:Addr} {res:V}
end
end Jt
namespace Jt
open PySem L2
section
variable {X:Cx} {body:List Stmt} {x n y g:Str} {C0 f:Addr} {ie iy k:Nat} {fd:FuncData} {ps:List Str} {kinds:Addr->Option Str} {fx:M (Fl ⊕ Addr)} {p hpos pos py pg pn pc pa:Pos}
end
end Jt
namespace Jt
open PySem L2
section
variable {prog:Program} {w:World} {A:Around} {E:Value->Shared->Prop} {s:Shared} {a:Addr} {o:Obj}
end
end Jt
namespace L2
open PySem PySem.Spec PyProof.Rows
abbrev tests (ifs:List Expr) (env:Env):Sem Bool:=forIn ifs true fun c r=>if r=true then do let ok <- isTrue c env (eval c env);pure (ForInStep.yield ok) else pure (ForInStep.yield r)
section
variable {prog:Program} {w:World} {A:Around} {R:Result->Shared->Prop} {s:Shared} {elt t1 i1 t2 i2:Expr} {ifs1 ifs2:List Expr} {scope:Scope} {pos:Pos} {it acc:Value} {env:Env}
abbrev two (elt t1 i1:Expr) (ifs1:List Expr) (t2 i2:Expr) (ifs2:List Expr) (scope:Scope) (pos:Pos):Expr:=.ListComp elt [⟨t1,i1,ifs1,0⟩,⟨t2,i2,ifs2,0⟩] scope pos
abbrev lg:Value->Shared->Prop:=fun _ _=>False
end
section
variable {Y:Cx} {elt t1 i1 t2 i2:Expr} {ifs1 ifs2:List Expr} {scope:Scope} {pos:Pos} {wi:TI} {g:TG} {tt:TT} {te:TE}
end
section
variable {X:Cx} {elt t1 i1 t2 i2:Expr} {ifs1 ifs2:List Expr} {scope:Scope} {pos pos':Pos} {N' own:List Str} {wi wi2:TI} {g g2:TG} {tt tt2:TT} {te:TE}
end
end L2
namespace Jt
open PySem L2
def uI (n:Nat):Option Unit:=if n ≤ 1000 then some () else none
theorem lJ {n:Nat} {u:Unit} (h:uI n=some u):n ≤ 1000:= by
 unfold uI at h
 split at h
 ·assumption
 ·cases h
section
variable {X:Cx} {elt t1 i1 t2 i2:Expr} {te:M D} {pos:Pos} {tt tt2:M Bool} {fi fi2:M iB} {gt gt2:D->M Unit}
variable {N' own:List Str} {scope:Scope} {ifs1 ifs2:List Expr} {lo:Nat}
end
end Jt
namespace Jt
open PySem L2
def i3 (i:Nat) (fF:M (List D)):M Fl:=do
 let _ <- aO i
 let zs <- fF
 let xs <- aO i
 let _ <- lift (few (xs.length + zs.length))
 setOw i (xs ++ zs)
 pure .nx
section
variable {X:Cx} {a ie:Expr} {fF:M (List D)} {fb:M D} {x:Str} {p apos cpos pos psub:Pos}
theorem lU (i:Nat) (ha:DF X a fF) (hN:X.N[i]? = some x:=by rfl) (hv:pk X.env.scope x:=by first | exact Or.inl rfl | exact Or.inr (Or.inl rfl) | exact Or.inr (Or.inr rfl)) (hd:(x == ("__debug__":Str))=false:=by decide) (hcd:(x == ("__classdict__":Str))=false:=by decide)
  (hfew:((backTo cpos (starEach [a] X.env)).all (fun x=>!x.1) && (backToKw cpos (keywordEach [] X.env)).all (fun x=>x.1.isSome)
   && decide (([a]:List Expr).length + ([]:List Keyword).length + (if ([]:List Keyword).isEmpty then 0 else 1) < 30))=true:=by rfl)
  (hline:(apos.endLine == cpos.line)=true:=by rfl) (hs:starEach [a] X.env=[(false,eval a X.env)]:=by rfl) (hsw:swapsWith (.Call (.Attribute (.Name x p) "extend" apos) [a] [] cpos) none pos.line X.env=pure false:=by rfl) :
  mE X (.Expr (.Call (.Attribute (.Name x p) "extend" apos) [a] [] cpos) pos) (i3 i fF) :=
 ig (m5 (w8 PySem.F.plainAttrs_list PySem.F.slot_list_extend PySem.F.type_list_extend t8 (dk hN hv hd hcd) (cx ha eY hs) rfl hfew hline hs rfl) hsw) fun E σ H ⟨c,δ,S,T,fl,δ',s,e,k⟩=>by
  obtain ⟨xs0,δ0,e0,e⟩:=bind_some e
  obtain ⟨⟨b0,hi0⟩,rfl⟩:=aZ e0
  obtain ⟨q,vs0,eq,hq,_⟩:=s.own hi0
  obtain ⟨zs,δ1,e1,e⟩:=bind_some e
  refine ⟨_,eq,.inl ⟨rfl,vs0,.of hq⟩,c,δ,S,T,zs,δ1,s,e1,fun l vs H1 hl s1 hz _ _=>?_⟩
  obtain ⟨xs,δ2,e2,e⟩:=bind_some e
  obtain ⟨⟨b1,hi1⟩,rfl⟩:=aZ e2
  obtain ⟨_,δ3,e3,e⟩:=bind_some e
  obtain ⟨e4,rfl⟩:=ax e3
  obtain ⟨_,δ4,e5,e⟩:=bind_some e
  obtain ⟨rfl,rfl⟩:=ai e
  obtain ⟨b2,ys,hi2,rfl⟩:=d9 e5
  rw [hi1] at hi2;cases hi2
  obtain ⟨q',ws,eq',hq',hx⟩:=s1.own hi1
  rw [eq] at eq';cases eq'
  refine ⟨q,l,ws,vs,rfl,rfl,hq',s1.zz l _ ay,by rw [hx.length,hl];exact (gM e4).1,k _ _ ?_⟩
  exact ((s1.mut hi1 eq (hx.append (s1.st.left hl))).unhideL hl hz).pop
end
section
open PySem.Spec PyProof.Rows
variable {X:Cx} {e:Expr} {te:TE} {fa:M D} {j:Nat} {pos p2 p3 p4:Pos}
end
section
variable {δ:DS}
theorem kr {i:Nat} {fF:M (List D)} {Q:Fl->DS->Prop} (h0:∃ b xs,δ[i]? = some (.ow b xs)) (h:Ok fF δ fun zs δ1=>∃ b xs,δ1[i]? = some (.ow b xs)∧xs.length + zs.length ≤ 100000∧Q .nx (δ1.set i (.ow b (xs ++ zs)))):Ok (i3 i fF) δ Q:= by
 unfold i3
 obtain ⟨b,xs,e⟩:=h0
 simp only [av,dJ]
 refine ⟨b,xs,e,h.mono fun zs δ1 q=>?_⟩
 obtain ⟨b',ys,e1,hn,q⟩:=q
 simp only [cJ,kB,ar]
 exact ⟨b',ys,e1,hn,b',ys,e1,q⟩
end
end Jt
namespace Jt
open PySem L2
section
variable {X:Cx} {a:Expr} {fs:M (List D)} {p pos:Pos}
end
end Jt
namespace Jt
open PySem L2
mutual
def py:D->PyData
 | .non=>.none
 | .bl b=>.bool b
 | .int i=>.int i
 | .str x=>.str x
 | .tup xs=>.tuple (Hk xs)
 | .lst xs=>.list (Hk xs)
 | .dct=>.dict []
 | .dic _=>.dict []
 | .dip _=>.dict []
def Hk:List D->List PyData
 | []=>[]
 | d :: r=>py d :: Hk r
end
section
variable {X:Cx} {a:Expr} {fs:M (List D)} {p pos:Pos}
end
end Jt
namespace Jt
open PySem L2 PySem.Spec PyProof.Rows
section
variable {prog:Program} {w:World} {A:Around} {E:Value->Shared->Prop} {s:Shared}
end
section
variable {X:Cx} {e:Expr} {te:TE} {fa:M D} {j j0:Nat} {pos p2 p3 p4 p5:Pos}
end
end Jt
namespace Jt
open PySem L2 PySem.Spec PyProof.Rows
section
variable {X:Cx} {e:Expr} {te:TE} {fe:M D} {a b c d:Str} {j1 j2 j3 j4:Nat} {pos p0 p1 p2 p3 p4:Pos}
end
end Jt
namespace Jt
open PySem L2
section
variable {X:Cx} {a e:Expr} {es:List Expr} {fa fe:M D} {fs:M (List D)} {ha' hb':M Hn} {c d x y:Str} {j j1 j2 j3 j4:Nat} {pos p0 p1 p2 p3 p4:Pos}
end
end Jt
namespace Jt
open PySem L2
end Jt
namespace Jt
open PySem L2 PySem.Spec PyProof.Rows
section
variable {X:Cx} {elt tg iter l:Expr} {ifs:List Expr} {scope:Scope} {pos pos':Pos} {N' own:List Str} {wi:TI} {g:TG} {tt:TT} {te tl:TE}
end
end Jt
namespace Jt
open PySem L2 PySem.Spec PyProof.Rows
section
variable {X:Cx} {tg l:Expr} {tl:TE} {p pos:Pos} {fa:M D}
end
end Jt
namespace Jt
open PySem L2
end Jt
namespace Jt
open PySem L2 PySem.Spec PyProof.Rows
section
variable {prog:Program} {w:World} {A:Around} {E:Value->Shared->Prop} {s:Shared}
end
section
variable {X:Cx} {a b:Expr} {fa fb:M D} {pos:Pos}
end
section
variable {X:Cx} {a:Expr} {fs:M (List D)} {p pos:Pos}
end
section
variable {X:Cx} {a b c0:Expr} {fa fb fc:M D} {pos:Pos}
end
end Jt
namespace Jt
open PySem L2 PySem.Spec PyProof.Rows
section
open PySem.SeqAt
open PySem.AutoSeq1 (wpAny_loadPart')
open PySem.MeetsSeq PySem.MeetsSeq2 PySem.MeetsSeq3
end
section
variable {X:Cx} {o e a:Expr} {es:List Expr} {to:TE} {t:TA} {name:Str} {apos cpos p pos:Pos} {id:String} {r:V->List V->Hp->VK->Prop} {fo fa:M D} {fs:M (List D)}
end
section
variable {X:Cx} {a:Expr} {p pos:Pos} {fs:M (List D)}
theorem gg (ns:List Int):∀ j,j ≤ ns.length->preSum (fun i=>ns.getD i 0) j=(ns.take j).sum
 | 0,_=>rfl
 | j + 1,h=>by
  show preSum _ j + _=_
  rw [gg ns j (by omega),List.take_succ_eq_append_getElem (by omega),List.sum_append]
  simp [show j < ns.length by omega]
def Bp (K:PySem.W.Frag):List V->Hp->VK->Prop:=fun xs H Q=>∃ (l:Addr) (ns:List Int),xs=[.ref l]∧iV K H l (ns.map V.int)∧(∀ j,j ≤ ns.length->InLong ((ns.take j).sum))∧(∀ i ∈ ns,InLong i)∧Q (.int ns.sum) H
theorem ui (hc:X.calm=true):dR X (.builtin "sum") (Bp X.K):= by
 intro pins s σ H xs us Q I r h
 obtain ⟨l,ns,rfl,hq,hn,hi,q⟩:=h
 obtain ⟨u,rfl,ru⟩:=r.one
 cases ru
 obtain ⟨its,rv,pl,hz⟩:=I.list hq
 have hlen:=rv.length
 rw [List.length_map] at hlen
 have hll:l < s.heap.objs.size:=by obtain ⟨o,e,_⟩:=pl.isList;exact Heap.lt_size e
 refine call_sum_walk (wpAny_pyIter_list pl.isList ?_)
 refine ⟨s.heap.objs.size,[s.heap.objs.size,l],[s.heap.objs.size],its.toArray.size,_,_,fun i=>ns.getD i 0,rfl,Walks.list (A:=X.A.in1) (I.ok.hd hc) _ l (Nat.ne_of_lt hll) its.toArray,
  ⟨⟨_,Heap.get?_push_size _ rfl,rfl,rfl⟩,pl.isList.push _⟩,fun b hb=>?_,fun i v hv=>?_,fun j hj=>?_,fun h' tk t' kp=>?_⟩
 ·rw [Heap.size_push]
  simp only [List.mem_cons,List.not_mem_nil,or_false] at hb
  rcases hb with rfl | rfl
  ·exact Nat.lt_succ_self _
  ·exact Nat.lt_succ_of_lt hll
 ·have hv':its[i]? = some v:=by simpa using hv
  have hil:i < ns.length:=by rw [hlen];exact (List.getElem?_eq_some_iff.mp hv').1
  obtain ⟨u,hu,ru⟩:=rv.get (i:=i) (x:=V.int ns[i]) (by simp [hil])
  rw [hv'] at hu
  cases hu
  obtain ⟨t,rfl⟩:=ru
  exact ⟨t,by simp [hil]⟩
 ·have hj':j < ns.length:=by rw [hlen];simpa using hj
  refine ⟨?_,?_⟩
  ·show InLong (ns.getD j 0)
   have:ns.getD j 0=ns[j]:=by simp [hj']
   rw [this]
   exact hi _ (List.getElem_mem hj')
  ·rw [gg ns (j + 1) hj']
   exact hn _ hj'
 ·have e:preSum (fun i=>ns.getD i 0) its.toArray.size=ns.sum:= by
   rw [show its.toArray.size=ns.length by simp [hlen],gg ns _ (Nat.le_refl _),List.take_length]
  rw [e]
  exact ⟨.int ns.sum,H,I.kept (t':=tk) fun b o eb=>kp b o (fun hb=>absurd (Heap.lt_size eb) (by rw [List.mem_singleton.mp hb];exact Nat.lt_irrefl _)) (Heap.get?_push_of_some _ eb),⟨t',rfl⟩,q⟩
def jU (ns:List Int):Bool:=decide (ns.length ≤ 1000) && ns.all fun i=>decide (0 ≤ i) && decide (i ≤ 1000000)
theorem lK:∀ {ns:List Int},(∀ i ∈ ns,0 ≤ i∧i ≤ 1000000)->0 ≤ ns.sum∧ns.sum ≤ 1000000 * (ns.length:Int)
 | [],_=>by simp
 | i :: r,h=>by
  have h1:=h i List.mem_cons_self
  have h2:=lK (ns:=r) fun j hj=>h j (List.mem_cons_of_mem _ hj)
  rw [List.sum_cons,List.length_cons]
  omega
def qU:List D->Option D
 | [.lst es]=>(f_ es).bind fun ns=>if jU ns=true then some (.int ns.sum) else none
 | _=>none
theorem Cf {K:PySem.W.Frag}:iY (Bp K) qU:=fun c δ S σ T H ds vs d Q l s e k=>by
 unfold qU at e
 split at e
 ·rename_i es
  cases q:f_ es with
  | none=>rw [q] at e;cases e
  | some ns=>
   rw [q] at e
   simp only [Option.bind_some] at e
   split at e
   ·rename_i hs
    cases e
    obtain ⟨v,rfl,r⟩:=ud (s.st.left l)
    obtain ⟨p,ws,rfl,h1,h2⟩:=r.lst
    have:=nK h2 q;subst this
    simp only [jU,Bool.and_eq_true,decide_eq_true_eq,List.all_eq_true] at hs
    refine ⟨p,ns,rfl,.inl (Rd.mono aK h1),fun j hj=>?_,fun i hi=>?_,k _ _ (s.stk (.cons .mkI (s.st.right l)))⟩
    ·have:=lK (ns:=ns.take j) fun i hi=>hs.2 i (List.mem_of_mem_take hi)
     have hl:(ns.take j).length ≤ 1000:=Nat.le_trans (List.length_take_le ..) (by omega)
     refine ⟨by omega,by omega⟩
    ·have:=hs.2 i hi
     refine ⟨by omega,by omega⟩
   ·cases e
 ·cases e
theorem xA (hm:X.mg "sum" = none) (ha:DA X [a] fs) (hg:Gl X "sum":=by rfl) (hc:X.calm=true:=by rfl) (he:starEach [a] X.env=[(false,eval a X.env)]:=by rfl):DE X (.Call (.Name "sum" p) [a] [] pos) (mC qU fs) :=
 gj (ui hc) Cf hg hm PyProof.Rows.boot_sum ha (by decide) (by decide) he rfl
end
end Jt
namespace Jt
open PySem L2
structure Kn (P:Program) (w:World) (K:PySem.W.Frag) (mg:Str->Option Value) (base:Heap) (CX:p_) (k:Nat) (x:Str) (ps:List Str) (sp:Sp):Prop where
 ex:∃ f fd,c9 P w K mg base CX k f fd ps sp∧mg x=some (.ref f)∧PySem.W.keepIn K (.ref f)=true∧Binds K fd ps []
structure Ent (K:PySem.W.Frag) (mg:Str->Option Value) (x:Str) (ps:List Str) (st:Stmt):Prop where
 ex:∃ f fd,yj K x x st f fd∧mg x=some (.ref f)∧Binds K fd ps []
structure Fh (K:PySem.W.Frag) (x:Str) (st:Stmt):Prop where
 ex:∃ (f:Addr) (oc:Value) (od:Option Addr) (kV dc pm:Value) (an:Option Addr) (cd ct:Value) (sl:Array (Option Value)),PySem.W.nsIn K mainGlobals x=some (some (.ref f))∧K.lookup f=some ⟨oc,od,.func (PySem.W.fnOf x x (eP st) (bG st) (ak st) .none kV dc pm an cd ct),sl⟩∧PySem.W.codeIn K cd x=true∧PySem.W.keepIn K (.ref f)=true
theorem fh_mk {K:PySem.W.Frag} {x:Str} {st:Stmt} {f:Addr} {oc:Value} {od an:Option Addr} {kV dc pm cd ct:Value} {sl:Array (Option Value)} (a:PySem.W.nsIn K mainGlobals x=some (some (.ref f))) (l:K.lookup f=some ⟨oc,od,.func (PySem.W.fnOf x x (eP st) (bG st) (ak st) .none kV dc pm an cd ct),sl⟩) (c:PySem.W.codeIn K cd x=true) (k:PySem.W.keepIn K (.ref f)=true):Fh K x st:=⟨f,oc,od,kV,dc,pm,an,cd,ct,sl,a,l,c,k⟩
section
variable {P:Program} {w:World} {K:PySem.W.Frag} {mg:Str->Option Value} {base:Heap} {CX:p_} {j k:Nat} {x:Str} {ps N:List Str} {sp:Sp} {st:Stmt} {body:M Fl}
theorem Kn.up (G:Kn P w K mg base CX j x ps sp) (h:j ≤ k):Kn P w K mg base CX k x ps sp:=let ⟨⟨f,fd,F,m⟩⟩:=G;⟨⟨f,fd,F.mono h,m⟩⟩
theorem ent {h:Heap} (X:K.In h) (G:h.Ns mainGlobals mg) (e:Fh K x st) (hb:∀ (kV doc pm:Value) (an:Option Addr) (cdv ct:Value) (us:List Value),us.length=ps.length->bindArgs (PySem.W.fnOf x x (eP st) (bG st) (ak st) .none kV doc pm an cdv ct) ⟨us,[]⟩=pure (ps.zip us)):Ent K mg x ps st:= by
 obtain ⟨⟨f,oc,od,kV,dc,pm,an,cd,ct,sl,a,l,c,k⟩⟩:=e
 have F:=vK (st:=st) l c k
 exact ⟨⟨f,_,F,PySem.W.mg_of X G a,F.binds hb⟩⟩
theorem qC (E:Ent K mg x ps st) (S:az N ps (ak st)) (hb:∀ (f:Addr) (cdv:Value) (A:Around) (outer:List Env) (s:Shared) (H:Hp) (E:XK),bU k (A.deeper (PyProof.Rows.envOfC x (ak st) s.heap.objs.size f cdv))->og (gZ cV P w K mg base N x (ak st) f cdv A outer s H E).nox (bG st) body) :
  Kn P w K mg base cV (k + 1) x ps (jX ps.length (aU N body)):=let ⟨⟨f,fd,F,m,b⟩⟩:=E;⟨⟨f,fd,Hs F S (hb f),m,F.kp,b⟩⟩
theorem Gi (E:Ent K mg x ps st) (S:az N ps (ak st)) (hb:∀ (f:Addr) (cdv:Value) (A:Around) (outer:List Env) (s:Shared) (H:Hp) (E:XK),bU k (A.deeper (PyProof.Rows.envOfC x (ak st) s.heap.objs.size f cdv))->og (gZ cV P w K mg base N x (ak st) f cdv A outer s H E).nox (bG st) body) :
  Kn P w K mg base cV (k + 1) x ps (uW ps.length (eF N body)):=let ⟨⟨f,fd,F,m,b⟩⟩:=E;⟨⟨f,fd,HV F S (hb f),m,F.kp,b⟩⟩
theorem Eh (E:Ent K mg x ps st) (S:az N ps (ak st)) (hb:∀ (f:Addr) (cdv:Value) (A:Around) (outer:List Env) (s:Shared) (H:Hp) (E:XK),bU k (A.deeper (PyProof.Rows.envOfC x (ak st) s.heap.objs.size f cdv))->og (gZ cV P w K mg base N x (ak st) f cdv A outer s H E).nox (bG st) body) :
  Kn P w K mg base cV (k + 1) x ps (ym ps.length (bL N body)):=let ⟨⟨f,fd,F,m,b⟩⟩:=E;⟨⟨f,fd,HL F S (hb f),m,F.kp,b⟩⟩
theorem zJ {n:Nat} (E:Ent K mg x ps st):Kn P w K mg base cV k x ps (uW n fun _=>none):=let ⟨⟨f,fd,F,m,b⟩⟩:=E;⟨⟨f,fd,AE,m,F.kp,b⟩⟩
theorem Ho {h:Heap} {l:PySem.W.OpenLaw} {fa:Addr} {st:Stmt} (X:K.In h) (G:h.Ns mainGlobals mg) (hfa:mg "law" = some (.ref fa)) (e:Fh K "law" st) (hb:∀ (kV dc pm:Value) (an:Option Addr) (cd ct:Value) (s:Shared) (v:Value),BindsTo s (PySem.W.fnOf "law" "law" (eP st) (bG st) (ak st) .none kV dc pm an cd ct) ⟨[v],[]⟩ [("_law_script",v)])
  {N:List Str} {body:M Fl} (S:az N ["_law_script"] (ak st))
  (hG:∀ (base:Heap) (f:Addr) (cdv:Value) (A:Around) (outer:List Env) (s:Shared) (H:Hp) (E:XK),bU k (A.deeper (PyProof.Rows.envOfC "law" (ak st) s.heap.objs.size f cdv))->og (gZ cV l.prog w K mg base N "law" (ak st) f cdv A outer s H E).nox (bG st) body)
  {Sq:Sp} (hS:∀ base f fd,c9 l.prog w K mg base cV (k + 1) f fd ["_law_script"] (jX 1 (aU N body))->c9 l.prog w K mg base cV (k + 1) f fd ["_law_script"] Sq) :
  ∃ fd:FuncData,(∀ (s:Shared) (v:Value),BindsTo s fd ⟨[v],[]⟩ [("_law_script",v)])∧∀ base:Heap,K.In base->base.Ns mainGlobals mg->c9 l.prog w K mg base cV (k + 1) fa fd ["_law_script"] Sq:= by
 obtain ⟨⟨f,oc,od,kV,dc,pm,an,cd,ct,sl,a,l,c,kp⟩⟩:=e
 have e:=hfa.symm.trans (PySem.W.mg_of X G a)
 cases e
 exact ⟨_,hb kV dc pm an cd ct,fun base _ _=>hS base _ _ (Hs (vK (st:=st) l c kp) S (hG base fa))⟩
end
section
variable {X:Cx} {k:Nat} {x:Str} {ps:List Str} {a:Expr} {es:List Expr} {fs:M (List D)} {p pos:Pos}
theorem aR {mf:List D->Option D} {n:Nat} (G:Kn X.prog X.w X.K X.mg X.base cV k x ps (jX n mf)) (hr:bU k X.A) (ha:DA X (a :: es) fs)
  (hg:Gl X x:=by rfl) (hdb:(x == ("__debug__":Str))=false:=by decide) (he:starEach (a :: es) X.env=(false,eval a X.env) :: starEach es X.env:=by rfl) (hpl:(backTo pos (starEach es X.env)).any (·.1)=false:=by rfl) :
  DE X (.Call (.Name x p) (a :: es) [] pos) (mC (fun ds=>if ds.length=n then mf ds else none) fs):=let ⟨⟨_,_,F,m,c,b⟩⟩:=G;yF F hr m c b ha hg hdb he hpl
theorem fg {mf:List D->Option (List D)} {n:Nat} (G:Kn X.prog X.w X.K X.mg X.base cV k x ps (uW n mf)) (hr:bU k X.A) (ha:DA X (a :: es) fs)
  (hg:Gl X x:=by rfl) (hdb:(x == ("__debug__":Str))=false:=by decide) (he:starEach (a :: es) X.env=(false,eval a X.env) :: starEach es X.env:=by rfl) (hpl:(backTo pos (starEach es X.env)).any (·.1)=false:=by rfl) :
  DF X (.Call (.Name x p) (a :: es) [] pos) (mC (fun ds=>if ds.length=n then mf ds else none) fs):=let ⟨⟨_,_,F,m,c,b⟩⟩:=G;zE F hr m c b ha hg hdb he hpl
theorem aH (i:Nat) {mf:List D->List D->Option (D × List D)} {n:Nat} {y:Str} {py:Pos} (G:Kn X.prog X.w X.K X.mg X.base cV k x ps (ym n mf)) (hr:bU k X.A) (ha:DA X es fs)
  (hN:X.N[i]? = some y:=by rfl) (hv:pk X.env.scope y:=by first | exact Or.inl rfl | exact Or.inr (Or.inl rfl) | exact Or.inr (Or.inr rfl)) (hd:(y == ("__debug__":Str))=false:=by decide) (hcd:(y == ("__classdict__":Str))=false:=by decide)
  (hg:Gl X x:=by rfl) (hdb:(x == ("__debug__":Str))=false:=by decide) (he:starEach (.Name y py :: es) X.env=(false,eval (.Name y py) X.env) :: starEach es X.env:=by rfl) (hpl:(backTo pos (starEach es X.env)).any (·.1)=false:=by rfl) :
  DE X (.Call (.Name x p) (.Name y py :: es) [] pos) (do let _ <- aO i;cq i n mf fs):=let ⟨⟨_,_,F,m,c,b⟩⟩:=G;uy i F hr m c b ha hN hv hd hcd hg hdb he hpl
end
end Jt
namespace L2
open PySem
def Cz (h:Heap) (d:Addr):Prop:=∃ o es,h.get? d=some o∧o.data=.dict es es.size
theorem Cz.of {h:Heap} {d:Addr} {o:Obj} {es:Array DictEntry} {n:Nat} (h1:h.get? d=some o) (h2:o.data=.dict es n) (h3:n=es.size):Cz h d:=⟨o,es,h1,h3 ▸ h2⟩
section
variable {prog:Program} {w:World} {K:Type} [DecidableEq K] {knd:HeapKind prog w K} {A:Around} {E:Value->Shared->Prop} {s:Shared}
theorem kX {d a:Addr} {xs:List (K × Addr × Value)} {k:K} {v:Value} {Q:Unit->Shared->Prop} (hu:knd.room A) (hkey:knd.is s.heap k a) (hm:s.heap.DictOfH knd d xs) (hep:Cz s.heap d)
  (hQ:∀ h',h'.DictOfH knd d (storedH xs k a v)->Cz h' d->Heap.SameBut d s.heap h' -> Q () { s with heap:=h',toks:=s.toks + knd.draws k })
  (hsz:xs.length ≤ sizeLine:=by size_fits) :
  wpAny (model prog w) A (dictSet d (.ref a) v) Q E s:= by
 obtain ⟨o,es,ep,ho,hc,hd,he,his,hn⟩:=hm
 obtain ⟨o2,es2,ho2,hd2⟩:=hep
 rw [ho] at ho2
 cases ho2
 rw [hd] at hd2
 cases hd2
 unfold dictSet
 try with_reducible refine wpAny_holding ?_
 refine wpAny_bind (knd.pyHash hu hkey ?_)
 unfold dictSetHashed
 try with_reducible refine wpAny_holding ?_
 refine wpAny_bind (wpAny_dictFind_heap (s:={ s with toks:=s.toks + knd.draws k }) hu hkey ho hd he his hn ?_ ?_)
 ·intro hno
  have hnot:k ∉ xs.map (·.1):=not_mem_keys_of_get hno
  refine wpAny_bind (wpAny_rule (wpAny_updateDictKeys (hz:=by have e:=size_of_entries he;omega) (s:={ s with toks:=s.toks + knd.draws k }) ho hd (hQ _ ⟨_,_,es.size + 1,Heap.get?_update_self _ ho (Obj.isFreed_of_dict (Obj.data_mapDictKeys hd _)),
   hc.mapDictKeys _,Obj.data_mapDictKeys hd _,?_,?_,?_⟩ (.of (Heap.get?_update_self _ ho (Obj.isFreed_of_dict (Obj.data_mapDictKeys hd _))) (Obj.data_mapDictKeys hd _) ?_) (Heap.SameBut.update ..))))
  ·rw [storedH_new (atKey_none_of_get hno)]
   simp [he,entryOfKey]
  ·rw [storedH_new (atKey_none_of_get hno)]
   intro x hx
   rcases List.mem_append.mp hx with hx | hx
   ·exact knd.keeps (his x hx) ho hd (Heap.SameBut.update ..)
   ·simp only [List.mem_singleton] at hx
    subst hx
    exact knd.keeps hkey ho hd (Heap.SameBut.update ..)
  ·rw [storedH_new (atKey_none_of_get hno)]
   rw [List.map_append,List.nodup_append]
   refine ⟨hn,by simp,?_⟩
   intro x hx y hy
   simp only [List.map_cons,List.map_nil,List.mem_singleton] at hy
   subst hy
   exact fun e=>hnot (e ▸ hx)
  ·simp
 ·intro j p hj
  refine wpAny_bind (wpAny_rule (wpAny_bind (wpAny_updateDict (s:={ s with toks:=s.toks + knd.draws k }) ho hd (wpAny_point (hQ _ ⟨_,_,es.size,Heap.get?_update_self _ ho (Obj.isFreed_of_dict (Obj.data_mapDict hd _)),
   hc.mapDict _,Obj.data_mapDict hd _,?_,?_,?_⟩ (.of (Heap.get?_update_self _ ho (Obj.isFreed_of_dict (Obj.data_mapDict hd _))) (Obj.data_mapDict hd _) ?_) (Heap.SameBut.update ..))))))
  ·rw [storedH_old (atKey_of_get hn hj)]
   have:=modify_map_putAt (entryOfKey knd) (fun e:DictEntry=>{ e with val:=v }) k v (fun _ _=>rfl) hn hj
   rw [<- he] at this
   obtain ⟨l⟩:=es
   simpa using this
  ·rw [storedH_old (atKey_of_get hn hj)]
   intro x hx
   obtain ⟨y,hy,rfl⟩:=List.mem_map.mp hx
   unfold putAt
   split <;> exact knd.keeps (his y hy) ho hd (Heap.SameBut.update ..)
  ·rw [storedH_old (atKey_of_get hn hj)]
   rw [keys_map_putAt];exact hn
  ·simp
theorem qR {d a:Addr} {xs:List (K × Addr × Value)} {k:K} {v:Value} {Q:Unit->Shared->Prop} (hu:knd.room A.in1) (hkey:knd.is s.heap k a) (hm:s.heap.DictOfH knd d xs) (hep:Cz s.heap d)
  (hQ:∀ h',h'.DictOfH knd d (storedH xs k a v)->Cz h' d->Heap.SameBut d s.heap h' -> Q () { s with heap:=h',toks:=s.toks + knd.draws k })
  (hsz:xs.length ≤ sizeLine:=by size_fits) :
  wpAny (model prog w) A (setItem (.ref d) (.ref a) v) Q E s:= by
 unfold setItem
 try with_reducible refine wpAny_holding ?_
 refine wpAny_bind (wpAny_sequenceKey hm.typeIs (by decide) ?_)
 refine wpAny_bind (wpAny_callSpecial?_slot (name:=Str.ofString "__setitem__") hm.typeIs slot_dict_setitem
  (wpAny_call_entry slot_dict_setitem hm.typeIs entry_dict_setitem ?_ (args_dict_setitem _ _ _)))
 show wpAny _ _ (Builtin.Dict.notOrdered "__setitem__" ⟨[.ref d,.ref a,v],[]⟩ >>= _) _ _ s
 refine wpAny_bind (wpAny_notOrdered_dict hm.typeIs ?_)
 show wpAny _ _ (dictSet d (.ref a) v >>= _) _ _ s
 exact wpAny_bind (kX (hsz:=hsz) hu hkey hm hep fun h' hm' he' hs'=>wpAny_pure ⟨.none,rfl,wpAny_pure (hQ h' hm' he' hs')⟩)
end
end L2
namespace L2
open PySem PySem.Spec PyProof.Rows
section
variable {κ:Type} [DecidableEq κ]
def valV (kvs:List (κ × V)) (k:κ):Option V:=(kvs.find? fun kv=>decide (kv.1=k)).map (·.2)
def putK (kvs:List (κ × V)) (k:κ) (v:V):List (κ × V) :=
 if (kvs.any fun kv=>decide (kv.1=k))=true then kvs.map (fun kv=>if kv.1=k then (kv.1,v) else kv) else kvs ++ [(k,v)]
def dropK (kvs:List (κ × V)) (k:κ):List (κ × V):=kvs.filter fun kv=>decide (kv.1 ≠ k)
theorem valV_nil {k:κ}:valV ([]:List (κ × V)) k=none:=rfl
theorem valV_pos {p:κ × V} {r:List (κ × V)} {k:κ} (e:p.1=k):valV (p :: r) k=some p.2:=by simp [valV,List.find?_cons,e]
theorem valV_neg {p:κ × V} {r:List (κ × V)} {k:κ} (e:¬ p.1=k):valV (p :: r) k=valV r k:=by simp [valV,List.find?_cons,e]
theorem valV_any (k:κ):∀ kvs:List (κ × V),(kvs.any fun kv=>decide (kv.1=k))=(valV kvs k).isSome
 | []=>rfl
 | p :: r=>by
  rw [List.any_cons]
  by_cases e:p.1=k
  ·simp only [valV_pos e,decide_eq_true e,Bool.true_or,Option.isSome_some]
  ·rw [valV_neg e,decide_eq_false e,Bool.false_or];exact valV_any k r
theorem valV_map (k j:κ) (y:V):∀ kvs:List (κ × V),valV (kvs.map fun kv=>if kv.1=k then (kv.1,y) else kv) j=(valV kvs j).map fun x=>if j=k then y else x
 | []=>rfl
 | p :: r=>by
  have ih:=valV_map k j y r
  rw [List.map_cons]
  by_cases h:p.1=k
  ·rw [if_pos h]
   by_cases e:p.1=j
   ·rw [valV_pos (p:=(p.1,y)) e,valV_pos e,Option.map_some,if_pos (e.symm.trans h)]
   ·rw [valV_neg (p:=(p.1,y)) e,valV_neg e,ih]
  ·rw [if_neg h]
   by_cases e:p.1=j
   ·rw [valV_pos (p:=p) e,valV_pos e,Option.map_some,if_neg (fun z=>h (e.trans z))]
   ·rw [valV_neg (p:=p) e,valV_neg e,ih]
theorem valV_snoc (k j:κ) (y:V):∀ kvs:List (κ × V),valV kvs k=none->valV (kvs ++ [(k,y)]) j=if j=k then some y else valV kvs j
 | [],_=>by
  by_cases e:k=j
  ·rw [if_pos e.symm];exact valV_pos (p:=(k,y)) e
  ·rw [if_neg (fun z=>e z.symm)];exact valV_neg (p:=(k,y)) e
 | p :: r,hn=>by
  rw [List.cons_append]
  have hk:¬ p.1=k:=fun z=>by rw [valV_pos z] at hn;cases hn
  rw [valV_neg hk] at hn
  have ih:=valV_snoc k j y r hn
  by_cases e:p.1=j
  ·rw [valV_pos e,valV_pos e,if_neg (fun z=>hk (e.trans z))]
  ·rw [valV_neg e,valV_neg e,ih]
theorem valV_put (kvs:List (κ × V)) (k j:κ) (y:V):valV (putK kvs k y) j=if j=k then some y else valV kvs j:= by
 unfold putK
 by_cases a:(kvs.any fun kv=>decide (kv.1=k))=true
 ·rw [if_pos a,valV_map]
  rw [valV_any] at a
  by_cases e:j=k
  ·obtain ⟨x,hx⟩:=Option.isSome_iff_exists.mp a
   rw [if_pos e,e,hx,Option.map_some,if_pos rfl]
  ·rw [if_neg e]
   cases valV kvs j with
   | none=>rfl
   | some x=>rw [Option.map_some,if_neg e]
 ·rw [if_neg a]
  refine valV_snoc k j y kvs ?_
  rw [valV_any] at a
  cases q:valV kvs k with
  | none=>rfl
  | some x=>rw [q] at a;exact (a rfl).elim
theorem length_putK (kvs:List (κ × V)) (k:κ) (v:V):(putK kvs k v).length ≤ kvs.length + 1:= by
 unfold putK
 split
 ·rw [List.length_map];omega
 ·rw [List.length_append,List.length_cons,List.length_nil];omega
theorem putK_new {kvs:List (κ × V)} {k:κ} (v:V) (h:valV kvs k=none):putK kvs k v=kvs ++ [(k,v)]:= by
 unfold putK
 rw [valV_any,h]
 exact if_neg (by decide)
theorem RelO.isSome_eq {o:Option V} {u:Option Value} (r:RelO o u):o.isSome=u.isSome:= by
 cases o with
 | none=>cases u with
  | none=>rfl
  | some _=>exact (show False from r).elim
 | some _=>cases u with
  | none=>exact (show False from r).elim
  | some _=>rfl
theorem RelO.getD {o:Option V} {u:Option Value} {d:V} {d':Value} (r:RelO o u) (rd:RelV d d'):RelV (o.getD d) (u.getD d'):= by
 cases o with
 | none=>cases u with
  | none=>exact rd
  | some _=>exact (show False from r).elim
 | some _=>cases u with
  | none=>exact (show False from r).elim
  | some _=>exact r
theorem KV.val {kvs:List (κ × V)} {vs:List (κ × Value)} (r:KV kvs vs) (k:κ):RelO (valV kvs k) (valueAt vs k):= by
 unfold KV at r
 induction r with
 | nil=>exact True.intro
 | @cons p q ps qs h t ih=>
  obtain ⟨h1,h2⟩:=h
  by_cases e:p.1=k
  ·have e':q.1=k:=h1.symm.trans e
   have b:valueAt (q :: qs) k=some q.2:=by simp [valueAt,List.find?_cons,e']
   rw [valV_pos e,b];exact h2
  ·have e':¬ q.1=k:=fun z=>e (h1.trans z)
   have b:valueAt (q :: qs) k=valueAt qs k:=by simp [valueAt,List.find?_cons,e']
   rw [valV_neg e,b];exact ih
theorem KV.any {kvs:List (κ × V)} {vs:List (κ × Value)} (r:KV kvs vs) (k:κ):(kvs.any fun kv=>decide (kv.1=k))=vs.any fun kv=>decide (kv.1=k):= by
 unfold KV at r
 induction r with
 | nil=>rfl
 | cons h t ih=>rw [List.any_cons,List.any_cons,ih,h.1]
theorem KV.repl {kvs:List (κ × V)} {vs:List (κ × Value)} (r:KV kvs vs) (k:κ) {y:V} {u:Value} (ry:RelV y u) :
  KV (kvs.map fun kv=>if kv.1=k then (kv.1,y) else kv) (vs.map fun kv=>if kv.1=k then (kv.1,u) else kv):= by
 unfold KV at r ⊢
 induction r with
 | nil=>exact .nil
 | @cons p q ps qs h t ih=>
  rw [List.map_cons,List.map_cons]
  refine .cons ?_ ih
  obtain ⟨h1,h2⟩:=h
  by_cases e:p.1=k
  ·rw [if_pos e,if_pos (h1.symm.trans e)];exact ⟨h1,ry⟩
  ·rw [if_neg e,if_neg (fun z=>e (h1.trans z))];exact ⟨h1,h2⟩
theorem KV.put {kvs:List (κ × V)} {vs:List (κ × Value)} (r:KV kvs vs) (k:κ) {y:V} {u:Value} (ry:RelV y u):KV (putK kvs k y) (stored vs k u):= by
 unfold putK stored
 rw [r.any k]
 by_cases e:(vs.any fun kv=>decide (kv.1=k))=true
 ·rw [if_pos e,if_pos e];exact r.repl k ry
 ·rw [if_neg e,if_neg e];exact Paired.snoc r ⟨rfl,ry⟩
theorem KV.drop {kvs:List (κ × V)} {vs:List (κ × Value)} (r:KV kvs vs) (k:κ):KV (dropK kvs k) (without vs k):= by
 unfold KV at r ⊢
 unfold dropK without
 induction r with
 | nil=>exact .nil
 | @cons p q ps qs h t ih=>
  obtain ⟨h1,h2⟩:=h
  rw [List.filter_cons,List.filter_cons]
  by_cases e:p.1=k
  ·have a:¬ decide (p.1 ≠ k)=true:=by simp [e]
   have b:¬ decide (q.1 ≠ k)=true:=by simp [h1.symm.trans e]
   rw [if_neg a,if_neg b];exact ih
  ·have e':¬ q.1=k:=fun z=>e (h1.trans z)
   have a:decide (p.1 ≠ k)=true:=by simp [e]
   have b:decide (q.1 ≠ k)=true:=by simp [e']
   rw [if_pos a,if_pos b];exact .cons ⟨h1,h2⟩ ih
theorem KV.keys {kvs:List (κ × V)} {vs:List (κ × Value)} (r:KV kvs vs):kvs.map (·.1)=vs.map (·.1):= by
 unfold KV at r
 induction r with
 | nil=>rfl
 | cons h t ih=>rw [List.map_cons,List.map_cons,ih,h.1]
theorem KV.length {kvs:List (κ × V)} {vs:List (κ × Value)} (r:KV kvs vs):kvs.length=vs.length:=Paired.length r
theorem dropK_le (kvs:List (κ × V)) (k:κ):(dropK kvs k).length ≤ kvs.length:=List.length_filter_le _ _
end
theorem kV_is {P:Program} {w:World} {k:Key} {u:Value} (r:RelV (kV k) u):(a0 P w).is k u=true:= by
 cases k with
 | inl i=>obtain ⟨t,e⟩:=(show ∃ t,u=Value.int i t from r);subst e;exact pW P w i t
 | inr x=>obtain ⟨t,e⟩:=(show ∃ t,u=Value.str x t from r);subst e;exact oT P w x t
theorem kV_inj {a b:Key} (e:kV a=kV b):a=b:= by
 cases a with
 | inl i=>cases b with
  | inl j=>have e':V.int i=V.int j:=e;injection e' with e';rw [e']
  | inr y=>exact nomatch (show V.int i=V.str y from e)
 | inr x=>cases b with
  | inl j=>exact nomatch (show V.str x=V.int j from e)
  | inr y=>have e':V.str x=V.str y:=e;injection e' with e';rw [e']
theorem kVs_inj:∀ {a b:List Key},a.map kV=b.map kV->a=b
 | [],[],_=>rfl
 | [],_ :: _,e=>by simp at e
 | _ :: _,[],e=>by simp at e
 | x :: xs,y :: ys,e=>by
  rw [List.map_cons,List.map_cons] at e
  injection e with e1 e2
  rw [kV_inj e1,kVs_inj e2]
theorem items_are {P:Program} {w:World}:∀ {ks:List Key} {us:List Value},Vals (ks.map kV) us->ItemsAre (a0 P w) ks us
 | [],_,r=>by rw [List.map_nil] at r;cases r;exact .nil
 | k :: ks,_,r=>by
  rw [List.map_cons] at r
  cases r with
  | cons h t=>exact .cons (kV_is h) (items_are t)
abbrev KT (H:Hp):List (List Key × V)->List (List Key × Addr × Value)->Prop:=Paired fun p q=>p.1=q.1∧H q.2.1=some (.tup (p.1.map kV))∧RelV p.2 q.2.2
theorem KT.val {H:Hp} {kvs:List (List Key × V)} {xs:List (List Key × Addr × Value)} (r:KT H kvs xs) (k:List Key):RelO (valV kvs k) ((atKey xs k).map (·.2)):= by
 induction r with
 | nil=>exact True.intro
 | @cons p q ps qs h t ih=>
  obtain ⟨h1,_,h2⟩:=h
  by_cases e:p.1=k
  ·have e':q.1=k:=h1.symm.trans e
   have b:atKey (q :: qs) k=some q.2:=by simp [atKey,List.find?_cons,e']
   rw [valV_pos e,b];exact h2
  ·have e':¬ q.1=k:=fun z=>e (h1.trans z)
   have b:atKey (q :: qs) k=atKey qs k:=by simp [atKey,List.find?_cons,e']
   rw [valV_neg e,b];exact ih
theorem KT.repl {H:Hp} {kvs:List (List Key × V)} {xs:List (List Key × Addr × Value)} (r:KT H kvs xs) (k:List Key) {y:V} {u:Value} (ry:RelV y u) :
  KT H (kvs.map fun kv=>if kv.1=k then (kv.1,y) else kv) (xs.map (putAt k u)):= by
 induction r with
 | nil=>exact .nil
 | @cons p q ps qs h t ih=>
  rw [List.map_cons,List.map_cons]
  refine .cons ?_ ih
  obtain ⟨h1,h2,h3⟩:=h
  unfold putAt
  by_cases e:p.1=k
  ·rw [if_pos e,if_pos (h1.symm.trans e)];exact ⟨h1,h2,ry⟩
  ·rw [if_neg e,if_neg (fun z=>e (h1.trans z))];exact ⟨h1,h2,h3⟩
theorem KT.put {H:Hp} {kvs:List (List Key × V)} {xs:List (List Key × Addr × Value)} (r:KT H kvs xs) (k:List Key) {b:Addr} {y:V} {u:Value} (hb:H b=some (.tup (k.map kV))) (ry:RelV y u) :
  KT H (putK kvs k y) (storedH xs k b u):= by
 have e:(kvs.any fun kv=>decide (kv.1=k))=(atKey xs k).isSome:= by
  rw [valV_any,(r.val k).isSome_eq,Option.isSome_map]
 unfold putK storedH
 rw [e]
 by_cases q:(atKey xs k).isSome=true
 ·rw [if_pos q,if_pos q];exact r.repl k ry
 ·rw [if_neg q,if_neg q];exact Paired.snoc r ⟨rfl,hb,ry⟩
theorem KT.keeps {H H':Hp} {kvs:List (List Key × V)} {xs:List (List Key × Addr × Value)} (r:KT H kvs xs) (ht:∀ b ys,H b=some (.tup ys)->H' b=some (.tup ys)):KT H' kvs xs :=
 Paired.mapP r fun _ _ z=>⟨z.1,ht _ _ z.2.1,z.2.2⟩
section
variable {P:Program} {w:World} {H:Hp} {h:Heap} {a:Addr}
theorem rd_of {u:HO} (ok:g8 P w H h) (e:Rd H a u):bK P w H h a u:=e.ok ok
theorem dk_rd {kvs:List (Key × V)} (ok:g8 P w H h) (e:Rd H a (.dK kvs)):kvs.length ≤ sizeLine∧(a == sysModules)=false∧∃ vs,KV kvs vs∧h.DictOf (a0 P w) a vs :=
 show bK P w H h a (.dK kvs) from rd_of ok e
theorem dk_of {kvs:List (Key × V)} (ok:g8 P w H h) (e:H a=some (.dK kvs)):kvs.length ≤ sizeLine∧(a == sysModules)=false∧∃ vs,KV kvs vs∧h.DictOf (a0 P w) a vs:=dk_rd ok (.inl e)
theorem key_of {ks:List Key} (ok:g8 P w H h) (e:H a=some (.tup (ks.map kV))):(tupleKind (a0 P w)).is h ks a:= by
 obtain ⟨_,its,r,⟨o,h1,h2,n,h3⟩,_⟩:=(show bK P w H h a (.tup (ks.map kV)) from ok a _ e)
 exact ⟨o,its.toArray,n,h1,h2,h3,by simpa using items_are r⟩
theorem dt_rd {kvs:List (List Key × V)} (ok:g8 P w H h) (e:Rd H a (.dT kvs)):kvs.length ≤ sizeLine∧(a == sysModules)=false ∧
  ∃ xs,KT H kvs xs∧h.DictOfH (tupleKind (a0 P w)) a xs:= by
 obtain ⟨z,y,xs,r,o,es,ep,h1,h2,h3,h4,h5⟩:=(show bK P w H h a (.dT kvs) from rd_of ok e)
 refine ⟨z,y,xs,r,o,es,ep,h1,h2,h3,h4,fun x hx=>?_,h5.1⟩
 have all:∀ {l:List (List Key × V)} {m:List (List Key × Addr × Value)},KT H l m->∀ x ∈ m,(tupleKind (a0 P w)).is h x.1 x.2.1:= by
  intro l m q
  induction q with
  | nil=>intro x hx;exact nomatch hx
  | @cons p q ps qs hq t ih=>
   intro x hx
   rcases List.mem_cons.mp hx with e | hx
   ·subst e
    exact key_of ok (by rw [<- hq.1];exact hq.2.1)
   ·exact ih x hx
 exact all r x hx
theorem dt_of {kvs:List (List Key × V)} (ok:g8 P w H h) (e:H a=some (.dT kvs)):kvs.length ≤ sizeLine∧(a == sysModules)=false ∧
  ∃ xs,KT H kvs xs∧h.DictOfH (tupleKind (a0 P w)) a xs:=dt_rd ok (.inl e)
end
theorem dt_ep {P:Program} {w:World} {H:Hp} {h:Heap} {a:Addr} {kvs:List (List Key × V)} (ok:g8 P w H h) (e:Rd H a (.dT kvs)):Cz h a:= by
 obtain ⟨z,y,xs,r,o,es,ep,h1,h2,h3,h4,h5,h6⟩:=(show bK P w H h a (.dT kvs) from rd_of ok e)
 exact .of h1 h3 h6
def DGet (H:Hp) (a:Addr) (y:V) (r:Option V):Prop :=
 (∃ kvs k,Rd H a (.dK kvs)∧y=kV k∧r=valV kvs k) ∨ ∃ kvs k b,Rd H a (.dT kvs)∧y=.ref b∧H b=some (.tup (k.map kV))∧r=valV kvs k
def DPut (H:Hp) (a:Addr) (y v:V) (H':Hp):Prop :=
 (∃ kvs k,H a=some (.dK kvs)∧y=kV k∧kvs.length < sizeLine∧H' = upd H a (.dK (putK kvs k v))) ∨
 ∃ kvs k b,H a=some (.dT kvs)∧y=.ref b∧H b=some (.tup (k.map kV))∧kvs.length < sizeLine∧H' = upd H a (.dT (putK kvs k v))
theorem DGet.k {H:Hp} {a:Addr} {kvs:List (Key × V)} {k:Key} (e:H a=some (.dK kvs)):DGet H a (kV k) (valV kvs k):=.inl ⟨kvs,k,.inl e,rfl,rfl⟩
theorem DGet.t {H:Hp} {a b:Addr} {kvs:List (List Key × V)} {k:List Key} (e:H a=some (.dT kvs)) (eb:H b=some (.tup (k.map kV))):DGet H a (.ref b) (valV kvs k):=.inr ⟨kvs,k,b,.inl e,rfl,eb,rfl⟩
theorem DPut.k {H:Hp} {a:Addr} {kvs:List (Key × V)} {k:Key} {v:V} (e:H a=some (.dK kvs)) (hl:kvs.length < sizeLine):DPut H a (kV k) v (upd H a (.dK (putK kvs k v))):=.inl ⟨kvs,k,e,rfl,hl,rfl⟩
theorem DPut.t {H:Hp} {a b:Addr} {kvs:List (List Key × V)} {k:List Key} {v:V} (e:H a=some (.dT kvs)) (eb:H b=some (.tup (k.map kV))) (hl:kvs.length < sizeLine) :
  DPut H a (.ref b) v (upd H a (.dT (putK kvs k v))):=.inr ⟨kvs,k,b,e,rfl,eb,hl,rfl⟩
section
variable {X:Cx} {pins:List (Addr × Obj)} {σ:St} {H:Hp} {s:Shared} {a:Addr} {y v:V} {u r:Value} {o:Option V} {A:Around} {E:Value->Shared->Prop}
theorem Inv.big (I:Inv X pins σ H s):sysModules < s.heap.objs.size:= by
 have h:mainGlobals < s.heap.objs.size:=(I.mod.glob.keeps I.bk).lt
 exact Nat.lt_trans (by decide) h
theorem d_getItem {Q:Value->Shared->Prop} (hu:A.units + 1 < cLine) (I:Inv X pins σ H s) (g:DGet H a y (some v)) (ry:RelV y u) (h:∀ w' s',Inv X pins σ H s' -> RelV v w' -> Q w' s') :
  wpAny (model X.prog X.w) A (getItem (.ref a) u) Q E s:= by
 rcases g with ⟨kvs,k,e,ey,l⟩ | ⟨kvs,k,b,e,ey,eb,l⟩
 ·subst ey
  obtain ⟨z,hd,vs,rel,dd⟩:=dk_rd I.hok e
  obtain ⟨w',hw,rw'⟩:=RelO.some_of (v:=v) (o:=valueAt vs k) (by rw [l];exact rel.val k)
  exact wpAny_getItem_of (kV_is ry) dd.mapOf hw (h w' _ (I.tok _) rw')
 ·subst ey
  cases (show u=Value.ref b from ry)
  obtain ⟨z,hd,xs,rel,dd⟩:=dt_rd I.hok e
  obtain ⟨w',hw,rw'⟩:=RelO.some_of (v:=v) (o:=(atKey xs k).map (·.2)) (by rw [l];exact rel.val k)
  obtain ⟨p,hp,hp2⟩:=Option.map_eq_some_iff.mp hw
  refine wpAny_getItem_heap (tupleKind_room_in1 hu) (key_of I.hok eb) dd hp ?_
  rw [hp2]
  exact h w' _ (I.tok _) rw'
theorem d_in {Q:Value->Shared->Prop} (hu:A.units + 1 < cLine) (I:Inv X pins σ H s) (g:DGet H a y o) (ry:RelV y u) (h:∀ s',Inv X pins σ H s' -> Q (.bool o.isSome) s') :
  wpAny (model X.prog X.w) A (compareOp .In u (.ref a)) Q E s:= by
 rcases g with ⟨kvs,k,e,ey,l⟩ | ⟨kvs,k,b,e,ey,eb,l⟩
 ·subst ey
  obtain ⟨z,hd,vs,rel,dd⟩:=dk_rd I.hok e
  refine wpAny_in_of (kV_is ry) hd dd.mapOf ?_
  rw [<- (rel.val k).isSome_eq,<- l]
  exact h _ (I.tok _)
 ·subst ey
  cases (show u=Value.ref b from ry)
  obtain ⟨z,hd,xs,rel,dd⟩:=dt_rd I.hok e
  refine wpAny_in_heap (tupleKind_room_in1 hu) (key_of I.hok eb) hd dd ?_
  have q:=(rel.val k).isSome_eq
  rw [Option.isSome_map] at q
  rw [<- q,<- l]
  exact h _ (I.tok _)
theorem d_notIn {Q:Value->Shared->Prop} (hu:A.units + 1 < cLine) (I:Inv X pins σ H s) (g:DGet H a y o) (ry:RelV y u) (h:∀ s',Inv X pins σ H s' -> Q (.bool (!o.isSome)) s') :
  wpAny (model X.prog X.w) A (compareOp .NotIn u (.ref a)) Q E s:= by
 rcases g with ⟨kvs,k,e,ey,l⟩ | ⟨kvs,k,b,e,ey,eb,l⟩
 ·subst ey
  obtain ⟨z,hd,vs,rel,dd⟩:=dk_rd I.hok e
  refine wpAny_notIn_of (kV_is ry) hd dd.mapOf ?_
  rw [<- (rel.val k).isSome_eq,<- l]
  exact h _ (I.tok _)
 ·subst ey
  cases (show u=Value.ref b from ry)
  obtain ⟨z,hd,xs,rel,dd⟩:=dt_rd I.hok e
  refine wpAny_notIn_heap (tupleKind_room_in1 hu) (key_of I.hok eb) hd dd ?_
  have q:=(rel.val k).isSome_eq
  rw [Option.isSome_map] at q
  rw [<- q,<- l]
  exact h _ (I.tok _)
theorem d_write {h':Heap} {t':Nat} {ob:HO} (I:Inv X pins σ H s) (mu:EE (H a)) (hs:Heap.SameBut a s.heap h') (he:∃ q,h'.get? a=some q) (new:bK X.prog X.w (upd H a ob) h' a ob) :
  Inv X pins σ (upd H a ob) { s with heap:=h',toks:=t' } :=
 I.write (x:=a) (e:=a) mu (.inl rfl) (fun b q hb z=>(hs.2 b hb).trans z) he new
theorem dk_new {P:Program} {w:World} {H':Hp} {h':Heap} {kvs:List (Key × V)} {vs:List (Key × Value)} (z:kvs.length ≤ sizeLine) (hd:(a == sysModules)=false) (rel:KV kvs vs) (dd:h'.DictOf (a0 P w) a vs) :
  bK P w H' h' a (.dK kvs):=⟨z,hd,vs,rel,dd⟩
theorem d_setItem {H':Hp} {Q:Unit->Shared->Prop} (hu:A.units + 1 < cLine) (I:Inv X pins σ H s) (g:DPut H a y v H') (ry:RelV y u) (rv:RelV v r) (h:∀ s',Inv X pins σ H' s' -> Q () s') :
  wpAny (model X.prog X.w) A (setItem (.ref a) u r) Q E s:= by
 rcases g with ⟨kvs,k,e,ey,l,eH⟩ | ⟨kvs,k,b,e,ey,eb,l,eH⟩
 ·subst ey eH
  obtain ⟨z,hd,vs,rel,dd⟩:=dk_of I.hok e
  have hz:vs.length ≤ sizeLine:=by rw [<- rel.length];exact z
  have hl:(putK kvs k v).length ≤ sizeLine:=by have:=length_putK kvs k v;omega
  refine wpAny_setItem_pairs (hsz:=hz) (kV_is ry) dd fun h' dd' hs=>h _ ?_
  have he:∃ q,h'.get? a=some q:=let ⟨q,_,_,hq,_⟩:=dd';⟨q,hq⟩
  exact d_write I (by rw [e];exact True.intro) hs he (dk_new hl hd (rel.put k rv) dd')
 ·subst ey eH
  cases (show u=Value.ref b from ry)
  obtain ⟨z,hd,xs,rel,dd⟩:=dt_of I.hok e
  have hz:xs.length ≤ sizeLine:=by rw [<- Paired.length rel];exact z
  have hl:(putK kvs k v).length ≤ sizeLine:=by have:=length_putK kvs k v;omega
  refine qR (hsz:=hz) (tupleKind_room_in1 hu) (key_of I.hok eb) dd (dt_ep I.hok (.inl e)) fun h' dd' de hs=>h _ ?_
  obtain ⟨q,es,ep,hq,h2,h3,h4,_,h5⟩:=dd'
  obtain ⟨q2,es2,hq2,h6⟩:=de
  rw [hq] at hq2
  cases hq2
  rw [h3] at h6
  cases h6
  refine d_write I (by rw [e];exact True.intro) hs ⟨q,hq⟩ ⟨hl,hd,_,(rel.put k eb rv).keeps fun c ys ec=>?_,q,es,_,hq,h2,h3,h4,h5,rfl⟩
  rw [aq (BC ec e (fun z=>nomatch z))]
  exact ec
end
section
variable {X:Cx} {pins:List (Addr × Obj)} {σ:St} {H:Hp} {s:Shared} {a:Addr} {kvs:List (Key × V)} {k:Key} {u:Value} {A:Around} {E:Value->Shared->Prop}
theorem d_delItem {Q:Unit->Shared->Prop} (I:Inv X pins σ H s) (e:H a=some (.dK kvs)) (ry:RelV (kV k) u) (l:(valV kvs k).isSome=true) (h:∀ s',Inv X pins σ (upd H a (.dK (dropK kvs k))) s' -> Q () s') :
  wpAny (model X.prog X.w) A (delItem (.ref a) u) Q E s:= by
 obtain ⟨z,hd,vs,rel,dd⟩:=dk_of I.hok e
 refine wpAny_delItem_slot dd.typeIs (by decide) PySem.F.slot_dict_delitem
  (call_meetsIn PySem.F.slot_dict_delitem dd.typeIs PySem.F.entry_dict_delitem (PySem.F.args_dict_delitem_2 _ _) (meets_dict_delitem_pairs (a0 X.prog X.w) a (kV_is ry)) ⟨vs,dd,by rw [<- rel.length];exact z,by rw [<- (rel.val k).isSome_eq];exact l,fun h' dd' hs=>h _ ?_⟩)
 have he:∃ q,h'.get? a=some q:=let ⟨q,_,_,hq,_⟩:=dd';⟨q,hq⟩
 exact d_write I (by rw [e];exact True.intro) hs he (dk_new (Nat.le_trans (dropK_le kvs k) z) hd (rel.drop k) dd')
theorem d_pop {v:V} {more:List Value} {Q:Value->Shared->Prop} (I:Inv X pins σ H s) (e:H a=some (.dK kvs)) (ry:RelV (kV k) u) (l:valV kvs k=some v) (hm:more=[] ∨ ∃ x,more=[x])
  (h:∀ w' s',Inv X pins σ (upd H a (.dK (dropK kvs k))) s' -> RelV v w' -> Q w' s'):wpAny (model X.prog X.w) A (call (.builtin "dict.pop") (.ref a :: u :: more)) Q E s:= by
 obtain ⟨z,hd,vs,rel,dd⟩:=dk_of I.hok e
 obtain ⟨w',hw,rw'⟩:=RelO.some_of (v:=v) (o:=valueAt vs k) (by rw [<- l];exact rel.val k)
 have hp:(keyPart u).isSome=true:= by
  cases k with
  | inl i=>obtain ⟨t,q⟩:=(show ∃ t,u=Value.int i t from ry);subst q;rfl
  | inr x=>obtain ⟨t,q⟩:=(show ∃ t,u=Value.str x t from ry);subst q;rfl
 have ha:argsOk "dict.pop" ⟨.ref a :: u :: more,[]⟩:= by
  rcases hm with q | ⟨x,q⟩
  ·subst q;exact PySem.F.args_dict_pop_2 _ _
  ·subst q;exact PySem.F.args_dict_pop_3 _ _ _
 refine call_meetsIn PySem.F.slot_dict_pop dd.typeIs PySem.F.entry_dict_pop ha (meets_dict_pop_there (a0 X.prog X.w) a (kV_is ry) more hm hp)
  ⟨vs,w',dd,by rw [<- rel.length];exact z,hw,fun h' dd' hs=>h w' _ ?_ rw'⟩
 have he:∃ q,h'.get? a=some q:=let ⟨q,_,_,hq,_⟩:=dd';⟨q,hq⟩
 exact d_write I (by rw [e];exact True.intro) hs he (dk_new (Nat.le_trans (dropK_le kvs k) z) hd (rel.drop k) dd')
theorem d_popD {r:Value} {Q:Value->Shared->Prop} (I:Inv X pins σ H s) (e:H a=some (.dK kvs)) (ry:RelV (kV k) u) (l:valV kvs k=none) (h:∀ s',Inv X pins σ H s' -> Q r s') :
  wpAny (model X.prog X.w) A (call (.builtin "dict.pop") [.ref a,u,r]) Q E s:= by
 obtain ⟨z,hd,vs,rel,dd⟩:=dk_of I.hok e
 have hn:valueAt vs k=none:=RelO.none_of (by rw [<- l];exact rel.val k)
 have hp:(keyPart u).isSome=true:= by
  cases k with
  | inl i=>obtain ⟨t,q⟩:=(show ∃ t,u=Value.int i t from ry);subst q;rfl
  | inr x=>obtain ⟨t,q⟩:=(show ∃ t,u=Value.str x t from ry);subst q;rfl
 exact call_meetsIn PySem.F.slot_dict_pop dd.typeIs PySem.F.entry_dict_pop (PySem.F.args_dict_pop_3 _ _ _) (meets_dict_pop_default (a0 X.prog X.w) a (kV_is ry) hd hp r) ⟨vs,dd,hn,h _ (I.tok _)⟩
theorem d_clear {Q:Value->Shared->Prop} (I:Inv X pins σ H s) (e:H a=some (.dK kvs)) (h:∀ s',Inv X pins σ (upd H a (.dK [])) s' -> Q .none s'):wpAny (model X.prog X.w) A (call (.builtin "dict.clear") [.ref a]) Q E s:= by
 obtain ⟨z,hd,vs,rel,dd⟩:=dk_of I.hok e
 refine call_meetsIn PySem.F.slot_dict_clear dd.typeIs PySem.F.entry_dict_clear (PySem.F.args_dict_clear_1 _) (meets_dict_clear (a0 X.prog X.w) a) ⟨vs,dd,by rw [<- rel.length];exact z,fun h' dd' hs=>h _ ?_⟩
 have he:∃ q,h'.get? a=some q:=let ⟨q,_,_,hq,_⟩:=dd';⟨q,hq⟩
 exact d_write (t':=s.toks) I (by rw [e];exact True.intro) hs he (dk_new (Nat.zero_le _) hd .nil dd')
theorem d_len {Q:Value->Shared->Prop} (I:Inv X pins σ H s) (e:Rd H a (.dK kvs)) (h:∀ t s',Inv X pins σ H s' -> Q (.int kvs.length t) s'):wpAny (model X.prog X.w) A (call (.builtin "len") [.ref a]) Q E s:= by
 obtain ⟨z,hd,vs,rel,dd⟩:=dk_rd I.hok e
 refine call_len_dict hd dd (by rw [<- rel.length];rw [sizeLine_eq] at z;omega) ?_
 rw [<- rel.length]
 exact h _ _ (I.tok _)
theorem d_truth {Q:Bool->Shared->Prop} (I:Inv X pins σ H s) (e:Rd H a (.dK kvs)) (h:∀ s',Inv X pins σ H s' -> Q (!kvs.isEmpty) s'):wpAny (model X.prog X.w) A (truthy (.ref a)) Q E s:= by
 obtain ⟨z,hd,vs,rel,dd⟩:=dk_rd I.hok e
 refine wpAny_truthy_dict hd dd (by rw [<- rel.length];rw [sizeLine_eq] at z;omega) ?_
 have q:kvs.isEmpty=vs.isEmpty:=by cases rel <;> rfl
 rw [<- q]
 exact h _ (I.tok _)
end
def NoSl (i:Expr):Prop:=∀ ov iv,subscripted i false ov iv=operate [ov,iv] (getItem ov iv)
theorem subD_of {prog:Program} {w:World} {A:Around} {E:Value->Shared->Prop} {s:Shared} {env:Env} {value slice:Expr} {pos:Pos} {T id:String} {Q:Value->Shared->Prop}
  (hl:typeLookup (.type T) "__getitem__" = pure (some (.builtin id))) (hs:NoSl slice)
  (h:wpAny (model prog w) A (eval value env) (fun o s₁=>wpAny (model prog w) A (eval slice env) (fun i s₂=>s₂.TypeIs o T∧wpAny (model prog w) A (getItem o i) Q E s₂) E s₁) E s) :
  wpAny (model prog w) A (eval (.Subscript value slice pos) env) Q E s:= by
 refine Subscript_ (wpAny_mono h (fun o s₁ h₁=>wpAny_mono h₁ (fun i s₂ h₂=>?_) fun _ _ x=>x) fun _ _ x=>x)
 obtain ⟨hT,h₂⟩:=h₂
 unfold subscriptTail
 refine wpAny_bind ?_
 rw [getitemInPython_of_ne hT.not_modules]
 refine wpAny_bind (wpAny_specialOf hT hl ?_)
 have fin:wpAny (model prog w) A (subscripted slice false o i) (fun r s₃=>wpAny (model prog w) A (letTemporaryGo value o r >>= fun _=>pure r) Q E s₃) E s₂:= by
  rw [hs o i]
  exact wpAny_operating (wpAny_mono h₂ (fun r s₃ h₃=>wpAny_bind (wpAny_letTemporaryGo (wpAny_pure h₃))) fun _ _ x=>x)
 first
  | exact wpAny_pure (wpAny_bind fin)
  | exact wpAny_bind (wpAny_pure (wpAny_bind fin))
  | exact wpAny_bind fin
theorem dict_typeIs {X:Cx} {pins:List (Addr × Obj)} {σ:St} {H:Hp} {s:Shared} {a:Addr} {y:V} {o:Option V} (I:Inv X pins σ H s) (g:DGet H a y o):s.TypeIs (.ref a) "dict":= by
 rcases g with ⟨kvs,k,e,_,_⟩ | ⟨kvs,k,b,e,_,_,_⟩
 ·obtain ⟨_,_,vs,_,dd⟩:=dk_rd I.hok e
  exact dd.typeIs
 ·obtain ⟨_,_,xs,_,dd⟩:=dt_rd I.hok e
  exact dd.typeIs
theorem dict_noDict {X:Cx} {pins:List (Addr × Obj)} {σ:St} {H:Hp} {s:Shared} {a:Addr} {y:V} {o:Option V} (I:Inv X pins σ H s) (g:DGet H a y o) :
  ∀ b,Value.ref a=.ref b->∃ ob,s.heap.get? b=some ob∧ob.dict=none:=fun b q=>by
 cases q
 rcases g with ⟨kvs,k,e,_,_⟩ | ⟨kvs,k,b,e,_,_,_⟩
 ·obtain ⟨_,_,vs,_,ob,_,_,h1,h2,_⟩:=dk_rd I.hok e
  exact ⟨ob,h1,h2.2.1⟩
 ·obtain ⟨_,_,xs,_,ob,_,_,h1,h2,_⟩:=dt_rd I.hok e
  exact ⟨ob,h1,h2.2.1⟩
def tDGet (td ty:TE):TE:=fun σ H Q=>td σ H fun x H1=>ty σ H1 fun y H2=>∃ a v,x=.ref a∧DGet H2 a y (some v)∧Q v H2
def tDIn (ty td:TE):TE:=fun σ H Q=>ty σ H fun y H1=>td σ H1 fun x H2=>∃ a o,x=.ref a∧DGet H2 a y o∧Q (.bl o.isSome) H2
def tDNotIn (ty td:TE):TE:=fun σ H Q=>ty σ H fun y H1=>td σ H1 fun x H2=>∃ a o,x=.ref a∧DGet H2 a y o∧Q (.bl (!o.isSome)) H2
def sDPut (td ty tv:TE):TS:=fun D σ H=>tv σ H fun v H1=>td σ H1 fun x H2=>ty σ H2 fun y H3=>∃ a H4,x=.ref a∧DPut H3 a y v H4∧D.nx σ H4
def sDAug (td ty tv:TE) (rd:V->V->Hp->VK->Prop):TS:=fun D σ H=>td σ H fun x H1=>ty σ H1 fun y H2=>∃ a v,x=.ref a∧DGet H2 a y (some v) ∧
 tv σ H2 fun y2 H3=>rd v y2 H3 fun z H4=>∃ H5,DPut H4 a y z H5∧D.nx σ H5
def sDDel (td ty:TE):TS:=fun D σ H=>td σ H fun x H1=>ty σ H1 fun y H2=>∃ a kvs k,x=.ref a∧H2 a=some (.dK kvs)∧y=kV k∧(valV kvs k).isSome=true∧D.nx σ (upd H2 a (.dK (dropK kvs k)))
section
variable {X:Cx} {o i e value:Expr} {pos pos' tpos:Pos} {td ty tv:TE}
theorem pe_dget (hu:X.A.units + 1 < cLine) (ho:PE X o td) (hi:PE X i ty) (hs:NoSl i):PE X (.Subscript o i pos) (tDGet td ty):= by
 intro pins s σ H Q I h
 refine subD_of PySem.F.slot_dict_getitem.lookup hs (bx (ho pins s σ H _ I h) fun u s1 ⟨x,H1,I1,rx,q1⟩=>bx (hi pins s1 σ H1 _ I1 q1) fun iv s2 ⟨y,H2,I2,ry,a,v,ex,g,q2⟩=>?_)
 subst ex
 obtain rfl:u=Value.ref a:=rx
 exact ⟨dict_typeIs I2 g,d_getItem hu I2 g ry fun w' s3 I3 rw'=>⟨v,H2,I3,rw',q2⟩⟩
theorem pc_din (hu:X.A.units + 1 < cLine) (hi:PE X i ty) (ho:PE X o td):PC X .In i o (tDIn ty td):= by
 intro pins s σ H Q I h
 refine bx (hi pins s σ H _ I h) fun iv s1 ⟨y,H1,I1,ry,q1⟩=>bx (ho pins s1 σ H1 _ I1 q1) fun u s2 ⟨x,H2,I2,rx,a,ov,ex,g,q2⟩=>?_
 subst ex
 obtain rfl:u=Value.ref a:=rx
 exact d_in hu I2 g ry fun s3 I3=>⟨.bl ov.isSome,H2,I3,rfl,q2⟩
theorem pc_dnotin (hu:X.A.units + 1 < cLine) (hi:PE X i ty) (ho:PE X o td):PC X .NotIn i o (tDNotIn ty td):= by
 intro pins s σ H Q I h
 refine bx (hi pins s σ H _ I h) fun iv s1 ⟨y,H1,I1,ry,q1⟩=>bx (ho pins s1 σ H1 _ I1 q1) fun u s2 ⟨x,H2,I2,rx,a,ov,ex,g,q2⟩=>?_
 subst ex
 obtain rfl:u=Value.ref a:=rx
 exact d_notIn hu I2 g ry fun s3 I3=>⟨.bl (!ov.isSome),H2,I3,rfl,q2⟩
theorem ps_dput (hu:X.A.units + 1 < cLine) (ho:PE X o td) (hi:PE X i ty) (hv:PE X value tv) (hs:swapsWith value (some (.Subscript o i pos')) pos.line X.env=pure false) :
  PS X (.Assign [.Subscript o i pos'] value pos) (sDPut td ty tv):= by
 intro pins s σ H D I h
 refine wpAny_Assign_Subscript (bx (hv pins s σ H _ I h) fun r s1 ⟨v,H1,I1,rv,q1⟩=>bx (ho pins s1 σ H1 _ I1 q1) fun u s2 ⟨x,H2,I2,rx,q2⟩=>bx (hi pins s2 σ H2 _ I2 q2) fun iv s3 ⟨y,H3,I3,ry,a,H4,ex,g,q3⟩=>?_) hs
 subst ex
 obtain rfl:u=Value.ref a:=rx
 exact d_setItem hu I3 g ry rv fun s4 I4=>⟨σ,H4,I4,q3⟩
theorem ps_daug {op:Operator} {rd:V->V->Hp->VK->Prop} (hu:X.A.units + 1 < cLine) (ho:PE X o td) (hi:PE X i ty) (hv:PE X value tv) (hop:Gp X op rd)
  (ha:∀ ov iv new,augStore i ov iv new=(do holding [new,ov,iv] (setItem ov iv new);release [new,ov,iv] [];pure .next)):PS X (.AugAssign (.Subscript o i tpos) op value pos) (sDAug td ty tv rd):= by
 intro pins s σ H D I h
 refine wpAny_AugAssign_SubscriptAny (bx (ho pins s σ H _ I h) fun u s1 ⟨x,H1,I1,rx,q1⟩=>bx (hi pins s1 σ H1 _ I1 q1) fun iv s2 ⟨y,H2,I2,ry,a,v,ex,g,q2⟩=>?_) ha
 subst ex
 obtain rfl:u=Value.ref a:=rx
 refine d_getItem hu I2 g ry fun w' s3 I3 rw'=>bx (hv pins s3 σ H2 _ I3 q2) fun w2 s4 ⟨y2,H3,I4,ry2,q3⟩=>bx (hop pins s4 σ H3 v y2 w' w2 _ I4 rw' ry2 q3) fun w3 s5 ⟨z,H4,I5,rz,H5,g5,q4⟩=>?_
 exact d_setItem hu I5 g5 ry rz fun s6 I6=>⟨σ,H5,I6,q4⟩
theorem ps_ddel (ho:PE X o td) (hi:PE X i ty):PS X (.Delete [.Subscript o i tpos] pos) (sDDel td ty):= by
 intro pins s σ H D I h
 refine wpAny_Delete (wpAny_deleteEach_cons (wpAny_delete_Subscript (bx (ho pins s σ H _ I h) fun u s1 ⟨x,H1,I1,rx,q1⟩=>bx (hi pins s1 σ H1 _ I1 q1) fun iv s2 ⟨y,H2,I2,ry,a,kvs,k,ex,e,ey,l,q2⟩=>?_)))
 subst ex ey
 obtain rfl:u=Value.ref a:=rx
 exact d_delItem I2 e ry l fun s3 I3=>wpAny_deleteEach_nil ⟨σ,_,I3,q2⟩
end
theorem dk_empty {P:Program} {w:World} {H:Hp} (h:Heap) (hb:sysModules < h.objs.size):bK P w H (h.push { cls:=.type "dict",data:=.dict #[] }) h.objs.size (.dK []) :=
 ⟨Nat.zero_le _,beq_eq_false_iff_ne.mpr (Ne.symm (Nat.ne_of_lt hb)),[],.nil,Heap.DictOf.new h⟩
theorem dt_empty {P:Program} {w:World} {H:Hp} (h:Heap) (hb:sysModules < h.objs.size):bK P w H (h.push { cls:=.type "dict",data:=.dict #[] }) h.objs.size (.dT []) :=
 ⟨Nat.zero_le _,beq_eq_false_iff_ne.mpr (Ne.symm (Nat.ne_of_lt hb)),[],.nil,_,#[],0,Heap.get?_push_size _ rfl,⟨rfl,rfl,rfl⟩,rfl,rfl,List.nodup_nil,rfl⟩
def tDNewK:TE:=fun _ H Q=>∀ p,H p=none->Q (.ref p) (upd H p (.dK []))
def tDNewT:TE:=fun _ H Q=>∀ p,H p=none->Q (.ref p) (upd H p (.dT []))
section
variable {X:Cx} {pos:Pos}
theorem pe_dnewK:PE X (.Dict [] [] pos) tDNewK:=fun pins s σ H Q I h=>
 wpAny_Dict_empty ⟨.ref s.heap.objs.size,_,I.laid (a:=s.heap.objs.size) (o:=.dK []) (t':=s.toks) (fun _ _ q=>Heap.get?_push_of_some _ q) (Nat.le_refl _) (dk_empty s.heap I.big),rfl,h _ (I.hok.fresh (Nat.le_refl _))⟩
theorem pe_dnewT:PE X (.Dict [] [] pos) tDNewT:=fun pins s σ H Q I h=>
 wpAny_Dict_empty ⟨.ref s.heap.objs.size,_,I.laid (a:=s.heap.objs.size) (o:=.dT []) (t':=s.toks) (fun _ _ q=>Heap.get?_push_of_some _ q) (Nat.le_refl _) (dt_empty s.heap I.big),rfl,h _ (I.hok.fresh (Nat.le_refl _))⟩
end
def tPairs:List (TE × TE)->St->Hp->(List (V × V)->Hp->Prop)->Prop
 | [],_,H,Q=>Q [] H
 | (tk,tv) :: r,σ,H,Q=>tk σ H fun x H1=>tv σ H1 fun y H2=>tPairs r σ H2 fun ps H3=>Q ((x,y) :: ps) H3
abbrev VV:List (V × V)->List (Value × Value)->Prop:=Paired fun p q=>RelV p.1 q.1∧RelV p.2 q.2
def PPs (X:Cx) (pos:Pos) (keys:List (Option Expr)) (values:List Expr) (trs:List (TE × TE)):Prop :=
 ∀ (pins:List (Addr × Obj)) (s:Shared) (σ:St) (H:Hp) (Q:List (V × V)->Hp->Prop),Inv X pins σ H s->tPairs trs σ H Q ->
  wpAny (model X.prog X.w) X.A (evalPairs (pairTrees keys values X.env pos)) (fun vs s'=>∃ ps H',Inv X pins σ H' s' ∧ VV ps vs∧Q ps H') X.xe s
theorem pps_nil {X:Cx} {pos:Pos}:PPs X pos [] [] []:=fun pins s σ H Q I h=>pairTrees_nil_walk ⟨[],H,I,.nil,h⟩
theorem pps_cons {X:Cx} {pos:Pos} {k v:Expr} {ks:List (Option Expr)} {vs:List Expr} {tk tv:TE} {trs:List (TE × TE)} (hk:PE X k tk) (hv:PE X v tv) (hr:PPs X pos ks vs trs) :
  PPs X pos (some k :: ks) (v :: vs) ((tk,tv) :: trs):=fun pins s σ H Q I h=>
 pairTrees_cons_walk (bx (hk pins s σ H _ I h) fun u s1 ⟨x,H1,I1,rx,q1⟩=>bx (hv pins s1 σ H1 _ I1 q1) fun w2 s2 ⟨y,H2,I2,ry,q2⟩=>
  bx (hr pins s2 σ H2 _ I2 q2) fun ws s3 ⟨ps,H3,I3,rel,q3⟩=>⟨(x,y) :: ps,H3,I3,.cons ⟨rx,ry⟩ rel,q3⟩)
def mergeK (kvs more:List (Key × V)):List (Key × V):=more.foldl (fun acc kv=>putK acc kv.1 kv.2) kvs
theorem KV.merge:∀ {more:List (Key × V)} {rs:List (Key × Value)} {kvs:List (Key × V)} {vs:List (Key × Value)},KV more rs->KV kvs vs->KV (mergeK kvs more) (merged vs rs):= by
 intro more rs kvs vs r
 unfold KV at r
 induction r generalizing kvs vs with
 | nil=>intro q;exact q
 | @cons p q ps qs h t ih=>
  intro r0
  have e:KV (putK kvs p.1 p.2) (stored vs q.1 q.2):= by
   have:=r0.put p.1 h.2
   rw [<- h.1];exact this
  exact ih e
theorem length_mergeK:∀ (more kvs:List (Key × V)),(mergeK kvs more).length ≤ kvs.length + more.length
 | [],kvs=>by show kvs.length ≤ kvs.length + 0;omega
 | p :: r,kvs=>by
  have h1:=length_mergeK r (putK kvs p.1 p.2)
  have h2:=length_putK kvs p.1 p.2
  show (mergeK (putK kvs p.1 p.2) r).length ≤ _
  rw [List.length_cons];omega
theorem carries_of {P:Program} {w:World}:∀ {kvs:List (Key × V)} {ws:List (Value × Value)},VV (kvs.map fun kv=>(kV kv.1,kv.2)) ws->∃ rs,Carries (a0 P w) ws rs∧KV kvs rs
 | [],_,r=>by rw [List.map_nil] at r;cases r;exact ⟨[],True.intro,.nil⟩
 | p :: kvs,_,r=>by
  rw [List.map_cons] at r
  cases r with
  | @cons a b as bs h t=>
   obtain ⟨rs,c,q⟩:=carries_of (P:=P) (w:=w) t
   obtain ⟨b1,b2⟩:=b
   exact ⟨(p.1,b2) :: rs,⟨kV_is h.1,rfl,c⟩,.cons ⟨rfl,h.2⟩ q⟩
def tDisp (trs:List (TE × TE)):TE:=fun σ H Q=>∀ p,H p=none->tPairs trs σ (upd H p (.dK [])) fun ps H2=>H2 p=some (.dK [])∧∃ kvs:List (Key × V),ps=kvs.map (fun kv=>(kV kv.1,kv.2))∧kvs.length ≤ 15∧Q (.ref p) (upd H2 p (.dK (mergeK [] kvs)))
theorem pe_disp {X:Cx} {pos:Pos} {keys:List (Option Expr)} {values:List Expr} {trs:List (TE × TE)} (h:PPs X pos keys values trs) (hall:keys.all (·.isSome)=true) (hl:keys.length=values.length) (h0:keys ≠ [])
  (h15:keys.length ≤ 15):PE X (.Dict keys values pos) (tDisp trs):= by
 intro pins s σ H Q I q
 have hn:=I.hok.fresh (Nat.le_refl s.heap.objs.size)
 have I1:=I.laid (a:=s.heap.objs.size) (o:=.dK []) (h':=s.heap.push { cls:=.type "dict",data:=.dict #[] }) (t':=s.toks) (fun _ _ q=>Heap.get?_push_of_some _ q) (Nat.le_refl _) (dk_empty s.heap I.big)
 refine wpAny_Dict_walk (knd:=a0 X.prog X.w) hall hl h0 h15 (bx (h pins _ σ _ _ I1 (q _ hn)) fun ws s2 ⟨ps,H2,I2,rel,e,kvs,ep,lk,q2⟩=>?_)
 subst ep
 obtain ⟨rs,c,rk⟩:=carries_of (P:=X.prog) (w:=X.w) rel
 obtain ⟨z,hd,vs0,r0,dd⟩:=dk_of I2.hok e
 cases r0
 refine ⟨rs,c,dd,fun h' dd' hs=>⟨.ref s.heap.objs.size,_,?_,rfl,q2⟩⟩
 have hz:(mergeK [] kvs).length ≤ sizeLine:= by
  have h1:=length_mergeK kvs []
  rw [List.length_nil] at h1
  rw [sizeLine_eq];omega
 have he:∃ q,h'.get? s.heap.objs.size=some q:=let ⟨q,_,_,hq,_⟩:=dd';⟨q,hq⟩
 exact d_write I2 (by rw [e];exact True.intro) hs he (dk_new hz hd (rk.merge .nil) dd')
structure M1 (X:Cx) (o:Expr) (m:Str) (apos:Pos) (e:Expr) (cpos:Pos):Prop where
 base:attributeBase o m X.env (eval o X.env)=eval o X.env
 few:((backTo cpos (starEach [e] X.env)).all (fun x=>!x.1) && (backToKw cpos (keywordEach [] X.env)).all (fun x=>x.1.isSome)
  && decide (([e]:List Expr).length + ([]:List Keyword).length + (if ([]:List Keyword).isEmpty then 0 else 1) < 30))=true
 line:(apos.endLine == cpos.line)=true
 trees:backTo cpos (starEach [e] X.env)=[(false,eval e X.env)]
structure M2 (X:Cx) (o:Expr) (m:Str) (apos:Pos) (e f:Expr) (cpos:Pos):Prop where
 base:attributeBase o m X.env (eval o X.env)=eval o X.env
 few:((backTo cpos (starEach [e,f] X.env)).all (fun x=>!x.1) && (backToKw cpos (keywordEach [] X.env)).all (fun x=>x.1.isSome)
  && decide (([e,f]:List Expr).length + ([]:List Keyword).length + (if ([]:List Keyword).isEmpty then 0 else 1) < 30))=true
 line:(apos.endLine == cpos.line)=true
 trees:backTo cpos (starEach [e,f] X.env)=[(false,eval e X.env),(false,eval f X.env)]
def IsD (H:Hp) (a:Addr):Prop:=(∃ kvs,Rd H a (.dK kvs)) ∨ ∃ kvs,Rd H a (.dT kvs)
theorem isD_at {X:Cx} {pins:List (Addr × Obj)} {σ:St} {H:Hp} {s:Shared} {a:Addr} (I:Inv X pins σ H s) (d:IsD H a) :
  s.TypeIs (.ref a) "dict" ∧ (∀ b,Value.ref a=.ref b->∃ ob,s.heap.get? b=some ob∧ob.dict=none)∧(a == sysModules)=false:= by
 rcases d with ⟨kvs,e⟩ | ⟨kvs,e⟩
 ·obtain ⟨_,hd,vs,_,dd⟩:=dk_rd I.hok e
  refine ⟨dd.typeIs,fun b q=>?_,hd⟩
  cases q
  obtain ⟨ob,_,_,h1,h2,_⟩:=dd
  exact ⟨ob,h1,h2.2.1⟩
 ·obtain ⟨_,hd,xs,_,dd⟩:=dt_rd I.hok e
  refine ⟨dd.typeIs,fun b q=>?_,hd⟩
  cases q
  obtain ⟨ob,_,_,h1,h2,_⟩:=dd
  exact ⟨ob,h1,h2.2.1⟩
section
variable {X:Cx} {pins:List (Addr × Obj)} {σ:St} {H:Hp} {s:Shared} {a:Addr} {y d:V} {u r:Value} {o:Option V} {A:Around} {E:Value->Shared->Prop}
theorem d_get1 {Q:Value->Shared->Prop} (hu:A.units + 1 < cLine) (I:Inv X pins σ H s) (g:DGet H a y o) (ry:RelV y u) (h:∀ w' s',Inv X pins σ H s' -> RelV (o.getD .non) w' -> Q w' s') :
  wpAny (model X.prog X.w) A (call (.builtin "dict.get") [.ref a,u]) Q E s:= by
 rcases g with ⟨kvs,k,e,ey,l⟩ | ⟨kvs,k,b,e,ey,eb,l⟩
 ·subst ey
  obtain ⟨z,hd,vs,rel,dd⟩:=dk_rd I.hok e
  refine call_meetsIn PySem.F.slot_dict_get dd.typeIs PySem.F.entry_dict_get (PySem.F.args_dict_get_2 _ _) (meets_dict_get (a0 X.prog X.w) a (kV_is ry) hd) ⟨_,dd.mapOf,h _ _ (I.tok _) ?_⟩
  rw [l]
  exact (rel.val k).getD rfl
 ·subst ey
  cases (show u=Value.ref b from ry)
  obtain ⟨z,hd,xs,rel,dd⟩:=dt_rd I.hok e
  refine call_meetsIn PySem.F.slot_dict_get dd.typeIs PySem.F.entry_dict_get (PySem.F.args_dict_get_2 _ _) (meetsH_dict_get (tupleKind (a0 X.prog X.w)) a b hd) ⟨tupleKind_room_in1 hu,k,xs,key_of I.hok eb,dd,h _ _ (I.tok _) ?_⟩
  rw [l]
  exact (rel.val k).getD rfl
theorem d_get2 {Q:Value->Shared->Prop} (hu:A.units + 1 < cLine) (I:Inv X pins σ H s) (g:DGet H a y o) (ry:RelV y u) (rd:RelV d r) (h:∀ w' s',Inv X pins σ H s' -> RelV (o.getD d) w' -> Q w' s') :
  wpAny (model X.prog X.w) A (call (.builtin "dict.get") [.ref a,u,r]) Q E s:= by
 rcases g with ⟨kvs,k,e,ey,l⟩ | ⟨kvs,k,b,e,ey,eb,l⟩
 ·subst ey
  obtain ⟨z,hd,vs,rel,dd⟩:=dk_rd I.hok e
  refine call_meetsIn PySem.F.slot_dict_get dd.typeIs PySem.F.entry_dict_get (PySem.F.args_dict_get_3 _ _ _) (meets_dict_get_default (a0 X.prog X.w) a (kV_is ry) hd r) ⟨_,dd.mapOf,h _ _ (I.tok _) ?_⟩
  rw [l]
  exact (rel.val k).getD rd
 ·subst ey
  cases (show u=Value.ref b from ry)
  obtain ⟨z,hd,xs,rel,dd⟩:=dt_rd I.hok e
  refine call_meetsIn PySem.F.slot_dict_get dd.typeIs PySem.F.entry_dict_get (PySem.F.args_dict_get_3 _ _ _) (meetsH_dict_get_default (tupleKind (a0 X.prog X.w)) a b hd r) ⟨tupleKind_room_in1 hu,k,xs,key_of I.hok eb,dd,h _ _ (I.tok _) ?_⟩
  rw [l]
  exact (rel.val k).getD rd
end
def tDGet1 (td ty:TE):TE:=fun σ H Q=>td σ H fun x H1=>∃ a,x=.ref a∧IsD H1 a∧ty σ H1 fun y H2=>∃ o,DGet H2 a y o∧Q (o.getD .non) H2
def tDGet2 (td ty tx:TE):TE:=fun σ H Q=>td σ H fun x H1=>∃ a,x=.ref a∧IsD H1 a∧ty σ H1 fun y H2=>tx σ H2 fun z H3=>∃ o,DGet H3 a y o∧Q (o.getD z) H3
def tDPop1 (td ty:TE):TE:=fun σ H Q=>td σ H fun x H1=>∃ a,x=.ref a∧IsD H1 a∧ty σ H1 fun y H2=>∃ kvs k v,H2 a=some (.dK kvs)∧y=kV k∧valV kvs k=some v∧Q v (upd H2 a (.dK (dropK kvs k)))
def tDPop2 (td ty tx:TE):TE:=fun σ H Q=>td σ H fun x H1=>∃ a,x=.ref a∧IsD H1 a∧ty σ H1 fun y H2=>tx σ H2 fun z H3=>∃ kvs k,H3 a=some (.dK kvs)∧y=kV k ∧
 (∀ v,valV kvs k=some v->Q v (upd H3 a (.dK (dropK kvs k))))∧(valV kvs k=none->Q z H3)
section
variable {X:Cx} {o e f:Expr} {apos cpos:Pos} {td ty tx:TE}
theorem pe_dget1 (hu:X.A.units + 1 < cLine) (ho:PE X o td) (he:PE X e ty) (m:M1 X o "get" apos e cpos):PE X (.Call (.Attribute o "get" apos) [e] [] cpos) (tDGet1 td ty):= by
 intro pins s σ H Q I h
 refine wpAny_Call_method m.base m.few m.line PySem.F.plainAttrs_dict PySem.F.slot_dict_get PySem.F.type_dict_get (bx (ho pins s σ H _ I h) fun u s1 ⟨x,H1,I1,rx,a,ex,d,q1⟩=>?_)
 subst ex
 obtain rfl:u=Value.ref a:=rx
 obtain ⟨t1,t2,_⟩:=isD_at I1 d
 refine ⟨t1,t2,?_⟩
 rw [m.trees]
 refine Calls.callWith_builtin rfl (Calls.evalArgs_plain (Calls.spliced_cons (bx (he pins s1 σ H1 _ I1 q1) fun iv s2 ⟨y,H2,I2,ry,ov,g,q2⟩=>Calls.spliced_nil ?_)))
 exact d_get1 hu I2 g ry fun w' s3 I3 rw'=>⟨_,H2,I3,rw',q2⟩
theorem pe_dget2 (hu:X.A.units + 1 < cLine) (ho:PE X o td) (he:PE X e ty) (hf:PE X f tx) (m:M2 X o "get" apos e f cpos):PE X (.Call (.Attribute o "get" apos) [e,f] [] cpos) (tDGet2 td ty tx):= by
 intro pins s σ H Q I h
 refine wpAny_Call_method m.base m.few m.line PySem.F.plainAttrs_dict PySem.F.slot_dict_get PySem.F.type_dict_get (bx (ho pins s σ H _ I h) fun u s1 ⟨x,H1,I1,rx,a,ex,d,q1⟩=>?_)
 subst ex
 obtain rfl:u=Value.ref a:=rx
 obtain ⟨t1,t2,_⟩:=isD_at I1 d
 refine ⟨t1,t2,?_⟩
 rw [m.trees]
 refine Calls.callWith_builtin rfl (Calls.evalArgs_plain (Calls.spliced_cons (bx (he pins s1 σ H1 _ I1 q1) fun iv s2 ⟨y,H2,I2,ry,q2⟩=>
  Calls.spliced_cons (bx (hf pins s2 σ H2 _ I2 q2) fun fv s3 ⟨z,H3,I3,rz,ov,g,q3⟩=>Calls.spliced_nil ?_))))
 exact d_get2 hu I3 g ry rz fun w' s4 I4 rw'=>⟨_,H3,I4,rw',q3⟩
theorem pe_dpop1 (ho:PE X o td) (he:PE X e ty) (m:M1 X o "pop" apos e cpos):PE X (.Call (.Attribute o "pop" apos) [e] [] cpos) (tDPop1 td ty):= by
 intro pins s σ H Q I h
 refine wpAny_Call_method m.base m.few m.line PySem.F.plainAttrs_dict PySem.F.slot_dict_pop PySem.F.type_dict_pop (bx (ho pins s σ H _ I h) fun u s1 ⟨x,H1,I1,rx,a,ex,d,q1⟩=>?_)
 subst ex
 obtain rfl:u=Value.ref a:=rx
 obtain ⟨t1,t2,_⟩:=isD_at I1 d
 refine ⟨t1,t2,?_⟩
 rw [m.trees]
 refine Calls.callWith_builtin rfl (Calls.evalArgs_plain (Calls.spliced_cons (bx (he pins s1 σ H1 _ I1 q1) fun iv s2 ⟨y,H2,I2,ry,kvs,k,v,ea,ey,l,q2⟩=>Calls.spliced_nil ?_)))
 subst ey
 exact d_pop I2 ea ry l (.inl rfl) fun w' s3 I3 rw'=>⟨v,_,I3,rw',q2⟩
theorem pe_dpop2 (ho:PE X o td) (he:PE X e ty) (hf:PE X f tx) (m:M2 X o "pop" apos e f cpos):PE X (.Call (.Attribute o "pop" apos) [e,f] [] cpos) (tDPop2 td ty tx):= by
 intro pins s σ H Q I h
 refine wpAny_Call_method m.base m.few m.line PySem.F.plainAttrs_dict PySem.F.slot_dict_pop PySem.F.type_dict_pop (bx (ho pins s σ H _ I h) fun u s1 ⟨x,H1,I1,rx,a,ex,d,q1⟩=>?_)
 subst ex
 obtain rfl:u=Value.ref a:=rx
 obtain ⟨t1,t2,_⟩:=isD_at I1 d
 refine ⟨t1,t2,?_⟩
 rw [m.trees]
 refine Calls.callWith_builtin rfl (Calls.evalArgs_plain (Calls.spliced_cons (bx (he pins s1 σ H1 _ I1 q1) fun iv s2 ⟨y,H2,I2,ry,q2⟩=>
  Calls.spliced_cons (bx (hf pins s2 σ H2 _ I2 q2) fun fv s3 ⟨z,H3,I3,rz,kvs,k,ea,ey,q3,q4⟩=>Calls.spliced_nil ?_))))
 subst ey
 cases l:valV kvs k with
 | some v=>exact d_pop I3 ea ry l (.inr ⟨fv,rfl⟩) fun w' s4 I4 rw'=>⟨v,_,I4,rw',q3 v l⟩
 | none=>exact d_popD I3 ea ry l fun s4 I4=>⟨z,H3,I4,rz,q4 l⟩
end
section
variable {X:Cx} {pins:List (Addr × Obj)} {σ:St} {H:Hp} {s:Shared} {a:Addr} {kvs:List (Key × V)} {A:Around} {E:Value->Shared->Prop}
theorem d_copyOf {Q:Value->Shared->Prop} (I:Inv X pins σ H s) (e:Rd H a (.dK kvs)) (h:∀ p s',H p=none->Inv X pins σ (upd H p (.dK kvs)) s' -> Q (.ref p) s'):wpAny (model X.prog X.w) A (call (.type "dict") [.ref a]) Q E s:= by
 obtain ⟨z,hd,vs,rel,dd⟩:=dk_rd I.hok e
 refine kt_call_dict hd dd (by rw [<- rel.length];exact z) fun h' dd' hs=>?_
 refine h _ _ (I.hok.fresh (Nat.le_refl _)) (I.laid (a:=s.heap.objs.size) (o:=.dK kvs) (t':=s.toks) (fun b q hq=>?_) (Nat.le_refl _) (dk_new z (beq_eq_false_iff_ne.mpr (Ne.symm (Nat.ne_of_lt I.big))) rel dd'))
 exact (hs.2 b (Nat.ne_of_lt (Heap.lt_size hq))).trans (Heap.get?_push_of_some _ hq)
end
section
variable {X:Cx} {pins:List (Addr × Obj)} {σ:St} {H:Hp} {s:Shared} {a:Addr} {y:V} {u:Value} {A:Around} {E:Value->Shared->Prop}
theorem d_missing {Q:Value->Shared->Prop} (hu:A.units + 1 < cLine) (hh:A.handled=none) (I:Inv X pins σ H s) (g:DGet H a y none) (ry:RelV y u)
  (h:∀ h' e t',Heap.NewExc s.heap h' e "KeyError" -> E (.ref e) { s with heap:=h',toks:=t' }):wpAny (model X.prog X.w) A (getItem (.ref a) u) Q E s:= by
 rcases g with ⟨kvs,k,e,ey,l⟩ | ⟨kvs,k,b,e,ey,eb,l⟩
 ·subst ey
  obtain ⟨z,hd,vs,rel,dd⟩:=dk_rd I.hok e
  have hn:valueAt vs k=none:=RelO.none_of (by rw [l];exact rel.val k)
  exact wpAny_getItem_missing_of (kV_is ry) hd hh dd.mapOf hn fun h' ex ne=>h h' ex _ ne
 ·subst ey
  cases (show u=Value.ref b from ry)
  obtain ⟨z,hd,xs,rel,dd⟩:=dt_rd I.hok e
  have hn:(atKey xs k).map (·.2)=none:=RelO.none_of (by rw [l];exact rel.val k)
  exact wpAny_getItem_missing_heap (tupleKind_room_in1 hu) (key_of I.hok eb) hd hh dd (Option.map_eq_none_iff.mp hn) fun h' ex ne=>h h' ex _ ne
end
end L2
namespace L2
open PySem PySem.Spec PyProof.Rows
section
variable {X:Cx} {pins:List (Addr × Obj)} {σ:St} {H:Hp} {s:Shared} {a:Addr} {y v:V} {u r:Value} {A:Around} {E:Value->Shared->Prop}
theorem uj {H':Hp} {Q:Unit->Shared->Prop} (hu:A.units < cLine) (I:Inv X pins σ H s) (g:DPut H a y v H') (ry:RelV y u) (rv:RelV v r) (h:∀ s',Inv X pins σ H' s' -> Q () s') :
  wpAny (model X.prog X.w) A (dictSet a u r) Q E s:= by
 rcases g with ⟨kvs,k,e,ey,l,eH⟩ | ⟨kvs,k,b,e,ey,eb,l,eH⟩
 ·subst ey eH
  obtain ⟨z,hd,vs,rel,dd⟩:=dk_of I.hok e
  have hz:vs.length ≤ sizeLine:=by rw [<- rel.length];exact z
  have hl:(putK kvs k v).length ≤ sizeLine:=by have:=length_putK kvs k v;omega
  refine wpAny_dictSet_pairs (kV_is ry) dd (fun h' dd' hs=>h _ ?_) hz
  have he:∃ q,h'.get? a=some q:=let ⟨q,_,_,hq,_⟩:=dd';⟨q,hq⟩
  exact d_write I (by rw [e];exact True.intro) hs he (dk_new hl hd (rel.put k rv) dd')
 ·subst ey eH
  cases (show u=Value.ref b from ry)
  obtain ⟨z,hd,xs,rel,dd⟩:=dt_of I.hok e
  have hz:xs.length ≤ sizeLine:=by rw [<- Paired.length rel];exact z
  have hl:(putK kvs k v).length ≤ sizeLine:=by have:=length_putK kvs k v;omega
  refine kX (knd:=tupleKind (a0 X.prog X.w)) hu (key_of I.hok eb) dd (dt_ep I.hok (.inl e)) (fun h' dd' de hs=>h _ ?_) hz
  obtain ⟨q,es,ep,hq,h2,h3,h4,_,h5⟩:=dd'
  obtain ⟨q2,es2,hq2,h6⟩:=de
  rw [hq] at hq2
  cases hq2
  rw [h3] at h6
  cases h6
  refine d_write I (by rw [e];exact True.intro) hs ⟨q,hq⟩ ⟨hl,hd,_,(rel.put k eb rv).keeps fun c ys ec=>?_,q,es,_,hq,h2,h3,h4,h5,rfl⟩
  rw [aq (BC ec e (fun z=>nomatch z))]
  exact ec
end
section
variable {X:Cx} {kx vx tg iter:Expr} {ifs:List Expr} {scope:Scope} {pos pos':Pos} {N' own:List Str} {wi:TI} {g:TG} {tt:TT} {tk tv:TE}
end
end L2
namespace Jt
open PySem L2 PySem.Spec PyProof.Rows
theorem Sl.unhideO {c:Ct} {δ:DS} {S:List D} {σ:L2.St} {T:List V} {H:Hp} {p:Addr} {o:HO} {d:D} (s:Sl { c with Z:=upd c.Z p o } δ S σ T H) (hp:c.Z p=none) (hR:∀ Hh:Hp,Hh p=some o->R Hh d (.ref p)):Sl c δ (d :: S) σ (.ref p :: T) H:= by
 have hpH:H p=some o:=s.zz p _ ay
 have npow:=s.noOw
 have zc:∀ a u,c.Z a=some u->upd c.Z p o a=some u:=fun a u h=>by rw [aq fun q=>by rw [q,hp] at h;cases h];exact h
 have m:∀ b u,eD { c with Z:=upd c.Z p o } δ σ H b=some u->eD c δ σ H b=some u:=aV (fun a u e z=>by
  rcases z with ⟨w,z⟩ | z
  ·exact .inl ⟨w,zc a w z⟩
  ·exact .inr z) fun a u ha e=>e
 refine ⟨s.len,fun i d e=>?_,fun i b xs e=>?_,s.ne,.cons (hR _ (dM.mpr ⟨fun z=>?_,hpH⟩)) (s.st.mono m),s.keep,s.bb,fun a u hz=>s.zk a u (zc a u hz)⟩
 ·obtain ⟨v,e,r⟩:=s.pu i d e
  exact ⟨v,e,r.mono m⟩
 ·obtain ⟨a,vs',e,h1,h2,h3,h4,h5⟩:=s.ow i b xs e
  refine ⟨a,vs',e,h1,h2.mono m,h3,h4,?_⟩
  have h5':upd c.Z p o a=none:=h5
  by_cases q:a=p
  ·rw [q];exact hp
  ·rwa [aq q] at h5'
 ·rcases z with ⟨u,z⟩ | z
  ·rw [hp] at z;cases z
  ·exact npow z
section
variable {X:Cx}
def Fz:R2:=fun x y H Q=>∃ a v,x=.ref a∧DGet H a y (some v)∧Q v H
theorem rM (hu:X.A.units + 1 < cLine):tm X Fz:= by
 intro value slice pins s σ H x y v u Q I rx ry h hs
 obtain ⟨a,w,rfl,g,q⟩:=h
 cases rx
 have hT:=dict_typeIs I g
 have h2:wpAny (model X.prog X.w) X.A (getItem (.ref a) u) (EP X pins σ Q) X.xe s:=d_getItem hu I g ry fun w' s3 I3 rw'=>⟨w,H,I3,rw',q⟩
 unfold subscriptTail
 refine wpAny_bind ?_
 rw [getitemInPython_of_ne hT.not_modules]
 refine wpAny_bind (wpAny_specialOf hT PySem.F.slot_dict_getitem.lookup ?_)
 have fin:wpAny (model X.prog X.w) X.A (subscripted slice false (.ref a) u) (fun r s₃=>wpAny (model X.prog X.w) X.A (letTemporaryGo value (.ref a) r >>= fun _=>pure r) (EP X pins σ Q) X.xe s₃) X.xe s:= by
  rw [hs]
  exact wpAny_operating (wpAny_mono h2 (fun r s₃ h₃=>wpAny_bind (wpAny_letTemporaryGo (wpAny_pure h₃))) fun _ _ x=>x)
 exact wpAny_pure (wpAny_bind fin)
theorem xB {r r':R2} (h:tm X r) (h':tm X r'):tm X (fun x y H Q=>r x y H Q ∨ r' x y H Q):=fun value slice pins s σ H x y v u Q I rx ry q hs=>q.elim (fun q=>h value slice pins s σ H x y v u Q I rx ry q hs) fun q=>h' value slice pins s σ H x y v u Q I rx ry q hs
end
def sx (kvs:List (Int × Int)) (k:Int):Option Int:=(kvs.find? fun p=>decide (p.1=k)).map (·.2)
def kI (kvs:List ((Int × Int) × Int)) (a b:Int):Option Int:=(kvs.find? fun p=>decide (p.1=(a,b))).map (·.2)
theorem wu (k:Int):∀ kvs:List (Int × Int),valV (kvs.map fun p=>((.inl p.1,.int p.2):Key × V)) (.inl k)=(sx kvs k).map V.int
 | []=>rfl
 | (x,y) :: r=>by
  have ih:=wu k r
  unfold valV sx at *
  rw [List.map_cons,List.find?_cons,List.find?_cons]
  by_cases q:x=k
  ·simp [q]
  ·have q':¬ ((.inl x:Key)=.inl k):=fun z=>q (Sum.inl.inj z)
   simp only [q',q,decide_false]
   exact ih
theorem vh (a b:Int):∀ kvs:List ((Int × Int) × Int),valV (kvs.map fun p=>(([.inl p.1.1,.inl p.1.2],.int p.2):List Key × V)) [.inl a,.inl b]=(kI kvs a b).map V.int
 | []=>rfl
 | ((x,x'),y) :: r=>by
  have ih:=vh a b r
  unfold valV kI at *
  rw [List.map_cons,List.find?_cons,List.find?_cons]
  by_cases q:(x,x')=(a,b)
  ·cases q
   simp
  ·have q':¬ (([.inl x,.inl x']:List Key)=[.inl a,.inl b]):=fun z=>q (by
    simp only [List.cons.injEq,Sum.inl.injEq,and_true] at z
    rw [z.1,z.2])
   simp only [q',q,decide_false]
   exact ih
def eB:D->D->Option D
 | .dic kvs,.int i=>(sx kvs i).map .int
 | .dip kvs,.tup [.int a,.int b]=>(kI kvs a b).map .int
 | x,y=>e_ x y
section
variable {X:Cx} {a b:Expr} {fa fb:M D} {pos:Pos}
theorem tp {K:PySem.W.Frag}:nv (fun x y H Q=>G8 K x y H Q ∨ Fz x y H Q) eB:=fun c δ S σ T H x y v u d Q s e k=>by
 unfold eB at e
 split at e
 ·rename_i kvs i
  cases q:sx kvs i with
  | none=>rw [q] at e;cases e
  | some w=>
   rw [q] at e;cases e
   obtain ⟨p,rfl,h1⟩:=s.st.tail.head.dic
   have hy:=s.st.head.int
   subst hy
   refine .inr ⟨p,.int w,rfl,?_,k _ _ (s.stk (.cons .mkI s.st.tail.tail))⟩
   have g:=DGet.k (k:=.inl i) (aK _ _ h1)
   rw [wu,q] at g
   exact g
 ·rename_i kvs x y
  cases q:kI kvs x y with
  | none=>rw [q] at e;cases e
  | some w=>
   rw [q] at e;cases e
   obtain ⟨p,rfl,h1⟩:=s.st.tail.head.dip
   obtain ⟨b,vs,rfl,h2,h3⟩:=s.st.head.tup
   obtain ⟨v1,r1,rfl,g1,h3⟩:=h3.inv
   obtain ⟨v2,r2,rfl,g2,h3⟩:=h3.inv
   have e3:=h3.inv0
   subst e3
   cases g1.int
   cases g2.int
   refine .inr ⟨p,.int w,rfl,?_,k _ _ (s.stk (.cons .mkI s.st.tail.tail))⟩
   have g:=DGet.t (k:=[.inl x,.inl y]) (aK _ _ h1) (aK _ _ h2)
   rw [vh,q] at g
   exact g
 ·exact .inl (u7 c δ S σ T H x y v u d Q s e k)
theorem c5 {k:Nat} (hr:bU k X.A) (ha:DE X a fa) (hb:DE X b fb) (hs:gY b:=by exact fun _ _=>rfl):DE X (.Subscript a b pos) (m2 eB fa fb):=xY (xB qT (rM (by have:=ju hr;omega))) tp ha hb hs
end
section
variable {fi:M iB} {gt:D->M Unit} {tt:M Bool} {tk tv:M D}
variable {X:Cx} {kx vx tg iter:Expr} {N' own:List Str} {scope:Scope} {ifs:List Expr} {lo:Nat} {pos:Pos}
end
end Jt
namespace Jt
open PySem L2 PySem.Spec PyProof.Rows
section
variable {X:Cx} {a b:Expr} {fs:M (List D)} {p pos:Pos}
end
end Jt
namespace Jt
open PySem L2 PySem.Spec PyProof.Rows
section
variable {X:Cx} {a b:Expr} {fs:M (List D)} {pos:Pos}
end
end Jt
namespace Jt
open PySem L2 PySem.Spec PyProof.Rows
section
variable {prog:Program} {w:World} {A:Around} {E:Value->Shared->Prop} {s:Shared}
end
section
variable {X:Cx} {pos:Pos}
end
end Jt
namespace L2
open PySem PySem.Spec PyProof.Rows
section
variable {prog:Program} {w:World} {A:Around} {R:Result->Shared->Prop} {s:Shared} {kx vx t1 i1 t2 i2:Expr} {ifs1 ifs2:List Expr} {scope:Scope} {pos:Pos} {it:Value} {D:Addr} {env:Env}
abbrev d6 (kx vx t1 i1:Expr) (ifs1:List Expr) (t2 i2:Expr) (ifs2:List Expr) (scope:Scope) (pos:Pos):Expr:=.DictComp kx vx [⟨t1,i1,ifs1,0⟩,⟨t2,i2,ifs2,0⟩] scope pos
theorem ux:compTurn (d6 kx vx t1 i1 ifs1 t2 i2 ifs2 scope pos) 0 it (.ref D) env=(standAt i1.pos >>= fun _=>pyNext it >>= fun r=>match r with
  | none=>pure (.done .next)
  | some v=>letOwnedTupleGo t1 it v >>= fun _=>assign t1 env v >>= fun _=>tests ifs1 env >>= fun ok=>
   (if ok=true then (eval i2 env >>= fun x=>standAt i2.pos >>= fun _=>foldedSetIterable i2 env x >>= fun x=>holding [x] (pyIter x) >>= fun j=>runOwn (.compStart (d6 kx vx t1 i1 ifs1 t2 i2 ifs2 scope pos) 1 j (.ref D) env) env >>= fun _=>again (.compLoop (d6 kx vx t1 i1 ifs1 t2 i2 ifs2 scope pos) 0 it (.ref D) env))
     else again (.compLoop (d6 kx vx t1 i1 ifs1 t2 i2 ifs2 scope pos) 0 it (.ref D) env))):=by rfl
theorem vS:compTurn (d6 kx vx t1 i1 ifs1 t2 i2 ifs2 scope pos) 1 it (.ref D) env=(standAt i2.pos >>= fun _=>pyNext it >>= fun r=>match r with
  | none=>pure (.done .next)
  | some v=>letOwnedTupleGo t2 it v >>= fun _=>assign t2 env v >>= fun _=>tests ifs2 env >>= fun ok=>
   (if ok=true then ((eval kx env >>= fun kv=>holding [kv] (eval vx env) >>= fun vv=>standAt { kx.pos with endLine:=vx.pos.endLine,endCol:=vx.pos.endCol } >>= fun _=>holding [kv,vv] (dictSet D kv vv)) >>= fun _=>again (.compLoop (d6 kx vx t1 i1 ifs1 t2 i2 ifs2 scope pos) 1 it (.ref D) env))
     else again (.compLoop (d6 kx vx t1 i1 ifs1 t2 i2 ifs2 scope pos) 1 it (.ref D) env))):=by rfl
theorem t6 (hs:∀ x,foldedSetIterable i2 env x=pure x) (I:Nat->Shared->Prop)
  (turn:∀ n s,I n s->wpAny (model prog w) A (pyNext it) (fun r s1=>match r with
   | none=>R (.ok .next) s1
   | some v=>wpAny (model prog w) A (letOwnedTupleGo t1 it v) (fun _ s2=>wpAny (model prog w) A (assign t1 env v) (fun _ s3=>wpAny (model prog w) A (tests ifs1 env) (fun ok s4=>
     if ok=true then wpAny (model prog w) A (eval i2 env) (fun x s5=>wpAny (model prog w) A (pyIter x) (fun j s6=>
      codeAny (model prog w) A (.compStart (d6 kx vx t1 i1 ifs1 t2 i2 ifs2 scope pos) 1 j (.ref D) env) (fun r s7=>match r with | .ok _=>∃ m,m < n∧I m s7 | .error _=>False) s6) lg s5) lg s4
     else ∃ m,m < n∧I m s4) lg s3) lg s2) lg s1) lg s)
  (n:Nat) (h:I n s):codeAny (model prog w) A (.compLoop (d6 kx vx t1 i1 ifs1 t2 i2 ifs2 scope pos) 0 it (.ref D) env) R s:= by
 refine codeAny_loop rfl I (fun n s hI=>?_) n h
 show wpAny _ A ((compTurn (d6 kx vx t1 i1 ifs1 t2 i2 ifs2 scope pos) 0 it (.ref D) env).onRaise (fun x=>do noteFrame x env;theTreesLotGoes x)) _ _ s
 refine wpAny_noted ?_
 rw [ux]
 refine wpAny_bind (wpAny_standAt (wpAny_bind (wpAny_mono (turn n s hI) (fun r s1 h1=>?_) fun _ _ z=>z.elim)))
 cases r with
 | none=>exact wpAny_pure h1
 | some v=>
  refine wpAny_bind (wpAny_mono h1 (fun _ s2 h2=>wpAny_bind (wpAny_mono h2 (fun _ s3 h3=>wpAny_bind (wpAny_mono h3 (fun ok s4 h4=>?_) fun _ _ z=>z.elim)) fun _ _ z=>z.elim)) fun _ _ z=>z.elim)
  cases ok with
  | false=>exact wpAny_pure ⟨rfl,h4⟩
  | true=>
   refine wpAny_bind (wpAny_mono h4 (fun x s5 h5=>wpAny_bind (wpAny_standAt ?_)) fun _ _ z=>z.elim)
   rw [hs]
   refine wpAny_bind (wpAny_pure (wpAny_bind (wpAny_holding (wpAny_mono h5 (fun j s6 h6=>?_) fun _ _ z=>z.elim))))
   refine wpAny_bind (wpAny_runOwn (codeAny_mono h6 fun r s7 h7=>?_))
   cases r with
   | ok f=>exact wpAny_pure ⟨rfl,h7⟩
   | error e=>exact h7.elim
theorem x4 (I:Nat->Shared->Prop)
  (turn:∀ n s,I n s->wpAny (model prog w) A (pyNext it) (fun r s1=>match r with
   | none=>R (.ok .next) s1
   | some v=>wpAny (model prog w) A (letOwnedTupleGo t2 it v) (fun _ s2=>wpAny (model prog w) A (assign t2 env v) (fun _ s3=>wpAny (model prog w) A (tests ifs2 env) (fun ok s4=>
     if ok=true then wpAny (model prog w) A (eval kx env) (fun y s5=>wpAny (model prog w) A (eval vx env) (fun x s6=>wpAny (model prog w) A (dictSet D y x) (fun _ s7=>∃ m,m < n∧I m s7) lg s6) lg s5) lg s4
     else ∃ m,m < n∧I m s4) lg s3) lg s2) lg s1) lg s)
  (n:Nat) (h:I n s):codeAny (model prog w) A (.compLoop (d6 kx vx t1 i1 ifs1 t2 i2 ifs2 scope pos) 1 it (.ref D) env) R s:= by
 refine codeAny_loop rfl I (fun n s hI=>?_) n h
 show wpAny _ A ((compTurn (d6 kx vx t1 i1 ifs1 t2 i2 ifs2 scope pos) 1 it (.ref D) env).onRaise (fun x=>do noteFrame x env;theTreesLotGoes x)) _ _ s
 refine wpAny_noted ?_
 rw [vS]
 refine wpAny_bind (wpAny_standAt (wpAny_bind (wpAny_mono (turn n s hI) (fun r s1 h1=>?_) fun _ _ z=>z.elim)))
 cases r with
 | none=>exact wpAny_pure h1
 | some v=>
  refine wpAny_bind (wpAny_mono h1 (fun _ s2 h2=>wpAny_bind (wpAny_mono h2 (fun _ s3 h3=>wpAny_bind (wpAny_mono h3 (fun ok s4 h4=>?_) fun _ _ z=>z.elim)) fun _ _ z=>z.elim)) fun _ _ z=>z.elim)
  cases ok with
  | false=>exact wpAny_pure ⟨rfl,h4⟩
  | true=>exact wpAny_bind (wpAny_bind (wpAny_mono h4 (fun y s5 h5=>wpAny_bind (wpAny_holding (wpAny_mono h5 (fun x s6 h6=>wpAny_bind (wpAny_standAt (wpAny_holding (wpAny_mono h6 (fun _ s7 h7=>wpAny_pure ⟨rfl,h7⟩) fun _ _ z=>z.elim)))) fun _ _ z=>z.elim))) fun _ _ z=>z.elim))
theorem tR (h0:codeAny (model prog w) A (.compLoop (d6 kx vx t1 i1 ifs1 t2 i2 ifs2 scope pos) 1 it (.ref D) env) R s)
  (h:wpAny (model prog w) A (pyIter it) (fun j s'=>codeAny (model prog w) A (.compLoop (d6 kx vx t1 i1 ifs1 t2 i2 ifs2 scope pos) 1 j (.ref D) env) R s') lg s) :
  codeAny (model prog w) A (.compStart (d6 kx vx t1 i1 ifs1 t2 i2 ifs2 scope pos) 1 it (.ref D) env) R s:= by
 refine codeAny_of_tree ?_
 show wpAny _ _ ((compStart (d6 kx vx t1 i1 ifs1 t2 i2 ifs2 scope pos) 1 it (.ref D) env).onRaise (fun x=>do noteFrame x env;standAt theWindowsPlace)) _ _ s
 refine wpAny_notedAt ?_
 unfold compStart
 show wpAny _ _ (ask >>= _) _ _ s
 refine wpAny_bind (wpAny_askSetting (wpAny_ite ?_))
 split
 ·first
   | exact wpAny_bind (wpAny_pure (wpAny_pure (And.intro rfl h0)))
   | exact wpAny_pure (And.intro rfl h0)
 ·first
   | exact wpAny_bind (wpAny_rule (wpAny_bind (wpAny_standAt (wpAny_bind (wpAny_mono h (fun j s' q=>wpAny_pure (And.intro rfl q)) fun _ _ z=>z.elim)))))
   | (refine wpAny_bind (wpAny_rule ?_);show wpAny _ _ (standAt i2.pos >>= _) _ _ s;exact wpAny_bind (wpAny_standAt (wpAny_bind (wpAny_mono h (fun j s' q=>wpAny_pure (And.intro rfl q)) fun _ _ z=>z.elim))))
end
abbrev Hx:=Addr->St->Hp->(St->Hp->Prop)->Prop
def zX (wi:TI) (g:TG) (tt:TT) (tk tv:TE):Hx:=fun l σ H Q=>wi σ H fun J H1=>∃ W:Nat->Nat->St->Hp->Prop,(∃ m,W 0 m σ H1)∧∀ i m σ' H,W i m σ' H ->
 ((J.stop i H∧Q σ' H) ∨ (J.go i H∧∀ x H',J.yld i H x H' -> g x σ' H' fun σ2 H2=>tt σ2 H2 fun b H3=>
  if b=true then tk σ2 H3 fun y H4=>tv σ2 H4 fun v H5=>∃ H6,DPut H5 l y v H6∧∃ m',m' < m∧W (i + 1) m' σ2 H6
  else ∃ m',m' < m∧W (i + 1) m' σ2 H3))
section
variable {Y:Cx} {kx vx t1 i1 t2 i2:Expr} {ifs1 ifs2:List Expr} {scope:Scope} {pos:Pos} {wi:TI} {g:TG} {tt:TT} {tk tv:TE}
theorem D3 (hx:Y.xe=lg) (hc:Y.calm=true) (hi:PI Y t2 i2 wi) (hg:PG Y t2 g) (ht:qj Y ifs2 tt) (he:PE Y kx tk) (hv:PE Y vx tv) (hu:Y.A.units < cLine) {l:Addr} {pins:List (Addr × Obj)} {s:Shared} {σ:St} {H:Hp} {Q:St->Hp->Prop} (I:Inv Y pins σ H s) (h:zX wi g tt tk tv l σ H Q) :
  wpAny (model Y.prog Y.w) Y.A (eval i2 Y.env) (fun x s5=>wpAny (model Y.prog Y.w) Y.A (pyIter x) (fun j s6=>codeAny (model Y.prog Y.w) Y.A (.compStart (d6 kx vx t1 i1 ifs1 t2 i2 ifs2 scope pos) 1 j (.ref l) Y.env)
   (fun r s7=>match r with | .ok _=>∃ σ' H',Inv Y pins σ' H' s7∧Q σ' H' | .error _=>False) s6) lg s5) lg s:= by
 have hi':=hi pins s σ H _ I h
 rw [hx] at hi'
 refine bx hi' fun xv s1 h1=>bx h1 fun itv s2 h2=>?_
 obtain ⟨it,fp,tn,J,H2,e,I2,T,st2,f2,q2⟩:=h2
 subst e
 obtain ⟨W,⟨m0,w0⟩,turn⟩:=q2
 have stat:∀ {H':Hp},(∀ b ∈ fp,H' b=none)->∀ b ∈ fp,dg Y pins H' b:=fun hn b hb=>⟨hn b hb,(f2 b hb).2⟩
 have loop:codeAny (model Y.prog Y.w) Y.A (.compLoop (d6 kx vx t1 i1 ifs1 t2 i2 ifs2 scope pos) 1 (.ref it) (.ref l) Y.env) (fun r s7=>match r with | .ok _=>∃ σ' H',Inv Y pins σ' H' s7∧Q σ' H' | .error _=>False) s2:= by
  refine x4 (fun n s'=>∃ i σ' H',Inv Y pins σ' H' s' ∧ tn i s'.heap∧(∀ b ∈ fp,H' b=none)∧W i n σ' H') ?_ m0 ⟨0,σ,H2,I2,st2,fun b hb=>(f2 b hb).1,w0⟩
  rintro n s5 ⟨i,σ5,H5,I5,st5,fr5,w5⟩
  rcases turn i n σ5 H5 w5 with ⟨stop,q⟩ | ⟨go,step⟩
  ·refine wpAny_mono (T.done Y rfl rfl rfl hc i pins s5 σ5 H5 lg I5 (stat fr5) st5 stop) (fun r s6 hr=>?_) fun _ _ z=>z
   obtain ⟨rfl,I6⟩:=hr
   exact ⟨σ5,H5,I6,q⟩
  ·refine wpAny_mono (T.item Y rfl rfl rfl hc i pins s5 σ5 H5 lg I5 (stat fr5) st5 go) (fun r s6 hr=>?_) fun _ _ z=>z
   obtain ⟨u,rfl,h6⟩:=hr
   refine bx h6 fun _ s7 ⟨x,H7,I7,r7,y7,st7,fr7⟩=>?_
   have I7':=I7.pinned (stat fr7) (T.obj _ _ st7)
   have hg':=hg _ s7 σ5 H7 x u _ I7' r7 (step x H7 y7)
   rw [hx] at hg'
   refine bx hg' fun _ s8 ⟨σ8,H8,I8,q8⟩=>?_
   have ht':=ht _ s8 σ8 H8 _ I8 q8
   rw [hx] at ht'
   refine bx ht' fun b s9 ⟨H9,I9,q9⟩=>?_
   have again:∀ {Ha:Hp} {sa:Shared} {m':Nat},Inv Y (pins ++ iq fp s7.heap) σ8 Ha sa->m' < n->W (i + 1) m' σ8 Ha ->
     ∃ m,m < n∧∃ i σ' H',Inv Y pins σ' H' sa∧tn i sa.heap∧(∀ b ∈ fp,H' b=none)∧W i m σ' H':=fun {Ha sa m'} Ia hm wa=>by
    refine ⟨m',hm,i + 1,σ8,Ha,Ia.unpinned,T.keep _ _ _ st7 fun b hb o e=>(Ia.pin (b,o) (List.mem_append_right _ (List.mem_append_right _ (cg hb e)))).1,fun b hb=>?_,wa⟩
    obtain ⟨o,e,d⟩:=T.obj _ _ st7 b hb
    exact (Ia.pin (b,o) (List.mem_append_right _ (List.mem_append_right _ (cg hb e)))).2.1
   cases b with
   | false=>
    rw [if_neg Bool.false_ne_true] at q9 ⊢
    obtain ⟨m',hm,wa⟩:=q9
    exact again I9 hm wa
   | true=>
    rw [if_pos rfl] at q9 ⊢
    have he':=he _ s9 σ8 H9 _ I9 q9
    rw [hx] at he'
    refine bx he' fun y s10 ⟨ky,H10,I10,rk,q10⟩=>?_
    have hv':=hv _ s10 σ8 H10 _ I10 q10
    rw [hx] at hv'
    refine bx hv' fun x2 s11 ⟨v,H11,I11,rv,H12,dp,m',hm,wa⟩=>?_
    exact uj hu I11 dp rk rv fun s12 I12=>again I12 hm wa
 exact tR loop (T.self _ 0 _ _ _ st2 loop)
end
def sO (wi:TI) (own:Nat) (g:TG) (tt:TT) (tb:Hx):TE:=fun σ H Q=>wi σ H fun J H1=>∀ l,H1 l=none->∃ o0:HO,(o0=.dK [] ∨ o0=.dT [])∧∃ W:Nat->Nat->Hp->Prop,(∃ m,W 0 m (upd H1 l o0))∧∀ i m H,W i m H ->
 ((J.stop i H∧Q (.ref l) H) ∨ (J.go i H∧∀ x H',J.yld i H x H' -> g x (σ ++ List.replicate own none) H' fun σ2 H2=>tt σ2 H2 fun b H3=>
  if b=true then tb l σ2 H3 fun σ3 H4=>σ3.take σ.length=σ∧∃ m',m' < m∧W (i + 1) m' H4
  else σ2.take σ.length=σ∧∃ m',m' < m∧W (i + 1) m' H3))
section
variable {X:Cx} {kx vx t1 i1 t2 i2:Expr} {ifs1 ifs2:List Expr} {scope:Scope} {pos pos':Pos} {N' own:List Str} {wi wi2:TI} {g g2:TG} {tt tt2:TT} {tk tv:TE}
theorem ug (hi:PI X t1 i1 wi) (hg:∀ s H fp pins,PG (blk X N' own scope s H fp pins) t1 g) (ht:∀ s H fp pins,qj (blk X N' own scope s H fp pins) ifs1 tt) (hi2:∀ s H fp pins,PI (blk X N' own scope s H fp pins) t2 i2 wi2) (hg2:∀ s H fp pins,PG (blk X N' own scope s H fp pins) t2 g2)
  (ht2:∀ s H fp pins,qj (blk X N' own scope s H fp pins) ifs2 tt2) (he:∀ s H fp pins,PE (blk X N' own scope s H fp pins) kx tk) (hv:∀ s H fp pins,PE (blk X N' own scope s H fp pins) vx tv) (hu:X.A.units < cLine)
  (hS:dP N' own X.env.scope scope=true:=by rfl) (hM:dQ X.N N' scope=true:=by rfl) (hk:scope.kind=.function:=by rfl) (hc:X.calm=true:=by rfl) (hs:∀ x,foldedSetIterable i1 X.env x=pure x:=by intro _;rfl) (hs2:∀ e x,foldedSetIterable i2 e x=pure x:=by intro _ _;rfl) :
  PE X (d6 kx vx t1 i1 ifs1 t2 i2 ifs2 scope pos) (sO wi own.length g tt (zX wi2 g2 tt2 tk tv)):= by
 intro pins s σ H Q I h
 have ev:eval (d6 kx vx t1 i1 ifs1 t2 i2 ifs2 scope pos) X.env=comprehension (d6 kx vx t1 i1 ifs1 t2 i2 ifs2 scope pos) scope X.env (firstIterPos [⟨t1,i1,ifs1,0⟩,⟨t2,i2,ifs2,0⟩] pos) newDict (firstAsync [⟨t1,i1,ifs1,0⟩,⟨t2,i2,ifs2,0⟩]) (firstIter [⟨t1,i1,ifs1,0⟩,⟨t2,i2,ifs2,0⟩] X.env):=by rw [eval]
 rw [ev]
 have S:=jf hS
 have Mk:=jm hM
 refine wpAny_comprehension_free rfl hs (eT fun n hn=>I.ok.has n (S.free n hn)) hk S.loc (bx (hi pins s σ H _ I h) fun xv s1 h1=>bx h1 fun itv s2 h2=>?_)
 obtain ⟨it,fp,tn,J,H2,e,I2,T,st2,f2,q2⟩:=h2
 subst e
 refine wpAny_newObj_type ?_
 have hl2:H2 s2.heap.objs.size=none:=I2.fresh
 obtain ⟨o0,ho0,W,⟨m0,w0⟩,turn⟩:=q2 s2.heap.objs.size hl2
 have I3:Inv X pins σ (upd H2 s2.heap.objs.size o0) { s2 with heap:=s2.heap.push { cls:=.type "dict",data:=.dict #[] } }:= by
  rcases ho0 with rfl | rfl
  ·exact I2.laid (t':=s2.toks) (fun _ _ q=>Heap.get?_push_of_some _ q) (Nat.le_refl _) (dk_empty s2.heap I2.big)
  ·exact I2.laid (t':=s2.toks) (fun _ _ q=>Heap.get?_push_of_some _ q) (Nat.le_refl _) (dt_empty s2.heap I2.big)
 generalize hl:s2.heap.objs.size=l at *
 have ob2:∀ b ∈ fp,b < l:=fun b hb=>by
  obtain ⟨o,e,_⟩:=T.obj _ _ st2 b hb
  rw [<- hl];exact Heap.lt_size e
 have st3:tn 0 (s2.heap.push { cls:=.type "dict",data:=.dict #[] }):=T.keep _ _ _ st2 fun b _ o e=>Heap.get?_push_of_some _ e
 have sz3:l < (s2.heap.push { cls:=.type "dict",data:=.dict #[] }).objs.size:=by rw [Heap.size_push,hl];exact Nat.lt_succ_self _
 have f3:∀ b ∈ fp,dg X pins (upd H2 l o0) b:=fun b hb=>⟨by rw [aq (Nat.ne_of_lt (ob2 b hb))];exact (f2 b hb).1,(f2 b hb).2⟩
 generalize hs3:({ s2 with heap:=s2.heap.push { cls:=.type "dict",data:=.dict #[] } }:Shared)=s3 at I3
 have hh3:s3.heap=s2.heap.push { cls:=.type "dict",data:=.dict #[] }:=by rw [<- hs3]
 rw [<- hh3] at st3 sz3
 have ob3:∀ b ∈ fp,b < s3.heap.objs.size:=fun b hb=>Nat.lt_trans (ob2 b hb) sz3
 generalize upd H2 l o0=H3 at *
 show wpAny _ _ (newFunctionEnv scope X.env.globals (cM X.env.cells scope.names []) [] X.env.qual none .none (some X.env)) _ _ _
 have goal:wpAny (model X.prog X.w) X.A (newFunctionEnv scope X.env.globals (cM X.env.cells scope.names []) [] X.env.qual none .none (some X.env))
   (fun cenv s₄=>codeAny (model X.prog X.w) X.A (.compStart (d6 kx vx t1 i1 ifs1 t2 i2 ifs2 scope pos) 0 (.ref it) (.ref l) { cenv with scope:=relabel scope X.env }) (compPost (model X.prog X.w) X.A X.xe none (EP X pins σ Q) (.ref l) cenv.locals) s₄) X.xe s3:= by
  refine jM ?_
  have IY:=I3.blk f3 ob3 hk S Mk
  have keep:=@Inv.blkKeep s3 scope
  have st4:tn 0 (pushCells (s3.heap.push { cls:=.type "dict",data:=.dict #[] }) scope.names):=T.keep _ _ _ st3 fun b _ o e=>keep b o e
  have hcells:=jt I3 S
  have stat:∀ {H':Hp},(∀ b ∈ fp,H' b=none)->∀ b ∈ fp,dg (blk X N' own scope s3 H3 fp pins) [] H' b:=fun hn b hb=>by
   refine ⟨hn b hb,Nat.ne_of_lt (ob3 b hb),fun z=>?_,.inl hb,fun x c h=>?_,fun p hp=>?_⟩
   ·rcases List.mem_cons.mp (I3.stkSub b z) with z | z
    ·exact (f3 b hb).2.1 z
    ·exact (f3 b hb).2.2.1 z
   ·rcases hcells x c h with ⟨_,_,a3,_⟩ | ⟨a1,_,_⟩
    ·intro z;subst z;exact absurd (ob3 _ hb) (Nat.not_lt.mpr (Nat.le_of_succ_le a3))
    ·exact (f3 b hb).2.2.2.2.1 x c a1
   ·have hp':p ∈ X.pn ++ pins:= by
     rcases List.mem_append.mp hp with z | z
     ·exact z
     ·exact nomatch z
    exact (f3 b hb).2.2.2.2.2 p hp'
  have loop:codeAny (model X.prog X.w) X.A (.compLoop (d6 kx vx t1 i1 ifs1 t2 i2 ifs2 scope pos) 0 (.ref it) (.ref l) (blk X N' own scope s3 H3 fp pins).env)
    (compPost (model X.prog X.w) X.A X.xe none (EP X pins σ Q) (.ref l) s3.heap.objs.size) { s3 with heap:=pushCells (s3.heap.push { cls:=.type "dict",data:=.dict #[] }) scope.names }:= by
   refine t6 (hs2 _) (fun n s'=>∃ i σ' H',Inv (blk X N' own scope s3 H3 fp pins) [] σ' H' s' ∧ σ'.take σ.length=σ∧tn i s'.heap∧(∀ b ∈ fp,H' b=none)∧W i n H') ?_ m0
    ⟨0,_,H3,IY,by rw [List.take_left'] <;> rfl,st4,fun b hb=>(f3 b hb).1,w0⟩
   rintro n s5 ⟨i,σ5,H5,I5,e5,st5,fr5,w5⟩
   rcases turn i n H5 w5 with ⟨stop,q⟩ | ⟨go,step⟩
   ·refine wpAny_mono (T.done (blk X N' own scope s3 H3 fp pins) rfl rfl rfl hc i [] s5 σ5 H5 lg I5 (stat fr5) st5 stop) (fun r s6 hr=>?_) fun _ _ z=>z
    obtain ⟨rfl,I6⟩:=hr
    obtain ⟨m,hn,_⟩:=id I6.loc
    refine ⟨m,hn,fun h' sb=>⟨.ref l,H5,?_,rfl,q⟩⟩
    refine (I3.unblk f3 I6).turned (t':=s6.toks) (fun b o hb e=>(sb.2 b hb).trans e) I6.free (Nat.ne_of_gt I3.lt) (.inr I3.sz) (fun x c e z=>?_) fun p hp z=>?_
    ·obtain ⟨v,qc⟩:=I3.cell x c e
     exact absurd qc.lt (by rw [z];exact Nat.lt_irrefl _)
    ·exact absurd (Heap.lt_size (I3.pin p hp).1) (by rw [z];exact Nat.lt_irrefl _)
   ·have lenσ:σ5.length=(σ ++ List.replicate own.length (none:Option V)).length:= by
     rw [I5.len,List.length_append,List.length_replicate,I.len]
     show (N' ++ own).length=_
     rw [List.length_append,Mk.len]
    have I5':Inv (blk X N' own scope s3 H3 fp pins) [] (σ ++ List.replicate own.length none) H5 s5:=I5.weak lenσ.symm fun j v e=>by
     have hj:j < σ.length:= by
      by_cases hj:j < σ.length
      ·exact hj
      ·rw [List.getElem?_append_right (by omega),List.getElem?_replicate] at e
       split at e <;> cases e
     rw [List.getElem?_append_left hj] at e
     rw [<- e5,List.getElem?_take_of_lt hj] at e
     exact e
    refine wpAny_mono (T.item (blk X N' own scope s3 H3 fp pins) rfl rfl rfl hc i [] s5 _ H5 lg I5' (stat fr5) st5 go) (fun r s6 hr=>?_) fun _ _ z=>z
    obtain ⟨u,rfl,h6⟩:=hr
    refine bx h6 fun _ s7 ⟨x,H7,I7,r7,y7,st7,fr7⟩=>?_
    have I7':=I7.pinned (stat fr7) (T.obj _ _ st7)
    refine bx (hg s3 H3 fp pins _ s7 _ H7 x u _ I7' r7 (step x H7 y7)) fun _ s8 ⟨σ8,H8,I8,q8⟩=>?_
    refine bx (ht s3 H3 fp pins _ s8 σ8 H8 _ I8 q8) fun b s9 ⟨H9,I9,q9⟩=>?_
    have again:∀ {σa:St} {Ha:Hp} {sa:Shared} {m':Nat},Inv (blk X N' own scope s3 H3 fp pins) ([] ++ iq fp s7.heap) σa Ha sa->σa.take σ.length=σ->m' < n->W (i + 1) m' Ha ->
      ∃ m,m < n∧∃ i σ' H',Inv (blk X N' own scope s3 H3 fp pins) [] σ' H' sa∧σ'.take σ.length=σ∧tn i sa.heap∧(∀ b ∈ fp,H' b=none)∧W i m H':=fun {σa Ha sa m'} Ia ea hm wa=>by
     refine ⟨m',hm,i + 1,σa,Ha,Ia.unpinned,ea,T.keep _ _ _ st7 fun b hb o e=>(Ia.pin (b,o) (List.mem_append_right _ (List.mem_append_right _ (cg hb e)))).1,fun b hb=>?_,wa⟩
     obtain ⟨o,e,d⟩:=T.obj _ _ st7 b hb
     exact (Ia.pin (b,o) (List.mem_append_right _ (List.mem_append_right _ (cg hb e)))).2.1
    cases b with
    | false=>
     rw [if_neg Bool.false_ne_true] at q9 ⊢
     obtain ⟨e8,m',hm,wa⟩:=q9
     exact again I9 e8 hm wa
    | true=>
     rw [if_pos rfl] at q9 ⊢
     refine bx (D3 (Y:=blk X N' own scope s3 H3 fp pins) rfl hc (hi2 s3 H3 fp pins) (hg2 s3 H3 fp pins) (ht2 s3 H3 fp pins) (he s3 H3 fp pins) (hv s3 H3 fp pins) hu I9 q9) fun xv sA hA=>bx hA fun j sB hB=>codeAny_mono hB fun r sC hC=>?_
     cases r with
     | error e=>exact hC.elim
     | ok f=>
      obtain ⟨σE,HE,IE,eE,m',hm,wa⟩:=hC
      exact again IE eE hm wa
  exact codeAny_compStart_dict loop (T.self _ 0 _ _ _ st4 loop)
 exact goal
end
end L2
namespace Jt
open PySem L2 PySem.Spec PyProof.Rows
abbrev PL:=List ((Int × Int) × Int)
def k_ (kvs:PL) (k:Int × Int) (v:Int):PL:=if (kvs.any fun p=>decide (p.1=k))=true then kvs.map (fun p=>if p.1=k then (p.1,v) else p) else kvs ++ [(k,v)]
theorem r9 (a b:Int × Int):(([.inl a.1,.inl a.2]:List Key)=[.inl b.1,.inl b.2]) ↔ a=b:= by
 obtain ⟨a1,a2⟩:=a
 obtain ⟨b1,b2⟩:=b
 simp
theorem CG (kvs:PL) (k:Int × Int) (v:Int):putK (kvs.map fun p=>(([.inl p.1.1,.inl p.1.2],.int p.2):List Key × V)) [.inl k.1,.inl k.2] (.int v)=(k_ kvs k v).map fun p=>([.inl p.1.1,.inl p.1.2],.int p.2):= by
 unfold putK k_
 have e:((kvs.map fun p=>(([.inl p.1.1,.inl p.1.2],.int p.2):List Key × V)).any fun kv=>decide (kv.1=[.inl k.1,.inl k.2]))=kvs.any fun p=>decide (p.1=k):= by
  rw [List.any_map]
  refine List.any_congr rfl fun p=>?_
  exact decide_eq_decide.mpr (r9 p.1 k)
 rw [e]
 split
 ·rw [List.map_map,List.map_map]
  refine List.map_congr_left fun p _=>?_
  by_cases q:p.1=k
  ·simp [q]
  ·have q':¬ (([.inl p.1.1,.inl p.1.2]:List Key)=[.inl k.1,.inl k.2]):=fun z=>q ((r9 _ _).mp z)
   show (if ([.inl p.1.1,.inl p.1.2]:List Key)=[.inl k.1,.inl k.2] then _ else _)=((fun p:(Int × Int) × Int=>(([.inl p.1.1,.inl p.1.2],.int p.2):List Key × V)) (if p.1=k then (p.1,v) else p))
   rw [if_neg q',if_neg q]
 ·rw [List.map_append];rfl
theorem xu (kvs:PL) (k:Int × Int) (v:Int):(k_ kvs k v).length ≤ kvs.length + 1:= by
 unfold k_
 split
 ·rw [List.length_map];omega
 ·rw [List.length_append];exact Nat.le_refl _
def jb (gt:D->M Unit) (tt:M Bool) (tk tv:M D) (d:D):M (Option ((Int × Int) × Int)):=do
 gt d
 let b <- tt
 if b=true then do
  let k <- tk
  let v <- tv
  match k,v with
  | .tup [.int i,.int i'],.int j=>pure (some ((i,i'),j))
  | _,_=>lift none
 else pure none
def Cu (acc:PL):Option ((Int × Int) × Int)->PL
 | none=>acc
 | some (k,v)=>k_ acc k v
def gK (turn:D->M (Option ((Int × Int) × Int))) (fin:DS->Bool):List (DS->Option D)->PL->M PL
 | [],acc=>fun δ=>if fin δ=true then some (acc,δ) else none
 | a :: r,acc=>fun δ=>match a δ with
  | none=>none
  | some d=>match turn d δ with
   | none=>none
   | some (o,δ2)=>gK turn fin r (Cu acc o) δ2
def oV (fi:M iB) (turn:D->M (Option ((Int × Int) × Int))) (acc:PL):M PL:=do
 let it <- fi
 let _ <- lift (uI it.1.length)
 gK turn it.2 it.1 acc
def jk (gt:D->M Unit) (tt:M Bool) (inn:PL->M PL) (d:D) (acc:PL):M PL:=do
 gt d
 let b <- tt
 if b=true then inn acc else pure acc
def gf (own:Nat) (turn:D->PL->M PL) (fin:DS->Bool):List (DS->Option D)->PL->M PL
 | [],acc=>fun δ=>if fin δ=true then some (acc,δ) else none
 | a :: r,acc=>fun δ=>match a δ with
  | none=>none
  | some d=>match turn d acc (δ ++ List.replicate own .un) with
   | none=>none
   | some (acc2,δ2)=>gf own turn fin r acc2 (δ2.take δ.length)
def i5 (lo own:Nat) (fi:M iB) (turn:D->PL->M PL):M D:=do
 f9 lo
 let it <- fi
 let _ <- lift (uI it.1.length)
 let kvs <- gf own turn it.2 it.1 []
 pure (.dip kvs)
section
variable {X:Cx} {kx vx t1 i1 t2 i2:Expr} {tk tv:M D} {pos:Pos} {tt tt2:M Bool} {fi fi2:M iB} {gt gt2:D->M Unit}
theorem zp {lo n0:Nat} (hn0:n0 ≤ 1000000) {c:Ct} {q:Addr} {acc xs:PL} {S:List D} {T:List V} {δ δ':DS} {σ:L2.St} {H:Hp} {Q:L2.St->Hp->Prop} (s:Sl { c with Z:=upd c.Z q (eC acc) } δ S σ T H) (ln:acc.length ≤ n0) (f2:q ∉ c.B) (f3:c.H0 q=none)
  (e:oV fi (jb gt tt tk tv) acc δ=some (xs,δ')) (k:∀ σ' H',xs.length ≤ n0 + 1000->(∀ n,n ≤ lo->σ'.take n=σ.take n)->Sl { c with Z:=upd c.Z q (eC xs) } δ' S σ' T H' -> Q σ' H') :
  zX (F3 fi) (Eg lo gt) (qS tt) (tM tk) (tM tv) q σ H Q:= by
 obtain ⟨it,δ2,e1,e⟩:=bind_some e
 obtain ⟨u',δ3,e2,e⟩:=bind_some e
 obtain ⟨e3,rfl⟩:=ax e2
 have hfew:=lJ e3
 refine ⟨_,δ,S,T,it,δ2,s,e1,fun J Sx Tx H1 l hJ s1=>?_⟩
 obtain ⟨items,fin⟩:=it
 dsimp only at e hfew
 refine ⟨fun i m σ' H=>∃ δi accI,m=items.length - i∧i ≤ items.length∧accI.length ≤ n0 + i∧(∀ n,n ≤ lo->σ'.take n=σ.take n)∧Sl { c with Z:=upd c.Z q (eC accI) } δi (Sx ++ S) σ' (Tx ++ T) H ∧
  gK (jb gt tt tk tv) fin (items.drop i) accI δi=some (xs,δ'),⟨_,δ2,acc,rfl,Nat.zero_le _,ln,fun _ _=>rfl,s1,e⟩,?_⟩
 rintro i m σ' H ⟨δi,accI,rfl,hi,li,hσ,s,em⟩
 by_cases hlt:i < items.length
 ·rw [List.drop_eq_getElem_cons hlt] at em
  unfold gK at em
  cases ea:items[i] δi with
  | none=>rw [ea] at em;cases em
  | some d=>
   rw [ea] at em
   dsimp only at em
   cases et:jb gt tt tk tv d δi with
   | none=>rw [et] at em;cases em
   | some p=>
    obtain ⟨o,δt⟩:=p
    rw [et] at em
    dsimp only at em
    obtain ⟨u1,δa,ea1,et⟩:=bind_some et
    obtain ⟨b,δb,eb1,et⟩:=bind_some et
    obtain ⟨go,yld⟩:=(hJ { c with Z:=upd c.Z q (eC accI) } δi S σ' T H i s).1 items[i] d (List.getElem?_eq_getElem hlt) ea
    refine .inr ⟨go,fun x H' y=>?_⟩
    refine ⟨{ c with Z:=upd c.Z q (eC accI) },δi,Sx ++ S,Tx ++ T,d,δa,yld x H' y,ea1,fun σ2 H2 hn s2=>?_⟩
    have hσ2:∀ n,n ≤ lo->σ2.take n=σ.take n:=fun n h=>(hn n h).trans (hσ n h)
    refine ⟨{ c with Z:=upd c.Z q (eC accI) },δa,Sx ++ S,Tx ++ T,b,δb,s2,eb1,fun H3 s3=>?_⟩
    cases b with
    | true=>
     rw [if_pos rfl] at et
     refine zK ?_
     obtain ⟨kd,δk,ek,et⟩:=bind_some et
     obtain ⟨vd,δv,ev,et⟩:=bind_some et
     split at et
     ·rename_i ki ki' vi _
      obtain ⟨rfl,rfl⟩:=ai et
      refine ⟨{ c with Z:=upd c.Z q (eC accI) },δb,Sx ++ S,Tx ++ T,_,δk,s3,ek,fun v1 H4 s4=>?_⟩
      refine ⟨{ c with Z:=upd c.Z q (eC accI) },δk,_,_,_,δv,s4,ev,fun v2 H5 s5=>?_⟩
      have hv2:=s5.st.head.int
      subst hv2
      obtain ⟨p,vs,rfl,h2,h3⟩:=s5.st.tail.head.tup
      obtain ⟨w1,r1,rfl,g1,h3⟩:=h3.inv
      obtain ⟨w2,r2,rfl,g2,h3⟩:=h3.inv
      have e3:=h3.inv0
      subst e3
      cases g1.int
      cases g2.int
      have hq5:H5 q=some (eC accI):=s5.zz q _ ay
      have pt:=DPut.t (k:=[.inl ki,.inl ki']) (v:=.int vi) hq5 (aK _ _ h2) (by rw [List.length_map];unfold sizeLine;omega)
      rw [CG accI (ki,ki') vi] at pt
      refine ⟨_,pt,items.length - (i + 1),by omega,δv,k_ accI (ki,ki') vi,rfl,hlt,by have:=xu accI (ki,ki') vi;omega,hσ2,?_,em⟩
      exact Sl.hideSet (eC (k_ accI (ki,ki') vi)) s5.pop.pop f2 f3
     ·cases et
    | false=>
     rw [if_neg Bool.false_ne_true] at et
     refine y3 ?_
     obtain ⟨rfl,rfl⟩:=ai et
     exact ⟨items.length - (i + 1),by omega,δb,accI,rfl,hlt,by omega,hσ2,s3,em⟩
 ·have ei:i=items.length:=by omega
  subst ei
  rw [List.drop_length] at em
  unfold gK at em
  by_cases hf:fin δi=true
  ·rw [if_pos hf] at em
   obtain ⟨rfl,rfl⟩:accI=xs∧δi=δ':=by cases em;exact ⟨rfl,rfl⟩
   refine .inl ⟨(hJ { c with Z:=upd c.Z q (eC accI) } _ S σ' T H _ s).2 rfl hf,k σ' H (by omega) hσ ?_⟩
   exact s.stk (s.st.right l)
  ·rw [if_neg hf] at em;cases em
theorem q5 {lo own:Nat}:∀ σ H Q,tM (i5 lo own fi (jk gt tt (oV fi2 (jb gt2 tt2 tk tv)))) σ H Q->sO (FW fi) own (Eg lo gt) (qS tt) (zX (F3 fi2) (Eg lo gt2) (qS tt2) (tM tk) (tM tv)) σ H Q:=fun σ H Q ⟨c,δ0,S,T,dd,δ',s0,e,k⟩=>by
 obtain ⟨u,δ1,e0,e⟩:=bind_some e
 have hlo:σ.length=lo∧δ0=δ1:= by
  unfold f9 at e0
  split at e0
  ·cases e0;exact ⟨by rw [<- s0.len];assumption,rfl⟩
  ·cases e0
 obtain ⟨hlo,rfl⟩:=hlo
 obtain ⟨it,δ2,e1,e⟩:=bind_some e
 obtain ⟨u',δ3,e2,e⟩:=bind_some e
 obtain ⟨e3,rfl⟩:=ax e2
 have hfew:=lJ e3
 obtain ⟨kvs,δ4,e4,e⟩:=bind_some e
 obtain ⟨rfl,rfl⟩:=ai e
 refine ⟨c,δ0,S,T,it,δ2,s0,e1,fun J Sx Tx H1 l hJ s1 q hq=>?_⟩
 obtain ⟨items,fin⟩:=it
 dsimp only at e4 hfew
 obtain ⟨f1,f2,f3⟩:=s1.fresh hq
 refine ⟨.dT [],.inr rfl,fun i m H=>∃ δi acc,m=items.length - i∧i ≤ items.length∧acc.length ≤ 1000 * i∧Sl { c with Z:=upd c.Z q (eC acc) } δi (Sx ++ S) σ (Tx ++ T) H ∧
  gf own (jk gt tt (oV fi2 (jb gt2 tt2 tk tv))) fin (items.drop i) acc δi=some (kvs,δ4),⟨_,δ2,[],rfl,Nat.zero_le _,Nat.le_refl _,s1.hide hq,e4⟩,?_⟩
 rintro i m H ⟨δi,acc,rfl,hi,li,s,em⟩
 by_cases hlt:i < items.length
 ·rw [List.drop_eq_getElem_cons hlt] at em
  unfold gf at em
  cases ea:items[i] δi with
  | none=>rw [ea] at em;cases em
  | some d=>
   rw [ea] at em
   dsimp only at em
   cases et:jk gt tt (oV fi2 (jb gt2 tt2 tk tv)) d acc (δi ++ List.replicate own .un) with
   | none=>rw [et] at em;cases em
   | some p=>
    obtain ⟨acc2,δt⟩:=p
    rw [et] at em
    dsimp only at em
    obtain ⟨u1,δa,ea1,et⟩:=bind_some et
    obtain ⟨b,δb,eb1,et⟩:=bind_some et
    obtain ⟨go,yld⟩:=(hJ { c with Z:=upd c.Z q (eC acc) } δi S T H i s).1 items[i] d (List.getElem?_eq_getElem hlt) ea
    refine .inr ⟨go,fun x H' y=>?_⟩
    refine ⟨{ c with Z:=upd c.Z q (eC acc) },δi ++ List.replicate own .un,Sx ++ S,Tx ++ T,d,δa,(yld x H' y).ext own,ea1,fun σ2 H2 hn s2=>?_⟩
    have ht:σ2.take σ.length=σ:= by
     rw [hn _ (Nat.le_of_eq hlo)]
     exact List.take_left' rfl
    refine ⟨{ c with Z:=upd c.Z q (eC acc) },δa,Sx ++ S,Tx ++ T,b,δb,s2,eb1,fun H3 s3=>?_⟩
    have cutL:δi.length=σ.length:=s.len
    cases b with
    | true=>
     rw [if_pos rfl] at et
     refine zK ?_
     refine zp (n0:=1000 * i) (by omega) s3 li f2 f3 et fun σ3 H4 ll hn' s4=>?_
     have ht3:σ3.take σ.length=σ:=by rw [hn' _ (Nat.le_of_eq hlo)];exact ht
     refine ⟨ht3,items.length - (i + 1),by omega,δt.take δi.length,acc2,rfl,hlt,by omega,?_,em⟩
     have s5:=s4.cut σ.length
     rw [ht3,<- cutL] at s5
     exact s5
    | false=>
     rw [if_neg Bool.false_ne_true] at et
     refine y3 ?_
     obtain ⟨rfl,rfl⟩:=ai et
     refine ⟨ht,items.length - (i + 1),by omega,δb.take δi.length,acc,rfl,hlt,by omega,?_,em⟩
     have s5:=s3.cut σ.length
     rw [ht,<- cutL] at s5
     exact s5
 ·have ei:i=items.length:=by omega
  subst ei
  rw [List.drop_length] at em
  unfold gf at em
  by_cases hf:fin δi=true
  ·rw [if_pos hf] at em
   obtain ⟨rfl,rfl⟩:acc=kvs∧δi=δ4:=by cases em;exact ⟨rfl,rfl⟩
   refine .inl ⟨(hJ { c with Z:=upd c.Z q (eC acc) } _ S T H _ s).2 rfl hf,k _ _ ?_⟩
   have s2:=s.unhideO (d:=.dip acc) f1 fun Hh h=>.mkDip h
   exact s2.stk (.cons s2.st.head (s2.st.tail.right l))
  ·rw [if_neg hf] at em;cases em
variable {N' own:List Str} {scope:Scope} {ifs1 ifs2:List Expr} {lo:Nat}
theorem t_ {k:Nat} (hr:bU k X.A) (hi:DC X t1 i1 fi) (hg:∀ s H fp pins,DG (blk X N' own scope s H fp pins) lo t1 gt) (ht:∀ s H fp pins,qj (blk X N' own scope s H fp pins) ifs1 (qS tt)) (hi2:∀ s H fp pins,DI (blk X N' own scope s H fp pins) t2 i2 fi2) (hg2:∀ s H fp pins,DG (blk X N' own scope s H fp pins) lo t2 gt2)
  (ht2:∀ s H fp pins,qj (blk X N' own scope s H fp pins) ifs2 (qS tt2)) (he:∀ s H fp pins,DE (blk X N' own scope s H fp pins) kx tk) (hv:∀ s H fp pins,DE (blk X N' own scope s H fp pins) vx tv)
  (hS:dP N' own X.env.scope scope=true:=by rfl) (hM:dQ X.N N' scope=true:=by rfl) (hk:scope.kind=.function:=by rfl) (hc:X.calm=true:=by rfl) (hs:∀ x,foldedSetIterable i1 X.env x=pure x:=by intro _;rfl) (hs2:∀ e x,foldedSetIterable i2 e x=pure x:=by intro _ _;rfl) :
  DE X (.DictComp kx vx [⟨t1,i1,ifs1,0⟩,⟨t2,i2,ifs2,0⟩] scope pos) (i5 lo own.length fi (jk gt tt (oV fi2 (jb gt2 tt2 tk tv)))):=b4 (ug hi hg ht hi2 hg2 ht2 he hv (by have:=ju hr;omega) hS hM hk hc hs hs2) q5
end
end Jt
namespace Jt
open PySem PySem.Spec PyProof.Rows
section
variable {prog:Program} {w:World} {A:Around} {E:Value->Shared->Prop} {s:Shared}
theorem iter_raw {d:Addr} {o:Obj} {es:Array DictEntry} {ep:Nat} {Q:Value->Shared->Prop} (hd:(d == sysModules)=false) (ho:s.heap.get? d=some o) (hT:s.TypeIs (.ref d) "dict") (hdat:o.data=.dict es ep)
  (hQ:Q (.ref s.heap.objs.size) { s with heap:=s.heap.push { cls:=.type "dict_keyiterator",data:=.fields #[.ref d,.int 0 0,.int es.size 0,.int ep 0] } }) :
  wpAny (model prog w) A (pyIter (.ref d)) Q E s:= by
 refine wpAny_pyIter_slot hT PySem.F.slot_dict_iter (wpAny_call_entry PySem.F.slot_dict_iter hT PySem.F.entry_dict_iter ?_ (PySem.F.args_dict_iter_1 _))
 unfold Builtin.«dict.__iter__»
 refine wpAny_bind ?_
 unfold Builtin.Dict.dictSlotNone
 refine wpAny_bind (wpAny_notOrdered_dict hT ?_)
 show wpAny _ _ (pure (Value.ref d)) _ _ s
 refine wpAny_pure ?_
 show wpAny _ _ (Builtin.Dict.showsAll d >>= _) _ _ s
 unfold Builtin.Dict.showsAll
 rw [if_neg (by rw [hd];exact Bool.false_ne_true)]
 refine wpAny_bind (wpAny_pure ?_)
 refine wpAny_bind (wpAny_dictEntries ho hdat ?_)
 refine wpAny_bind (wpAny_dictEpoch ho hdat ?_)
 refine wpAny_bind (wpAny_newObj_type (wpAny_pure ⟨_,rfl,"dict_keyiterator",_,⟨_,Heap.get?_push_size _ rfl,rfl⟩,PySem.F.slot_dict_keyiterator_next.lookup,?_⟩))
 simpa [rawInt] using hQ
theorem next_raw {it d:Addr} {i ep:Nat} {od:Obj} {es:Array DictEntry} {Q:Option Value->Shared->Prop} (hit:s.heap.IsKeyIter it d i es.size ep) (hod:s.heap.get? d=some od) (hdd:od.data=.dict es ep) (hlt':i < es.size)
  (hQ:∀ h':Heap,h'.IsKeyIter it d (i + 1) es.size ep->Heap.SameBut it s.heap h' -> Q (some es[i].key) { s with heap:=h' }) :
  wpAny (model prog w) A (pyNext (.ref it)) Q E s:= by
 obtain ⟨o,ho,hc,hd⟩:=id hit
 unfold pyNext
 refine wpAny_bind (wpAny_attempt (wpAny_callSpecial?_slot (name:=Str.ofString "__next__") hit.typeIs PySem.F.slot_dict_keyiterator_next
  (wpAny_call_entry PySem.F.slot_dict_keyiterator_next hit.typeIs PySem.F.entry_dict_keyiterator_next ?_ (PySem.F.args_dict_keyiterator_next_1 _))))
 refine wpAny_bind (wpAny_pure ?_)
 refine wpAny_bind ?_
 refine wpAny_bind ?_
 first | refine wpAny_bind (wpAny_typeNameOfWhole_keyiter hit.typeIs (wpAny_pure ?_)) | refine wpAny_bind (wpAny_typeNameOf_keyiter hit.typeIs (wpAny_pure ?_))
 refine wpAny_bind (wpAny_fieldsOf ho hd ?_)
 have hown:Builtin.Dict_items.ownsTuple "dict_keyiterator" = false:=by decide
 simp only [hown,Bool.false_eq_true,if_false]
 show wpAny _ _ (if (Value.ref d == Value.none)=true then _ else _) _ _ s
 rw [if_neg (show ¬ ((Value.ref d == Value.none)=true) from Bool.false_ne_true)]
 refine wpAny_bind (wpAny_pure ?_)
 refine wpAny_bind (wpAny_dictEntries hod hdd ?_)
 rw [if_neg (by simp)]
 refine wpAny_bind (wpAny_pure ?_)
 refine wpAny_bind (wpAny_dictEpoch hod hdd ?_)
 rw [if_neg (by simp)]
 refine wpAny_pure ?_
 simp only [show ¬ ((i:Int) < 0) from by omega,if_false,Int.toNat_natCast,Array.getElem?_eq_getElem hlt']
 refine wpAny_bind ?_
 first | refine wpAny_bind (wpAny_typeNameOfWhole_keyiter hit.typeIs (wpAny_pure ?_)) | refine wpAny_bind (wpAny_typeNameOf_keyiter hit.typeIs (wpAny_pure ?_))
 refine wpAny_bind (wpAny_isOneOf_keyiter hit.typeIs ?_)
 show wpAny _ _ (setField (.ref it) 1 (rawInt ((i:Int) + 1)) >>= _) _ _ s
 refine wpAny_bind (wpAny_setField ho hd (by simp) ?_)
 have hit':(s.heap.update it (Obj.mapFields (·.setIfInBounds 1 (rawInt ((i:Int) + 1))))).IsKeyIter it d (i + 1) es.size ep :=
  ⟨_,Heap.get?_update_self _ ho (Obj.isFreed_of_fields (Obj.data_mapFields hd _)),(Obj.cls_mapFields ..).trans hc,by rw [Obj.data_mapFields hd];simp [rawInt]⟩
 refine wpAny_bind (wpAny_holding ?_)
 refine wpAny_bind (wpAny_isOneOf_keyiter (s:={ s with heap:=s.heap.update it (Obj.mapFields (·.setIfInBounds 1 (rawInt ((i:Int) + 1)))) }) hit'.typeIs ?_)
 show wpAny _ _ (pure es[i].key) _ _ _
 exact wpAny_pure (wpAny_pure ⟨_,rfl,wpAny_pure (hQ _ hit' (Heap.SameBut.update ..))⟩)
theorem end_raw {it d:Addr} {i ep:Nat} {od:Obj} {es:Array DictEntry} {Q:Option Value->Shared->Prop} (hh:A.handled=none) (hit:s.heap.IsKeyIter it d i es.size ep) (hod:s.heap.get? d=some od) (hdd:od.data=.dict es ep) (hge:es.size ≤ i)
  (hQ:∀ h',Heap.ExtBut it s.heap h' -> Q none { s with heap:=h' }):wpAny (model prog w) A (pyNext (.ref it)) Q E s:= by
 obtain ⟨o,ho,hc,hd⟩:=id hit
 unfold pyNext
 refine wpAny_bind (wpAny_attempt (wpAny_callSpecial?_slot (name:=Str.ofString "__next__") hit.typeIs PySem.F.slot_dict_keyiterator_next
  (wpAny_call_entry PySem.F.slot_dict_keyiterator_next hit.typeIs PySem.F.entry_dict_keyiterator_next ?_ (PySem.F.args_dict_keyiterator_next_1 _))))
 refine wpAny_bind (wpAny_pure ?_)
 refine wpAny_bind ?_
 refine wpAny_bind ?_
 first | refine wpAny_bind (wpAny_typeNameOfWhole_keyiter hit.typeIs (wpAny_pure ?_)) | refine wpAny_bind (wpAny_typeNameOf_keyiter hit.typeIs (wpAny_pure ?_))
 refine wpAny_bind (wpAny_fieldsOf ho hd ?_)
 have hown:Builtin.Dict_items.ownsTuple "dict_keyiterator" = false:=by decide
 simp only [hown,Bool.false_eq_true,if_false]
 show wpAny _ _ (if (Value.ref d == Value.none)=true then _ else _) _ _ s
 rw [if_neg (show ¬ ((Value.ref d == Value.none)=true) from Bool.false_ne_true)]
 refine wpAny_bind (wpAny_pure ?_)
 refine wpAny_bind (wpAny_dictEntries hod hdd ?_)
 rw [if_neg (by simp)]
 refine wpAny_bind (wpAny_pure ?_)
 refine wpAny_bind (wpAny_dictEpoch hod hdd ?_)
 rw [if_neg (by simp)]
 refine wpAny_pure ?_
 simp only [show ¬ ((i:Int) < 0) from by omega,if_false,Int.toNat_natCast,Array.getElem?_eq_none hge]
 refine wpAny_bind ?_
 first | refine wpAny_bind (wpAny_typeNameOfWhole_keyiter hit.typeIs (wpAny_pure ?_)) | refine wpAny_bind (wpAny_typeNameOf_keyiter hit.typeIs (wpAny_pure ?_))
 show wpAny _ _ (setField (.ref it) 0 .none >>= _) _ _ s
 refine wpAny_bind (wpAny_setField ho hd (by simp) ?_)
 show wpAny _ _ (newExc (.type "StopIteration") [] >>= _) _ _ _
 refine wpAny_bind ?_
 simp only [newExc,newTuple]
 refine wpAny_bind (wpAny_newObj_type ?_ (by size_fits))
 refine wpAny_bind (m:=firstArgMember _ _) (wpAny_of_eq (a:=Value.none) (by first | rfl | (simp only [firstArgMember];rfl)) ?_)
 refine wpAny_newObj_type ?_ (by size_fits)
 simp only [raiseNew]
 refine wpAny_bind (wpAny_handled ?_)
 rw [show A.in1.handled=none from hh]
 refine wpAny_bind (wpAny_pure (wpAny_throw ?_))
 refine wpAny_bind (wpAny_isInstance (T:="StopIteration") (b:=true) ⟨_,Heap.get?_push_size _ rfl,rfl⟩ isSubtype_stop ?_)
 exact wpAny_pure (hQ _ (((Heap.SameBut.update ..).extBut.push _).push _))
end
end Jt
namespace L2
open PySem PySem.Spec PyProof.Rows
theorem Paired.get {α β:Type} {R:α->β->Prop} {l:List α} {m:List β} (h:Paired R l m):∀ {i:Nat} {p:α},l[i]? = some p->∃ q,m[i]? = some q∧R p q:= by
 induction h with
 | nil=>intro i p e;cases e
 | cons r t ih=>
  intro i p e
  cases i with
  | zero=>cases e;exact ⟨_,rfl,r⟩
  | succ i=>exact ih (by simpa using e)
theorem ko {P:Program} {w:World} {H:Hp} {h:Heap} {a:Addr} {kvs:List (List Key × V)} (ok:g8 P w H h) (e:Rd H a (.dT kvs)) :
  (a == sysModules)=false∧∃ o es,h.get? a=some o∧o.cls=.type "dict" ∧ o.data=.dict es es.size∧es.size=kvs.length∧∀ i p,kvs[i]? = some p->∃ (hlt:i < es.size) (b:Addr),es[i].key=.ref b∧H b=some (.tup (p.1.map kV)):= by
 obtain ⟨z,y,xs,r,o,es,ep,h1,h2,h3,h4,h5,h6⟩:=(show bK P w H h a (.dT kvs) from rd_of ok e)
 subst h6
 have sz:es.size=kvs.length:= by
  rw [Paired.length r]
  have:=congrArg List.length h4
  simpa using this
 refine ⟨y,o,es,h1,h2.1,h3,sz,fun i p hp=>?_⟩
 obtain ⟨q,hq,_,hb,_⟩:=Paired.get r hp
 have hlt:i < es.size:=by rw [sz];exact (List.getElem?_eq_some_iff.mp hp).1
 refine ⟨hlt,q.2.1,?_,hb⟩
 have e2:es.toList[i]? = some (entryOfKey (tupleKind (a0 P w)) q):=by rw [h4,List.getElem?_map,hq];rfl
 rw [Array.getElem?_toList,Array.getElem?_eq_getElem hlt] at e2
 rw [Option.some.inj e2]
 rfl
def GW (a:Addr) (n:Nat):It :=
 ⟨fun i H=>∃ kvs,Rd H a (.dT kvs)∧kvs.length=n∧i < n,fun i H x H'=>H' = H∧∃ kvs p b,Rd H a (.dT kvs)∧kvs[i]? = some p∧x=.ref b∧H b=some (.tup (p.1.map kV)),fun i H=>∃ kvs,Rd H a (.dT kvs)∧kvs.length=n∧n ≤ i⟩
theorem uF {P:Program} {w:World} {K:PySem.W.Frag} {tg:Expr} (a it:Addr) (n:Nat):Turn P w K tg (GW a n) [it] it (fun i h=>h.IsKeyIter it a i n n) where
 mem:=by simp
 obj:=fun i h st b hb=>by
  have e:b=it:=by simpa using hb
  subst e
  obtain ⟨o,e,c,d⟩:=st
  exact ⟨o,e,fun v z=>by rw [d] at z;cases z⟩
 keep:=fun i h h' st k=>st.at fun o e=>k it (by simp) o e
 item:= by
  intro X hP hw hK hc i pins s σ H E I hf st hg
  subst hP hw hK
  obtain ⟨kvs,hq,hl,hi⟩:=hg
  obtain ⟨_,o,es,h1,h2,h3,h4,h5⟩:=ko I.hok hq
  obtain ⟨p,hp⟩:∃ p,kvs[i]? = some p:=⟨kvs[i],List.getElem?_eq_getElem (by omega)⟩
  obtain ⟨hlt,b,eb,hb⟩:=h5 i p hp
  obtain ⟨f0,f1,f2,f3,f4,f5⟩:=hf it (by simp)
  have en:n=es.size:=by omega
  rw [en] at st
  refine Jt.next_raw st h1 h3 hlt fun h' st' sb=>?_
  have I1:Inv X pins σ H { s with heap:=h' }:=I.turned (t':=s.toks) (fun b o hb e=>(sb.2 b hb).trans e) f0 f1 f3 f4 f5
  obtain ⟨o',e',c',d'⟩:=id st'
  rw [eb]
  exact ⟨.ref b,rfl,rT (s:={ s with heap:=h' }) e' c' d' (by decide) ⟨.ref b,H,I1,rfl,⟨rfl,kvs,p,b,hq,hp,rfl,hb⟩,by rw [en];exact st',fun b hb=>(hf b hb).1⟩⟩
 done:= by
  intro X hP hw hK hc i pins s σ H E I hf st hg
  subst hP hw hK
  obtain ⟨kvs,hq,hl,hi⟩:=hg
  obtain ⟨_,o,es,h1,h2,h3,h4,h5⟩:=ko I.hok hq
  obtain ⟨f0,f1,f2,f3,f4,f5⟩:=hf it (by simp)
  have en:n=es.size:=by omega
  rw [en] at st
  exact Jt.end_raw (I.ok.hd hc) st h1 h3 (by omega) fun h' eb=>⟨rfl,I.turned (t':=s.toks) (fun b o hb e=>eb b o hb e) f0 f1 f3 f4 f5⟩
 self:=fun _ _ _ _ _ st h=>wpAny_pyIter_keyiter st h
section
variable {X:Cx} {tg l:Expr} {tl:TE}
def EO (tl:TE):TI:=fun σ H R=>tl σ H fun x H1=>∃ a kvs,x=.ref a∧Rd H1 a (.dT kvs)∧R (GW a kvs.length) H1
theorem AH (hl:PE X l tl):PI X tg l (EO tl):= by
 intro pins s σ H R I h
 refine bx (hl pins s σ H _ I h) fun v s1 ⟨x,H1,I1,r1,q1⟩=>?_
 obtain ⟨a,kvs,e,hq,q⟩:=q1
 subst e
 cases r1
 obtain ⟨hd,o,es,h1,h2,h3,h4,h5⟩:=ko I1.hok hq
 refine Jt.iter_raw hd h1 ⟨o,h1,h2⟩ h3 ?_
 refine ⟨s1.heap.objs.size,[s1.heap.objs.size],_,_,H1,rfl,I1.kept (t':=s1.toks) fun b o e=>Heap.get?_push_of_some _ e,uF a _ kvs.length,⟨_,Heap.get?_push_size _ rfl,rfl,by rw [h4];rfl⟩,fun b hb=>?_,q⟩
 have e:b=s1.heap.objs.size:=by simpa using hb
 subst e
 exact I1.fpOk (Nat.le_refl _) (I1.hok.fresh (Nat.le_refl _))
end
end L2
namespace Jt.So
open PySem L2 PySem.Spec PyProof.Rows PySem.W
def WpT {α:Type} (g:Nat->Nat->Bool) (n:Nat):KasT α->(α->Prop)->Prop
 | .ret a,R=>R a
 | .ask i j k,R=>i < n∧j < n∧WpT g n (k (g i j)) R
section
variable {g:Nat->Nat->Bool} {n:Nat}
theorem WpT.bind {α β:Type} {f:α->KasT β} {R:β->Prop}:∀ {t:KasT α},WpT g n t (fun a=>WpT g n (f a) R)->WpT g n (t.bind f) R
 | .ret _,h=>h
 | .ask i j k,h=>⟨h.1,h.2.1,WpT.bind (t:=k (g i j)) h.2.2⟩
theorem WpT.mono {α:Type} {R S:α->Prop} (hr:∀ a,R a->S a):∀ {t:KasT α},WpT g n t R->WpT g n t S
 | .ret _,h=>hr _ h
 | .ask i j k,h=>⟨h.1,h.2.1,WpT.mono hr (t:=k (g i j)) h.2.2⟩
theorem WpT.ev {α:Type} {R:α->Prop}:∀ {t:KasT α},WpT g n t R->R (FZ g t)
 | .ret _,h=>h
 | .ask i j k,h=>WpT.ev (t:=k (g i j)) h.2.2
theorem WpT.kas {α:Type} {R:α->Prop} {cmp:Nat->Nat->(Bool->Shared->Prop)->Shared->Prop} {Q:α->Shared->Prop} {s:Shared}
  (hc:∀ i j C,i < n->j < n->C (g i j) s->cmp i j C s):∀ {t:KasT α},WpT g n t R->Q (FZ g t) s->t.kasWp cmp Q s
 | .ret _,_,h=>h
 | .ask i j k,hw,h=>hc i j _ hw.1 hw.2.1 (WpT.kas hc (t:=k (g i j)) hw.2.2 h)
abbrev n8 (g:Nat->Nat->Bool) (a b:Nat):Prop:=g b a=false
structure gc (g:Nat->Nat->Bool):Prop where
 tr:∀ a b c,n8 g a b->n8 g b c->n8 g a c
 as:∀ a b,g a b=true->n8 g a b
theorem gc.rf (o:gc g) (a:Nat):n8 g a a:= by
 cases h:g a a with
 | false=>exact h
 | true=>have:=o.as a a h;unfold n8 at this;rw [h] at this;cases this
abbrev dy (p:Array Nat) (i:Nat):Nat:=p.getD i 0
def Bs (n:Nat) (p:Array Nat):Prop:=p.Perm (List.range n).toArray
theorem Bs.size {p:Array Nat} (h:Bs n p):p.size=n:=by rw [h.size_eq];simp
theorem Bs.lt {p:Array Nat} (h:Bs n p) {i:Nat} (hi:i < n):dy p i < n:= by
 have hi':i < p.size:=by rw [h.size];exact hi
 have e:dy p i=p[i]:=by simp [dy,Array.getD,hi']
 have hm:p[i] ∈ (List.range n).toArray.toList:=(Array.perm_iff_toList_perm.mp h).mem_iff.mp (by simp)
 rw [e]
 simpa using hm
theorem Bs.mir {p:Array Nat} (h:Bs n p) (i j d:Nat):Bs n (mirror p i j d):=(mirror_perm _ _ _ _).trans h
theorem Bs.bub {p:Array Nat} (h:Bs n p) (i d:Nat):Bs n (bubble p i d):=(bubble_perm _ _ _).trans h
theorem fE {p q:Array Nat} {i j:Nat} (h:p[i]? = q[j]?):dy p i=dy q j:= by
 unfold dy;rw [Array.getD_eq_getD_getElem?,Array.getD_eq_getD_getElem?,h]
theorem nR {p:Array Nat} {i j:Nat} (hj:j ≤ p.size) (k:Nat):dy (mirror p i j ((j - i) / 2)) k=if i ≤ k∧k < j then dy p (i + j - 1 - k) else dy p k:= by
 have e:=getElem?_mirror_all (i:=i) hj k
 by_cases h1:i ≤ k∧k < j
 ·rw [if_pos h1] at e ⊢;exact fE e
 ·rw [if_neg h1] at e ⊢;exact fE e
theorem sY {p:Array Nat} {src d:Nat} (hs:src < p.size) (hd:d ≤ src) (k:Nat) :
  dy (bubble p src d) k=if k=src - d then dy p src else if src - d < k∧k ≤ src then dy p (k - 1) else dy p k:= by
 have e:=getElem?_bubble hs d hd k
 by_cases h1:k=src - d
 ·rw [if_pos h1] at e ⊢;exact fE e
 ·rw [if_neg h1] at e ⊢
  by_cases h2:src - d < k∧k ≤ src
  ·rw [if_pos h2] at e ⊢;exact fE e
  ·rw [if_neg h2] at e ⊢;exact fE e
def Up (g:Nat->Nat->Bool) (p:Array Nat) (k:Nat):Prop:=∀ i j,i ≤ j->j < k->n8 g (dy p i) (dy p j)
def Dn (g:Nat->Nat->Bool) (p:Array Nat) (k:Nat):Prop:=∀ i j,i ≤ j->j < k->n8 g (dy p j) (dy p i)
def Eqv (g:Nat->Nat->Bool) (a b:Nat):Prop:=n8 g a b∧n8 g b a
theorem Eqv.trans (o:gc g) {a b c:Nat} (h:Eqv g a b) (k:Eqv g b c):Eqv g a c:=⟨o.tr _ _ _ h.1 k.1,o.tr _ _ _ k.2 h.2⟩
theorem Eqv.symm {a b:Nat} (h:Eqv g a b):Eqv g b a:=⟨h.2,h.1⟩
theorem Eqv.rf (o:gc g) (a:Nat):Eqv g a a:=⟨o.rf a,o.rf a⟩
theorem nq (o:gc g) {p:Array Nat} {i j:Nat} (hj:j ≤ p.size) (heq:∀ k,i ≤ k->k < j->Eqv g (dy p k) (dy p (j - 1))) (k:Nat) :
  Eqv g (dy (mirror p i j ((j - i) / 2)) k) (dy p k):= by
 rw [nR hj]
 split
 ·exact (heq _ (by omega) (by omega)).trans o (heq k (by omega) (by omega)).symm
 ·exact .rf o _
theorem Up.one (o:gc g) (p:Array Nat):Up g p 1:=fun i j h1 h2=>by
 have:i=j:=by omega
 subst this;exact o.rf _
theorem Up.snoc (o:gc g) {p:Array Nat} {x:Nat} (hx:1 ≤ x) (h:Up g p x) (h':n8 g (dy p (x - 1)) (dy p x)):Up g p (x + 1):=fun i j h1 h2=>by
 by_cases hj:j < x
 ·exact h i j h1 hj
 ·have:j=x:=by omega
  subst this
  by_cases hi:i=j
  ·subst hi;exact o.rf _
  ·exact o.tr _ _ _ (h i (j - 1) (by omega) (by omega)) h'
theorem Dn.snoc (o:gc g) {p:Array Nat} {x:Nat} (hx:1 ≤ x) (h:Dn g p x) (h':n8 g (dy p x) (dy p (x - 1))):Dn g p (x + 1):=fun i j h1 h2=>by
 by_cases hj:j < x
 ·exact h i j h1 hj
 ·have:j=x:=by omega
  subst this
  by_cases hi:i=j
  ·subst hi;exact o.rf _
  ·exact o.tr _ _ _ h' (h i (j - 1) (by omega) (by omega))
theorem Dn.eqv (o:gc g) {p q:Array Nat} {x:Nat} (h:Dn g p x) (e:∀ k,Eqv g (dy q k) (dy p k)):Dn g q x:=fun i j h1 h2=>o.tr _ _ _ (e j).1 (o.tr _ _ _ (h i j h1 h2) (e i).2)
theorem xD (o:gc g) {p:Array Nat} (b:Bs n p):∀ (f x:Nat),x + f ≤ n->1 ≤ x->Up g p x ->
  WpT g n (kas_asc p f x) (fun m=>x ≤ m∧m ≤ x + f∧Up g p m∧(m=x + f ∨ g (dy p m) (dy p (m - 1))=true))
 | 0,x,_,_,h=>⟨Nat.le_refl _,Nat.le_refl _,h,.inl rfl⟩
 | f + 1,x,hx,h1,h=>by
  refine ⟨b.lt (by omega),b.lt (by omega),?_⟩
  cases hc:g (p.getD x 0) (p.getD (x - 1) 0) with
  | true=>exact ⟨Nat.le_refl _,by omega,h,.inr hc⟩
  | false=>
   refine WpT.mono (fun m hm=>?_) (xD o b f (x + 1) (by omega) (by omega) (h.snoc o h1 hc))
   obtain ⟨a1,a2,a3,a4⟩:=hm
   exact ⟨by omega,by omega,a3,a4.imp (fun z=>by omega) id⟩
def DI (g:Nat->Nat->Bool) (n:Nat) (p:Array Nat) (x q:Nat):Prop:=Bs n p∧Dn g p x∧q + 1 ≤ x∧∀ i,x - (q + 1) ≤ i->i < x->Eqv g (dy p i) (dy p (x - 1))
theorem vU (o:gc g):∀ (f:Nat) (p:Array Nat) (x q:Nat),x + f ≤ n->DI g n p x q ->
  WpT g n (kas_desc f p x q) (fun r=>x ≤ r.2.1∧r.2.1 ≤ x + f∧DI g n r.1 r.2.1 r.2.2)
 | 0,p,x,q,_,h=>⟨Nat.le_refl _,Nat.le_refl _,h⟩
 | f + 1,p,x,q,hx,h=>by
  obtain ⟨b,d,hq,he⟩:=h
  have sz:x ≤ p.size:=by rw [b.size];omega
  refine ⟨b.lt (by omega),b.lt (by omega),?_⟩
  have next:∀ {p':Array Nat} {q':Nat},DI g n p' (x + 1) q' -> WpT g n (kas_desc f p' (x + 1) q') (fun r=>x ≤ r.2.1∧r.2.1 ≤ x + (f + 1)∧DI g n r.1 r.2.1 r.2.2):=fun hd=>
   WpT.mono (fun r hr=>⟨by omega,by omega,hr.2.2⟩) (vU o f _ (x + 1) _ (by omega) hd)
  have z0:∀ (p':Array Nat),∀ i,x + 1 - (0 + 1) ≤ i->i < x + 1->Eqv g (dy p' i) (dy p' (x + 1 - 1)):=fun p' i h1 h2=>by
   have:i=x + 1 - 1:=by omega
   rw [this];exact .rf o _
  cases hc:g (p.getD x 0) (p.getD (x - 1) 0) with
  | true=>
   show WpT g n (if true=true then _ else _) _
   rw [if_pos rfl]
   have dn:Dn g p (x + 1):=d.snoc o (by omega) (o.as _ _ hc)
   by_cases hq0:q > 0
   ·rw [if_pos hq0]
    exact next ⟨b.mir _ _ _,dn.eqv o (nq o sz he),by omega,z0 _⟩
   ·rw [if_neg hq0]
    exact next ⟨b,dn,by omega,z0 _⟩
  | false=>
   show WpT g n (if false=true then _ else _) _
   rw [if_neg Bool.false_ne_true]
   refine ⟨b.lt (by omega),b.lt (by omega),?_⟩
   cases hd:g (p.getD (x - 1) 0) (p.getD x 0) with
   | true=>exact ⟨Nat.le_refl _,by show x ≤ x + (f + 1);omega,b,d,hq,he⟩
   | false=>
    have eq:Eqv g (dy p x) (dy p (x - 1)):=⟨hd,hc⟩
    refine next ⟨b,d.snoc o (by omega) hd,by omega,fun i h1 h2=>?_⟩
    rw [show x + 1 - 1=x by omega]
    by_cases hi:i=x
    ·subst hi;exact .rf o _
    ·exact (he i (by omega) (by omega)).trans o eq.symm
def CR (g:Nat->Nat->Bool) (n:Nat) (r:Nat × Array Nat):Prop:=1 ≤ r.1∧r.1 ≤ n∧Bs n r.2∧Up g r.2 r.1
theorem rX (o:gc g) {p:Array Nat} {x:Nat} (b:Bs n p) (h1:1 ≤ x) (hx:x ≤ n) (d:Dn g p x):WpT g n (kas_tail3 x n p) (CR g n):= by
 have sz:x ≤ p.size:=by rw [b.size];exact hx
 have b':Bs n (kas_rev p 0 x):=b.mir _ _ _
 refine WpT.bind (WpT.mono (fun m hm=>?_) (xD o b' (n - x) x (by omega) h1 fun i j hij hj=>?_))
 ·exact ⟨by show 1 ≤ m;omega,by show m ≤ n;omega,b',hm.2.2.1⟩
 ·show n8 g (dy (mirror p 0 x ((x - 0) / 2)) i) (dy (mirror p 0 x ((x - 0) / 2)) j)
  rw [nR sz,nR sz,if_pos (by omega),if_pos (by omega)]
  exact d _ _ (by omega) (by omega)
theorem kF (o:gc g) {p:Array Nat} {x:Nat} (b:Bs n p) (hx:x + 1 ≤ n) (d:Dn g p (x + 1)):WpT g n (kas_descPart x n p) (CR g n):= by
 refine WpT.bind (WpT.mono (fun r hr=>?_) (vU o (n - (x + 1)) p (x + 1) 0 (by omega) ⟨b,d,by omega,fun i h1 h2=>?_⟩))
 ·obtain ⟨h1,h2,b',d',hq,he⟩:=hr
  have sz:r.2.1 ≤ r.1.size:=by rw [b'.size];omega
  by_cases hq0:r.2.2 > 0
  ·rw [if_pos hq0]
   exact rX o (b'.mir _ _ _) (by omega) (by omega) (d'.eqv o (nq o sz he))
  ·rw [if_neg hq0]
   exact rX o b' (by omega) (by omega) d'
 ·have:i=x + 1 - 1:=by omega
  rw [this];exact .rf o _
theorem w_count (o:gc g) {p:Array Nat} (b:Bs n p) (h1:1 ≤ n):WpT g n (kas_count n p) (CR g n):= by
 refine WpT.bind (WpT.mono (fun m hm=>?_) (xD o b (n - 1) 1 (by omega) (Nat.le_refl _) (.one o p)))
 obtain ⟨a1,a2,a3,a4⟩:=hm
 by_cases e:(m == n)=true
 ·rw [if_pos e]
  exact ⟨a1,by show m ≤ n;omega,b,a3⟩
 ·rw [if_neg e]
  have ne:m ≠ n:=fun z=>e (by rw [z];exact beq_self_eq_true _)
  have hlt:g (dy p m) (dy p (m - 1))=true:=a4.resolve_left (by omega)
  by_cases hm1:m > 1
  ·rw [if_pos hm1]
   refine ⟨b.lt (by omega),b.lt (by omega),?_⟩
   cases hc:g (p.getD 0 0) (p.getD (m - 1) 0) with
   | true=>exact ⟨a1,by show m ≤ n;omega,b,a3⟩
   | false=>
    show WpT g n (if false=true then _ else _) _
    rw [if_neg Bool.false_ne_true]
    have all:∀ k,0 ≤ k->k < m->Eqv g (dy p k) (dy p (m - 1)):=fun k _ hk=>⟨a3 k (m - 1) (by omega) (by omega),o.tr _ _ _ hc (a3 0 k (by omega) hk)⟩
    have sz:m ≤ p.size:=by rw [b.size];omega
    refine kF o (b.mir _ _ _) (by omega) ?_
    refine Dn.eqv o (p:=p) (fun i j hij hj=>?_) (nq o sz all)
    by_cases hjm:j < m
    ·exact ((all j (by omega) hjm).trans o (all i (by omega) (by omega)).symm).1
    ·have:j=m:=by omega
     subst this
     by_cases hi:i=j
     ·subst hi;exact o.rf _
     ·exact o.tr _ _ _ (o.as _ _ hlt) (all i (by omega) (by omega)).2
  ·rw [if_neg hm1]
   have:m=1:=by omega
   subst this
   refine kF o b (by omega) fun i j hij hj=>?_
   by_cases hi:i=j
   ·subst hi;exact o.rf _
   ·have e1:i=0:=by omega
    have e2:j=1:=by omega
    subst e1;subst e2
    exact o.as _ _ hlt
theorem mU (o:gc g) {p:Array Nat} {k:Nat} (b:Bs n p) (hk:k < n) (u:Up g p k):∀ (f l r:Nat),l ≤ r->r ≤ k->r - l ≤ f->(∀ i,i < l->n8 g (dy p i) (dy p k))->(∀ i,r ≤ i->i < k->g (dy p k) (dy p i)=true) ->
  WpT g n (kas_place p k f l r) (fun l'=>l' ≤ k∧(∀ i,i < l' -> n8 g (dy p i) (dy p k))∧∀ i,l' ≤ i->i < k->g (dy p k) (dy p i)=true)
 | 0,l,r,h1,h2,h3,hl,hr=>by
  have:l=r:=by omega
  subst this
  exact ⟨h2,hl,hr⟩
 | f + 1,l,r,h1,h2,h3,hl,hr=>by
  unfold kas_place
  by_cases hge:l ≥ r
  ·rw [if_pos hge]
   have:l=r:=by omega
   subst this
   exact ⟨h2,hl,hr⟩
  ·rw [if_neg hge]
   refine ⟨b.lt hk,b.lt (by omega),?_⟩
   cases hc:g (p.getD k 0) (p.getD ((l + r) / 2) 0) with
   | true=>
    refine mU o b hk u f l ((l + r) / 2) (by omega) (by omega) (by omega) hl fun i h4 h5=>?_
    cases hz:g (dy p k) (dy p i) with
    | true=>rfl
    | false=>
     have:=o.tr _ _ _ (u _ _ h4 h5) hz
     unfold n8 at this
     rw [hc] at this;cases this
   | false=>
    refine mU o b hk u f ((l + r) / 2 + 1) r (by omega) (by omega) (by omega) (fun i h4=>?_) hr
    exact o.tr _ _ _ (u i ((l + r) / 2) (by omega) (by omega)) hc
theorem AY (o:gc g):∀ (f:Nat) (p:Array Nat) (k:Nat),Bs n p->k + f ≤ n->Up g p k->WpT g n (kas_bin f p k) (fun q=>Bs n q∧Up g q (k + f))
 | 0,p,k,b,_,u=>⟨b,u⟩
 | f + 1,p,k,b,hk,u=>by
  refine WpT.bind (WpT.mono (fun l hl=>?_) (mU o b (by omega) u k 0 k (by omega) (Nat.le_refl _) (by omega) (fun i h=>by omega) fun i h1 h2=>by omega))
  obtain ⟨hlk,hlo,hhi⟩:=hl
  have ks:k < p.size:=by rw [b.size];omega
  refine WpT.mono (fun q hq=>⟨hq.1,by rw [show k + (f + 1)=k + 1 + f by omega];exact hq.2⟩) (AY o f _ (k + 1) (b.bub _ _) (by omega) fun i j hij hj=>?_)
  rw [sY ks (by omega),sY ks (by omega),show k - (k - l)=l by omega]
  generalize dy p k=c at hlo hhi ⊢
  repeat' split
  all_goals first
   | (exfalso;omega)
   | exact o.rf _
   | exact hlo _ (by omega)
   | exact o.as _ _ (hhi _ (by omega) (by omega))
   | exact u _ _ (by omega) (by omega)
theorem w_sort (o:gc g) (h1:1 ≤ n):WpT g n (kas_sort n) (fun p=>Bs n p∧Up g p n):= by
 refine WpT.bind (WpT.mono (fun r hr=>?_) (w_count o (Array.Perm.refl _) h1))
 obtain ⟨a1,a2,b,u⟩:=hr
 by_cases h:r.1 < n
 ·rw [if_pos h]
  refine WpT.mono (fun q hq=>⟨hq.1,?_⟩) (AY o (n - max r.1 1) r.2 (max r.1 1) b (by omega) (by rw [show max r.1 1=r.1 by omega];exact u))
  rw [show max r.1 1 + (n - max r.1 1)=n by omega] at hq;exact hq.2
 ·rw [if_neg h]
  exact ⟨b,by rw [show n=r.1 by omega];exact u⟩
end
def gI (ks:List Int) (i j:Nat):Bool:=decide (ks.getD i 0 < ks.getD j 0)
theorem gI_ord (ks:List Int):gc (gI ks) where
 tr:=fun a b c h k=>by
  unfold n8 gI at *
  simp only [decide_eq_false_iff_not] at *
  omega
 as:=fun a b h=>by
  unfold n8 gI at *
  simp only [decide_eq_false_iff_not,decide_eq_true_eq] at *
  omega
def ordI (ks:List Int):Array Nat:=FZ (gI ks) (kas_sort ks.length)
theorem ordI_ok {ks:List Int} (h:1 ≤ ks.length):Bs ks.length (ordI ks)∧Up (gI ks) (ordI ks) ks.length:=(w_sort (gI_ord ks) h).ev
def pickI {α:Type} (ks:List Int) (z:α) (vs:List α):List α:=if ks.length < 2 then vs else (ordI ks).toList.map fun i=>vs.getD i z
theorem pickI_perm {α:Type} (ks:List Int) (z:α) (vs:List α) (hl:vs.length=ks.length):(pickI ks z vs).Perm vs:= by
 unfold pickI
 split
 ·exact .refl _
 ·rename_i h
  have b:=(ordI_ok (ks:=ks) (by omega)).1
  have p:(ordI ks).toList.Perm (List.range ks.length):=by simpa using Array.perm_iff_toList_perm.mp b
  have e:(List.range ks.length).map (fun i=>vs.getD i z)=vs:= by
   apply List.ext_getElem?
   intro i
   rw [List.getElem?_map]
   by_cases hi:i < ks.length
   ·rw [List.getElem?_range hi]
    simp [List.getD_eq_getElem?_getD,List.getElem?_eq_getElem (show i < vs.length by omega)]
   ·rw [List.getElem?_eq_none (by simpa using hi),List.getElem?_eq_none (by omega)];rfl
  exact (p.map _).trans (by rw [e])
theorem pickI_sorted (ks:List Int):(pickI ks 0 ks).Pairwise (· ≤ ·):= by
 unfold pickI
 split
 ·rename_i h
  match ks,h with
  | [],_=>exact .nil
  | [a],_=>exact List.pairwise_singleton _ _
  | _ :: _ :: _,h=>exact absurd h (by simp)
 ·rename_i h
  obtain ⟨b,u⟩:=ordI_ok (ks:=ks) (by omega)
  rw [List.pairwise_map,List.pairwise_iff_getElem]
  intro i j hi hj hij
  have hj':j < ks.length:=by rw [<- b.size];simpa using hj
  have:=u i j (by omega) hj'
  have e:∀ k (hk:k < (ordI ks).toList.length),dy (ordI ks) k=(ordI ks).toList[k]:=fun k hk=>by
   have hk':k < (ordI ks).size:=by simpa using hk
   simp [dy,Array.getD,hk']
  rw [e i hi,e j hj] at this
  unfold n8 gI at this
  simp only [decide_eq_false_iff_not] at this
  omega
theorem pickI_map {α β:Type} (ks:List Int) (f:α->β) (z:α) (vs:List α):(pickI ks z vs).map f=pickI ks (f z) (vs.map f):= by
 unfold pickI
 split
 ·rfl
 ·rw [List.map_map]
  refine List.map_congr_left fun i _=>?_
  simp [List.getD_eq_getElem?_getD]
end Jt.So
namespace Jt
open PySem PySem.Spec PyProof.Rows
def qJ (h:Heap) (d:Addr) (es:Array DictEntry):Prop:=∃ o,h.get? d=some o∧o.cls=.type "dict" ∧ o.data=.dict es es.size
section
variable {prog:Program} {w:World} {A:Around} {E:Value->Shared->Prop} {s:Shared} {d:Addr} {es:Array DictEntry}
theorem qJ.at {h h':Heap} (x:qJ h d es) (k:∀ o,h.get? d=some o->h'.get? d=some o):qJ h' d es:=let ⟨o,h1,h2⟩:=x;⟨o,k o h1,h2⟩
theorem t9 (hh:A.handled=none) (I:Addr) (hne:d ≠ I) (es:Array DictEntry) :
  Walks prog w A I [I,d] [I] es.size (fun i v=>∃ e,es[i]? = some e∧v=e.key) (fun i h=>h.IsKeyIter I d i es.size es.size∧qJ h d es) where
 sub:=fun b hb=>by simp at hb;simp [hb]
 frame:=fun _ _ _ st hk=>⟨st.1.at fun o e=>hk I (by simp) o e,st.2.at fun o e=>hk d (by simp) o e⟩
 item:=fun i s Q E hi st hQ=>by
  obtain ⟨st,o,h1,h2,h3⟩:=st
  refine next_raw st h1 h3 hi fun h' it' sb=>?_
  exact hQ _ h' s.toks ⟨_,Array.getElem?_eq_getElem hi,rfl⟩ ⟨it',o,(sb.2 d hne).trans h1,h2,h3⟩ fun b o hb e=>(sb.2 b (fun z=>hb (by simp [z]))).trans e
 done:=fun s Q E st hQ=>by
  obtain ⟨st,o,h1,h2,h3⟩:=st
  exact end_raw hh st h1 h3 (Nat.le_refl _) fun h' eb=>hQ h' s.toks fun b o hb e=>eb b o (fun z=>hb (by simp [z])) e
 self:=fun _ _ _ _ st hQ=>wpAny_pyIter_keyiter st.1 hQ
theorem so (lo:(d == sysModules)=false) (es:Array DictEntry):PySem.W.KdlSrc prog w "dict" d d es.size (fun i v=>∃ e,es[i]? = some e∧v=e.key) (fun h=>qJ h d es) where
 type:=fun s ⟨o,h1,h2,_⟩=>⟨o,h1,h2⟩
 there:=fun h ⟨o,h1,_⟩=>⟨Heap.lt_size h1,Heap.lt_size h1⟩
 keep:=fun h h' x hk=>x.at (hk d (.inl rfl))
 notList:=by decide
 notTuple:=by decide
 hint:=fun _ _ _ _ ⟨o,h1,h2,_⟩ hq=>PySem.W.kdl_hint_dict ⟨o,h1,h2⟩ hq
 iter:=fun A s hh x=>⟨_,fun i h=>h.IsKeyIter s.heap.objs.size d i es.size es.size∧qJ h d es,fun E Q hq=>by
   obtain ⟨o,h1,h2,h3⟩:=x
   exact iter_raw lo h1 ⟨o,h1,h2⟩ h3 hq,
  t9 hh _ (by obtain ⟨o,h1,_⟩:=x;exact Nat.ne_of_lt (Heap.lt_size h1)) es,⟨⟨_,Heap.get?_push_size _ rfl,rfl,rfl⟩,x.at fun o e=>Heap.get?_push_of_some _ e⟩⟩
theorem rR {acc:Array Value} (h:ItemsOf (fun i v=>∃ e,es[i]? = some e∧v=e.key) acc es.size):acc.toList=es.toList.map (·.key):= by
 refine List.ext_getElem? fun i=>?_
 rw [List.getElem?_map,Array.getElem?_toList,Array.getElem?_toList]
 by_cases hi:i < acc.size
 ·obtain ⟨e,h1,h2⟩:=h.2 i _ (Array.getElem?_eq_getElem hi)
  rw [Array.getElem?_eq_getElem hi,h1,h2];rfl
 ·rw [Array.getElem?_eq_none (by omega),Array.getElem?_eq_none (by have:=h.1;omega)];rfl
theorem pZ {Q:List Value->Shared->Prop} (hh:A.handled=none) (lo:(d == sysModules)=false) (x:qJ s.heap d es) (hn:es.size ≤ sizeLine)
  (h:∀ (h':Heap) (tk:Nat),(∀ b o,s.heap.get? b=some o->h'.get? b=some o)->s.heap.objs.size ≤ h'.objs.size->Q (es.toList.map (·.key)) { s with heap:=h',toks:=tk }) :
  wpAny (model prog w) A (collect (.ref d)) Q E s:= by
 have hd:d < s.heap.objs.size:=by obtain ⟨o,h1,_⟩:=x;exact Heap.lt_size h1
 unfold collect
 refine wpAny_bind (wpAny_runValue (codeAny_builtin F.entry_proto_collect ?_))
 rw [Around.under_plainId F.plain_proto_collect _]
 show wpAny (model prog w) A.in1 (newList [] >>= fun l=>again (.builtin "list.__iadd__" ⟨[l,.ref d],[]⟩)) _ _ s
 refine wpAny_bind (wpAny_newObj_type (wpAny_pure ⟨plainId_quiet F.plain_list_iadd _,codeAny_builtin F.entry_list_iadd ?_⟩))
 rw [Around.under_plainId F.plain_list_iadd _]
 have g1:(s.heap.push { cls:=.type "list",data:=.seq ([]:List Value).toArray }).get? s.heap.objs.size=some { cls:=.type "list",data:=.seq ([]:List Value).toArray }:=Heap.get?_push_size _ rfl
 show wpAny (model prog w) A.in1 (Builtin.List.listExtendWith (.ref s.heap.objs.size) (.ref d) (.ref s.heap.objs.size)) _ _ _
 have key:=PySem.W.kdl_extend (A:=A) (R:=fun r s'=>r=.ok (.ret (.ref s.heap.objs.size))∧∃ h' tk acc c,s' = { s with heap:=h',toks:=tk }∧(∀ b o,s.heap.get? b=some o->h'.get? b=some o)∧h'.get? s.heap.objs.size=some { cls:=.type "list",dict:=none,data:=.seq acc c,slots:=#[] }∧acc.toList=es.toList.map (·.key))
  (s:={ s with heap:=s.heap.push { cls:=.type "list",data:=.seq ([]:List Value).toArray } }) (so (prog:=prog) (w:=w) lo es) hh (x.at fun o e=>Heap.get?_push_of_some _ e) _ (Nat.ne_of_gt hd) (Nat.ne_of_gt hd) (.ref s.heap.objs.size) _ g1
  (fun h' tk acc c k hS hacc=>⟨rfl,h',tk,acc,c,rfl,fun b o e=>k b o (Nat.ne_of_lt (Heap.lt_size e)) (Heap.get?_push_of_some _ e),hS,rR hacc⟩) hn
 have fin:∀ s',(∃ h' tk acc c,s' = { s with heap:=h',toks:=tk }∧(∀ b o,s.heap.get? b=some o->h'.get? b=some o)∧h'.get? s.heap.objs.size=some { cls:=.type "list",dict:=none,data:=.seq acc c,slots:=#[] }∧acc.toList=es.toList.map (·.key)) ->
   wpAny (model prog w) A (load s.heap.objs.size >>= fun o=>match o.data with | .seq xs _=>pure xs.toList | _=>unsupported "internal:collect") Q E s':=fun s' ⟨h',tk,acc,c,e,k,g,ea⟩=>by
  subst e
  refine wpAny_bind (wpAny_load (s:={ s with heap:=h',toks:=tk }) g (wpAny_pure ?_))
  rw [ea]
  exact h h' tk k (Nat.le_of_lt (Heap.lt_size g))
 refine wpAny_mono key (fun f s' hf=>?_) fun e s' he=>?_
 ·cases f with
  | done f=>
   obtain ⟨e,hq⟩:=hf
   cases e
   exact fin s' hq
  | again c'=>exact ⟨hf.1,codeAny_mono hf.2 fun r s'' ⟨e,hq⟩=>by subst e;exact fin s'' hq⟩
 ·cases he.1
end
end Jt
namespace L2
open PySem PySem.Spec PyProof.Rows
def lam (X:Cx) (N':List Str) (px:Str) (scope:Scope) (qual:Str) (q:Addr) (cdv:Value) (A:Around) (s:Shared) (H:Hp):Cx where
 prog:=X.prog
 w:=X.w
 K:=X.K
 mg:=X.mg
 base:=X.base
 A:=A.deeper (PySem.W.envX qual scope s.heap.objs.size q cdv (cM X.env.cells scope.names []))
 N:=N' ++ [px]
 s₀:=s
 H₀:=H
 env:=PySem.W.envX qual scope s.heap.objs.size q cdv (cM X.env.cells scope.names [])
 outer:=X.stack
 stack:=PySem.W.envX qual scope s.heap.objs.size q cdv (cM X.env.cells scope.names []) :: X.stack
 ex:=[]
 fn:=fun x=>[px].contains x
 calm:=X.calm
 pn:=[]
 xe:=fun _ _=>False
section
variable {X:Cx} {pins:List (Addr × Obj)} {σ:St} {H:Hp} {s:Shared} {N':List Str} {px:Str} {scope:Scope} {qual:Str} {q:Addr} {cdv:Value} {A:Around}
theorem uJ (I:Inv X pins σ H s):∀ x c,(cM X.env.cells scope.names []).lookup x=some c->X.env.cells.lookup x=some c∧(x,NameKind.free) ∈ scope.names∧c < s.heap.objs.size:= by
 intro x c h
 rcases gD (mem_of_lookup h) with z | ⟨z1,z2⟩
 ·exact nomatch z
 ·obtain ⟨v,k⟩:=I.cell x c z1
  exact ⟨z1,z2,k.lt⟩
theorem Inv.lam {h₁:Heap} {tk:Nat} {v:V} {u:Value} (I:Inv X pins σ H s) (hA:A.frames=X.A.frames) (hh:A.handled=none) (hk:scope.kind=.function) (S:jv N' [px] X.env.scope scope) (Mk:nj X.N N' scope) (hpx:scope.names.lookup px=some .local) (hnc:∀ x ∈ scope.names,x.2 ≠ .cell)
  (hns:h₁.Ns s.heap.objs.size fun y=>[(px,u)].reverse.lookup y) (keep:∀ b o,s.heap.get? b=some o->h₁.get? b=some o) (r:RelV v u) :
  Inv (L2.lam X N' px scope qual q cdv A s H) [] (σ ++ [some v]) H { s with heap:=h₁,toks:=tk }:= by
 have hc:=@uJ X pins σ H s scope I
 have hasC:∀ x,(scope.names.lookup x=some .cell ∨ scope.names.lookup x=some .free)->∃ c,(cM X.env.cells scope.names []).lookup x=some c:=fun x hx=>by
  rcases hx with hx | hx
  ·exact absurd rfl (hnc _ (mem_of_lookup hx))
  ·have hm:=mem_of_lookup hx
   obtain ⟨c,e⟩:=I.ok.has x (S.free x hm)
   exact Option.isSome_iff_exists.mp (fJ (.inl ⟨hm,by rw [e];rfl⟩))
 refine ⟨⟨I.ok.mod,hk,rfl,rfl,Nat.le_refl _,fun x y c h1 h2=>I.ok.inj x y c (hc x c h1).1 (hc y c h2).1,fun x hx=>hasC x hx,fun x c hx h=>?_,fun _=>hh,Around.frames_deeper (hA.trans I.ok.frames),.inr ⟨rfl,rfl⟩,fun b hb=>absurd (show b ∈ ([]:List Addr) from hb) (by simp),fun b o e=>I.bs b o e,Nat.le_trans I.ok.bsz I.sz,fun b o e hb=>absurd (show b ∈ ([]:List Addr) from hb) (by simp),fun b hb=>absurd (show b ∈ ([]:List Addr) from hb) (by simp),I.stack,I.stkFree,I.tb⟩,
  rfl,I.bare,Un.kept keep,⟨_,hns,fun i x v' h1 h2 h3=>?_⟩,fun x c h=>?_,I.hok.fresh (Nat.le_refl _),fun x c h=>I.freeC x c (hc x c h).1,fun p hp=>absurd (show p ∈ ([]:List (Addr × Obj)) from hp) (by simp),I.hok.kept keep,?_⟩
 ·have hx':[px].contains x=true:=hx
  exact absurd (hc x c h).2.1 (S.own x (by simpa using hx'))
 ·by_cases hi:i < σ.length
  ·rw [List.getElem?_append_left hi] at h2
   have hN':N'[i]? = some x:= by
    have:(N' ++ [px])[i]? = some x:=h1
    rwa [List.getElem?_append_left (by rw [Mk.len,<- I.len];exact hi)] at this
   have hmem:x ∈ N':=List.mem_of_getElem? hN'
   have hfree:scope.names.lookup x=some .free:= by
    rcases h3 with h3 | h3 | h3
    ·exact absurd hmem (S.out x _ (mem_of_lookup h3) (.inl rfl))
    ·exact absurd hmem (S.out x _ (mem_of_lookup h3) (.inr rfl))
    ·exact h3
   have hN:X.N[i]? = some x:= by
    rcases Mk.same i x hN' with z | z
    ·exact z
    ·rw [hfree] at z;cases z
   have hkX:=S.free x (mem_of_lookup hfree)
   obtain ⟨m,hn,hl⟩:=I.loc
   obtain ⟨u',r',l⟩:=hl i x v' hN h2 (.inr hkX)
   refine ⟨u',r',.inr ⟨.inr hfree,?_⟩⟩
   rcases l with ⟨k,_⟩ | ⟨_,c,hcc,hcell⟩
   ·have k':X.env.scope.names.lookup x=some .local:=k
    rw [k'] at hkX
    rcases hkX with z | z <;> cases z
   ·obtain ⟨c2,hc2⟩:=hasC x (.inr hfree)
    refine ⟨c2,hc2,?_⟩
    have:=(hc x c2 hc2).1
    rw [hcc] at this;cases this
    exact hcell.keeps keep
  ·rw [List.getElem?_append_right (by omega)] at h2
   have hi0:i=σ.length:= by
    cases e:i - σ.length with
    | zero=>omega
    | succ n=>rw [e] at h2;simp at h2
   subst hi0
   rw [Nat.sub_self] at h2
   have h2':some v=some v':=by simpa using h2
   cases h2'
   have hx:x=px:= by
    have:(N' ++ [px])[σ.length]? = some x:=h1
    rw [List.getElem?_append_right (by rw [Mk.len,<- I.len];exact Nat.le_refl _),Mk.len,<- I.len,Nat.sub_self] at this
    simpa using this.symm
   subst hx
   exact ⟨u,r,.inl ⟨hpx,by simp⟩⟩
 ·obtain ⟨v',k⟩:=I.cell x c (hc x c h).1
  exact ⟨v',k.keeps keep⟩
 ·show (σ ++ [some v]).length=(N' ++ [px]).length
  rw [List.length_append,List.length_append,I.len,Mk.len];rfl
theorem vH {nm:Str} {params:Arguments} {body:Expr} {pm ctv:Value} {c':Addr} {v:V} {u:Value} {te:TE} {Q:VK} (I:Inv X pins σ H s) (hA:A.frames=X.A.frames) (hh:A.handled=none) (hroom:A.depth < recursionLimit)
  (hk:scope.kind=.function) (hco:scope.isCoroutine=false) (hgen:scope.isGenerator=false) (S:jv N' [px] X.env.scope scope) (Mk:nj X.N N' scope) (hpx:scope.names.lookup px=some .local) (hnc:∀ x ∈ scope.names,x.2 ≠ .cell)
  (hq:s.heap.get? q=some (PySem.W.kla_obj nm qual params body scope (cM X.env.cells scope.names []) pm c' ctv)) (hcd:s.heap.CodeRec (.ref c') qual)
  (hbind:bindArgs (PySem.W.kla_fn nm qual params body scope (cM X.env.cells scope.names []) pm (.ref c') ctv) ⟨[u],[]⟩=pure [(px,u)]) (r:RelV v u)
  (he:PE (L2.lam X N' px scope qual q (.ref c') A s H) body te) (h:te (σ ++ [some v]) H Q) :
  codeAny (model X.prog X.w) A (.call (.ref q) ⟨[u],[]⟩) (fun r s'=>∃ u',r=.ok (.ret u')∧EP X pins σ (fun y H'=>Q y H' ∧ ∀ b o u,H b=some (.frz o u)->H' b=some (.frz o u)) u' s') s:= by
 refine PySem.W.kla_callFunE hroom hq rfl hco hgen rfl hcd ?_
 rw [hbind]
 refine wpAny_pure (wpAny_newFunctionEnv hnc (fun y hy=>?_) (fun h₁ hns hsb=>⟨I.nolimit.fresh _ hsb,?_⟩) hk)
 ·rw [List.mem_singleton.mp hy];exact hpx
 ·have keep:∀ b o,s.heap.get? b=some o->h₁.get? b=some o:=fun b o e=>hsb.extBut b o (Nat.ne_of_lt (Heap.lt_size e)) (Heap.get?_push_of_some _ e)
  have J:=I.lam (tk:=s.toks + 1) (qual:=qual) (q:=q) (cdv:=.ref c') hA hh hk S Mk hpx hnc hns keep r
  show codeAny _ _ (.expr body (L2.lam X N' px scope qual q (.ref c') A s H).env) _ _
  refine PySem.W.kla_codeExpr (wpAny_mono (he [] _ _ H Q J h) (fun v' s' z=>?_) fun _ _ z=>False.elim z)
  obtain ⟨x,H',J',rx,qx⟩:=z
  exact ⟨v',rfl,x,H',I.call' (ch:=[]) J'.os J'.base J'.hok J'.bare (fun b hb=>absurd hb (by simp)),rx,qx,J'.base.frzs⟩
end
theorem n_ {p:Pos} {c:Value} {l:List Value} (h:TriplesOk l):TriplesOk (l ++ (#[rawInt p.line,rawInt p.col,c]:Array Value).toList):= by
 fun_induction TriplesOk l with
 | case1=>exact trivial
 | case2 a t b u x rest ih=>exact ih h
 | case3=>exact h.elim
theorem qb {p q:Pos} {c cv:Value} {l:List Value} (h:TriplesOk l) (e:codeAmong q (l ++ (#[rawInt p.line,rawInt p.col,c]:Array Value).toList)=some cv):codeAmong q l=some cv ∨ cv=c:= by
 fun_induction TriplesOk l with
 | case1=>
  right
  simp only [List.nil_append,rawInt,codeAmong] at e
  split at e
  ·exact (Option.some.inj e).symm
  ·cases e
 | case2 a t b u x rest ih=>
  simp only [List.cons_append,codeAmong] at e ⊢
  split at e
  ·rename_i hc;rw [if_pos hc];exact .inl e
  ·rename_i hc;rw [if_neg hc];exact ih h e
 | case3=>exact h.elim
structure LamK (K:PySem.W.Frag) (mg:Str->Option Value) (c P:Addr):Prop where
 tab:PySem.W.tabIn K cF=some (c,P)
 hd:∀ h,K.In h->PySem.W.CodeHd h c P
 blt:∀ h,K.In h->h.BuiltinsAt mg P
 main:mainGlobals ≠ P
structure Made (X:Cx) (pins:List (Addr × Obj)) (σ:St) (H:Hp) (s:Shared) (params:Arguments) (body:Expr) (scope:Scope) (q:Addr) (H':Hp) (s':Shared) (c':Addr) (pm ctv:Value):Prop where
 inv:Inv X pins σ H' s'
 same:∀ b o,H b=some o->H' b=some o
 obj:s'.heap.get? q=some (PySem.W.kla_obj "<lambda>" bw params body scope (cM X.env.cells scope.names []) pm c' ctv)
 free:H' q=none
 new:s.heap.objs.size ≤ q
 cod:∃ oc u vs t,H' c' = some (.frz oc u)∧oc.data=.fields vs∧vs[1]? = some (.str bw t)
 keep:∀ b o,H b=none->s.heap.get? b=some o->s'.heap.get? b=some o
theorem xm {X:Cx} {pins:List (Addr × Obj)} {σ:St} {H:Hp} {s:Shared} {N':List Str} {px:Str} {scope:Scope} {params:Arguments} {body:Expr} {pos:Pos} {c P:Addr} {E:Value->Shared->Prop} {Q:Value->Shared->Prop} (I:Inv X pins σ H s) (L:LamK X.K X.mg c P) (hcode:X.env.code=.ref c) (hqual:X.env.qual ++ "<lambda>" = bw)
  (S:jv N' [px] X.env.scope scope) (hdef:defaultsOf params X.env=([],[]))
  (h:∀ q H' s' c' pm ctv,Made X pins σ H s params body scope q H' s' c' pm ctv->Q (.ref q) s') :
  wpAny (model X.prog X.w) X.A (eval (.Lambda params body scope pos) X.env) Q E s:= by
 refine PySem.W.kla_eval hdef ?_
 rw [hqual]
 obtain ⟨qs,t0,hP,hq0⟩:=I.tb c P L.tab
 obtain ⟨ps,hPo,htr,hcs⟩:=(show bK X.prog X.w H s.heap P (.tbl qs) from I.hok P _ hP)
 have hcl:closureFor scope X.env=pure (cM X.env.cells scope.names []):=eT fun n hn=>I.ok.has n (S.free n hn)
 have hglob:s.heap.Ns mainGlobals X.mg:=I.ok.mod.glob.keeps I.bk
 cases hca:codeAmong pos ps.toList with
 | some cv=>
  obtain ⟨c',oc,u,vs,t,rfl,hf,hd,hv⟩:=hcs bw t0 pos cv hq0 hca
  refine PySem.W.kla_makeFunctionHit hcl I.ok.glob hglob hcode (L.hd _ I.kIn) hPo htr hca (L.blt _ I.kIn) fun ctv h' tk hk hsz=>?_
  have hnew:∀ {o:Obj},(h'.push o).get? h'.objs.size=some o ∨ o.isFreed=true:=fun {o}=>by
   cases e:o.isFreed with
   | true=>exact .inr rfl
   | false=>exact .inl (Heap.get?_push_size _ e)
  have kp:∀ b o,s.heap.get? b=some o->(h'.push (PySem.W.kla_obj "<lambda>" bw params body scope (cM X.env.cells scope.names []) ((X.mg "__name__").getD .none) c' ctv)).get? b=some o:=fun b o e=>Heap.get?_push_of_some _ (hk b o e)
  exact h h'.objs.size H _ c' _ ctv ⟨I.kept (t':=tk) kp,fun _ _ e=>e,Heap.get?_push_size _ rfl,I.hok.fresh hsz,hsz,⟨oc,u,vs,t,hf,hd,hv⟩,fun b o _ e=>kp b o e⟩
 | none=>
  refine PySem.W.kla_makeFunction hcl I.ok.glob hglob hcode (L.hd _ I.kIn) hPo htr hca L.main (L.blt _ I.kIn) fun c' ctv h' tk hx hge hlt hrec htb=>?_
  obtain ⟨c₂,oc,vs,t,e2,hoc,hd,hv⟩:=hrec
  cases e2
  have hc'n:H c' = none:=I.hok.fresh hge
  have hPc:P ≠ c':=Nat.ne_of_lt (Nat.lt_of_lt_of_le (Heap.lt_size hPo) hge)
  have hsz:s.heap.objs.size ≤ h'.objs.size:=Nat.le_trans hge (Nat.le_of_lt hlt)
  have kp:∀ b o,b ≠ P->s.heap.get? b=some o->(h'.push (PySem.W.kla_obj "<lambda>" bw params body scope (cM X.env.cells scope.names []) ((X.mg "__name__").getD .none) c' ctv)).get? b=some o:=fun b o hb e=>Heap.get?_push_of_some _ (hx b o hb e)
  have nP:∀ b,H b=none->b ≠ P:=fun b e z=>by rw [z,hP] at e;cases e
  have same:∀ b o,H b=some o->upd H c' (.frz oc (.own 0)) b=some o:=fun b o e=>by rw [aq (aJ e hc'n)];exact e
  have un:Un X.fs [] H (upd H c' (.frz oc (.own 0))) s.heap (h'.push (PySem.W.kla_obj "<lambda>" bw params body scope (cM X.env.cells scope.names []) ((X.mg "__name__").getD .none) c' ctv)) :=
   ⟨fun b o e n _ _=>kp b o (nP b n) e,fun b o e n _ _=>⟨o.slots,kp b o (nP b n) e⟩,fun b o e n _=>by rw [aq (Nat.ne_of_lt (Nat.lt_of_lt_of_le (Heap.lt_size e) hge))];exact n,
    fun b o e _=>by
     by_cases hb:b=P
     ·subst hb;exact ⟨_,Heap.get?_push_of_some _ htb⟩
     ·exact ⟨o,kp b o hb e⟩,
    fun b xs e=>same b _ e,fun b o u e=>same b _ e,fun b qs e=>⟨#[],by rw [same b _ e];simp⟩⟩
  have hok:g8 X.prog X.w (upd H c' (.frz oc (.own 0))) (h'.push (PySem.W.kla_obj "<lambda>" bw params body scope (cM X.env.cells scope.names []) ((X.mg "__name__").getD .none) c' ctv)):=fun b o e=>by
   by_cases hb:b=c'
   ·subst hb
    rw [ay] at e;cases e
    exact ⟨Heap.get?_push_of_some _ hoc,oc,Heap.get?_push_of_some _ hoc⟩
   ·rw [aq hb] at e
    by_cases hbP:b=P
    ·subst hbP
     rw [hP] at e;cases e
     refine ⟨ps ++ #[rawInt pos.line,rawInt pos.col,.ref c'],Heap.get?_push_of_some _ htb,?_,fun q1 t1 pos1 cv h1 h2=>?_⟩
     ·rw [Array.toList_append];exact n_ htr
     ·rw [Array.toList_append] at h2
      rcases qb htr h2 with h2 | h2
      ·obtain ⟨c1,oc1,u1,vs1,t1',z1,z2,z3,z4⟩:=hcs q1 t1 pos1 cv h1 h2
       exact ⟨c1,oc1,u1,vs1,t1',z1,same _ _ z2,z3,z4⟩
      ·rw [hq0] at h1;cases h1
       exact ⟨c',oc,.own 0,vs,t,h2,ay,hd,hv⟩
    ·refine (I.hok b o e).stay (fun d v hdb q=>kp d v ?_ q) (fun d q=>same _ _ q) (fun d xs q=>same _ _ q) fun d ob u q=>same _ _ q
     rcases hdb with z | z
     ·rw [z];exact hbP
     ·intro z2;rw [z2,hP] at z;cases z
  have I':Inv X pins σ (upd H c' (.frz oc (.own 0))) { s with heap:=h'.push (PySem.W.kla_obj "<lambda>" bw params body scope (cM X.env.cells scope.names []) ((X.mg "__name__").getD .none) c' ctv),toks:=tk }:=I.un un hok
  refine h h'.objs.size _ _ c' _ ctv ⟨I',same,Heap.get?_push_size _ rfl,?_,hsz,⟨oc,.own 0,vs,t,ay,hd,hv⟩,fun b o n e=>kp b o (nP b n) e⟩
  rw [aq (Nat.ne_of_gt hlt)]
  exact I.hok.fresh hsz
end L2
namespace L2
open PySem PySem.Spec PyProof.Rows Jt
section
variable {X:Cx} {pins:List (Addr × Obj)} {σ:St} {H:Hp} {s:Shared} {h':Heap}
theorem Inv.adopt {t':Nat} {l:Addr} {o:HO} (I:Inv X pins σ H s) (hf:dg X pins H l) (k:∀ b ob,b ≠ l->s.heap.get? b=some ob->h'.get? b=some ob) (new:bK X.prog X.w (upd H l o) h' l o) :
  Inv X pins σ (upd H l o) { s with heap:=h',toks:=t' }:= by
 have hn:H l=none:=hf.1
 have nit:∀ b u,H b=some u->b ≠ l:=fun b u e z=>by rw [z,hn] at e;cases e
 refine I.step (g':=s.gens) (d':=s.drawn) (ch:=[l]) (fun b hb=>?_) (fun b o _ _ hc e _=>k b o (fun z=>hc (by simp [z])) e) (fun b o _ _ hc e _=>⟨o.slots,k b o (fun z=>hc (by simp [z])) e⟩) (fun b o hc e n=>?_)
  (fun b o hc e=>⟨o,k b o (fun z=>hc (by simp [z])) e⟩) (fun b xs e=>by rw [aq (aJ e hn)];exact e) (fun b o u e=>by rw [aq (aJ e hn)];exact e) (fun b ps e=>⟨#[],by rw [aq (aJ e hn),e];simp⟩) (fun m hm=>?_) (fun b u e=>?_) I.bare
 ·have e:b=l:=by simpa using hb
  subst e
  obtain ⟨_,f1,_,f3,f4,f5⟩:=hf
  exact ⟨f3,f1,f4,f5⟩
 ·rw [aq fun z=>hc (by simp [z])];exact n
 ·obtain ⟨o',es,ep,ho,r⟩:=hm
  exact ⟨o',es,ep,k _ o' (fun z=>hf.2.1 z.symm) ho,r⟩
 ·by_cases hb:b=l
  ·subst hb;rw [ay] at e;cases e;exact new
  ·rw [aq hb] at e
   refine (I.hok b u e).stay (fun c v hc q=>k c v ?_ q) (fun c q=>by rw [aq (aJ q hn)];exact q) (fun c xs q=>by rw [aq (aJ q hn)];exact q) fun c ob v q=>by rw [aq (aJ q hn)];exact q
   rcases hc with z | z
   ·rw [z];exact nit b u e
   ·exact nit c _ z
theorem Inv.pin1 {b:Addr} {o:Obj} (I:Inv X pins σ H s) (hf:dg X pins H b) (e:s.heap.get? b=some o) (hd:∀ v,o.data ≠ .cell v):Inv X (pins ++ [(b,o)]) σ H s:=I.pins_of fun p hp=>by
 rcases List.mem_append.mp hp with z | z
 ·exact I.pin p (List.mem_append_right _ z)
 ·rw [List.mem_singleton.mp z]
  exact ⟨e,hf.1,hf.2.1,hf.2.2.1,hd⟩
theorem Inv.unpin {pl:List (Addr × Obj)} (I:Inv X (pins ++ pl) σ H s):Inv X pins σ H s:=I.pins_of fun p hp=>I.pin p (List.mem_append_right _ (List.mem_append_left _ hp))
theorem Inv.got {b:Addr} {o:Obj} (I:Inv X pins σ H s) (hm:(b,o) ∈ pins):s.heap.get? b=some o∧H b=none∧b ≠ X.env.locals∧b ∉ X.fs:= by
 obtain ⟨h1,h2,h3,h4,_⟩:=I.pin (b,o) (List.mem_append_right _ hm)
 exact ⟨h1,h2,h3,h4⟩
end
abbrev eW (xs:Array Value) (e:Nat):Obj:=seqObj "list" xs e
theorem q_ (xs:Array Value) (e:Nat):∀ v,(eW xs e).data ≠ .cell v:=fun v h=>by cases h
theorem yM {X:Cx} {pins:List (Addr × Obj)} {σ:St} {A:Around} {E:Value->Shared->Prop} {P:PySem.Fin->Shared->Prop} {q l:Addr} {vs:List Value} {ks:List Int} {n0:Nat} {s:Shared} {H:Hp} (W:Nat->Hp->Prop)
  (I:Inv X pins σ H s) (hl:s.heap.get? l=some (eW vs.toArray n0)) (hfl:dg X pins H l) (hlen:ks.length=vs.length) (h64:vs.length < 64) (w0:W 0 H)
  (turn:∀ (i:Nat) (x:Value) (k:Int),vs[i]? = some x->ks[i]? = some k->∀ (H':Hp) (s':Shared) (pl:List (Addr × Obj)),Inv X (pins ++ pl) σ H' s' -> W i H' ->
   codeAny (model X.prog X.w) A (.call (.ref q) ⟨[x],[]⟩) (fun r s''=>∃ u,r=.ok (.ret u)∧EP X (pins ++ pl) σ (fun y H''=>y=.int k∧W (i + 1) H'') u s'') s')
  (h:∀ (H':Hp) (s':Shared) (e:Nat),Inv X pins σ H' s' -> dg X pins H' l->s'.heap.get? l=some (eW (Jt.So.pickI ks Value.none vs).toArray e)->W vs.length H' -> P (.done (.ret .none)) s') :
  wpAny (model X.prog X.w) A (ksk_tree l (.ref q) false) P E s:= by
 have hll:=Heap.lt_size hl
 have sizeV:vs.toArray.size ≤ sizeLine:=by rw [List.size_toArray,sizeLine_eq];omega
 unfold ksk_tree
 refine wpAny_bind (listItems_at hl rfl ?_)
 refine wpAny_bind (listUpdate_at hl rfl ?_ sizeV (Nat.zero_le _))
 obtain ⟨e1,o1⟩:∃ e1,(s.heap.update l (Obj.mapSeq fun _=>(#[]:Array Value))).get? l=some (eW #[] e1):=⟨_,get?_update_seq hl fun _=>#[]⟩
 have sb1:=Heap.SameBut.update s.heap l (Obj.mapSeq fun _=>(#[]:Array Value))
 have I1:Inv X pins σ H { s with heap:=s.heap.update l (Obj.mapSeq fun _=>(#[]:Array Value)),toks:=s.toks }:=I.turned (it:=l) (fun b o hb e=>(sb1.2 b hb).trans e) hfl.1 hfl.2.1 hfl.2.2.2.1 hfl.2.2.2.2.1 hfl.2.2.2.2.2
 refine wpAny_bind (seqEpoch_at o1 rfl ?_)
 refine wpAny_bind (wpAny_newTuple ?_ (by show vs.length ≤ _;rw [sizeLine_eq];omega))
 refine wpAny_bind (wpAny_newList ?_ (Nat.zero_le _))
 refine wpAny_holding ?_
 generalize hs2:({ s with heap:=((s.heap.update l (Obj.mapSeq fun _=>(#[]:Array Value))).push (seqObj "tuple" vs.toArray 0)).push (seqObj "list" #[] 0) }:Shared)=s2
 have I2:Inv X pins σ H s2:= by
  rw [<- hs2]
  exact I1.kept (t':=s.toks) fun b o e=>Heap.get?_push_of_some _ (Heap.get?_push_of_some _ e)
 have ol2:s2.heap.get? l=some (eW #[] e1):= by
  rw [<- hs2]
  exact Heap.get?_push_of_some _ (Heap.get?_push_of_some _ o1)
 generalize hkS:((s.heap.update l (Obj.mapSeq fun _=>(#[]:Array Value))).push (seqObj "tuple" vs.toArray 0)).objs.size=kS
 have hkl:l < kS:=by rw [<- hkS,Heap.size_push,Heap.size_update];exact Nat.lt_succ_of_lt hll
 have ok2:s2.heap.get? kS=some (eW #[] 0):= by
  rw [<- hs2,<- hkS]
  exact Heap.get?_push_size _ rfl
 have hsz1:s.heap.objs.size ≤ kS:=by rw [<- hkS,Heap.size_push,Heap.size_update];omega
 have fpk:∀ {H':Hp},H' kS=none->dg X pins H' kS:=fun e=>I.fpOk hsz1 e
 have hkn:H kS=none:=I.hok.fresh hsz1
 have I3:Inv X (pins ++ [(l,eW #[] e1)]) σ H s2:=I2.pin1 hfl ol2 (q_ _ _)
 have fpk3:∀ {H':Hp},H' kS=none->dg X (pins ++ [(l,eW #[] e1)]) H' kS:=fun e=>by
  obtain ⟨a1,a2,a3,a4,a5,a6⟩:=fpk e
  refine ⟨a1,a2,a3,a4,a5,fun p hp=>?_⟩
  rcases List.mem_append.mp hp with z | z
  ·exact a6 p (List.mem_append_left _ z)
  ·rcases List.mem_append.mp z with z | z
   ·exact a6 p (List.mem_append_right _ z)
   ·rw [List.mem_singleton.mp z];exact Nat.ne_of_lt hkl
 unfold ksk_rest
 refine wpAny_bind (wpAny_rule ?_)
 rw [List.forIn_toArray]
 refine wpAny_bind (ksk_fold (fun i s'=>∃ H' kA e,Inv X ((pins ++ [(l,eW #[] e1)]) ++ [(kS,eW kA e)]) σ H' s' ∧ IntsAre kA.toList (ks.take i)∧W i H') vs 0 s2
  ⟨H,#[],0,I3.pin1 (fpk3 hkn) ok2 (q_ _ _),by simpa using IntsAre.nil,w0⟩ ?step ?done)
 case step=>
  rintro j x s' hx ⟨H',kA,e,J,hk,wj⟩
  simp only [Nat.zero_add] at hk wj ⊢
  have hj:j < vs.length:=(List.getElem?_eq_some_iff.mp hx).1
  obtain ⟨k,hkj⟩:∃ k,ks[j]? = some k:=⟨_,List.getElem?_eq_getElem (by omega)⟩
  have hz:kA.size ≤ vs.length:= by
   have h1:=hk.length
   rw [Array.length_toList,List.length_take] at h1
   omega
  have J':Inv X (pins ++ ([(l,eW #[] e1)] ++ [(kS,eW kA e)])) σ H' s':=by rw [<- List.append_assoc];exact J
  refine wpAny_bind (wpAny_attempt (wpAny_call (codeAny_mono (turn j x k hx hkj H' s' _ J' wj) fun r s'' hr=>?_)))
  obtain ⟨u,rfl,y,H'',J2,ry,rfl,w2⟩:=hr
  obtain ⟨t2,rfl⟩:=ry
  dsimp only
  have J3:Inv X ((pins ++ [(l,eW #[] e1)]) ++ [(kS,eW kA e)]) σ H'' s'':=by rw [List.append_assoc];exact J2
  obtain ⟨g1,g2,g3,g4⟩:=J3.got (List.mem_append_right _ (List.mem_singleton.mpr rfl))
  have sb:=Heap.SameBut.update s''.heap kS (Obj.mapSeq (·.push (.int k t2)))
  obtain ⟨c2,hc2⟩:∃ c2,(s''.heap.update kS (Obj.mapSeq (·.push (.int k t2)))).get? kS=some (eW (kA.push (.int k t2)) c2):=⟨_,get?_update_seq g1 (·.push (.int k t2))⟩
  refine wpAny_bind (listUpdate_at g1 rfl ?_ (by rw [sizeLine_eq];omega) (Nat.le_trans (Nat.le_of_eq (Array.size_push ..)) (by rw [sizeLine_eq];omega)))
  have ek:ks.take (j + 1)=ks.take j ++ [k]:=by rw [List.take_add_one,hkj];simp
  have ea:(kA.push (Value.int k t2)).toList=kA.toList ++ [Value.int k t2]:=by simp
  have fp:=fpk3 g2
  have J4:Inv X (pins ++ [(l,eW #[] e1)]) σ H'' { s'' with heap:=s''.heap.update kS (Obj.mapSeq (·.push (.int k t2))),toks:=s''.toks }:=J3.unpin.turned (it:=kS) (fun b o hb e=>(sb.2 b hb).trans e) g2 g3 fp.2.2.2.1 fp.2.2.2.2.1 fp.2.2.2.2.2
  exact wpAny_pure ⟨rfl,H'',kA.push (.int k t2),c2,J4.pin1 fp hc2 (q_ _ _),by rw [ea,ek];exact ksk_snoc hk,w2⟩
 case done=>
  rintro s' ⟨H',kA,e,J,hk,wn⟩
  rw [Nat.zero_add] at hk wn
  rw [List.take_of_length_le (by omega)] at hk
  have hkz:kA.size=vs.length:= by
   have h1:=hk.length
   rw [Array.length_toList] at h1
   omega
  obtain ⟨g1,g2,g3,g4⟩:=J.got (List.mem_append_right _ (List.mem_singleton.mpr rfl))
  obtain ⟨f1,f2,f3,f4⟩:=J.got (List.mem_append_left _ (List.mem_append_right _ (List.mem_singleton.mpr rfl)))
  refine wpAny_bind (listItems_at g1 rfl ?_)
  have tail:∀ st:SortSt,(arrOf st).map (·.2)=(Jt.So.pickI ks Value.none vs).toArray->failedOf st=none->(Jt.So.pickI ks Value.none vs).length=vs.length ->
    wpAny (model X.prog X.w) A (ksk_tail l false e1 (.ref kS) st) P E s':=fun st hout hfl0 hpl=>by
   have sb:=Heap.SameBut.update s'.heap kS (Obj.mapSeq fun _=>(#[]:Array Value))
   have l1:(s'.heap.update kS (Obj.mapSeq fun _=>(#[]:Array Value))).get? l=some (eW #[] e1):=(sb.2 l (Nat.ne_of_lt hkl)).trans f1
   have sb2:=Heap.SameBut.update (s'.heap.update kS (Obj.mapSeq fun _=>(#[]:Array Value))) l (Obj.mapSeq fun _=>(Jt.So.pickI ks Value.none vs).toArray)
   obtain ⟨c2,hc2⟩:∃ c2,((s'.heap.update kS (Obj.mapSeq fun _=>(#[]:Array Value))).update l (Obj.mapSeq fun _=>(Jt.So.pickI ks Value.none vs).toArray)).get? l=some (eW (Jt.So.pickI ks Value.none vs).toArray c2):=⟨_,get?_update_seq l1 fun _=>(Jt.So.pickI ks Value.none vs).toArray⟩
   have J1:Inv X pins σ H' s':=J.unpin.unpin
   have fpl:dg X pins H' l:=⟨f2,hfl.2⟩
   have fp:=fpk g2
   unfold ksk_tail
   dsimp only
   rw [hout]
   refine wpAny_bind (listUpdate_at g1 rfl ?_ (by rw [hkz,sizeLine_eq];omega) (Nat.zero_le _))
   refine wpAny_bind (wpAny_letGo ?_)
   refine wpAny_bind (seqEpoch_at l1 rfl ?_)
   refine wpAny_bind (listUpdate_at l1 rfl ?_ (Nat.zero_le _) ?_)
   ·rw [hfl0]
    simp only [bne_self_eq_false,Bool.false_eq_true,if_false]
    have J2:Inv X pins σ H' { s' with heap:=s'.heap.update kS (Obj.mapSeq fun _=>(#[]:Array Value)),toks:=s'.toks }:=J1.turned (it:=kS) (fun b o hb e=>(sb.2 b hb).trans e) g2 g3 fp.2.2.2.1 fp.2.2.2.2.1 fp.2.2.2.2.2
    have J3:Inv X pins σ H' { s' with heap:=(s'.heap.update kS (Obj.mapSeq fun _=>(#[]:Array Value))).update l (Obj.mapSeq fun _=>(Jt.So.pickI ks Value.none vs).toArray),toks:=s'.toks }:=Inv.turned (s:={ s' with heap:=s'.heap.update kS (Obj.mapSeq fun _=>(#[]:Array Value)),toks:=s'.toks }) (it:=l) J2 (fun b o hb e=>(sb2.2 b hb).trans e) f2 f3 hfl.2.2.2.1 hfl.2.2.2.2.1 hfl.2.2.2.2.2
    exact wpAny_pure (h H' _ c2 J3 fpl hc2 wn)
   ·simp only [Bool.false_eq_true,if_false,List.size_toArray]
    rw [hpl,sizeLine_eq];omega
  unfold ksk_end
  simp only [Bool.false_eq_true,if_false]
  by_cases h2:vs.toArray.size < 2
  ·rw [if_pos h2,if_pos h2]
   rw [List.size_toArray] at h2
   refine wpAny_bind (wpAny_pure ?_)
   rw [StateT.run_pure]
   refine wpAny_bind (wpAny_pure ?_)
   dsimp only
   have ep:Jt.So.pickI ks Value.none vs=vs:=by unfold Jt.So.pickI;rw [if_pos (by omega)]
   refine tail _ ?_ rfl (by rw [ep])
   rw [ep]
   show ((kA.zip vs.toArray).map (·.2))=vs.toArray
   apply Array.toList_inj.mp
   rw [Array.toList_map,ksk_zip,List.map_snd_zip (by simp [hkz])]
  ·rw [if_neg h2,if_neg h2]
   rw [List.size_toArray] at h2
   rw [ksk_kind hk (by rw [hkz];omega)]
   refine wpAny_bind (wpAny_pure ?_)
   have hzl:kA.toList.length=vs.length:=by rw [Array.length_toList,hkz]
   have ew:SortSt.mk' oneType' (kA.zip vs.toArray) #[] 7 none=SortSt.mk' oneType' (kA.toList.toArray.zip vs.toArray) #[] 7 none:=by rw [Array.toArray_toList]
   rw [ew]
   refine wpAny_bind (wpAny_mono (PySem.W.kat_run (E:=E) (ks:=kA.toList) (vs:=vs) (κ:=oneType') (Q:=fun st s''=>(arrOf st).map (·.2)=(Jt.So.pickI ks Value.none vs).toArray∧failedOf st=none∧s'' = s')
    (G:=fun p s''=>p=Jt.So.ordI ks∧s'' = s') hzl (by omega) h64 (fun p st s'' hp ha hf hg=>⟨?_,hf,hg.2⟩) ?_) ?_ fun _ _ x=>x)
   ·rw [PySem.W.kat_snds hzl ha,hg.1]
    unfold Jt.So.pickI
    rw [if_neg (by omega)]
   ·have ws:=Jt.So.w_sort (Jt.So.gI_ord ks) (n:=vs.length) (by omega)
    refine Jt.So.WpT.kas (g:=Jt.So.gI ks) (n:=vs.length) (fun i j C hi hj hC=>?_) ws ⟨by unfold Jt.So.ordI;rw [hlen],rfl⟩
    unfold PySem.W.kas_ask
    obtain ⟨t1,e1'⟩:=hk.get i (ks[i]'(by omega)) (List.getElem?_eq_getElem _)
    obtain ⟨t2,e2'⟩:=hk.get j (ks[j]'(by omega)) (List.getElem?_eq_getElem _)
    have d1:kA.toList.getD i Value.none=.int (ks[i]'(by omega)) t1:=by rw [List.getD_eq_getElem?_getD,e1'];rfl
    have d2:kA.toList.getD j Value.none=.int (ks[j]'(by omega)) t2:=by rw [List.getD_eq_getElem?_getD,e2'];rfl
    rw [d1,d2]
    refine PySem.W.kat_lt_int ?_
    have:Jt.So.gI ks i j=decide (ks[i]'(by omega) < ks[j]'(by omega)):= by
     unfold Jt.So.gI
     rw [List.getD_eq_getElem?_getD,List.getD_eq_getElem?_getD,List.getElem?_eq_getElem (by omega),List.getElem?_eq_getElem (by omega)];rfl
    rw [<- this];exact hC
   ·rintro ⟨u,st⟩ s'' ⟨hout,hf,rfl⟩
    dsimp only
    exact tail st hout hf (by
     have:=Jt.So.pickI_perm ks Value.none vs hlen.symm
     exact this.length_eq)
end L2
namespace L2
open PySem PySem.Spec PyProof.Rows Jt
theorem me {H:Hp} {es:Array DictEntry} {kvs:List (List Key × V)} (sz:es.size=kvs.length) (h:∀ (i:Nat) (p:List Key × V),kvs[i]? = some p->∃ (hlt:i < es.size) (b:Addr),es[i].key=.ref b∧H b=some (.tup (p.1.map kV))) :
  ∃ bs:List Addr,bs.length=kvs.length∧es.toList.map (·.key)=bs.map Value.ref∧∀ (i:Nat) (p:List Key × V),kvs[i]? = some p->∃ b,bs[i]? = some b∧H b=some (.tup (p.1.map kV)):= by
 have hk:∀ i (hi:i < es.size),∃ b,es[i].key=.ref b:=fun i hi=>by
  obtain ⟨_,b,e,_⟩:=h i kvs[i] (List.getElem?_eq_getElem (by omega))
  exact ⟨b,e⟩
 have e0:es.toList.map (·.key)=(es.toList.map fun e=>match e.key with | .ref b=>b | _=>0).map Value.ref:= by
  rw [List.map_map]
  refine List.map_congr_left fun e he=>?_
  obtain ⟨i,hi,rfl⟩:=List.getElem_of_mem he
  obtain ⟨b,eb⟩:=hk i (by simpa using hi)
  have eb':es.toList[i].key=.ref b:=by simpa using eb
  simp only [Function.comp,eb']
 refine ⟨_,by simp [sz],e0,fun i p hp=>?_⟩
 obtain ⟨hlt,b,eb,hb⟩:=h i p hp
 refine ⟨b,?_,hb⟩
 rw [List.getElem?_map,Array.getElem?_toList,Array.getElem?_eq_getElem hlt]
 simp only [Option.map_some,eb]
def yt (ta te:TE):TE:=fun σ H Q=>ta σ H fun v H1=>∃ (d:Addr) (kvs:List (List Key × V)),v=.ref d∧Rd H1 d (.dT kvs)∧kvs.length < 64 ∧
 ∀ H2:Hp,(∀ b o,H1 b=some o->H2 b=some o)->∀ bs:List Addr,bs.length=kvs.length->(∀ (i:Nat) (p:List Key × V),kvs[i]? = some p->∃ b,bs[i]? = some b∧H2 b=some (.tup (p.1.map kV))) ->
  ∃ (ks:List Int) (W:Nat->Hp->Prop),ks.length=kvs.length∧W 0 H2∧(∀ (i:Nat) (k:Int) (b:Addr) (H':Hp),bs[i]? = some b->ks[i]? = some k->W i H' -> te (σ ++ [some (.ref b)]) H' fun y H''=>y=.int k∧W (i + 1) H'') ∧
   ∀ (H':Hp) (l:Addr),W kvs.length H' -> H' l=none->Q (.ref l) (upd H' l (.lst (Jt.So.pickI ks .non (bs.map V.ref))))
theorem tV {ks:List Int} {bs:List Addr}:Vals (Jt.So.pickI ks V.non (bs.map V.ref)) (Jt.So.pickI ks Value.none (bs.map Value.ref)):= by
 have base:∀ l:List Addr,Vals (l.map V.ref) (l.map Value.ref):=fun l=>by
  induction l with
  | nil=>exact .nil
  | cons b r ih=>exact .cons rfl ih
 unfold Jt.So.pickI
 split
 ·exact base bs
 ·exact oQ (fun i=>l6 (base bs) i) _
section
variable {X:Cx} {a body:Expr} {params:Arguments} {scope:Scope} {lp kp p pos:Pos} {ta te:TE} {c P:Addr} {N':List Str} {px:Str} {k:Nat}
theorem om (hr:bU k X.A) (L:LamK X.K X.mg c P) (hcode:X.env.code=.ref c) (hm:X.mg "sorted" = none) (ha:PE X a ta)
  (he:∀ q c' A s H,(lam X N' px scope bw q (.ref c') A s H).A.units + 100 < cLine->PE (lam X N' px scope bw q (.ref c') A s H) body te)
  (hS:dP N' [px] X.env.scope scope=true:=by rfl) (hM:dQ X.N N' scope=true:=by rfl) (hk:scope.kind=.function:=by rfl) (hco:scope.isCoroutine=false:=by rfl) (hgen:scope.isGenerator=false:=by rfl)
  (hpx:scope.names.lookup px=some .local:=by rfl) (hnc:(scope.names.all fun x=>!(x.2 == .cell))=true:=by rfl) (hqual:X.env.qual ++ "<lambda>" = bw:=by rfl) (hdef:defaultsOf params X.env=([],[]):=by rfl)
  (hbind:∀ (u:Value) (cl:List (Str × Addr)) (pm ctv:Value) (c':Addr),bindArgs (PySem.W.kla_fn "<lambda>" bw params body scope cl pm (.ref c') ctv) ⟨[u],[]⟩=pure [(px,u)]:=by intros;rfl)
  (hg:Gl X "sorted":=by rfl) (hst:starEach [a] X.env=[(false,eval a X.env)]:=by rfl) :
  PE X (.Call (.Name "sorted" p) [a] [⟨some "key",.Lambda params body scope lp,kp⟩] pos) (yt ta te):= by
 intro pins s σ H Q I h
 have S:=jf hS
 have Mk:=jm hM
 have hnc':∀ x ∈ scope.names,x.2 ≠ .cell:=fun x hx e=>by
  have:=List.all_eq_true.mp hnc x hx
  rw [e] at this
  simp at this
 refine wpAny_Call_Name_kw (gw I hg hm (u:=.builtin "sorted") rfl ?_ (by decide) (by decide))
 refine callWith_builtin_kwB (by rw [hst];rfl) rfl (evalArgs_kw2 rfl (bx ((cx ha eY hst) pos pins s σ H (fun vs H1=>match vs with
  | [v]=>∃ (d:Addr) (kvs:List (List Key × V)),v=.ref d∧Rd H1 d (.dT kvs)∧kvs.length < 64 ∧
   ∀ H2:Hp,(∀ b o,H1 b=some o->H2 b=some o)->∀ bs:List Addr,bs.length=kvs.length->(∀ (i:Nat) (p:List Key × V),kvs[i]? = some p->∃ b,bs[i]? = some b∧H2 b=some (.tup (p.1.map kV))) ->
    ∃ (ks:List Int) (W:Nat->Hp->Prop),ks.length=kvs.length∧W 0 H2∧(∀ (i:Nat) (k:Int) (b:Addr) (H':Hp),bs[i]? = some b->ks[i]? = some k->W i H' -> te (σ ++ [some (.ref b)]) H' fun y H''=>y=.int k∧W (i + 1) H'') ∧
     ∀ (H':Hp) (l:Addr),W kvs.length H' -> H' l=none->Q (.ref l) (upd H' l (.lst (Jt.So.pickI ks .non (bs.map V.ref))))
  | _=>False) I h) fun us s1 ⟨vs,H1,I1,r,q⟩=>?_) hst)
 match vs,q with
 | [v],q=>
  obtain ⟨d,kvs,rfl,hd,h64,fin⟩:=q
  obtain ⟨u,rfl,ru⟩:=r.one
  cases ru
  show wpAny _ _ (evalAll [do let v <- eval (.Lambda params body scope lp) X.env;standAt pos;pure v]) _ _ s1
  refine wpAny_evalAll_cons (wpAny_bind (xm I1 L hcode hqual S hdef fun q H2 s2 c' pm ctv M=>wpAny_bind (wpAny_standAt (wpAny_pure (wpAny_evalAll_nil ?_)))))
  show wpAny _ _ (call (.builtin "sorted") [.ref d] [(Str.ofString "key",.ref q)]) _ _ s2
  have fq:dg X pins H2 q:=I1.fpOk M.new M.free
  have I3:=M.inv.pin1 fq M.obj (fun v h=>by cases h)
  obtain ⟨oc,uu,ws,tt,hc',hdat,hv1⟩:=M.cod
  have hd2:Rd H2 d (.dT kvs):=Jt.Rd.mono M.same hd
  obtain ⟨lo,o,es,h1,h2,h3,h4,h5⟩:=ko M.inv.hok hd2
  obtain ⟨bs,hbl,hbk,hbs⟩:=me h4 h5
  obtain ⟨ks,W,hkl,w0,turn,last⟩:=fin H2 M.same bs hbl hbs
  refine call_function_entry_kw kind_sorted plain_sorted entry_sorted (ksk_s1 _ _) ?_
  unfold Builtin.«sorted»
  refine wpAny_bind (m:=checkCount "sorted" 1 1 _) (wpAny_pure ?_)
  refine wpAny_bind (pZ hr.hd lo ⟨o,h1,h2,h3⟩ (by rw [h4,sizeLine_eq];omega) fun g1 tk1 k1 hsz=>?_)
  rw [hbk]
  have hvl:(bs.map Value.ref).length=kvs.length:=by rw [List.length_map,hbl]
  refine wpAny_bind (wpAny_newList ?_ (by rw [hvl,sizeLine_eq];omega))
  have I4:Inv X (pins ++ [(q,PySem.W.kla_obj "<lambda>" bw params body scope (cM X.env.cells scope.names []) pm c' ctv)]) σ H2 { s2 with heap:=g1.push (eW (bs.map Value.ref).toArray 0),toks:=tk1 }:=I3.kept (t':=tk1) fun b o e=>Heap.get?_push_of_some _ (k1 b o e)
  have hgl:(g1.push (eW (bs.map Value.ref).toArray 0)).get? g1.objs.size=some (eW (bs.map Value.ref).toArray 0):=Heap.get?_push_size _ rfl
  have fl:dg X (pins ++ [(q,PySem.W.kla_obj "<lambda>" bw params body scope (cM X.env.cells scope.names []) pm c' ctv)]) H2 g1.objs.size:=I3.fpOk hsz (I3.hok.fresh hsz)
  refine wpAny_bind (wpAny_holding (wpAny_call_entry_kw slot_list_sort ⟨_,hgl,rfl⟩ entry_list_sort ?body (ksk_l1 _ _)))
  case body=>
   show wpAny (model X.prog X.w) X.A.in1.in1 (Builtin.«list.sort» ⟨[.ref g1.objs.size],[(Str.ofString "key",.ref q)]⟩) _ _ _
   rw [ksk_t1]
   refine yM (fun i H'=>W i H' ∧ H' c' = some (.frz oc uu)) I4 hgl fl (by rw [hkl,hvl]) (by omega) ⟨w0,hc'⟩ (fun i x kk hx hkk H' s' pl J wi=>?_) fun H' s' e J fl' hg' wn=>⟨_,rfl,wpAny_pure ⟨_,rfl,?_⟩⟩
   ·rw [List.getElem?_map] at hx
    cases hb:bs[i]? with
    | none=>rw [hb] at hx;cases hx
    | some b=>
     rw [hb] at hx
     cases hx
     obtain ⟨g1',_⟩:=J.got (List.mem_append_left _ (List.mem_append_right _ (List.mem_singleton.mpr rfl)))
     obtain ⟨goc,_⟩:=(show bK X.prog X.w H' s'.heap c' (.frz oc uu) from J.hok c' _ wi.2)
     refine codeAny_mono (vH (v:=.ref b) (u:=.ref b) (te:=te) J rfl hr.hd hr.depth hk hco hgen S Mk hpx hnc' g1' ⟨c',oc,ws,tt,rfl,goc,hdat,hv1⟩ (hbind _ _ _ _ _) rfl (he q c' _ s' H' (by have:=hr.un;show X.A.units + 1 + 1 + 3 + 100 < _;omega)) (turn i kk b H' hb hkk wi.1)) fun r s'' ⟨u',e',y,H'',J'',ry,⟨qy,wy⟩,fz⟩=>?_
     exact ⟨u',e',y,H'',J'',ry,qy,wy,fz _ _ _ wi.2⟩
   ·have J1:=J.unpin
    have fl1:dg X pins H' g1.objs.size:=⟨fl'.1,fl'.2.1,fl'.2.2.1,fl'.2.2.2.1,fl'.2.2.2.2.1,fun p hp=>fl'.2.2.2.2.2 p (by
     rcases List.mem_append.mp hp with z | z
     ·exact List.mem_append_left _ z
     ·exact List.mem_append_right _ (List.mem_append_left _ z))⟩
    have hpl:(Jt.So.pickI ks V.non (bs.map V.ref)).length=kvs.length:= by
     rw [(Jt.So.pickI_perm ks V.non (bs.map V.ref) (by rw [List.length_map,hbl,hkl])).length_eq,List.length_map,hbl]
    refine ⟨.ref g1.objs.size,upd H' g1.objs.size (.lst (Jt.So.pickI ks .non (bs.map V.ref))),J1.adopt (h':=s'.heap) (t':=s'.toks) fl1 (fun b ob _ e=>e) ⟨by rw [hpl,sizeLine_eq];omega,Jt.So.pickI ks Value.none (bs.map Value.ref),e,tV,hg'⟩,rfl,last H' _ (by rw [hvl] at wn;exact wn.1) fl'.1⟩
end
end L2
namespace Jt
open PySem L2
def pairD (p:Int × Int):D:=.tup [.int p.1,.int p.2]
def qw:D->Option iB
 | .dip kvs=>some (aQ (kvs.map fun p=>pairD p.1))
 | _=>none
theorem sG {H:Hp} {p:Int × Int} {b:Addr} (h:H b=some (.tup [.int p.1,.int p.2])):R H (pairD p) (.ref b):=.mkT h (.cons .mkI (.cons .mkI .nil))
theorem C8 {H:Hp} {a:Addr} {kvs kvs':List (List Key × V)} (h:H a=some (.dT kvs)) (h':Rd H a (.dT kvs')):kvs' = kvs:= by
 rcases h' with e | ⟨o,e⟩
 ·rw [h] at e;cases e;rfl
 ·rw [h] at e;cases e
theorem vn {a:Addr} {kvs:List ((Int × Int) × Int)}:El (GW a kvs.length) (aQ (kvs.map fun p=>pairD p.1)) [.dip kvs] [.ref a]:=fun c δ S σ T H i s=>by
 obtain ⟨p,e,h1⟩:=s.st.head.dip
 cases e
 have hH:H a=some (eC kvs):=aK _ _ h1
 refine ⟨fun act d ha hd=>?_,fun e _=>⟨_,.inl hH,by simp,by rw [e];simp [aQ]⟩⟩
 have hg:=fu ha hd
 rw [List.getElem?_map] at hg
 cases q:kvs[i]? with
 | none=>rw [q] at hg;cases hg
 | some kv=>
  rw [q] at hg
  cases hg
  have hi:i < kvs.length:=(List.getElem?_eq_some_iff.mp q).1
  refine ⟨⟨_,.inl hH,by simp,hi⟩,fun x H' y=>?_⟩
  obtain ⟨rfl,kvs',p',b,hr,hp,rfl,hb⟩:=y
  rw [C8 hH hr,List.getElem?_map,q] at hp
  cases hp
  exact s.stk (.cons (sG (s.seeT hb)) s.st)
section
variable {X:Cx} {a:Expr} {fa fk:M D}
theorem Aa {tg l:Expr} (hl:DE X l fa):DI X tg l (do let x <- fa;lift (qw x)):=qO (AH hl) fun σ H R ⟨c,δ,S,T,it,δ',s,e,k⟩=>by
 obtain ⟨x,δ1,e1,e⟩:=bind_some e
 obtain ⟨e2,rfl⟩:=ax e
 refine ⟨c,δ,S,T,x,δ1,s,e1,fun v H' s'=>?_⟩
 cases x with
 | dip kvs=>
  cases e2
  obtain ⟨p,rfl,h1⟩:=s'.st.head.dip
  refine ⟨p,_,rfl,.inl (aK _ _ h1),?_⟩
  rw [List.length_map]
  exact k _ [.dip kvs] [.ref p] H' rfl vn s'
 | _=>cases e2
def g_ (fk:M D):List ((Int × Int) × Int)->M (List Int)
 | []=>pure []
 | p :: r=>fun δ=>match fk (δ ++ [.pu (pairD p.1)]) with
  | some (.int k,δ')=>(match g_ fk r (δ'.take δ.length) with
   | some (ks,δ'')=>some (k :: ks,δ'')
   | none=>none)
  | _=>none
theorem ka {p:(Int × Int) × Int} {r:List ((Int × Int) × Int)} {δ δ':DS} {ks:List Int} (h:g_ fk (p :: r) δ=some (ks,δ')):∃ k δ1 ks1,fk (δ ++ [.pu (pairD p.1)])=some (.int k,δ1)∧g_ fk r (δ1.take δ.length)=some (ks1,δ')∧ks=k :: ks1:= by
 unfold g_ at h
 split at h
 ·rename_i k δ1 e
  split at h
  ·rename_i ks1 δ2 e2
   cases h
   exact ⟨k,δ1,ks1,e,e2,rfl⟩
  ·cases h
 ·cases h
theorem mG:∀ {kvs:List ((Int × Int) × Int)} {δ δ':DS} {ks:List Int},g_ fk kvs δ=some (ks,δ')->ks.length=kvs.length
 | [],δ,δ',ks,h=>by cases h;rfl
 | p :: r,δ,δ',ks,h=>by
  obtain ⟨k,δ1,ks1,_,e2,rfl⟩:=ka h
  simp [mG e2]
def n4 (fa fk:M D):M (List D):=do
 let x <- fa
 match x with
 | .dip kvs=>if kvs.length < 64 then (do
   let ks <- g_ fk kvs
   pure (So.pickI ks .non (kvs.map fun p=>pairD p.1))) else lift none
 | _=>lift none
theorem yE {H:Hp} {ds:List D} {vs:List V} (h:Rs H ds vs) (ks:List Int):Rs H (So.pickI ks .non ds) (So.pickI ks .non vs):= by
 unfold So.pickI
 split
 ·exact h
 ·have one:∀ i:Nat,R H (ds.getD i .non) (vs.getD i .non):=fun i=>by
   rw [List.getD_eq_getElem?_getD,List.getD_eq_getElem?_getD]
   cases q:ds[i]? with
   | none=>
    have:vs[i]? = none:=by rw [List.getElem?_eq_none_iff] at q ⊢;rw [h.length];exact q
    rw [this];exact .mkN
   | some d=>
    obtain ⟨v,e,r⟩:=h.get q
    rw [e];exact r
  generalize (So.ordI ks).toList=l
  induction l with
  | nil=>exact .nil
  | cons i r ih=>exact .cons (one i) ih
theorem Sl.snoc {c:Ct} {δ:DS} {S:List D} {σ:L2.St} {T:List V} {H:Hp} {d:D} {v:V} (s:Sl c δ (d :: S) σ (v :: T) H):Sl c (δ ++ [.pu d]) S (σ ++ [some v]) T H:= by
 have h1:=s.ext 1
 have h2:=h1.setPu (i:=δ.length) (by simp)
 have e1:(δ ++ List.replicate 1 Slot.un).set δ.length (.pu d)=δ ++ [.pu d]:=by simp
 have e2:(σ ++ List.replicate 1 (none:Option V)).set δ.length (some v)=σ ++ [some v]:=by rw [s.len];simp
 rw [e1,e2] at h2
 exact h2
theorem kj {H:Hp}:∀ {kvs:List ((Int × Int) × Int)} {bs:List Addr},bs.length=kvs.length->(∀ (i:Nat) (p:(Int × Int) × Int),kvs[i]? = some p->∃ b,bs[i]? = some b∧H b=some (.tup [.int p.1.1,.int p.1.2]))->Rs H (kvs.map fun p=>pairD p.1) (bs.map V.ref)
 | [],[],_,_=>.nil
 | p :: r,b :: bs,hl,h=>by
  obtain ⟨b',e,hb⟩:=h 0 p rfl
  cases e
  exact .cons (sG hb) (kj (by simpa using hl) fun i q hq=>h (i + 1) q (by simpa using hq))
 | [],_ :: _,hl,_=>by cases hl
 | _ :: _,[],hl,_=>by cases hl
theorem uo {b:Expr} {fb:M D} {pos:Pos} (hu:X.A.units + 100 < cLine) (ha:DE X a fa) (hb:DE X b fb) (hs:gY b:=by exact fun _ _=>rfl):DE X (.Subscript a b pos) (m2 eB fa fb):=xY (xB qT (rM (by omega))) tp ha hb hs
theorem oH {body:Expr} {params:Arguments} {scope:Scope} {lp kp p pos:Pos} {cc P:Addr} {N':List Str} {px:Str} {k:Nat} (hr:bU k X.A) (L:LamK X.K X.mg cc P) (hcode:X.env.code=.ref cc) (hm:X.mg "sorted" = none) (ha:DE X a fa)
  (he:∀ q c' A s H,(lam X N' px scope bw q (.ref c') A s H).A.units + 100 < cLine->DE (lam X N' px scope bw q (.ref c') A s H) body fk)
  (hS:dP N' [px] X.env.scope scope=true:=by rfl) (hM:dQ X.N N' scope=true:=by rfl) (hk:scope.kind=.function:=by rfl) (hco:scope.isCoroutine=false:=by rfl) (hgen:scope.isGenerator=false:=by rfl)
  (hpx:scope.names.lookup px=some .local:=by rfl) (hnc:(scope.names.all fun x=>!(x.2 == .cell))=true:=by rfl) (hqual:X.env.qual ++ "<lambda>" = bw:=by rfl) (hdef:defaultsOf params X.env=([],[]):=by rfl)
  (hbind:∀ (u:Value) (cl:List (Str × Addr)) (pm ctv:Value) (c':Addr),bindArgs (PySem.W.kla_fn "<lambda>" bw params body scope cl pm (.ref c') ctv) ⟨[u],[]⟩=pure [(px,u)]:=by intros;rfl)
  (hg:Gl X "sorted":=by rfl) (hst:starEach [a] X.env=[(false,eval a X.env)]:=by rfl) :
  DF X (.Call (.Name "sorted" p) [a] [⟨some "key",.Lambda params body scope lp,kp⟩] pos) (n4 fa fk):=b4 (om hr L hcode hm ha he hS hM hk hco hgen hpx hnc hqual hdef hbind hg hst) fun σ H Q ⟨c,δ,S,T,xs,δ',s,e,q⟩=>by
 obtain ⟨x,δ1,e1,e⟩:=bind_some e
 refine ⟨c,δ,S,T,x,δ1,s,e1,fun v H1 s1=>?_⟩
 cases x with
 | dip kvs=>
  dsimp only at e
  split at e
  ·rename_i h64
   obtain ⟨ks,δ2,e2,e⟩:=bind_some e
   obtain ⟨rfl,rfl⟩:=ai e
   obtain ⟨d,rfl,h1⟩:=s1.st.head.dip
   refine ⟨d,_,rfl,.inl (aK _ _ h1),by simpa using h64,fun H2 same bs hbl hbs=>?_⟩
   rw [List.length_map] at hbl
   have s2:=s1.grow same
   have hrs:Rs (eD c δ1 σ H2) (kvs.map fun p=>pairD p.1) (bs.map V.ref):=kj hbl fun i p hp=>by
    obtain ⟨b,eb,hb⟩:=hbs i ([.inl p.1.1,.inl p.1.2],.int p.2) (by rw [List.getElem?_map,hp];rfl)
    exact ⟨b,eb,s2.seeT hb⟩
   have s3:Sl c δ1 ((kvs.map fun p=>pairD p.1) ++ S) σ (bs.map V.ref ++ T) H2:=s2.stk (hrs.append s2.st.tail)
   have hlk:=mG e2
   refine ⟨ks,fun i H'=>∃ δi,Sl c δi ((kvs.map fun p=>pairD p.1) ++ S) σ (bs.map V.ref ++ T) H' ∧ g_ fk (kvs.drop i) δi=some (ks.drop i,δ2),by simpa using hlk,⟨δ1,s3,e2⟩,fun i kk b H' hb hkk ⟨δi,si,ei⟩=>?_,fun H' l ⟨δn,sn,en⟩ hl=>?_⟩
   ·have hi:i < kvs.length:=by rw [<- hlk];exact (List.getElem?_eq_some_iff.mp hkk).1
    obtain ⟨p,hp⟩:∃ p,kvs[i]? = some p:=⟨kvs[i],List.getElem?_eq_getElem hi⟩
    have ed:kvs.drop i=p :: kvs.drop (i + 1):= by
     rw [List.drop_eq_getElem_cons hi]
     have:=List.getElem?_eq_getElem hi
     rw [hp] at this;cases this;rfl
    rw [ed] at ei
    obtain ⟨k1,δ3,ks1,f1,f2,f3⟩:=ka ei
    have ek:ks.drop i=kk :: ks.drop (i + 1):= by
     have hi':=(List.getElem?_eq_some_iff.mp hkk).1
     rw [List.drop_eq_getElem_cons hi']
     have:=List.getElem?_eq_getElem hi'
     rw [hkk] at this;cases this;rfl
    rw [ek] at f3
    cases f3
    have hrs':=si.st.left (by simp [hbl])
    obtain ⟨v',ev,rv⟩:=hrs'.get (show (kvs.map fun p=>pairD p.1)[i]? = some (pairD p.1) by rw [List.getElem?_map,hp];rfl)
    rw [List.getElem?_map,hb] at ev
    cases ev
    have s4:Sl c (δi ++ [.pu (pairD p.1)]) ((kvs.map fun p=>pairD p.1) ++ S) (σ ++ [some (.ref b)]) (bs.map V.ref ++ T) H':=(si.stk (.cons rv si.st)).snoc
    refine ⟨c,_,_,_,.int kk,δ3,s4,f1,fun y H'' s5=>⟨s5.st.head.int,δ3.take δi.length,?_,f2⟩⟩
    have s6:=s5.pop.cut δi.length
    rw [si.len,List.take_left'] at s6
    ·rw [si.len];exact s6
    ·rfl
   ·rw [List.length_map,List.drop_of_length_le (Nat.le_refl _),List.drop_of_length_le (by omega)] at en
    cases en
    have hf:=sn.fresh hl
    have hrs':=sn.st.left (by simp [hbl])
    have hpk:=yE hrs' ks
    have s7:=sn.stk (hpk.append (sn.st.right (by simp [hbl])))
    exact q l _ _ hpk.length (s7.hide hl) hf.1 hf.2.1 hf.2.2
  ·cases e
 | _=>cases e
end
end Jt
namespace Jt
open PySem L2 PyProof.Rows
def AB:List D->Option (List D)
 | [.dip kvs]=>if kvs.length ≤ 1000 then some (kvs.map fun p=>pairD p.1) else none
 | _=>none
section
variable {X:Cx} {a:Expr} {fs:M (List D)} {p pos:Pos}
theorem pH (hc:X.calm=true):dR X (.type "list") (fun xs H Q=>∃ d kvs,xs=[.ref d]∧Rd H d (.dT kvs)∧kvs.length ≤ sizeLine∧∀ (bs:List Addr) (l:Addr),bs.length=kvs.length->(∀ (i:Nat) (p:List Key × V),kvs[i]? = some p->∃ b,bs[i]? = some b∧H b=some (.tup (p.1.map kV)))->H l=none->Q (.ref l) (upd H l (.lst (bs.map V.ref)))):= by
 intro pins s σ H xs us Q I r h
 obtain ⟨d,kvs,rfl,hd,hz,q⟩:=h
 obtain ⟨u,rfl,ru⟩:=r.one
 cases ru
 obtain ⟨lo,o,es,h1,h2,h3,h4,h5⟩:=ko I.hok hd
 obtain ⟨bs,hbl,hbk,hbs⟩:=me h4 h5
 refine PySem.W.kdl_call (so lo es) (I.ok.hd hc) ⟨o,h1,h2,h3⟩ (by rw [h4];exact hz) fun h' tk acc c kp hS hacc=>?_
 have ea:=(rR hacc).trans hbk
 have e2:acc=(bs.map Value.ref).toArray:=by rw [<- ea,Array.toArray_toList]
 have hn:=I.hok.fresh (Nat.le_refl s.heap.objs.size)
 refine ⟨.ref s.heap.objs.size,_,I.laid (t':=tk) (o:=.lst (bs.map V.ref)) kp (Nat.le_refl _) ⟨by rw [List.length_map,hbl];exact hz,bs.map Value.ref,c,?_,by rw [<- e2];exact hS⟩,rfl,q bs _ hbl hbs hn⟩
 have base:∀ l:List Addr,Vals (l.map V.ref) (l.map Value.ref):=fun l=>by
  induction l with
  | nil=>exact .nil
  | cons b r ih=>exact .cons rfl ih
 exact base bs
theorem tL (hm:X.mg "list" = none) (ha:DA X [a] fs) (hc:X.calm=true:=by rfl) (hg:Gl X "list":=by rfl) (he:starEach [a] X.env=[(false,eval a X.env)]:=by rfl):DF X (.Call (.Name "list" p) [a] [] pos) (mC AB fs) :=
 b4 (fC (pH hc) hg hm (by decide +kernel) ha (by decide) (by decide) he rfl) fun σ H Q ⟨c,δ,S,T,xs,δ',s,e,k⟩=>by
  obtain ⟨ds,δ1,e1,e⟩:=bind_some e
  obtain ⟨e2,rfl⟩:=ax e
  refine ⟨c,δ,S,T,ds,δ1,s,e1,fun vs H1 l s1=>?_⟩
  unfold AB at e2
  split at e2
  ·rename_i kvs
   split at e2
   ·rename_i hz
    cases e2
    obtain ⟨v,r,rfl,rv,rn⟩:=(s1.st.left l).inv
    obtain rfl:=rn.inv0
    obtain ⟨d,rfl,h1⟩:=rv.dip
    refine ⟨d,_,rfl,.inl (aK _ _ h1),by rw [List.length_map,sizeLine_eq];omega,fun bs q hbl hbs hq=>?_⟩
    rw [List.length_map] at hbl
    obtain ⟨f1,f2,f3⟩:=s1.fresh hq
    have hrs:Rs (eD c δ1 σ H1) (kvs.map fun p=>pairD p.1) (bs.map V.ref):=kj hbl fun i p hp=>by
     obtain ⟨b,eb,hb⟩:=hbs i ([.inl p.1.1,.inl p.1.2],.int p.2) (by rw [List.getElem?_map,hp];rfl)
     exact ⟨b,eb,s1.seeT hb⟩
    exact k q _ _ hrs.length ((s1.stk (hrs.append (s1.st.right l))).hide hq) f1 f2 f3
   ·cases e2
  ·cases e2
end
section
variable {X:Cx} {x:Str} {p pos:Pos}
def vT (T:Ty) (i:Nat):M D:=do
 let xs <- aO i
 let k <- lift (oj T (.lst xs))
 pure (.bl k)
theorem yu (T:Ty) (i:Nat) {y:Str} {py px:Pos} (hmi:X.mg "isinstance" = none) (hmy:X.mg y=none) (hv:bootBuiltins y=some (.type T.name):=by decide +kernel) (hgi:Gl X "isinstance":=by rfl) (hgy:Gl X y:=by rfl) (hn:y ≠ "__name__":=by decide) (hd:(y == ("__debug__":Str))=false:=by decide)
  (hN:X.N[i]? = some x:=by rfl) (hvx:pk X.env.scope x:=by first | exact Or.inl rfl | exact Or.inr (Or.inl rfl) | exact Or.inr (Or.inr rfl)) (hdx:(x == ("__debug__":Str))=false:=by decide) (hcd:(x == ("__classdict__":Str))=false:=by decide) :
  DE X (.Call (.Name "isinstance" p) [.Name x px,.Name y py] [] pos) (vT T i) :=
 b4 (gB o9 hgi hmi (by decide +kernel) (cx (dk hN hvx hdx hcd) (cx (AZ T hgy hmy hv hn hd) eY)) (by decide) (by decide) rfl rfl) fun σ H Q ⟨c,δ,S,TT,d,δ',s,e,k⟩=>by
  obtain ⟨xs,δ1,e1,e⟩:=bind_some e
  obtain ⟨b,δ2,e2,e⟩:=bind_some e
  obtain ⟨e3,rfl⟩:=ax e2
  obtain ⟨rfl,rfl⟩:=ai e
  obtain ⟨⟨b0,hi⟩,rfl⟩:=aZ e1
  obtain ⟨q,vs,ev,hq,hx⟩:=s.own hi
  exact ⟨_,ev,H,.lst xs,.ref q,T,b,rfl,fun _ _ h=>h,.mkL (.inl hq) (hx.mono aK),e3,k _ _ (s.stk (.cons .mkB s.st))⟩
end
section
variable {P:Program} {w:World} {K:PySem.W.Frag} {mg:Str->Option Value} {base:Heap} {k:Nat} {N ps:List Str} {st:Stmt} {body:M Fl} {c PT:Addr}
theorem Gw {x qual:Str} {f:Addr} {fd:FuncData} (F:yj K x qual st f fd) (S:az N ps (ak st)) {cdv:Value} (hc:fd.code=cdv)
  (hb:∀ (A:Around) (outer:List Env) (s:Shared) (H:Hp) (E:XK),bU k (A.deeper (PyProof.Rows.envOfC qual (ak st) s.heap.objs.size f cdv))->og (gZ cV P w K mg base N qual (ak st) f cdv A outer s H E).nox (bG st) body) :
  c9 P w K mg base cV (k + 1) f fd ps (jX ps.length (aU N body)):= by
 obtain ⟨oc,od,kV,doc,pm,an,cd,ct,osl,rfl,lk,hcd⟩:=F.ex
 have hc':cd=cdv:=hc
 subst hc'
 refine AV lk hcd S (fun vs H Q E h=>h.1) fun A outer s H vs Q E hr h=>?_
 refine ⟨_,(hb A outer s H E hr).nox,?_⟩
 obtain ⟨hl,Z,ds,d,hZ,r,e,q⟩:=h
 have hpl:ps.length ≤ N.length:=by have:=congrArg List.length S.pre;rw [List.length_take] at this;omega
 have s0:=kC (N:=N) hZ r (by rw [hl];exact hpl)
 have fin:∀ {δ':DS} {σ':L2.St} {v:V} {H':Hp},Sl ⟨Z,[],H⟩ δ' [d] σ' [v] H' -> Q v H':=fun {δ' σ' v H'} s'=>
  q v H' (fun b o hb=>s'.keep b o (by simp) hb) (s'.st.head.mono (aV (fun a o _ z=>.inl z) fun _ _ _ h=>h))
 unfold aU at e
 split at e
 ·rename_i d' δ' eb
  cases e
  exact ⟨_,_,_,_,_,_,s0,eb,fun v σ' H' s'=>fin s'⟩
 ·rename_i δ' eb
  cases e
  exact ⟨_,_,_,_,_,_,s0,eb,fun σ' H' s'=>fin (v:=.non) (s'.stk (.cons .mkN .nil))⟩
 ·cases e
structure B8 (K:PySem.W.Frag) (mg:Str->Option Value) (c PT:Addr):Prop extends LamK K mg c PT where
 cod:∀ f fd,mg cF=some (.ref f)->(∃ oc od osl,K.lookup f=some ⟨oc,od,.func fd,osl⟩)->fd.code=.ref c
theorem Gy (L:B8 K mg c PT) (E:Ent K mg cF ps st) (S:az N ps (ak st))
  (hb:∀ (f:Addr) (A:Around) (outer:List Env) (s:Shared) (H:Hp) (E:XK),bU k (A.deeper (PyProof.Rows.envOfC cF (ak st) s.heap.objs.size f (.ref c)))->og (gZ cV P w K mg base N cF (ak st) f (.ref c) A outer s H E).nox (bG st) body) :
  Kn P w K mg base cV (k + 1) cF ps (jX ps.length (aU N body)):= by
 obtain ⟨⟨f,fd,F,m,b⟩⟩:=E
 have hc:fd.code=.ref c:= by
  obtain ⟨oc,od,kV,doc,pm,an,cd,ct,osl,e,lk,hcd⟩:=F.ex
  exact L.cod f fd m ⟨oc,od,osl,lk⟩
 exact ⟨⟨f,fd,Gw F S hc (hb f),m,F.kp,b⟩⟩
def CT (vs:Array Value):Addr:=match (vs[11]?:Option Value) with
 | some (.ref P)=>P
 | _=>0
def codeOk (vs:Array Value) (c bm:Addr):Bool :=
 (match (vs[11]?:Option Value) with | some (.ref _)=>true | _=>false) && (match vs.getD 18 .none with | .str _ _=>true | _=>false) && (match vs.getD 7 .none with | .int _ _=>true | _=>false) &&
 (match vs.getD 9 .none with | .bool _=>true | _=>false) && (match vs.getD 10 .none with | .int _ _=>true | _=>false) && decide (c ≠ CT vs) && decide (bm ≠ builtinsNs) && decide (bm ≠ mainGlobals) && decide (bm ≠ CT vs) && decide (mainGlobals ≠ CT vs)
theorem zP {h:Heap} (X:K.In h) (G:h.Ns mainGlobals mg) {f c bm:Addr} {oc:Value} {od od2:Option Addr} {fd:FuncData} {sl sl2 sl3:Array (Option Value)} {vs:Array Value}
  (a:PySem.W.nsIn K mainGlobals cF=some (some (.ref f))) (l:K.lookup f=some ⟨oc,od,.func fd,sl⟩) (hc:fd.code=.ref c) (lc:K.lookup c=some ⟨.type "code",od2,.fields vs,sl2⟩)
  (b:PySem.W.nsIn K mainGlobals "__builtins__" = some (some (.ref bm))) (lb:K.lookup bm=some ⟨.type "module",some builtinsNs,.plain,sl3⟩) (hv:codeOk vs c bm=true):B8 K mg c (CT vs):= by
 unfold codeOk at hv
 simp only [Bool.and_eq_true,decide_eq_true_eq] at hv
 obtain ⟨⟨⟨⟨⟨⟨⟨⟨⟨v1,v2⟩,v3⟩,v4⟩,v5⟩,v6⟩,v7⟩,v8⟩,v9⟩,v10⟩:=hv
 have e11:(vs[11]?:Option Value)=some (.ref (CT vs)):= by
  unfold CT
  cases q:(vs[11]?:Option Value) with
  | none=>rw [q] at v1;cases v1
  | some u=>
   rw [q] at v1
   cases u <;> first | rfl | cases v1
 have tab:PySem.W.tabIn K cF=some (c,CT vs):= by
  unfold PySem.W.tabIn
  rw [a]
  dsimp only
  rw [l]
  dsimp only
  rw [hc]
  dsimp only
  rw [lc]
  dsimp only
  rw [e11]
 have st:∀ {u:Value},(match u with | .str _ _=>true | _=>false)=true->∃ a b,u=.str a b:=fun {u} h=>by cases u <;> first | exact ⟨_,_,rfl⟩ | cases h
 have it:∀ {u:Value},(match u with | .int _ _=>true | _=>false)=true->∃ a b,u=.int a b:=fun {u} h=>by cases u <;> first | exact ⟨_,_,rfl⟩ | cases h
 have bt:∀ {u:Value},(match u with | .bool _=>true | _=>false)=true->∃ a,u=.bool a:=fun {u} h=>by cases u <;> first | exact ⟨_,rfl⟩ | cases h
 obtain ⟨s1,s2,e18⟩:=st v2
 obtain ⟨i1,i2,e7⟩:=it v3
 obtain ⟨b1,e9⟩:=bt v4
 obtain ⟨j1,j2,e10⟩:=it v5
 refine ⟨⟨tab,fun h' X'=>⟨_,vs,s1,s2,i1,i2,b1,j1,j2,X' _ _ lc,rfl,rfl,e11,?_,e18,e7,e9,e10,v6⟩,fun h' X'=>⟨bm,_,PySem.W.mg_of X G b,v7,v8,v9,X' _ _ lb,rfl,rfl,rfl⟩,v10⟩,fun f' fd' hm ⟨oc',od',osl',lk⟩=>?_⟩
 ·rw [Array.getD_eq_getD_getElem?,e11];rfl
 ·have e:=PySem.W.mg_of X G a
  rw [hm] at e
  cases e
  rw [l] at lk
  cases lk
  exact hc
end
theorem tX {P:Program} {w:World} {K:PySem.W.Frag} {mg mb:Str->Option Value} {k:Nat} {fa a:Addr} {fd:FuncData} {x:Str} {sp:Sp} {s₁:Shared} {vs:List Value} {ns:List Int} {c PT:Addr}
  (KX:K.In s₁.heap) (hns:s₁.heap.Ns mainGlobals mg) (hb:s₁.heap.Ns builtinsNs mb) (hbb:∀ x:Str,x ≠ "__name__" -> mb x=bootBuiltins x) (hlim:s₁.heap.NoLimit) (hg:s₁.gens = #[])
  (ha:s₁.heap.get? a=some { cls:=.type "list",data:=.seq vs.toArray }) (hi:IntsAre vs ns) (hl:ns.length ≤ sizeLine) (hr:bU k callerA) (hKa:K.lookup a=none)
  (htab:PySem.W.tabIn K cF=some (c,PT)) (hPT:s₁.heap.get? PT=some (PySem.W.tabObj #[])) (hCd:PySem.W.CodeHd s₁.heap c PT) (hKP:K.lookup PT=none)
  (F:∀ base:Heap,K.In base->base.Ns mainGlobals mg->c9 P w K mg base cV k fa fd [x] sp) (hbind:∀ (s:Shared) (u:Value),BindsTo s fd ⟨[u],[]⟩ [(x,u)])
  (hsp:∀ H:Hp,Rd H a (.lst (ns.map V.int))->sp [.ref a] H (fun v _=>v=.bl true) fun _ _ _=>False) :
  codeAny (model P w) callerA (.call (.ref fa) ⟨[.ref a],[]⟩) (fun r s'=>r=.ok (.ret (.bool true))∧OldK s₁.heap s'.heap∧s'.os=s₁.os∧AllBare s'.gens) s₁:= by
 have rv:=fB hi
 have hne:PT ≠ a:=fun z=>by rw [z,ha] at hPT;cases hPT
 let H:Hp:=fun b=>if b=a then some (.frz { cls:=.type "list",data:=.seq vs.toArray } (.lst (ns.map V.int))) else if b=PT then some (.tbl #[.str bw 0]) else none
 have Ha:H a=some (.frz { cls:=.type "list",data:=.seq vs.toArray } (.lst (ns.map V.int))):=if_pos rfl
 have HP:H PT=some (.tbl #[.str bw 0]):=(if_neg hne).trans (if_pos rfl)
 have Hn:∀ b,b ≠ a->b ≠ PT->H b=none:=fun b h1 h2=>(if_neg h1).trans (if_neg h2)
 have Hc:∀ b,H b=none ∨ b=a ∨ b=PT:=fun b=>by
  by_cases h1:b=a
  ·exact .inr (.inl h1)
  ·by_cases h2:b=PT
   ·exact .inr (.inr h2)
   ·exact .inl (Hn b h1 h2)
 have hok:g8 P w H s₁.heap:=fun b o e=>by
  by_cases h1:b=a
  ·subst h1;rw [Ha] at e;cases e
   exact ⟨ha,by rw [List.length_map];exact hl,vs,_,rv,ha⟩
  ·by_cases h2:b=PT
   ·subst h2;rw [HP] at e;cases e
    exact ⟨#[],hPT,trivial,fun q t0 pos cv _ h=>by cases h⟩
   ·rw [Hn b h1 h2] at e;cases e
 have base_of:∀ {b:Addr} {o:Obj},s₁.heap.get? b=some o->b ≠ a->b ≠ PT->(iZ s₁.heap H).get? b=some o:=fun e h1 h2=>oD e (Hn _ h1 h2)
 have nsK:∀ {b:Addr} {m:Str->Option Value},s₁.heap.Ns b m->(iZ s₁.heap H).Ns b m:=fun {b m} ⟨o,es,ep,e,d,r⟩=>⟨o,es,ep,base_of e (fun z=>by rw [z,ha] at e;cases e;cases d) (fun z=>by rw [z,hPT] at e;cases e;cases d),d,r⟩
 have hKb:K.In (iZ s₁.heap H):=fun b o e=>base_of (KX b o e) (fun z=>by rw [z,hKa] at e;cases e) fun z=>by rw [z,hKP] at e;cases e
 have hM:Mod K mg (iZ s₁.heap H):=⟨hKb,nsK hns,⟨mb,nsK hb,hbb⟩,let ⟨mc,h1,h2⟩:=hlim;⟨mc,nsK h1,h2⟩⟩
 have e0:vE P w K mg (iZ s₁.heap H) callerA [] s₁ H:=⟨rfl,hM,fun b o e=>sQ e,Nat.le_of_eq (lH _ _),trivial,fun b hb=>absurd (show b ∈ ([]:List Addr) from hb) (by simp),hok,.of_eq hg,fun c' P' e=>by
  rw [htab] at e;cases e
  exact ⟨_,0,HP,rfl⟩⟩
 refine codeAny_mono ((F _ hKb (nsK hns)).run callerA [] s₁ H ⟨[.ref a],[]⟩ [.ref a] [.ref a] _ _ hr e0 (hbind s₁ (.ref a)) (.cons rfl .nil) (hsp H (.inr ⟨_,Ha⟩))) fun r s' h=>?_
 cases r with
 | error e=>exact False.elim h
 | ok fl=>
  cases fl with
  | next=>exact False.elim h
  | brk=>exact False.elim h
  | cont=>exact False.elim h
  | ret u=>
   obtain ⟨v,H',os,bare,un,hok',r',q⟩:=h
   have q':v=.bl true:=q
   subst q'
   obtain rfl:u=Value.bool true:=r'
   have cas:∀ b o,s₁.heap.get? b=some o->s'.heap.get? b=some o ∨ (b=PT∧o=PySem.W.tabObj #[]∧∃ ps,s'.heap.get? b=some (PySem.W.tabObj ps)):=fun b o e=>by
    rcases Hc b with z | z | z
    ·exact .inl (un.keep b o e z (by intro z;exact absurd (show b ∈ ([]:List Addr) from z) (by simp)) (by simp))
    ·subst z
     obtain ⟨e2,_⟩:=hok' b _ (un.frzs b _ _ Ha)
     rw [ha] at e;cases e
     exact .inl e2
    ·subst z
     obtain ⟨more,e2⟩:=un.tbls b _ HP
     obtain ⟨ps,e3,_⟩:=(show bK P w H' s'.heap b (.tbl _) from hok' b _ e2)
     rw [hPT] at e;cases e
     exact .inr ⟨rfl,rfl,ps,e3⟩
   refine ⟨rfl,⟨fun b o e=>?_,fun b o e=>?_⟩,os,bare⟩
   ·rcases cas b o e with z | ⟨rfl,rfl,ps,z⟩
    ·exact .inl z
    ·exact .inr (.inl ⟨(hCd.tab hPT).isCodeTable,rfl,#[],ps,rfl,by rw [Array.empty_append];exact z⟩)
   ·rcases cas b o e with z | ⟨rfl,rfl,ps,z⟩
    ·exact ⟨o,z⟩
    ·exact ⟨_,z⟩
end Jt
namespace Jt
open PySem PySem.W PySem.Calls PyProof.Rows L2
theorem mM {K:PySem.W.Frag} (h:x6 K=true) {a:Addr} {vs:Array Value} {hh:Heap} (X:K.In hh) (e:hh.get? a=some { cls:=.type "list",data:=.seq vs }):K.lookup a=none:= by
 cases q:K.lookup a with
 | none=>rfl
 | some o=>
  exfalso
  have:=X a o q
  rw [e] at this
  cases this
  have h2:=List.all_eq_true.mp h _ (mem_of_lookupK q)
  exact absurd h2 (by simp)
theorem lj {K:PySem.W.Frag} (h:noTabs K=true) {a:Addr} {hh:Heap} (X:K.In hh) (e:hh.get? a=some (tabObj #[])):K.lookup a=none:= by
 cases q:K.lookup a with
 | none=>rfl
 | some o=>
  exfalso
  have:=X a o q
  rw [e] at this
  cases this
  have h2:=List.all_eq_true.mp h _ (mem_of_lookupK q)
  exact absurd h2 (by simp)
end Jt
namespace Jt
open PySem PySem.W PySem.Calls PyProof.Rows L2
structure A9 (K K':PySem.W.Frag):Prop where
 lk:∀ {a:Addr} {o:Obj},K.lookup a=some o->K'.lookup a=some o
section
variable {K K':PySem.W.Frag}
theorem A9.ns (U:A9 K K') {n:Addr} {x:Str} {y:Option Value} (e:nsIn K n x=some y):nsIn K' n x=some y:= by
 unfold nsIn at e ⊢
 cases q:K.lookup n with
 | none=>rw [q] at e;cases e
 | some o=>rw [q] at e;rw [U.lk q];exact e
theorem A9.code (U:A9 K K') {cd:Value} {x:Str} (e:codeIn K cd x=true):codeIn K' cd x=true:= by
 unfold codeIn at e ⊢
 cases cd with
 | ref c=>
  dsimp only at e ⊢
  cases q:K.lookup c with
  | none=>rw [q] at e;cases e
  | some o=>rw [q] at e;rw [U.lk q];exact e
 | _=>cases e
theorem A9.fh (U:A9 K K') {x:Str} {st:Stmt} (h:Fh K x st):Fh K' x st:= by
 obtain ⟨⟨f,oc,od,kV,dc,pm,an,cd,ct,sl,a,l,c,k⟩⟩:=h
 refine fh_mk (U.ns a) (U.lk l) (U.code c) ?_
 unfold keepIn
 dsimp only
 rw [U.lk l]
theorem bm_eq {h:Heap} {mg:Str->Option Value} {bm b:Addr} {o:Obj} (X:K.In h) (G:h.Ns mainGlobals mg) (hbm:mg "__builtins__" = some (.ref bm)) (hlk:K.lookup bm=some o) (lb:nsIn K mainGlobals "__builtins__" = some (some (.ref b))):K.lookup b=some o:= by
 have:=mg_of X G lb
 rw [hbm] at this
 cases this
 exact hlk
end
theorem walkM {l:PySem.W.OpenLaw} {q:Program} {loose:List Str} {XP:(Str->Option Value)->Heap->Prop} {YP:World->Heap->Prop} {d:DefRec} {K:Params->PySem.W.Frag} {k:Nat} (hn:l.most=some 63) (hdf:d.params.defaults=[]) (hr:bU k callerA)
  (hY:∀ (w:World) (h:Heap),YP w h->(K w.params).In h) (hL:∀ w:World,x6 (K w.params)=true) (hN:∀ w:World,noTabs (K w.params)=true) (hq:((recsOf q).find? fun e=>e.name == cF).isSome=true)
  (F:∀ (w:World) (mg:Str->Option Value) (fa:Addr) (h:Heap) (K':PySem.W.Frag) (bm:Addr) (sl:Array (Option Value)),A9 (K w.params) K' -> K'.In h->h.Ns mainGlobals mg->mg d.name=some (.ref fa)->mg "__builtins__" = some (.ref bm)->K'.lookup bm=some ⟨.type "module",some builtinsNs,.plain,sl⟩ ->
   (∃ c PT,tabIn K' cF=some (c,PT))∧∃ fd:FuncData,(∀ (s:Shared) (u:Value),BindsTo s fd ⟨[u],[]⟩ [("_law_script",u)])∧∀ base:Heap,K'.In base->base.Ns mainGlobals mg->c9 l.prog w K' mg base cV k fa fd ["_law_script"] qG) :
  PySem.W.WalkO q loose XP YP l.row.toRowW d [] (fun f vs=>PySem.call f vs):= by
 intro w s₀ s₁ mg mb G Y fa o pm cd doc dV kV ho hd hcd hD hmg hg args vals as hpre hlay hrd hwl hlo
 obtain rfl:dV=.none:=Dflts.none hD hdf
 obtain rfl:kV=.none:=Dflts.noKw hD
 obtain ⟨a,vs,ns,rfl,rfl,hobj,hints,hlen⟩:=Att.script_of hn hpre hwl
 have KX:=hY w _ Y
 obtain ⟨bm,ob,hb1,_,hb3,hb4,hb5,hb6⟩:=G.T.bmain
 obtain ⟨oc,od,odt,osl⟩:=ob
 dsimp only at hb4 hb5 hb6
 subst hb4;subst hb5;subst hb6
 have U:A9 (K w.params) (K w.params ++ [(bm,⟨.type "module",some builtinsNs,.plain,osl⟩)]):=⟨fun {a o} e=>by rw [List.lookup_append,e];rfl⟩
 have one:∀ {a:Addr},a ≠ bm->(K w.params).lookup a=none->(K w.params ++ [(bm,(⟨.type "module",some builtinsNs,.plain,osl⟩:Obj))]).lookup a=none:=fun {a} h1 h2=>by
  rw [List.lookup_append,h2]
  show ([(bm,_)]:List (Addr × Obj)).lookup a=none
  unfold List.lookup
  rw [beq_eq_false_iff_ne.mpr h1]
  rfl
 have two:∀ {a:Addr} {o:Obj},(K w.params ++ [(bm,(⟨.type "module",some builtinsNs,.plain,osl⟩:Obj))]).lookup a=some o->(K w.params).lookup a=some o ∨ (a=bm∧o=⟨.type "module",some builtinsNs,.plain,osl⟩):=fun {a o} e=>by
  rw [List.lookup_append] at e
  cases q:(K w.params).lookup a with
  | some o2=>rw [q] at e;exact .inl e
  | none=>
   rw [q] at e
   have e:([(bm,(⟨.type "module",some builtinsNs,.plain,osl⟩:Obj))]:List (Addr × Obj)).lookup a=some o:=e
   by_cases h:a=bm
   ·subst h
    rw [List.lookup_cons_self] at e
    cases e
    exact .inr ⟨rfl,rfl⟩
   ·unfold List.lookup at e
    rw [beq_eq_false_iff_ne.mpr h] at e
    cases e
 have KX2:(K w.params ++ [(bm,(⟨.type "module",some builtinsNs,.plain,osl⟩:Obj))]).In s₁.heap:=fun a o e=>by
  rcases two e with e | ⟨rfl,rfl⟩
  ·exact KX a o e
  ·exact hb3
 have hlk:(K w.params ++ [(bm,(⟨.type "module",some builtinsNs,.plain,osl⟩:Obj))]).lookup bm=some ⟨.type "module",some builtinsNs,.plain,osl⟩:= by
  rw [List.lookup_append]
  cases q:(K w.params).lookup bm with
  | some o2=>
   have:=KX _ _ q
   rw [hb3] at this
   cases this
   rfl
  | none=>
   show ([(bm,_)]:List (Addr × Obj)).lookup bm=_
   rw [List.lookup_cons_self]
 obtain ⟨⟨c,PT,htab⟩,fd,hb,hF⟩:=F w mg fa _ _ bm osl U KX2 G.T.g hmg hb1 hlk
 obtain ⟨dr,hdr⟩:=Option.isSome_iff_exists.mp hq
 obtain ⟨hCd,hPT⟩:=tab_of G.T KX2 hdr htab
 have bits:=vG hlay
 refine enter_call (codeAny_mono (tX KX2 G.T.g G.T.b G.T.builtins G.T.nolimit hg hobj hints (Nat.le_trans hlen (by decide)) hr (one (fun z=>by rw [z,hb3] at hobj;have q:=congrArg Obj.data (Option.some.inj hobj);cases q) (mM (hL w) KX hobj)) htab hPT hCd (one (fun z=>by rw [z,hb3] at hPT;cases hPT) (lj (hN w) KX hPT)) hF hb (fun H hS=>⟨a,ns,rfl,hS,hlen,bits,fun _=>rfl⟩)) fun r s' hq=>?_)
 obtain ⟨rfl,h2,h3,h4⟩:=hq
 exact ⟨.inl ⟨.bool true,.bool true,[],rfl,fun _=>rfl,.bool true,Att.post_true l _,fun _=>⟨List.Pairwise.nil,fun _ hm=>(nomatch hm)⟩⟩,h2,h3,h4⟩
end Jt
namespace K22
open PySem L2 Jt
def top (i:Nat):Stmt:=PySem.Challenge.pw_jointrees_k22_join_trees_told.main.body.getD i (.Pass ⟨0,0,0,0⟩)
structure Bi (mg:Str->Option Value):Prop where
 bool:mg "bool" = none
 divmod:mg "divmod" = none
 enumerate:mg "enumerate" = none
 int:mg "int" = none
 isinstance:mg "isinstance" = none
 len:mg "len" = none
 list:mg "list" = none
 max:mg "max" = none
 min:mg "min" = none
 range:mg "range" = none
 sorted:mg "sorted" = none
 sum:mg "sum" = none
 tuple:mg "tuple" = none
section
variable {P:Program} {w:World} {K:PySem.W.Frag} {mg:Str->Option Value} {base:Heap}
abbrev w4:Stmt:=top 5
abbrev tw:List Str:=["thing"]
theorem Cm:az tw ["thing"] (ak w4):=⟨rfl,rfl,rfl,by decide +kernel,rfl,by decide +kernel,by decide +kernel⟩
def pA:M Fl :=
 (do let d <- (uR (qv .int (ag 0)) (wU (qv .bool (ag 0))));pure (Fl.rt d))
variable (P w K mg base) in
abbrev ik (k:Nat):Prop:=Kn P w K mg base cV k "is_whole" ["thing"] (jX 1 (aU tw pA))
theorem B7 {k:Nat} (E:Ent K mg "is_whole" ["thing"] w4) (m:Bi mg):ik P w K mg base (k + 1) :=
 qC E Cm fun _ cdv A outer s H E hr=>
  (ao (a_ (qE (nC .int m.isinstance m.int (ab 0)) (qf (vZ (nC .bool m.isinstance m.bool (ab 0)))))))
abbrev vQ:Stmt:=top 6
abbrev mz:List Str:=["thing","many"]
theorem D4:az mz ["thing","many"] (ak vQ):=⟨rfl,rfl,rfl,by decide +kernel,rfl,by decide +kernel,by decide +kernel⟩
def kN:M Fl :=
 (do let d <- (uR (mC (aA 1 (aU tw pA)) (af (ag 0) (pure []))) (En F5 A7 (pure (.int 0)) (ag 0) (ag 1)));pure (Fl.rt d))
variable (P w K mg base) in
abbrev fX (k:Nat):Prop:=Kn P w K mg base cV k "is_below" ["thing","many"] (jX 2 (aU mz kN))
theorem BL {k:Nat} (E:Ent K mg "is_below" ["thing","many"] vQ) (G_q23:ik P w K mg base k):fX P w K mg base (k + 1) :=
 qC E D4 fun _ cdv A outer s H E hr=>
  (ao (a_ (qE (aR G_q23 hr (aa (ab 0) ae)) (qf (yR au (ab 0) (ab 1))))))
abbrev x9:Stmt:=top 7
abbrev jJ:List Str:=["labels","one","other","least","most"]
theorem qg:az jJ ["labels","one","other"] (ak x9):=⟨rfl,rfl,rfl,by decide +kernel,rfl,by decide +kernel,by decide +kernel⟩
def kD:M Fl :=
 (aE (c_ 3 (mC i9 (af (m2 e_ (ag 0) (ag 1)) (af (m2 e_ (ag 0) (ag 2)) (pure [])))))
  (aE (c_ 4 (mC iR (af (m2 e_ (ag 0) (ag 1)) (af (m2 e_ (ag 0) (ag 2)) (pure [])))))
  (do let d <- (mC cG (af (do let xs <- (bh 5 1 (do let x <- (ag 0);lift (bO x)) (bz (ba 5) (pure true) (ia ((m2 (iC false) (ag 5) (ag 4)) >>= dG) (ag 3) (ag 5))));pure (D.lst xs)) (pure [])));pure (Fl.rt d))))
variable (P w K mg base) in
abbrev gG (k:Nat):Prop:=Kn P w K mg base cV k "linked" ["labels","one","other"] (jX 3 (aU jJ kD))
theorem Cy {k:Nat} (E:Ent K mg "linked" ["labels","one","other"] x9) (m:Bi mg):gG P w K mg base (k + 1) :=
 qC E qg fun _ cdv A outer s H E hr=>
  (ah (aI 3 qg.nd (m4 m.min (aa (bu (ab 0) (ab 1)) (aa (bu (ab 0) (ab 2)) ae))))
  (ah (aI 4 qg.nd (m8 m.max (aa (bu (ab 0) (ab 1)) (aa (bu (ab 0) (ab 2)) ae))))
  (ao (a_ (dH m.tuple (aa (aG (bP (N':=jJ) (own:=["label"]) (lo:=5) (cu (dN (ab 0))) (fun _ _ _ _=>(aw 5 (show (jJ ++ (["label"]:List Str):List Str).Nodup by decide +kernel))) (fun _ _ _ _=>bX) (fun _ _ _ _=>(Ft (sU hr (ab 5) (ab 4)) (ab 3) (ab 5))))) ae))))))
abbrev wC:Stmt:=top 9
abbrev oE:List Str:=["layout","thing"]
theorem D_:az oE ["layout","thing"] (ak wC):=⟨rfl,rfl,rfl,by decide +kernel,rfl,by decide +kernel,by decide +kernel⟩
def lz:M Fl :=
 (ia (pf (do let x <- (mC (aA 2 (aU mz kN)) (af (ag 1) (af (mC bW (af (m2 e_ (ag 0) (pure (.int 1))) (pure []))) (pure []))));lift (iz x))) never (pure .nx))
variable (P w K mg base) in
abbrev gh (k:Nat):Prop:=Kn P w K mg base cV k "need_head" ["layout","thing"] (jX 2 (aU oE lz))
theorem DX {k:Nat} (E:Ent K mg "need_head" ["layout","thing"] wC) (m:Bi mg) (G_q19:fX P w K mg base k):gh P w K mg base (k + 1) :=
 qC E D_ fun _ cdv A outer s H E hr=>
  (ao (cn (j9 (eo (aR G_q19 hr (aa (ab 1) (aa (b_ m.len (aa (bu (ab 0) au) ae)) ae))))) (ao pB) bj))
abbrev xw:Stmt:=top 10
abbrev ku:List Str:=["layout","column","many","heads"]
theorem qe:az ku ["layout","column"] (ak xw):=⟨rfl,rfl,rfl,by decide +kernel,rfl,by decide +kernel,by decide +kernel⟩
def pd:M Fl :=
 (aE (do let d <- (ag 0);(dF 2 (bJ (ba 2) (bJ (ba 3) fK))) d;pure Fl.nx)
  (aE (ia (pf (do let x <- (mC (aA 2 (aU mz kN)) (af (ag 1) (af (ag 2) (pure []))));lift (iz x))) never (pure .nx))
  (do let d <- (mC cG (af (do let xs <- (bh 4 2 (mC gz (af (ag 3) (pure []))) (bz (dF 2 (bJ (ba 4) (bJ (ba 5) fK))) (m2 (l_ false) (ag 1) (ag 5) >>= dG) (ag 4)));pure (D.lst xs)) (pure [])));pure (Fl.rt d))))
variable (P w K mg base) in
abbrev il (k:Nat):Prop:=Kn P w K mg base cV k "heads_of" ["layout","column"] (jX 2 (aU ku pd))
theorem CQ {k:Nat} (E:Ent K mg "heads_of" ["layout","column"] xw) (m:Bi mg) (G_q19:fX P w K mg base k):il P w K mg base (k + 1) :=
 qC E qe fun _ cdv A outer s H E hr=>
  (ah (x_ (ab 0) (d3 (aY (aw 2 qe.nd) (aY (aw 3 qe.nd) c4))))
  (ah (cn (j9 (eo (aR G_q19 hr (aa (ab 1) (aa (ab 2) ae))))) (ao pB) bj)
  (ao (a_ (dH m.tuple (aa (aG (bP (N':=ku) (own:=["number","head"]) (lo:=4) (cu (m3 m.enumerate (aa (ab 3) ae))) (fun _ _ _ _=>(d3 (aY (aw 4 (show (ku ++ (["number","head"]:List Str):List Str).Nodup by decide +kernel)) (aY (aw 5 (show (ku ++ (["number","head"]:List Str):List Str).Nodup by decide +kernel)) c4)))) (fun _ _ _ _=>dv (mB (ab 1) (ab 5))) (fun _ _ _ _=>(ab 4)))) ae))))))
abbrev vb:Stmt:=top 11
abbrev l5:List Str:=["layout","one","other","heads"]
theorem w_:az l5 ["layout","one","other"] (ak vb):=⟨rfl,rfl,rfl,by decide +kernel,rfl,by decide +kernel,by decide +kernel⟩
def oh:M Fl :=
 (aE (do let _ <- (mC (aA 2 (aU oE lz)) (af (ag 0) (af (ag 1) (pure []))));pure Fl.nx)
  (aE (do let _ <- (mC (aA 2 (aU oE lz)) (af (ag 0) (af (ag 2) (pure []))));pure Fl.nx)
  (aE (c_ 3 (m2 e_ (ag 0) (pure (.int 1))))
  (do let d <- (mC cG (af (do let xs <- (bh 4 1 (do let x <- (m2 e_ (ag 3) (ag 1));lift (bO x)) (bz (ba 4) (m2 (l_ false) (ag 4) (m2 e_ (ag 3) (ag 2)) >>= dG) (ag 4)));pure (D.lst xs)) (pure [])));pure (Fl.rt d)))))
variable (P w K mg base) in
abbrev kh (k:Nat):Prop:=Kn P w K mg base cV k "common" ["layout","one","other"] (jX 3 (aU l5 oh))
theorem BJ {k:Nat} (E:Ent K mg "common" ["layout","one","other"] vb) (m:Bi mg) (G_q17:gh P w K mg base k):kh P w K mg base (k + 1) :=
 qC E w_ fun _ cdv A outer s H E hr=>
  (ah (rN (aR G_q17 hr (aa (ab 0) (aa (ab 1) ae))))
  (ah (rN (aR G_q17 hr (aa (ab 0) (aa (ab 2) ae))))
  (ah (aI 3 w_.nd (bu (ab 0) au))
  (ao (a_ (dH m.tuple (aa (aG (bP (N':=l5) (own:=["column"]) (lo:=4) (cu (dN (bu (ab 3) (ab 1)))) (fun _ _ _ _=>(aw 4 (show (l5 ++ (["column"]:List Str):List Str).Nodup by decide +kernel))) (fun _ _ _ _=>dv (mB (ab 4) (bu (ab 3) (ab 2)))) (fun _ _ _ _=>(ab 4)))) ae)))))))
abbrev CP:Stmt:=top 13
abbrev oM:List Str:=["layout","many"]
theorem Bq:az oM ["layout"] (ak CP):=⟨rfl,rfl,rfl,by decide +kernel,rfl,by decide +kernel,by decide +kernel⟩
def ub:M Fl :=
 (aE (c_ 1 (mC bW (af (m2 e_ (ag 0) (pure (.int 1))) (pure []))))
  (do let d <- (i5 2 2 (mC bT (af (ag 1) (pure []))) (jk (ba 2) (pure true) (oV (mC pq (af (m2 b8 (ag 2) (pure (.int 1))) (af (ag 1) (pure [])))) (jb (ba 3) (pure true) (fU (af (ag 2) (af (ag 3) (pure [])))) (mC bW (af (mC (aA 3 (aU l5 oh)) (af (ag 0) (af (ag 2) (af (ag 3) (pure []))))) (pure [])))))));pure (Fl.rt d)))
variable (P w K mg base) in
abbrev cZ (k:Nat):Prop:=Kn P w K mg base cV k "pair_weights" ["layout"] (jX 1 (aU oM ub))
theorem FE {k:Nat} (E:Ent K mg "pair_weights" ["layout"] CP) (m:Bi mg) (G_q24:kh P w K mg base k):cZ P w K mg base (k + 1) :=
 qC E Bq fun _ cdv A outer s H E hr=>
  (ah (aI 1 Bq.nd (b_ m.len (aa (bu (ab 0) au) ae)))
  (ao (a_ (t_ (N':=oM) (own:=["one","other"]) (lo:=2) hr (cu (aX rfl m.range (aa (ab 1) ae))) (fun _ _ _ _=>(aw 2 (show (oM ++ (["one","other"]:List Str):List Str).Nodup by decide +kernel))) (fun _ _ _ _=>bX) (fun _ _ _ _=>(jq rfl m.range (aa (cf (ab 2) au) (aa (ab 1) ae)))) (fun _ _ _ _=>(aw 3 (show (oM ++ (["one","other"]:List Str):List Str).Nodup by decide +kernel))) (fun _ _ _ _=>bX) (fun _ _ _ _=>(cK (aa (ab 2) (aa (ab 3) ae)))) (fun _ _ _ _=>(b_ m.len (aa (aR G_q24 hr (aa (ab 0) (aa (ab 2) (aa (ab 3) ae)))) ae)))))))
abbrev xE:Stmt:=top 14
abbrev jI:List Str:=["weights","labels","total","one","other"]
theorem jD:az jI ["weights","labels"] (ak xE):=⟨rfl,rfl,rfl,by decide +kernel,rfl,by decide +kernel,by decide +kernel⟩
def jR:M Fl :=
 (aE (c_ 2 (pure (.int 0)))
  (aE (
  do let it <- (do let x <- (do let xs <- (n4 (ag 0) (m1 qD (m2 eB (ag 0) (ag 5))));pure (D.lst xs));lift (bO x));forM (dF 2 (bJ (ba 3) (bJ (ba 4) fK))) (ia ((m2 (iC true) (m2 eB (ag 1) (ag 3)) (m2 eB (ag 1) (ag 4))) >>= dG) (aE (c_ 1 (mC (aA 3 (aU jJ kD)) (af (ag 1) (af (ag 3) (af (ag 4) (pure []))))))
  (c_ 2 (m2 b8 (ag 2) (m2 eB (ag 0) (fU (af (ag 3) (af (ag 4) (pure [])))))))) (pure .nx)) it.2 it.1)
  (do let d <- (ag 2);pure (Fl.rt d))))
variable (P w K mg base) in
abbrev eI (k:Nat):Prop:=Kn P w K mg base cV k "most_more" ["weights","labels"] (jX 2 (aU jI jR))
theorem DY {k:Nat} {c_l P_l:Addr} (LK:B8 K mg c_l P_l) (E:Ent K mg "most_more" ["weights","labels"] xE) (m:Bi mg) (G_q25:gG P w K mg base k):eI P w K mg base (k + 1) :=
 Gy LK E jD fun _ A outer s H E hr=>
  (ah (aI 2 jD.nd au)
  (ah (c6 (dN (aG (oH (N':=jI) (px:="pair") hr LK.toLamK rfl m.sorted (ab 0) (fun _ _ _ _ _ hu=>(CZ (uo hu (ab 0) (ab 5))))))) (d3 (aY (aw 3 jD.nd) (aY (aw 4 jD.nd) c4))) (ao (cn (h9 hr (c5 hr (ab 1) (ab 3)) (c5 hr (ab 1) (ab 4))) (ah (aI 1 jD.nd (aR G_q25 hr (aa (ab 1) (aa (ab 3) (aa (ab 4) ae)))))
  (ao (Ay 2 jD.nd (c5 hr (ab 0) (cK (aa (ab 3) (aa (ab 4) ae))))))) bj)))
  (ao (a_ (ab 2)))))
abbrev u0:Stmt:=top 19
abbrev kZ:List Str:=["layout"]
theorem Cv:az kZ ["layout"] (ak u0):=⟨rfl,rfl,rfl,by decide +kernel,rfl,by decide +kernel,by decide +kernel⟩
def l0:M Fl :=
 (do let d <- (mC qU (af (do let xs <- (bh 1 1 (mC bT (af (m2 e_ (ag 0) (pure (.int 0))) (pure []))) (bz (ba 1) (pure true) (mC iR (af (m2 du (mC bW (af (mC (aA 2 (aU ku pd)) (af (ag 0) (af (ag 1) (pure [])))) (pure []))) (pure (.int 1))) (af (pure (.int 0)) (pure []))))));pure (D.lst xs)) (pure [])));pure (Fl.rt d))
variable (P w K mg base) in
abbrev dU (k:Nat):Prop:=Kn P w K mg base cV k "due_weight" ["layout"] (jX 1 (aU kZ l0))
theorem Cc {k:Nat} (E:Ent K mg "due_weight" ["layout"] u0) (m:Bi mg) (G_q20:il P w K mg base k):dU P w K mg base (k + 1) :=
 qC E Cv fun _ cdv A outer s H E hr=>
  (ao (a_ (xA m.sum (aa (aG (bP (N':=kZ) (own:=["column"]) (lo:=1) (cu (aX rfl m.range (aa (bu (ab 0) au) ae))) (fun _ _ _ _=>(aw 1 (show (kZ ++ (["column"]:List Str):List Str).Nodup by decide +kernel))) (fun _ _ _ _=>bX) (fun _ _ _ _=>(m8 m.max (aa (fT (b_ m.len (aa (aR G_q20 hr (aa (ab 0) (aa (ab 1) ae))) ae)) au) (aa au ae)))))) ae))))
abbrev CY:Stmt:=top 15
abbrev ve:List Str:=["layout","weights","labels","due","taken","one","other","weight","then"]
theorem gu:az ve ["layout"] (ak CY):=⟨rfl,rfl,rfl,by decide +kernel,rfl,by decide +kernel,by decide +kernel⟩
def t7:M Fl :=
 (aE (c_ 1 (mC (aA 1 (aU oM ub)) (af (ag 0) (pure []))))
  (aE (c_ 2 (do let xs <- mC j8 (af (mC bW (af (m2 eB (ag 0) (pure (.int 1))) (pure []))) (pure []));pure (D.tup xs)))
  (aE (c_ 3 (mC (aA 1 (aU kZ l0)) (af (ag 0) (pure []))))
  (aE (ia ((m2 (iC true) (mC (aA 2 (aU jI jR)) (af (ag 1) (af (ag 2) (pure [])))) (ag 3)) >>= dG) (do let d <- (pure .non);pure (Fl.rt d)) (pure .nx))
  (aE (qp 4 (di (pure [])))
  (aE (
  do let it <- (do let x <- (ag 1);lift (qw x));forM (dF 2 (bJ (ba 5) (bJ (ba 6) fK))) (aE (c_ 7 (m2 eB (ag 1) (fU (af (ag 5) (af (ag 6) (pure []))))))
  (ia ((m2 (iC true) (m2 eB (ag 2) (ag 5)) (m2 eB (ag 2) (ag 6))) >>= dG) (aE (c_ 8 (mC (aA 3 (aU jJ kD)) (af (ag 2) (af (ag 5) (af (ag 6) (pure []))))))
  (ia (m2 (b9 false) (m2 b8 (ag 7) (mC (aA 2 (aU jI jR)) (af (ag 1) (af (ag 8) (pure []))))) (ag 3) >>= dG) (aE (eO 4 (af (fU (af (ag 5) (af (ag 6) (pure [])))) (pure [])))
  (aE (c_ 2 (ag 8))
  (c_ 3 (m2 du (ag 3) (ag 7))))) (pure .nx))) (pure .nx))) it.2 it.1)
  (do let d <- (do let xs <- aO 4;pure (D.tup xs));pure (Fl.rt d))))))))
variable (P w K mg base) in
abbrev c8 (k:Nat):Prop:=Kn P w K mg base cV k "first_join_tree" ["layout"] (jX 1 (aU ve t7))
theorem FG {k:Nat} (E:Ent K mg "first_join_tree" ["layout"] CY) (m:Bi mg) (G_q11:dU P w K mg base k) (G_q25:gG P w K mg base k) (G_q15:eI P w K mg base k) (G_q3:cZ P w K mg base k):c8 P w K mg base (k + 1) :=
 qC E gu fun _ cdv A outer s H E hr=>
  (ah (aI 1 gu.nd (aR G_q3 hr (aa (ab 0) ae)))
  (ah (aI 2 gu.nd (mw m.tuple m.range (aa (b_ m.len (aa (c5 hr (ab 0) au) ae)) ae)))
  (ah (aI 3 gu.nd (aR G_q11 hr (aa (ab 0) ae)))
  (ah (cn (h9 hr (aR G_q15 hr (aa (ab 1) (aa (ab 2) ae))) (ab 3)) (ao (a_ u_)) bj)
  (ah (dX 4 gu.nd (bB ae))
  (ah (c6 (Aa (ab 1)) (d3 (aY (aw 5 gu.nd) (aY (aw 6 gu.nd) c4))) (ah (aI 7 gu.nd (c5 hr (ab 1) (cK (aa (ab 5) (aa (ab 6) ae)))))
  (ao (cn (h9 hr (c5 hr (ab 2) (ab 5)) (c5 hr (ab 2) (ab 6))) (ah (aI 8 gu.nd (aR G_q25 hr (aa (ab 2) (aa (ab 5) (aa (ab 6) ae)))))
  (ao (cn (eZ (cf (ab 7) (aR G_q15 hr (aa (ab 1) (aa (ab 8) ae)))) (ab 3)) (ah (ff 4 (aa (cK (aa (ab 5) (aa (ab 6) ae))) ae))
  (ah (aI 2 gu.nd (ab 8))
  (ao (yV 3 gu.nd (ab 7))))) bj))) bj))))
  (ao (a_ (l9 4 m.tuple)))))))))
abbrev wc:Stmt:=top 16
abbrev xT:List Str:=["taken","missing","labels","pairs","found","place","one","other","then"]
theorem je:az xT ["taken","missing","labels","pairs"] (ak wc):=⟨rfl,rfl,rfl,by decide +kernel,rfl,by decide +kernel,by decide +kernel⟩
def sX (rec:List D->Option (List D)):M Fl :=
 (aE (ia (m2 (b9 false) (ag 1) (pure (.int 0)) >>= dG) (do let d <- (di (af (ag 0) (pure [])));pure (Fl.rf d)) (pure .nx))
  (aE (qp 4 (di (pure [])))
  (aE (
  do let it <- (mC gz (af (ag 3) (pure [])));forM (dF 2 (bJ (ba 5) (bJ (dF 2 (bJ (ba 6) (bJ (ba 7) fK))) fK))) (ia ((m2 (iC true) (m2 e_ (ag 2) (ag 6)) (m2 e_ (ag 2) (ag 7))) >>= dG) (aE (c_ 8 (mC (aA 3 (aU jJ kD)) (af (ag 2) (af (ag 6) (af (ag 7) (pure []))))))
  (i3 4 (mC (aA 4 rec) (af (m2 jO (ag 0) (fU (af (fU (af (ag 6) (af (ag 7) (pure [])))) (pure [])))) (af (m2 du (ag 1) (pure (.int 1))) (af (ag 8) (af (Ej (ag 3) ((m2 b8 (ag 5) (pure (.int 1))) >>= Ei) (pure none)) (pure [])))))))) (pure .nx)) it.2 it.1)
  (do let d <- (jH 4);pure (Fl.rf d)))))
def iP:Nat->List D->Option (List D)
 | 0=>fun _=>none
 | n + 1=>eF xT (sX (iP n))
variable (P w K mg base) in
abbrev i6 (k:Nat):Prop:=Kn P w K mg base cV k "trees_from" ["taken","missing","labels","pairs"] (uW 4 (iP 8))
theorem wx {k:Nat} (E:Ent K mg "trees_from" ["taken","missing","labels","pairs"] wc) (m:Bi mg) (G_q25:gG P w K mg base k):∀ n:Nat,Kn P w K mg base cV (k + n) "trees_from" ["taken","missing","labels","pairs"] (uW 4 (iP n))
 | 0=>zJ E
 | n + 1=>by
  have G_q10:=wx (k:=k) E m G_q25 n
  have G_q25:=G_q25.up (Nat.le_add_right k n)
  exact Gi E je fun _ cdv A outer s H E hr=>
  (ah (cn (eZ (ab 1) au) (ao (fY (bB (aa (ab 0) ae)))) bj)
  (ah (dX 4 je.nd (bB ae))
  (ah (c6 (m3 m.enumerate (aa (ab 3) ae)) (d3 (aY (aw 5 je.nd) (aY (d3 (aY (aw 6 je.nd) (aY (aw 7 je.nd) c4))) c4))) (ao (cn (h9 hr (bu (ab 2) (ab 6)) (bu (ab 2) (ab 7))) (ah (aI 8 je.nd (aR G_q25 hr (aa (ab 2) (aa (ab 6) (aa (ab 7) ae)))))
  (ao (lU 4 (fg G_q10 hr (aa (s_ (ab 0) (cK (aa (cK (aa (ab 6) (aa (ab 7) ae))) ae))) (aa (fT (ab 1) au) (aa (ab 8) (aa (kG (ab 3) (nG (cf (ab 5) au)) ng) ae)))))))) bj)))
  (ao (fY (qA 4))))))
abbrev Df:Stmt:=top 17
abbrev k4:List Str:=["layout","weights","labels","due","trees"]
theorem oz:az k4 ["layout"] (ak Df):=⟨rfl,rfl,rfl,by decide +kernel,rfl,by decide +kernel,by decide +kernel⟩
def pE:M Fl :=
 (aE (c_ 1 (mC (aA 1 (aU oM ub)) (af (ag 0) (pure []))))
  (aE (c_ 2 (do let xs <- mC j8 (af (mC bW (af (m2 eB (ag 0) (pure (.int 1))) (pure []))) (pure []));pure (D.tup xs)))
  (aE (c_ 3 (mC (aA 1 (aU kZ l0)) (af (ag 0) (pure []))))
  (aE (ia ((m2 (iC true) (mC (aA 2 (aU jI jR)) (af (ag 1) (af (ag 2) (pure [])))) (ag 3)) >>= dG) (do let d <- (di (pure []));pure (Fl.rf d)) (pure .nx))
  (aE (c_ 4 (do let xs <- (mC (aA 4 (iP 8)) (af (fU (pure [])) (af (m2 du (mC bW (af (ag 2) (pure []))) (pure (.int 1))) (af (ag 2) (af (do let xs <- (mC AB (af (ag 1) (pure [])));pure (D.lst xs)) (pure []))))));pure (D.lst xs)))
  (do let d <- (bh 5 1 (do let x <- (ag 4);lift (bO x)) (bz (ba 5) (m2 (b9 false) (mC qU (af (do let xs <- (bh 6 1 (do let x <- (ag 5);lift (bO x)) (bz (ba 6) (pure true) (m2 eB (ag 1) (ag 6))));pure (D.lst xs)) (pure []))) (ag 3) >>= dG) (ag 5)));pure (Fl.rf d)))))))
variable (P w K mg base) in
abbrev cz (k:Nat):Prop:=Kn P w K mg base cV k "all_join_trees" ["layout"] (uW 1 (eF k4 pE))
theorem EI {k:Nat} (E:Ent K mg "all_join_trees" ["layout"] Df) (m:Bi mg) (G_q11:dU P w K mg base k) (G_q15:eI P w K mg base k) (G_q3:cZ P w K mg base k) (G_q10:i6 P w K mg base k):cz P w K mg base (k + 1) :=
 Gi E oz fun _ cdv A outer s H E hr=>
  (ah (aI 1 oz.nd (aR G_q3 hr (aa (ab 0) ae)))
  (ah (aI 2 oz.nd (mw m.tuple m.range (aa (b_ m.len (aa (c5 hr (ab 0) au) ae)) ae)))
  (ah (aI 3 oz.nd (aR G_q11 hr (aa (ab 0) ae)))
  (ah (cn (h9 hr (aR G_q15 hr (aa (ab 1) (aa (ab 2) ae))) (ab 3)) (ao (fY (bB ae))) bj)
  (ah (aI 4 oz.nd (aG (fg G_q10 hr (aa (cK ae) (aa (fT (b_ m.len (aa (ab 2) ae)) au) (aa (ab 2) (aa (aG (tL m.list (aa (ab 1) ae))) ae)))))))
  (ao (fY (bP (N':=k4) (own:=["tree"]) (lo:=5) (cu (dN (ab 4))) (fun _ _ _ _=>(aw 5 (show (k4 ++ (["tree"]:List Str):List Str).Nodup by decide +kernel))) (fun _ _ _ _=>dv (eZ (xA m.sum (aa (aG (bP (N':=(k4 ++ (["tree"]:List Str))) (own:=["pair"]) (lo:=6) (cu (dN (ab 5))) (fun _ _ _ _=>(aw 6 (show ((k4 ++ (["tree"]:List Str)) ++ (["pair"]:List Str):List Str).Nodup by decide +kernel))) (fun _ _ _ _=>bX) (fun _ _ _ _=>(c5 hr (ab 1) (ab 6))))) ae)) (ab 3))) (fun _ _ _ _=>(ab 5))))))))))
abbrev CU:Stmt:=top 18
abbrev zT:List Str:=["layout"]
theorem FC:az zT ["layout"] (ak CU):=⟨rfl,rfl,rfl,by decide +kernel,rfl,by decide +kernel,by decide +kernel⟩
def vF:M Fl :=
 (do let d <- (mC bW (af (do let xs <- (mC (aA 1 (eF k4 pE)) (af (ag 0) (pure [])));pure (D.lst xs)) (pure [])));pure (Fl.rt d))
variable (P w K mg base) in
abbrev df (k:Nat):Prop:=Kn P w K mg base cV k "many_join_trees" ["layout"] (jX 1 (aU zT vF))
theorem Fc {k:Nat} (E:Ent K mg "many_join_trees" ["layout"] CU) (m:Bi mg) (G_q2:cz P w K mg base k):df P w K mg base (k + 1) :=
 qC E FC fun _ cdv A outer s H E hr=>
  (ao (a_ (b_ m.len (aa (aG (fg G_q2 hr (aa (ab 0) ae))) ae))))
abbrev vR:Stmt:=top 21
abbrev sJ:List Str:=["_law_script","_law_k"]
theorem C2:az sJ ["_law_script","_law_k"] (ak vR):=⟨rfl,rfl,rfl,by decide +kernel,rfl,by decide +kernel,by decide +kernel⟩
def j_:M Fl :=
 (aE (ia (m2 A7 (ag 1) (mC bW (af (ag 0) (pure []))) >>= dG) (do let d <- (m2 e_ (ag 0) (ag 1));pure (Fl.rt d)) (pure .nx))
  (do let d <- (m2 b8 (m2 lr (pure (.int 6151)) (ag 1)) (pure (.int 29)));pure (Fl.rt d)))
variable (P w K mg base) in
abbrev gm (k:Nat):Prop:=Kn P w K mg base cV k "_law_cell" ["_law_script","_law_k"] (jX 2 (aU sJ j_))
theorem D1 {k:Nat} (E:Ent K mg "_law_cell" ["_law_script","_law_k"] vR) (m:Bi mg):gm P w K mg base (k + 1) :=
 qC E C2 fun _ cdv A outer s H E hr=>
  (ah (cn (Fq (ab 1) (b_ m.len (aa (ab 0) ae))) (ao (a_ (bu (ab 0) (ab 1)))) bj)
  (ao (a_ (cf (nH au (ab 1)) au))))
abbrev xn:Stmt:=top 22
abbrev o6:List Str:=["_law_cell_here","_law_k","_law_number"]
theorem qB:az o6 ["_law_cell_here","_law_k"] (ak xn):=⟨rfl,rfl,rfl,by decide +kernel,rfl,by decide +kernel,by decide +kernel⟩
def l3:M Fl :=
 (aE (c_ 2 (m2 b8 (m2 lr (m2 b8 (ag 0) (pure (.int 1))) (pure (.int 40692))) (m2 lr (pure (.int 104729)) (ag 1))))
  (aE (c_ 2 (m2 b8 (m2 pX (m2 lX (ag 2) (ag 2)) (pure (.int 2147483399))) (ag 1)))
  (do let d <- (m2 pX (m2 lX (ag 2) (m2 b8 (ag 2) (pure (.int 31)))) (pure (.int 2147483563)));pure (Fl.rt d))))
variable (P w K mg base) in
abbrev ij (k:Nat):Prop:=Kn P w K mg base cV k "_law_mix" ["_law_cell_here","_law_k"] (jX 2 (aU o6 l3))
theorem DN {k:Nat} (E:Ent K mg "_law_mix" ["_law_cell_here","_law_k"] xn):ij P w K mg base (k + 1) :=
 qC E qB fun _ cdv A outer s H E hr=>
  (ah (aI 2 qB.nd (cf (nH (cf (ab 0) au) au) (nH au (ab 1))))
  (ah (aI 2 qB.nd (cf (mZ (tj (ab 2) (ab 2)) au) (ab 1)))
  (ao (a_ (mZ (tj (ab 2) (cf (ab 2) au)) au)))))
abbrev w9:Stmt:=top 23
abbrev oY:List Str:=["_law_script","_law_k","_law_here","_law_number","_law_j"]
theorem j5:az oY ["_law_script","_law_k"] (ak w9):=⟨rfl,rfl,rfl,by decide +kernel,rfl,by decide +kernel,by decide +kernel⟩
def mr:M Fl :=
 (aE (c_ 2 (mC (aA 2 (aU sJ j_)) (af (ag 0) (af (ag 1) (pure [])))))
  (aE (ia (m2 (b9 false) (m2 pX (ag 2) (pure (.int 2))) (pure (.int 0)) >>= dG) (do let d <- (di (af (m2 D0 (ag 2) (pure (.int 2))) (pure [])));pure (Fl.rf d)) (pure .nx))
  (aE (c_ 3 (pure (.int 0)))
  (aE (
  do let it <- (mC bT (af (pure (.int 24)) (pure [])));forM (ba 4) (c_ 3 (m2 b8 (m2 lr (ag 3) (pure (.int 2147483647))) (mC (aA 2 (aU o6 l3)) (af (ag 2) (af (ag 4) (pure [])))))) it.2 it.1)
  (do let d <- (di (af (ag 3) (pure [])));pure (Fl.rf d))))))
variable (P w K mg base) in
abbrev iu (k:Nat):Prop:=Kn P w K mg base cV k "_law_box" ["_law_script","_law_k"] (uW 2 (eF oY mr))
theorem Ck {k:Nat} (E:Ent K mg "_law_box" ["_law_script","_law_k"] w9) (m:Bi mg) (G_q18:gm P w K mg base k) (G_q21:ij P w K mg base k):iu P w K mg base (k + 1) :=
 Gi E j5 fun _ cdv A outer s H E hr=>
  (ah (aI 2 j5.nd (aR G_q18 hr (aa (ab 0) (aa (ab 1) ae))))
  (ah (cn (eZ (mZ (ab 2) au) au) (ao (fY (bB (aa (C5 (ab 2) au) ae)))) bj)
  (ah (aI 3 j5.nd au)
  (ah (c6 (aX rfl m.range (aa au ae)) (aw 4 j5.nd) (ao (aI 3 j5.nd (cf (nH (ab 3) au) (aR G_q21 hr (aa (ab 2) (aa (ab 4) ae)))))))
  (ao (fY (bB (aa (ab 3) ae))))))))
abbrev u6:Stmt:=top 24
abbrev cN:List Str:=["_law_box_here","_law_many","_law_left","_law_digit"]
theorem ra:az cN ["_law_box_here","_law_many"] (ak u6):=⟨rfl,rfl,rfl,by decide +kernel,rfl,by decide +kernel,by decide +kernel⟩
def cC:M Fl :=
 (aE (do let d <- (mC i_ (af (uA 0 (pure (.int 0))) (af (ag 1) (pure []))));(dF 2 (bJ (ba 2) (bJ (ba 3) fK))) d;pure Fl.nx)
  (aE (mX 0 (ag 2) 0)
  (do let d <- (ag 3);pure (Fl.rt d))))
variable (P w K mg base) in
abbrev ck (k:Nat):Prop:=Kn P w K mg base cV k "_law_take" ["_law_box_here","_law_many"] (ym 2 (bL cN cC))
theorem Cp {k:Nat} (E:Ent K mg "_law_take" ["_law_box_here","_law_many"] u6) (m:Bi mg):ck P w K mg base (k + 1) :=
 Eh E ra fun _ cdv A outer s H E hr=>
  (ah (x_ (uG m.divmod (aa (qK 0 au) (aa (ab 1) ae))) (d3 (aY (aw 2 ra.nd) (aY (aw 3 ra.nd) c4))))
  (ah (u4 0 (ab 2))
  (ao (a_ (ab 3)))))
abbrev xx:Stmt:=top 25
abbrev gk:List Str:=["_law_box_here","_law_many","_law_some"]
theorem qo:az gk ["_law_box_here","_law_many"] (ak xx):=⟨rfl,rfl,rfl,by decide +kernel,rfl,by decide +kernel,by decide +kernel⟩
def ic:M Fl :=
 (aE (c_ 2 (do let xs <- (bh 3 1 (mC bT (af (ag 1) (pure []))) (bz (ba 3) (m2 (b9 false) (do let _ <- aO 0;cq 0 2 (bL cN cC) (af (pure (.int 3)) (pure []))) (pure (.int 0)) >>= dG) (ag 3)));pure (D.lst xs)))
  (aE (ia ((m2 (iC false) (ag 2) (do let xs <- (di (pure []));pure (D.lst xs))) >>= dG) (c_ 2 (do let xs <- (di (af (do let _ <- aO 0;cq 0 2 (bL cN cC) (af (ag 1) (pure []))) (pure [])));pure (D.lst xs))) (pure .nx))
  (do let d <- (mC cG (af (ag 2) (pure [])));pure (Fl.rt d))))
variable (P w K mg base) in
abbrev eN (k:Nat):Prop:=Kn P w K mg base cV k "_law_head" ["_law_box_here","_law_many"] (ym 2 (bL gk ic))
theorem B_ {k:Nat} (E:Ent K mg "_law_head" ["_law_box_here","_law_many"] xx) (m:Bi mg) (G_q14:ck P w K mg base k):eN P w K mg base (k + 1) :=
 Eh E qo fun _ cdv A outer s H E hr=>
  (ah (iQ 2 qo.nd (N':=gk) (own:=["_law_column"]) (lo:=3) (cu (aX rfl m.range (aa (ab 1) ae))) (fun _ _ _ _=>(aw 3 (show (gk ++ (["_law_column"]:List Str):List Str).Nodup by decide +kernel))) (fun _ _ _ _=>dv (eZ (aH 0 G_q14 hr (aa au ae)) au)) (fun _ _ _ _=>(ab 3)))
  (ah (cn (sU hr (ab 2) (aG (bB ae))) (ao (aI 2 qo.nd (aG (bB (aa (aH 0 G_q14 hr (aa (ab 1) ae)) ae))))) bj)
  (ao (a_ (dH m.tuple (aa (ab 2) ae))))))
abbrev Dz:Stmt:=top 26
abbrev k7:List Str:=["_law_box_here","_law_many","_law_heads","_law_found","_law_turn","_law_way","_law_base","_law_kept","_law_met","_law_fresh","_law_head_here"]
theorem h8:az k7 ["_law_box_here","_law_many","_law_heads"] (ak Dz):=⟨rfl,rfl,rfl,by decide +kernel,rfl,by decide +kernel,by decide +kernel⟩
def xF:M Fl :=
 (aE (qp 3 (di (af (do let _ <- aO 0;cq 0 2 (bL gk ic) (af (ag 1) (pure []))) (pure []))))
  (aE (
  do let it <- (mC bT (af (m2 du (ag 2) (pure (.int 1))) (pure [])));forM (ba 4) (aE (c_ 5 (do let _ <- aO 0;cq 0 2 (bL cN cC) (af (pure (.int 4)) (pure []))))
  (aE (c_ 6 (uA 3 (m2 e_ (do let xs <- (di (af (m2 du (jK 3) (pure (.int 1))) (af (do let _ <- aO 0;cq 0 2 (bL cN cC) (af (jK 3) (pure []))) (pure []))));pure (D.lst xs)) (mC jG (af (m2 uX (ag 5) (pure (.int 1))) (pure []))))))
  (aE (c_ 7 (do let xs <- (bh 11 1 (do let x <- (ag 6);lift (bO x)) (bz (ba 11) (m2 uX (do let _ <- aO 0;cq 0 2 (bL cN cC) (af (pure (.int 3)) (pure []))) (pure (.int 0)) >>= dG) (ag 11)));pure (D.lst xs)))
  (aE (c_ 8 (do let xs <- (bh 11 1 (mC bT (af (ag 1) (pure []))) (bz (ba 11) ((m2 (iC true) (do let xs <- (bh 12 1 (do let xs <- aO 3;pure (cj 3 xs.length)) (bz (ba 12) (m2 (l_ false) (ag 11) (ag 12) >>= dG) (ag 12)));pure (D.lst xs)) (do let xs <- (di (pure []));pure (D.lst xs))) >>= dG) (ag 11)));pure (D.lst xs)))
  (aE (c_ 9 (do let xs <- (bh 11 1 (mC bT (af (ag 1) (pure []))) (bz (ba 11) (mY (m2 (l_ true) (ag 11) (ag 8) >>= dG) (m2 (b9 false) (do let _ <- aO 0;cq 0 2 (bL cN cC) (af (pure (.int 2)) (pure []))) (pure (.int 0)) >>= dG)) (ag 11)));pure (D.lst xs)))
  (aE (c_ 10 (do let xs <- (mQ sortI (do let x <- (do let xs <- (qa ny (do let x <- (ag 7);pure (Hn.th x)) (do let x <- (ag 9);pure (Hn.th x)));pure (D.lst xs));lift (jT x)));pure (D.lst xs)))
  (aE (ia ((m2 (iC false) (ag 10) (do let xs <- (di (pure []));pure (D.lst xs))) >>= dG) (c_ 10 (do let xs <- (di (af (m2 e_ (ag 6) (do let _ <- aO 0;cq 0 2 (bL cN cC) (af (mC bW (af (ag 6) (pure []))) (pure [])))) (pure [])));pure (D.lst xs))) (pure .nx))
  (eO 3 (af (mC cG (af (ag 10) (pure []))) (pure [])))))))))) it.2 it.1)
  (do let d <- (do let xs <- (jH 3);pure (D.lst xs));pure (Fl.rt d))))
variable (P w K mg base) in
abbrev fO (k:Nat):Prop:=Kn P w K mg base cV k "_law_grown" ["_law_box_here","_law_many","_law_heads"] (ym 3 (bL k7 xF))
theorem EH {k:Nat} (E:Ent K mg "_law_grown" ["_law_box_here","_law_many","_law_heads"] Dz) (m:Bi mg) (G_q16:eN P w K mg base k) (G_q14:ck P w K mg base k):fO P w K mg base (k + 1) :=
 Eh E h8 fun _ cdv A outer s H E hr=>
  (ah (dX 3 h8.nd (bB (aa (aH 0 G_q16 hr (aa (ab 1) ae)) ae)))
  (ah (c6 (aX rfl m.range (aa (fT (ab 2) au) ae)) (aw 4 h8.nd) (ah (aI 5 h8.nd (aH 0 G_q14 hr (aa au ae)))
  (ah (aI 6 h8.nd (qK 3 (bu (aG (bB (aa (fT (iJ 3 m.len) au) (aa (aH 0 G_q14 hr (aa (iJ 3 m.len) ae)) ae)))) (rJ m.int (aa (Eo (ab 5) au) ae)))))
  (ah (iQ 7 h8.nd (N':=k7) (own:=["_law_column"]) (lo:=11) (cu (dN (ab 6))) (fun _ _ _ _=>(aw 11 (show (k7 ++ (["_law_column"]:List Str):List Str).Nodup by decide +kernel))) (fun _ _ _ _=>dv (Bt (aH 0 G_q14 hr (aa au ae)) au)) (fun _ _ _ _=>(ab 11)))
  (ah (aI 8 h8.nd (aG (bP (N':=k7) (own:=["_law_column"]) (lo:=11) (cu (aX rfl m.range (aa (ab 1) ae))) (fun _ _ _ _=>(aw 11 (show (k7 ++ (["_law_column"]:List Str):List Str).Nodup by decide +kernel))) (fun _ _ _ _=>dv (h9 hr (aG (bP (N':=(["_law_box_here","_law_many","_law_heads","_law_found","_law_turn","_law_way","_law_base","_law_kept","_law_met","_law_fresh","?10","_law_column"]:List Str)) (own:=["_law_head_here"]) (lo:=12) (D2 3) (fun _ _ _ _=>(aw 12 (show ((["_law_box_here","_law_many","_law_heads","_law_found","_law_turn","_law_way","_law_base","_law_kept","_law_met","_law_fresh","?10","_law_column"]:List Str) ++ (["_law_head_here"]:List Str):List Str).Nodup by decide +kernel))) (fun _ _ _ _=>dv (mB (ab 11) (ab 12))) (fun _ _ _ _=>(ab 12)))) (aG (bB ae)))) (fun _ _ _ _=>(ab 11)))))
  (ah (iQ 9 h8.nd (N':=k7) (own:=["_law_column"]) (lo:=11) (cu (aX rfl m.range (aa (ab 1) ae))) (fun _ _ _ _=>(aw 11 (show (k7 ++ (["_law_column"]:List Str):List Str).Nodup by decide +kernel))) (fun _ _ _ _=>dv (nD (ji (vD (ab 11) (ab 8)) (iH (eZ (aH 0 G_q14 hr (aa au ae)) au))))) (fun _ _ _ _=>(ab 11)))
  (ah (aI 10 h8.nd (aG (jy m.sorted (xk (aG (oa (gi (ab 7)) (gi (ab 9))))))))
  (ah (cn (sU hr (ab 10) (aG (bB ae))) (ao (aI 10 h8.nd (aG (bB (aa (bu (ab 6) (aH 0 G_q14 hr (aa (b_ m.len (aa (ab 6) ae)) ae))) ae))))) bj)
  (ao (ff 3 (aa (dH m.tuple (aa (ab 10) ae)) ae)))))))))))
  (ao (a_ (aG (qA 3))))))
abbrev Di:Stmt:=top 27
abbrev k8:List Str:=["_law_box_here","_law_many","_law_size"]
theorem wg:az k8 ["_law_box_here","_law_many"] (ak Di):=⟨rfl,rfl,rfl,by decide +kernel,rfl,by decide +kernel,by decide +kernel⟩
def vO:M Fl :=
 (aE (ia (Du (m2 (b9 false) (ag 1) (pure (.int 3)) >>= dG) (m2 (b9 false) (do let _ <- aO 0;cq 0 2 (bL cN cC) (af (pure (.int 2)) (pure []))) (pure (.int 0)) >>= dG)) (aE (c_ 2 (m2 b8 (pure (.int 3)) (do let _ <- aO 0;cq 0 2 (bL cN cC) (af (m2 du (mC i9 (af (pure (.int 6)) (af (ag 1) (pure [])))) (pure (.int 2))) (pure [])))))
  (do let d <- (do let xs <- (bh 3 1 (mC bT (af (ag 2) (pure []))) (bz (ba 3) (pure true) (mC cG (af (do let xs <- (bh 4 1 (mC bT (af (ag 2) (pure []))) (bz (ba 4) ((m2 (iC true) (ag 4) (ag 3)) >>= dG) (ag 4)));pure (D.lst xs)) (pure [])))));pure (D.lst xs));pure (Fl.rt d))) (pure .nx))
  (aE (c_ 2 (m2 b8 (pure (.int 4)) (do let _ <- aO 0;cq 0 2 (bL cN cC) (af (m2 du (mC i9 (af (pure (.int 6)) (af (ag 1) (pure [])))) (pure (.int 3))) (pure [])))))
  (do let d <- (do let xs <- (bh 3 1 (mC bT (af (ag 2) (pure []))) (bz (ba 3) (pure true) (mC cG (af (do let xs <- (mQ sortI (do let x <- (do let xs <- (di (af (ag 3) (af (m2 pX (m2 b8 (ag 3) (pure (.int 1))) (ag 2)) (pure []))));pure (D.lst xs));lift (jT x)));pure (D.lst xs)) (pure [])))));pure (D.lst xs));pure (Fl.rt d))))
variable (P w K mg base) in
abbrev eR (k:Nat):Prop:=Kn P w K mg base cV k "_law_barred" ["_law_box_here","_law_many"] (ym 2 (bL k8 vO))
theorem Ey {k:Nat} (E:Ent K mg "_law_barred" ["_law_box_here","_law_many"] Di) (m:Bi mg) (G_q14:ck P w K mg base k):eR P w K mg base (k + 1) :=
 Eh E wg fun _ cdv A outer s H E hr=>
  (ah (cn (nD (tu (eZ (ab 1) au) (nY (eZ (aH 0 G_q14 hr (aa au ae)) au)))) (ah (aI 2 wg.nd (cf au (aH 0 G_q14 hr (aa (fT (m4 m.min (aa au (aa (ab 1) ae))) au) ae))))
  (ao (a_ (aG (bP (N':=k8) (own:=["_law_lack"]) (lo:=3) (cu (aX rfl m.range (aa (ab 2) ae))) (fun _ _ _ _=>(aw 3 (show (k8 ++ (["_law_lack"]:List Str):List Str).Nodup by decide +kernel))) (fun _ _ _ _=>bX) (fun _ _ _ _=>(dH m.tuple (aa (aG (bP (N':=(k8 ++ (["_law_lack"]:List Str))) (own:=["_law_column"]) (lo:=4) (cu (aX rfl m.range (aa (ab 2) ae))) (fun _ _ _ _=>(aw 4 (show ((k8 ++ (["_law_lack"]:List Str)) ++ (["_law_column"]:List Str):List Str).Nodup by decide +kernel))) (fun _ _ _ _=>dv (h9 hr (ab 4) (ab 3))) (fun _ _ _ _=>(ab 4)))) ae)))))))) bj)
  (ah (aI 2 wg.nd (cf au (aH 0 G_q14 hr (aa (fT (m4 m.min (aa au (aa (ab 1) ae))) au) ae))))
  (ao (a_ (aG (bP (N':=k8) (own:=["_law_column"]) (lo:=3) (cu (aX rfl m.range (aa (ab 2) ae))) (fun _ _ _ _=>(aw 3 (show (k8 ++ (["_law_column"]:List Str):List Str).Nodup by decide +kernel))) (fun _ _ _ _=>bX) (fun _ _ _ _=>(dH m.tuple (aa (aG (jy m.sorted (xk (aG (bB (aa (ab 3) (aa (mZ (cf (ab 3) au) (ab 2)) ae))))))) ae)))))))))
abbrev xg:Stmt:=top 28
abbrev ft:List Str:=["_law_box_here","_law_many","_law_heads","_law_left","_law_names","_law_rows","_law_found"]
theorem kJ:az ft ["_law_box_here","_law_many","_law_heads"] (ak xg):=⟨rfl,rfl,rfl,by decide +kernel,rfl,by decide +kernel,by decide +kernel⟩
def jL:M Fl :=
 (aE (qp 3 (mC j8 (af (ag 1) (pure []))))
  (aE (c_ 4 (do let xs <- (bh 7 1 (mC bT (af (ag 1) (pure []))) (bz (ba 7) (pure true) (wz 3 (af (do let _ <- aO 0;cq 0 2 (bL cN cC) (af (jK 3) (pure []))) (pure [])))));pure (D.lst xs)))
  (aE (qp 5 (bh 7 1 (do let x <- (ag 2);lift (bO x)) (bz (ba 7) (pure true) (mC cG (af (do let xs <- (mQ sortI (do let x <- (do let xs <- (bh 8 1 (do let x <- (ag 7);lift (bO x)) (bz (ba 8) (pure true) (m2 e_ (ag 4) (ag 8))));pure (D.lst xs));lift (jT x)));pure (D.lst xs)) (pure []))))))
  (aE (qp 6 (di (pure [])))
  (aE (Bh ((qa (qd true) (oy 5) (do let x <- (do let xs <- (di (pure []));pure (D.lst xs));pure (Hn.th x))) >>= dG) (eO 6 (af (wz 5 (af (do let _ <- aO 0;cq 0 2 (bL cN cC) (af (jK 5) (pure []))) (pure []))) (pure []))) 7)
  (do let d <- (do let xs <- aO 6;pure (D.tup xs));pure (Fl.rt d)))))))
variable (P w K mg base) in
abbrev fZ (k:Nat):Prop:=Kn P w K mg base cV k "_law_named" ["_law_box_here","_law_many","_law_heads"] (ym 3 (bL ft jL))
theorem DJ {k:Nat} (E:Ent K mg "_law_named" ["_law_box_here","_law_many","_law_heads"] xg) (m:Bi mg) (G_q14:ck P w K mg base k):fZ P w K mg base (k + 1) :=
 Eh E kJ fun _ cdv A outer s H E hr=>
  (ah (dX 3 kJ.nd (ph m.list m.range (aa (ab 1) ae)))
  (ah (aI 4 kJ.nd (aG (bP (N':=ft) (own:=["_law_turn"]) (lo:=7) (cu (aX rfl m.range (aa (ab 1) ae))) (fun _ _ _ _=>(aw 7 (show (ft ++ (["_law_turn"]:List Str):List Str).Nodup by decide +kernel))) (fun _ _ _ _=>bX) (fun _ _ _ _=>(wk 3 (aa (aH 0 G_q14 hr (aa (iJ 3 m.len) ae)) ae))))))
  (ah (yS 5 kJ.nd (N':=ft) (own:=["_law_head_here"]) (lo:=7) (cu (dN (ab 2))) (fun _ _ _ _=>(aw 7 (show (ft ++ (["_law_head_here"]:List Str):List Str).Nodup by decide +kernel))) (fun _ _ _ _=>bX) (fun _ _ _ _=>(dH m.tuple (aa (aG (jy m.sorted (xk (aG (bP (N':=(ft ++ (["_law_head_here"]:List Str))) (own:=["_law_column"]) (lo:=8) (cu (dN (ab 7))) (fun _ _ _ _=>(aw 8 (show ((ft ++ (["_law_head_here"]:List Str)) ++ (["_law_column"]:List Str):List Str).Nodup by decide +kernel))) (fun _ _ _ _=>bX) (fun _ _ _ _=>(bu (ab 4) (ab 8)))))))) ae))))
  (ah (dX 6 kJ.nd (bB ae))
  (ah (wX 7 (qq hr (k3 5) (gi (aG (bB ae)))) (ao (ff 6 (aa (wk 5 (aa (aH 0 G_q14 hr (aa (iJ 5 m.len) ae)) ae)) ae))))
  (ao (a_ (l9 6 m.tuple))))))))
abbrev BU:Stmt:=top 29
abbrev pQ:List Str:=["_law_box_here","_law_most","_law_heads","_law_many","_law_number","_law_way","_law_some","_law_extra"]
theorem lu:az pQ ["_law_box_here","_law_most","_law_heads"] (ak BU):=⟨rfl,rfl,rfl,by decide +kernel,rfl,by decide +kernel,by decide +kernel⟩
def xi:M Fl :=
 (aE (c_ 3 (m2 b8 (pure (.int 1)) (do let _ <- aO 0;cq 0 2 (bL cN cC) (af (ag 1) (pure [])))))
  (aE (c_ 4 (m2 b8 (pure (.int 1)) (do let _ <- aO 0;cq 0 2 (bL cN cC) (af (ag 2) (pure [])))))
  (aE (c_ 5 (do let _ <- aO 0;cq 0 2 (bL cN cC) (af (pure (.int 5)) (pure []))))
  (aE (ia (mY (m2 (b9 false) (ag 5) (pure (.int 0)) >>= dG) (m2 uX (ag 3) (pure (.int 2)) >>= dG)) (aE (c_ 6 (do let _ <- aO 0;cq 0 2 (bL k8 vO) (af (ag 3) (pure []))))
  (aE (c_ 7 (do let xs <- (bh 8 1 (mC bT (af (do let _ <- aO 0;cq 0 2 (bL cN cC) (af (m2 b8 (pure (.int 1)) (mC iR (af (pure (.int 0)) (af (m2 du (ag 2) (mC bW (af (ag 6) (pure [])))) (pure []))))) (pure []))) (pure []))) (bz (ba 8) (pure true) (do let _ <- aO 0;cq 0 2 (bL gk ic) (af (ag 3) (pure [])))));pure (D.lst xs)))
  (do let d <- (fU (af (ag 3) (af (do let _ <- aO 0;cq 0 3 (bL ft jL) (af (ag 3) (af (Ej (do let xs <- (qa ny (do let x <- (ag 6);pure (Hn.th x)) (do let x <- (ag 7);pure (Hn.th x)));pure (D.lst xs)) (pure none) ((pure (.int 6)) >>= Ei)) (pure [])))) (pure []))));pure (Fl.rt d)))) (pure .nx))
  (aE (ia (m2 (b9 false) (ag 5) (pure (.int 1)) >>= dG) (do let d <- (fU (af (ag 3) (af (do let _ <- aO 0;cq 0 3 (bL ft jL) (af (ag 3) (af (do let xs <- (bh 8 1 (mC bT (af (ag 4) (pure []))) (bz (ba 8) (pure true) (do let _ <- aO 0;cq 0 2 (bL gk ic) (af (ag 3) (pure [])))));pure (D.lst xs)) (pure [])))) (pure []))));pure (Fl.rt d)) (pure .nx))
  (do let d <- (fU (af (ag 3) (af (do let _ <- aO 0;cq 0 3 (bL ft jL) (af (ag 3) (af (do let _ <- aO 0;cq 0 3 (bL k7 xF) (af (ag 3) (af (ag 4) (pure [])))) (pure [])))) (pure []))));pure (Fl.rt d)))))))
variable (P w K mg base) in
abbrev eU (k:Nat):Prop:=Kn P w K mg base cV k "_law_layout" ["_law_box_here","_law_most","_law_heads"] (ym 3 (bL pQ xi))
theorem E2 {k:Nat} (E:Ent K mg "_law_layout" ["_law_box_here","_law_most","_law_heads"] BU) (m:Bi mg) (G_q4:eR P w K mg base k) (G_q7:fO P w K mg base k) (G_q16:eN P w K mg base k) (G_q12:fZ P w K mg base k) (G_q14:ck P w K mg base k):eU P w K mg base (k + 1) :=
 Eh E lu fun _ cdv A outer s H E hr=>
  (ah (aI 3 lu.nd (cf au (aH 0 G_q14 hr (aa (ab 1) ae))))
  (ah (aI 4 lu.nd (cf au (aH 0 G_q14 hr (aa (ab 2) ae))))
  (ah (aI 5 lu.nd (aH 0 G_q14 hr (aa au ae)))
  (ah (cn (nD (ji (eZ (ab 5) au) (iH (Bt (ab 3) au)))) (ah (aI 6 lu.nd (aH 0 G_q4 hr (aa (ab 3) ae)))
  (ah (iQ 7 lu.nd (N':=pQ) (own:=["_law_turn"]) (lo:=8) (cu (aX rfl m.range (aa (aH 0 G_q14 hr (aa (cf au (m8 m.max (aa au (aa (fT (ab 2) (b_ m.len (aa (ab 6) ae))) ae)))) ae)) ae))) (fun _ _ _ _=>(aw 8 (show (pQ ++ (["_law_turn"]:List Str):List Str).Nodup by decide +kernel))) (fun _ _ _ _=>bX) (fun _ _ _ _=>(aH 0 G_q16 hr (aa (ab 3) ae))))
  (ao (a_ (cK (aa (ab 3) (aa (aH 0 G_q12 hr (aa (ab 3) (aa (kG (aG (oa (gi (ab 6)) (gi (ab 7)))) ng (nG au)) ae))) ae))))))) bj)
  (ah (cn (eZ (ab 5) au) (ao (a_ (cK (aa (ab 3) (aa (aH 0 G_q12 hr (aa (ab 3) (aa (aG (bP (N':=pQ) (own:=["_law_turn"]) (lo:=8) (cu (aX rfl m.range (aa (ab 4) ae))) (fun _ _ _ _=>(aw 8 (show (pQ ++ (["_law_turn"]:List Str):List Str).Nodup by decide +kernel))) (fun _ _ _ _=>bX) (fun _ _ _ _=>(aH 0 G_q16 hr (aa (ab 3) ae))))) ae))) ae))))) bj)
  (ao (a_ (cK (aa (ab 3) (aa (aH 0 G_q12 hr (aa (ab 3) (aa (aH 0 G_q7 hr (aa (ab 3) (aa (ab 4) ae))) ae))) ae))))))))))
abbrev DK:Stmt:=top 30
abbrev zm:List Str:=["_law_found"]
theorem FU:az zm ["_law_found"] (ak DK):=⟨rfl,rfl,rfl,by decide +kernel,rfl,by decide +kernel,by decide +kernel⟩
def vg:M Fl :=
 (do let d <- (uR (qv .int (ag 0)) (wU (qv .bool (ag 0))));pure (Fl.rt d))
variable (P w K mg base) in
abbrev fV (k:Nat):Prop:=Kn P w K mg base cV k "_law_whole" ["_law_found"] (jX 1 (aU zm vg))
theorem FO {k:Nat} (E:Ent K mg "_law_whole" ["_law_found"] DK) (m:Bi mg):fV P w K mg base (k + 1) :=
 qC E FU fun _ cdv A outer s H E hr=>
  (ao (a_ (qE (nC .int m.isinstance m.int (ab 0)) (qf (vZ (nC .bool m.isinstance m.bool (ab 0)))))))
abbrev xf:Stmt:=top 31
abbrev oZ:List Str:=["_law_pairs","_law_some","_law_found","_law_turn","_law_one","_law_other"]
theorem jn:az oZ ["_law_pairs","_law_some"] (ak xf):=⟨rfl,rfl,rfl,by decide +kernel,rfl,by decide +kernel,by decide +kernel⟩
def lA:M Fl :=
 (aE (ia ((m2 (iC false) (ag 1) (do let xs <- (di (pure []));pure (D.lst xs))) >>= dG) (do let d <- (pure (.bl true));pure (Fl.rt d)) (pure .nx))
  (aE (c_ 2 (Ej (ag 1) (pure none) ((pure (.int 1)) >>= Ei)))
  (aE (
  do let it <- (mC bT (af (mC bW (af (ag 1) (pure []))) (pure [])));forM (ba 3) (
  do let it <- (do let x <- (ag 0);lift (bO x));forM (dF 2 (bJ (ba 4) (bJ (ba 5) fK))) (ia (mY ((m2 (iC true) (m2 (l_ false) (ag 4) (ag 2)) (m2 (l_ false) (ag 5) (ag 2))) >>= dG) (mY (m2 (l_ false) (ag 4) (ag 1) >>= dG) (m2 (l_ false) (ag 5) (ag 1) >>= dG))) (c_ 2 (do let xs <- (qa ny (do let x <- (ag 2);pure (Hn.th x)) (do let x <- (do let xs <- (di (af (m2 e_ (do let xs <- (di (af (ag 4) (af (ag 5) (pure []))));pure (D.lst xs)) (mC jG (af (m2 (l_ false) (ag 4) (ag 2)) (pure [])))) (pure [])));pure (D.lst xs));pure (Hn.th x)));pure (D.lst xs))) (pure .nx)) it.2 it.1) it.2 it.1)
  (do let d <- (m2 (b9 false) (mC bW (af (ag 2) (pure []))) (mC bW (af (ag 1) (pure []))));pure (Fl.rt d)))))
variable (P w K mg base) in
abbrev eL (k:Nat):Prop:=Kn P w K mg base cV k "_law_hang" ["_law_pairs","_law_some"] (jX 2 (aU oZ lA))
theorem C4 {k:Nat} (E:Ent K mg "_law_hang" ["_law_pairs","_law_some"] xf) (m:Bi mg):eL P w K mg base (k + 1) :=
 qC E jn fun _ cdv A outer s H E hr=>
  (ah (cn (sU hr (ab 1) (aG (bB ae))) (ao (a_ j6)) bj)
  (ah (aI 2 jn.nd (kG (ab 1) ng (nG au)))
  (ah (c6 (aX rfl m.range (aa (b_ m.len (aa (ab 1) ae)) ae)) (aw 3 jn.nd) (ao (c6 (dN (ab 0)) (d3 (aY (aw 4 jn.nd) (aY (aw 5 jn.nd) c4))) (ao (cn (nD (ji (h9 hr (v_ (ab 4) (ab 2)) (v_ (ab 5) (ab 2))) (ji (mB (ab 4) (ab 1)) (iH (mB (ab 5) (ab 1)))))) (ao (aI 2 jn.nd (aG (oa (gi (ab 2)) (gi (aG (bB (aa (bu (aG (bB (aa (ab 4) (aa (ab 5) ae)))) (rJ m.int (aa (v_ (ab 4) (ab 2)) ae))) ae)))))))) bj)))))
  (ao (a_ (Dh (b_ m.len (aa (ab 2) ae)) (b_ m.len (aa (ab 1) ae))))))))
abbrev DR:Stmt:=top 32
abbrev p8:List Str:=["_law_layout_here","_law_tree","_law_column"]
theorem A8:az p8 ["_law_layout_here","_law_tree"] (ak DR):=⟨rfl,rfl,rfl,by decide +kernel,rfl,by decide +kernel,by decide +kernel⟩
def t5:M Fl :=
 (aE (
  do let it <- (mC bT (af (m2 e_ (ag 0) (pure (.int 0))) (pure [])));forM (ba 2) (ia (pf (do let x <- (mC (aA 2 (aU oZ lA)) (af (ag 1) (af (do let xs <- (bh 3 2 (mC gz (af (m2 e_ (ag 0) (pure (.int 1))) (pure []))) (bz (dF 2 (bJ (ba 3) (bJ (ba 4) fK))) (m2 (l_ false) (ag 2) (ag 4) >>= dG) (ag 3)));pure (D.lst xs)) (pure []))));lift (iz x))) (do let d <- (pure (.bl false));pure (Fl.rt d)) (pure .nx)) it.2 it.1)
  (do let d <- (pure (.bl true));pure (Fl.rt d)))
variable (P w K mg base) in
abbrev fQ (k:Nat):Prop:=Kn P w K mg base cV k "_law_joins" ["_law_layout_here","_law_tree"] (jX 2 (aU p8 t5))
theorem FP {k:Nat} (E:Ent K mg "_law_joins" ["_law_layout_here","_law_tree"] DR) (m:Bi mg) (G_q13:eL P w K mg base k):fQ P w K mg base (k + 1) :=
 qC E A8 fun _ cdv A outer s H E hr=>
  (ah (c6 (aX rfl m.range (aa (bu (ab 0) au) ae)) (aw 2 A8.nd) (ao (cn (j9 (eo (aR G_q13 hr (aa (ab 1) (aa (aG (bP (N':=p8) (own:=["_law_number","_law_head_here"]) (lo:=3) (cu (m3 m.enumerate (aa (bu (ab 0) au) ae))) (fun _ _ _ _=>(d3 (aY (aw 3 (show (p8 ++ (["_law_number","_law_head_here"]:List Str):List Str).Nodup by decide +kernel)) (aY (aw 4 (show (p8 ++ (["_law_number","_law_head_here"]:List Str):List Str).Nodup by decide +kernel)) c4)))) (fun _ _ _ _=>dv (mB (ab 2) (ab 4))) (fun _ _ _ _=>(ab 3)))) ae))))) (ao (a_ j6)) bj)))
  (ao (a_ j6)))
abbrev Dy:Stmt:=top 33
abbrev o8:List Str:=["_law_many","_law_pairs","_law_one","_law_rows","_law_turn","_law_longer","_law_row","_law_at"]
theorem h_:az o8 ["_law_many"] (ak Dy):=⟨rfl,rfl,rfl,by decide +kernel,rfl,by decide +kernel,by decide +kernel⟩
def wM:M Fl :=
 (aE (c_ 1 (do let xs <- (di (pure []));pure (D.lst xs)))
  (aE (
  do let it <- (mC bT (af (ag 0) (pure [])));forM (ba 2) (c_ 1 (do let xs <- (qa ny (do let x <- (ag 1);pure (Hn.th x)) (do let x <- (do let xs <- (bh 8 1 (mC pq (af (m2 b8 (ag 2) (pure (.int 1))) (af (ag 0) (pure [])))) (bz (ba 8) (pure true) (fU (af (ag 2) (af (ag 8) (pure []))))));pure (D.lst xs));pure (Hn.th x)));pure (D.lst xs))) it.2 it.1)
  (aE (c_ 3 (do let xs <- (di (af (fU (af (fU (pure [])) (af (pure (.int 0)) (pure [])))) (pure [])));pure (D.lst xs)))
  (aE (
  do let it <- (mC bT (af (m2 du (ag 0) (pure (.int 1))) (pure [])));forM (ba 4) (aE (qp 5 (di (pure [])))
  (aE (
  do let it <- (do let x <- (ag 3);lift (bO x));forM (dF 2 (bJ (ba 6) (bJ (ba 7) fK))) (i3 5 (bh 8 1 (mC pq (af (ag 7) (af (mC bW (af (ag 1) (pure []))) (pure [])))) (bz (ba 8) (pure true) (fU (af (m2 jO (ag 6) (fU (af (m2 e_ (ag 1) (ag 8)) (pure [])))) (af (m2 b8 (ag 8) (pure (.int 1))) (pure []))))))) it.2 it.1)
  (c_ 3 (do let xs <- (jH 5);pure (D.lst xs))))) it.2 it.1)
  (do let d <- (bh 8 2 (do let x <- (ag 3);lift (bO x)) (bz (dF 2 (bJ (ba 8) (bJ (ba 9) fK))) (pure true) (ag 8)));pure (Fl.rf d))))))
variable (P w K mg base) in
abbrev fS (k:Nat):Prop:=Kn P w K mg base cV k "_law_trees" ["_law_many"] (uW 1 (eF o8 wM))
theorem Er {k:Nat} (E:Ent K mg "_law_trees" ["_law_many"] Dy) (m:Bi mg):fS P w K mg base (k + 1) :=
 Gi E h_ fun _ cdv A outer s H E hr=>
  (ah (aI 1 h_.nd (aG (bB ae)))
  (ah (c6 (aX rfl m.range (aa (ab 0) ae)) (aw 2 h_.nd) (ao (aI 1 h_.nd (aG (oa (gi (ab 1)) (gi (aG (bP (N':=o8) (own:=["_law_other"]) (lo:=8) (cu (jq rfl m.range (aa (cf (ab 2) au) (aa (ab 0) ae)))) (fun _ _ _ _=>(aw 8 (show (o8 ++ (["_law_other"]:List Str):List Str).Nodup by decide +kernel))) (fun _ _ _ _=>bX) (fun _ _ _ _=>(cK (aa (ab 2) (aa (ab 8) ae))))))))))))
  (ah (aI 3 h_.nd (aG (bB (aa (cK (aa (cK ae) (aa au ae))) ae))))
  (ah (c6 (aX rfl m.range (aa (fT (ab 0) au) ae)) (aw 4 h_.nd) (ah (dX 5 h_.nd (bB ae))
  (ah (c6 (dN (ab 3)) (d3 (aY (aw 6 h_.nd) (aY (aw 7 h_.nd) c4))) (ao (lU 5 (bP (N':=o8) (own:=["_law_place"]) (lo:=8) (cu (jq rfl m.range (aa (ab 7) (aa (b_ m.len (aa (ab 1) ae)) ae)))) (fun _ _ _ _=>(aw 8 (show (o8 ++ (["_law_place"]:List Str):List Str).Nodup by decide +kernel))) (fun _ _ _ _=>bX) (fun _ _ _ _=>(cK (aa (s_ (ab 6) (cK (aa (bu (ab 1) (ab 8)) ae))) (aa (cf (ab 8) au) ae))))))))
  (ao (aI 3 h_.nd (aG (qA 5)))))))
  (ao (fY (bP (N':=(["_law_many","_law_pairs","_law_one","_law_rows","_law_turn","_law_longer","?6","?7"]:List Str)) (own:=["_law_row","_law_at"]) (lo:=8) (cu (dN (ab 3))) (fun _ _ _ _=>(d3 (aY (aw 8 (show ((["_law_many","_law_pairs","_law_one","_law_rows","_law_turn","_law_longer","?6","?7"]:List Str) ++ (["_law_row","_law_at"]:List Str):List Str).Nodup by decide +kernel)) (aY (aw 9 (show ((["_law_many","_law_pairs","_law_one","_law_rows","_law_turn","_law_longer","?6","?7"]:List Str) ++ (["_law_row","_law_at"]:List Str):List Str).Nodup by decide +kernel)) c4)))) (fun _ _ _ _=>bX) (fun _ _ _ _=>(ab 8)))))))))
abbrev pL:Stmt:=top 34
abbrev vJ:List Str:=["_law_script","_law_k","_law_box_here","_law_layout_here","_law_due","_law_tree","_law_turn","_law_found","_law_many","_law_first"]
theorem eS:az vJ ["_law_script"] (ak pL):=⟨rfl,rfl,rfl,by decide +kernel,rfl,by decide +kernel,by decide +kernel⟩
def rP:M Fl :=
 (aE (
  do let it <- (mC bT (af (mC iR (af (pure (.int 1)) (af (mC i9 (af (mC bW (af (ag 0) (pure []))) (af (pure (.int 2)) (pure [])))) (pure [])))) (pure [])));forM (ba 1) (aE (qp 2 (mC (aA 2 (eF oY mr)) (af (ag 0) (af (ag 1) (pure [])))))
  (aE (c_ 3 (do let _ <- aO 2;cq 2 3 (bL pQ xi) (af (pure (.int 7)) (af (pure (.int 6)) (pure [])))))
  (aE (qp 4 (di (pure [])))
  (aE (
  do let it <- (do let x <- (do let xs <- (mC (aA 1 (eF o8 wM)) (af (mC bW (af (m2 e_ (ag 3) (pure (.int 1))) (pure []))) (pure [])));pure (D.lst xs));lift (bO x));forM (ba 5) (ia (mY (do let x <- (mC (aA 2 (aU oZ lA)) (af (ag 5) (af (do let xs <- (mC j8 (af (mC bW (af (m2 e_ (ag 3) (pure (.int 1))) (pure []))) (pure [])));pure (D.lst xs)) (pure []))));lift (iz x)) (do let x <- (mC (aA 2 (aU p8 t5)) (af (ag 3) (af (ag 5) (pure []))));lift (iz x))) (eO 4 (af (ag 5) (pure []))) (pure .nx)) it.2 it.1)
  (aE (
  do let it <- (mC bT (af (pure (.int 2)) (pure [])));forM (ba 6) (aE (qp 7 (mC (aA 1 (eF k4 pE)) (af (ag 3) (pure []))))
  (aE (ia (Du (pf (do let x <- (vT .lst 7);lift (iz x))) ((qa (qd true) (oy 7) (oy 4)) >>= dG)) (do let d <- (pure (.bl false));pure (Fl.rt d)) (pure .nx))
  (eO 7 (af (fU (pure [])) (pure []))))) it.2 it.1)
  (aE (c_ 8 (mC (aA 1 (aU zT vF)) (af (ag 3) (pure []))))
  (aE (ia (Du (pf (do let x <- (mC (aA 1 (aU zm vg)) (af (ag 8) (pure [])));lift (iz x))) (m2 (b9 true) (ag 8) (jK 4) >>= dG)) (do let d <- (pure (.bl false));pure (Fl.rt d)) (pure .nx))
  (aE (c_ 9 (mC (aA 1 (aU ve t7)) (af (ag 3) (pure []))))
  (ia (Du ((m2 (iC true) (m2 (xp false) (ag 9) (pure .non)) (qa (qd false) (oy 4) (do let x <- (do let xs <- (di (pure []));pure (D.lst xs));pure (Hn.th x)))) >>= dG) (mY ((qa (qd true) (oy 4) (do let x <- (do let xs <- (di (pure []));pure (D.lst xs));pure (Hn.th x))) >>= dG) ((m2 (iC true) (ag 9) (uA 4 (pure (.int 0)))) >>= dG))) (do let d <- (pure (.bl false));pure (Fl.rt d)) (pure .nx)))))))))) it.2 it.1)
  (do let d <- (pure (.bl true));pure (Fl.rt d)))
theorem Fg {k:Nat} (m:Bi mg) (G_q22:iu P w K mg base k) (G_q13:eL P w K mg base k) (G_q9:fQ P w K mg base k) (G_q5:eU P w K mg base k) (G_q6:fS P w K mg base k) (G_q8:fV P w K mg base k) (G_q2:cz P w K mg base k) (G_q1:c8 P w K mg base k) (G_q0:df P w K mg base k) (f:Addr) (cdv:Value) (A:Around) (outer:List Env) (s:Shared) (H:Hp) (E:XK) (hr:bU k (A.deeper (PyProof.Rows.envOfC "law" (ak pL) s.heap.objs.size f cdv))):og (gZ cV P w K mg base vJ "law" (ak pL) f cdv A outer s H E).nox (bG pL) rP :=
  (ah (c6 (aX rfl m.range (aa (m8 m.max (aa au (aa (m4 m.min (aa (b_ m.len (aa (ab 0) ae)) (aa au ae))) ae))) ae)) (aw 1 eS.nd) (ah (dX 2 eS.nd (fg G_q22 hr (aa (ab 0) (aa (ab 1) ae))))
  (ah (aI 3 eS.nd (aH 2 G_q5 hr (aa au (aa au ae))))
  (ah (dX 4 eS.nd (bB ae))
  (ah (c6 (dN (aG (fg G_q6 hr (aa (b_ m.len (aa (bu (ab 3) au) ae)) ae)))) (aw 5 eS.nd) (ao (cn (nD (ji (eo (aR G_q13 hr (aa (ab 5) (aa (aG (ph m.list m.range (aa (b_ m.len (aa (bu (ab 3) au) ae)) ae))) ae)))) (iH (eo (aR G_q9 hr (aa (ab 3) (aa (ab 5) ae))))))) (ao (ff 4 (aa (ab 5) ae))) bj)))
  (ah (c6 (aX rfl m.range (aa au ae)) (aw 6 eS.nd) (ah (dX 7 eS.nd (fg G_q2 hr (aa (ab 3) ae)))
  (ah (cn (nD (tu (j9 (eo (yu .lst 7 m.isinstance m.list))) (nY (qq hr (k3 7) (k3 4))))) (ao (a_ j6)) bj)
  (ao (ff 7 (aa (cK ae) ae))))))
  (ah (aI 8 eS.nd (aR G_q0 hr (aa (ab 3) ae)))
  (ah (cn (nD (tu (j9 (eo (aR G_q8 hr (aa (ab 8) ae)))) (nY (Dm (ab 8) (iJ 4 m.len))))) (ao (a_ j6)) bj)
  (ah (aI 9 eS.nd (aR G_q1 hr (aa (ab 3) ae)))
  (ao (cn (nD (tu (h9 hr (DU (ab 9) u_) (DD hr (k3 4) (gi (aG (bB ae))))) (nY (nD (ji (qq hr (k3 4) (gi (aG (bB ae)))) (iH (h9 hr (ab 9) (qK 4 au)))))))) (ao (a_ j6)) bj)))))))))))
  (ao (a_ j6)))
end
end K22
namespace K22
inductive cX (E:List (Nat × Nat)):Nat->Nat->Prop
 | refl (a:Nat):cX E a a
 | step {a b c:Nat}:((a,b) ∈ E ∨ (b,a) ∈ E)->cX E b c->cX E a c
theorem cX.trans {E:List (Nat × Nat)} {a b c:Nat} (h:cX E a b) (g:cX E b c):cX E a c:= by
 induction h with
 | refl=>exact g
 | step e _ ih=>exact .step e (ih g)
theorem cX.one {E:List (Nat × Nat)} {a b:Nat} (h:(a,b) ∈ E ∨ (b,a) ∈ E):cX E a b:=.step h (.refl b)
theorem cX.symm {E:List (Nat × Nat)} {a b:Nat} (h:cX E a b):cX E b a:= by
 induction h with
 | refl=>exact .refl _
 | step e _ ih=>exact ih.trans (.one e.symm)
theorem cX.mono {E F:List (Nat × Nat)} (s:∀ e ∈ E,e ∈ F) {a b:Nat} (h:cX E a b):cX F a b:= by
 induction h with
 | refl=>exact .refl _
 | step e _ ih=>exact .step (e.imp (s _) (s _)) ih
theorem cX.nil {a b:Nat} (h:cX [] a b):a=b:= by
 cases h with
 | refl=>rfl
 | step e _=>rcases e with e | e <;> cases e
theorem o_ {E:List (Nat × Nat)} {u v a b:Nat}:cX ((u,v) :: E) a b ↔ cX E a b ∨ (cX E a u∧cX E v b) ∨ (cX E a v∧cX E u b):= by
 constructor
 ·intro h
  induction h with
  | refl=>exact .inl (.refl _)
  | @step a b c e _ ih=>
   have e':(a=u∧b=v) ∨ (a=v∧b=u) ∨ (a,b) ∈ E ∨ (b,a) ∈ E:= by
    rcases e with e | e
    ·rcases List.mem_cons.mp e with e | e
     ·cases e;exact .inl ⟨rfl,rfl⟩
     ·exact .inr (.inr (.inl e))
    ·rcases List.mem_cons.mp e with e | e
     ·cases e;exact .inr (.inl ⟨rfl,rfl⟩)
     ·exact .inr (.inr (.inr e))
   rcases e' with ⟨rfl,rfl⟩ | ⟨rfl,rfl⟩ | e
   ·rcases ih with h | ⟨_,h⟩ | ⟨_,h⟩
    ·exact .inr (.inl ⟨.refl _,h⟩)
    ·exact .inr (.inl ⟨.refl _,h⟩)
    ·exact .inl h
   ·rcases ih with h | ⟨_,h⟩ | ⟨_,h⟩
    ·exact .inr (.inr ⟨.refl _,h⟩)
    ·exact .inl h
    ·exact .inr (.inr ⟨.refl _,h⟩)
   ·rcases ih with h | ⟨h1,h2⟩ | ⟨h1,h2⟩
    ·exact .inl (.step e h)
    ·exact .inr (.inl ⟨.step e h1,h2⟩)
    ·exact .inr (.inr ⟨.step e h1,h2⟩)
 ·have m:∀ e ∈ E,e ∈ (u,v) :: E:=fun e he=>List.mem_cons_of_mem _ he
  have uv:cX ((u,v) :: E) u v:=.one (.inl List.mem_cons_self)
  rintro (h | ⟨h1,h2⟩ | ⟨h1,h2⟩)
  ·exact h.mono m
  ·exact (h1.mono m).trans (uv.trans (h2.mono m))
  ·exact (h1.mono m).trans (uv.symm.trans (h2.mono m))
def BB (f:Nat->Nat) (E:List (Nat × Nat)):Prop:=∀ a b,f a=f b ↔ cX E a b
def Ax (f:Nat->Nat) (u v:Nat):Nat->Nat:=fun a=>if f a=f u then f v else f a
theorem yy:BB id []:=fun a b=>⟨fun h=>by cases h;exact .refl _,fun h=>h.nil⟩
theorem rB {f:Nat->Nat} {E:List (Nat × Nat)} (L:BB f E) (u v:Nat):BB (Ax f u v) ((u,v) :: E):=fun a b=>by
 rw [o_,<- L a b,<- L a u,<- L v b,<- L a v,<- L u b]
 unfold Ax
 by_cases h1:f a=f u <;> by_cases h2:f b=f u
 ·simp [h1,h2]
 ·simp [h1,h2]
  constructor
  ·exact fun h=>.inr (.inl h)
  ·rintro (h | h | ⟨_,h⟩)
   ·exact absurd h.symm h2
   ·exact h
   ·exact absurd h.symm h2
 ·simp [h1,h2]
 ·have h3:¬ f u=f b:=fun z=>h2 z.symm
  simp [h1,h2,h3]
theorem gn:∀ E:List (Nat × Nat),∃ f,BB f E
 | []=>⟨id,yy⟩
 | (u,v) :: E=>by
  obtain ⟨f,L⟩:=gn E
  exact ⟨_,rB L u v⟩
def uq:List Nat->List Nat
 | []=>[]
 | x :: l=>if x ∈ l then uq l else x :: uq l
theorem dm {a:Nat}:∀ {l:List Nat},a ∈ uq l ↔ a ∈ l
 | []=>Iff.rfl
 | x :: l=>by
  unfold uq
  split
  ·rename_i h
   rw [dm,List.mem_cons]
   exact ⟨.inr,fun z=>z.elim (fun e=>e ▸ h) id⟩
  ·rw [List.mem_cons,dm,List.mem_cons]
theorem k0:∀ l:List Nat,(uq l).Nodup
 | []=>List.nodup_nil
 | x :: l=>by
  unfold uq
  split
  ·exact k0 l
  ·rename_i h
   exact List.nodup_cons.mpr ⟨fun z=>h (dm.mp z),k0 l⟩
theorem AQ:∀ {l:List Nat},l.Nodup->uq l=l
 | [],_=>rfl
 | x :: l,h=>by
  have h:=List.nodup_cons.mp h
  unfold uq
  rw [if_neg h.1,AQ h.2]
def cls (f:Nat->Nat) (V:List Nat):Nat:=(uq (V.map f)).length
theorem kL {f g:Nat->Nat}:∀ {V:List Nat},(∀ a ∈ V,∀ b ∈ V,f a=f b ↔ g a=g b)->cls f V=cls g V
 | [],_=>rfl
 | x :: V,h=>by
  have ih:=kL (f:=f) (g:=g) (V:=V) fun a ha b hb=>h a (List.mem_cons_of_mem _ ha) b (List.mem_cons_of_mem _ hb)
  have e:f x ∈ V.map f ↔ g x ∈ V.map g:= by
   rw [List.mem_map,List.mem_map]
   constructor
   ·rintro ⟨y,hy,e⟩
    exact ⟨y,hy,(h y (List.mem_cons_of_mem _ hy) x List.mem_cons_self).mp e⟩
   ·rintro ⟨y,hy,e⟩
    exact ⟨y,hy,(h y (List.mem_cons_of_mem _ hy) x List.mem_cons_self).mpr e⟩
  unfold cls at *
  rw [List.map_cons,List.map_cons]
  unfold uq
  by_cases q:f x ∈ V.map f
  ·rw [if_pos q,if_pos (e.mp q)];exact ih
  ·rw [if_neg q,if_neg fun z=>q (e.mpr z),List.length_cons,List.length_cons,ih]
theorem z_ {f:Nat->Nat} {V:List Nat} {u v:Nat} (hu:u ∈ V) (hv:v ∈ V) (h:f u ≠ f v):cls (Ax f u v) V + 1=cls f V:= by
 have p:(uq (V.map (Ax f u v)) ++ [f u]).Perm (uq (V.map f)):= by
  refine (List.perm_ext_iff_of_nodup (List.nodup_append.mpr ⟨k0 _,by simp,?_⟩) (k0 _)).mpr fun a=>?_
  ·intro a ha b hb e
   rw [List.mem_singleton.mp hb] at e
   subst e
   obtain ⟨y,_,e⟩:=List.mem_map.mp (dm.mp ha)
   unfold Ax at e
   split at e
   ·exact h e.symm
   ·rename_i q;exact q e
  ·rw [List.mem_append,dm,dm,List.mem_map,List.mem_map,List.mem_singleton]
   constructor
   ·rintro (⟨y,hy,e⟩ | rfl)
    ·unfold Ax at e
     split at e
     ·exact ⟨v,hv,e⟩
     ·exact ⟨y,hy,e⟩
    ·exact ⟨u,hu,rfl⟩
   ·rintro ⟨y,hy,rfl⟩
    by_cases q:f y=f u
    ·exact .inr q
    ·exact .inl ⟨y,hy,if_neg q⟩
 have:=p.length_eq
 rw [List.length_append] at this
 exact this
theorem qP {f:Nat->Nat} {V:List Nat}:cls f V ≤ 1 ↔ ∀ a ∈ V,∀ b ∈ V,f a=f b:= by
 constructor
 ·intro h a ha b hb
  have h1:f a ∈ uq (V.map f):=dm.mpr (List.mem_map.mpr ⟨a,ha,rfl⟩)
  have h2:f b ∈ uq (V.map f):=dm.mpr (List.mem_map.mpr ⟨b,hb,rfl⟩)
  unfold cls at h
  match e:uq (V.map f),h with
  | [],_=>rw [e] at h1;cases h1
  | [x],_=>
   rw [e] at h1 h2
   rw [List.mem_singleton.mp h1,List.mem_singleton.mp h2]
  | _ :: _ :: _,h=>simp at h
 ·intro h
  unfold cls
  match e:uq (V.map f) with
  | []=>simp
  | [x]=>simp
  | x :: y :: r=>
   have hx:x ∈ uq (V.map f):=by rw [e];simp
   have hy:y ∈ uq (V.map f):=by rw [e];simp
   obtain ⟨a,ha,ea⟩:=List.mem_map.mp (dm.mp hx)
   obtain ⟨b,hb,eb⟩:=List.mem_map.mp (dm.mp hy)
   have nd:=k0 (V.map f)
   rw [e] at nd
   have:=(List.nodup_cons.mp nd).1
   exact absurd (by rw [<- ea,<- eb,h a ha b hb];simp) this
def dh (E:List (Nat × Nat)):Prop:=∀ k,(h:k < E.length)->¬ cX (E.take k) E[k].1 E[k].2
theorem dh.sub {E:List (Nat × Nat)} {p:Nat × Nat->Bool} (h:dh E):dh (E.filter p):= by
 have gen:∀ (F:List (Nat × Nat)),dh F->dh (F.filter p):= by
  intro F
  have rev:∀ (n:Nat) (F:List (Nat × Nat)),F.length=n->dh F->dh (F.filter p):= by
   intro n
   induction n with
   | zero=>
    intro F hl _
    rw [List.eq_nil_of_length_eq_zero hl]
    intro k hk
    simp at hk
   | succ n ih=>
    intro F hl hF
    have hne:F ≠ []:=fun z=>by rw [z] at hl;cases hl
    have e:=List.dropLast_concat_getLast hne
    generalize hG:F.dropLast=G at *
    generalize hx:F.getLast hne=x at *
    have lG:G.length=n:=by rw [<- hG,List.length_dropLast,hl];rfl
    have fG:dh G:=fun k hk z=>by
     have hk':k < F.length:=by omega
     refine hF k hk' ?_
     have e1:F.take k=G.take k:=by rw [<- e,List.take_append_of_le_length (by omega)]
     have e2:F[k]=G[k]:= by
      have:F[k]? = G[k]?:=by rw [<- e,List.getElem?_append_left hk]
      rw [List.getElem?_eq_getElem hk',List.getElem?_eq_getElem hk] at this
      exact Option.some.inj this
     rw [e1,e2];exact z
    have nx:¬ cX G x.1 x.2:=fun z=>by
     have hk':n < F.length:=by omega
     refine hF n hk' ?_
     have e1:F.take n=G:=by rw [<- e,List.take_append_of_le_length (by omega),<- lG,List.take_length]
     have e2:F[n]=x:= by
      have:F[n]? = some x:=by rw [<- e,List.getElem?_append_right (by omega),lG];simp
      rw [List.getElem?_eq_getElem hk'] at this
      exact Option.some.inj this
     rw [e1,e2];exact z
    have ih:=ih G lG fG
    rw [<- e,List.filter_append]
    cases hp:p x with
    | false=>simpa [hp] using ih
    | true=>
     have:[x].filter p=[x]:=by simp [hp]
     rw [this]
     intro k hk
     rw [List.length_append,List.length_singleton] at hk
     by_cases q:k < (G.filter p).length
     ·rw [List.take_append_of_le_length (by omega),List.getElem_append_left q]
      exact ih k q
     ·have:k=(G.filter p).length:=by omega
      subst this
      rw [List.take_append_of_le_length (Nat.le_refl _),List.take_length,List.getElem_append_right (Nat.le_refl _)]
      simp only [Nat.sub_self,List.getElem_cons_zero]
      exact fun z=>nx (z.mono fun e he=>(List.mem_filter.mp he).1)
  exact rev _ F rfl
 exact gen E h
theorem ja {V:List Nat} (nd:V.Nodup):∀ (E:List (Nat × Nat)) (k:Nat),(∀ e ∈ E,e.1 ∈ V∧e.2 ∈ V)->k ≤ E.length->∀ f,BB f (E.take k)->V.length ≤ cls f V + k∧((∀ j,(h:j < E.length)->j < k->¬ cX (E.take j) E[j].1 E[j].2) ↔ cls f V + k=V.length)
 | E,0,hE,hk,f,L=>by
  have e:cls f V=V.length:= by
   have:=kL (f:=f) (g:=id) (V:=V) fun a _ b _=>by
    rw [L a b]
    exact ⟨fun h=>by rw [List.take_zero] at h;exact h.nil,fun h=>by cases h;exact .refl _⟩
   rw [this]
   unfold cls
   rw [List.map_id,AQ nd]
  rw [e]
  exact ⟨by omega,⟨fun _=>by omega,fun _ j _ hj=>by omega⟩⟩
 | E,k + 1,hE,hk,f,L=>by
  have hk':k < E.length:=by omega
  obtain ⟨g,Lg⟩:=gn (E.take k)
  obtain ⟨i1,i2⟩:=ja nd E k hE (by omega) g Lg
  obtain ⟨mu,mv⟩:=hE _ (List.getElem_mem hk')
  have tk:E.take (k + 1)=E.take k ++ [E[k]]:=List.take_succ_eq_append_getElem hk'
  have L2:=rB Lg E[k].1 E[k].2
  have same:cls f V=cls (Ax g E[k].1 E[k].2) V:=kL fun a _ b _=>by
   rw [L a b,L2 a b,tk]
   constructor
   ·exact cX.mono fun e he=>by
     rcases List.mem_append.mp he with he | he
     ·exact List.mem_cons_of_mem _ he
     ·rw [List.mem_singleton.mp he];exact List.mem_cons_self
   ·exact cX.mono fun e he=>by
     rcases List.mem_cons.mp he with he | he
     ·rw [he];exact List.mem_append.mpr (.inr (List.mem_singleton.mpr rfl))
     ·exact List.mem_append.mpr (.inl he)
  by_cases q:g E[k].1=g E[k].2
  ·have e:Ax g E[k].1 E[k].2=g:= by
    funext a
    unfold Ax
    split
    ·rename_i z;rw [z,q]
    ·rfl
   rw [same,e]
   refine ⟨by omega,⟨fun h=>absurd ((Lg _ _).mp q) (h k hk' (by omega)),fun h=>by omega⟩⟩
  ·have c:=z_ (f:=g) mu mv q
   rw [same]
   refine ⟨by omega,?_⟩
   constructor
   ·intro h
    have:=i2.mp fun j hj hjk=>h j hj (by omega)
    omega
   ·intro h j hj hjk
    by_cases e:j=k
    ·subst e
     exact fun z=>q ((Lg _ _).mpr z)
    ·exact i2.mpr (by omega) j hj (by omega)
theorem dq {V:List Nat} (nd:V.Nodup) {E:List (Nat × Nat)} (hE:∀ e ∈ E,e.1 ∈ V∧e.2 ∈ V) {f:Nat->Nat} (L:BB f E):V.length ≤ cls f V + E.length∧(dh E ↔ cls f V + E.length=V.length):= by
 have h:=ja nd E E.length hE (Nat.le_refl _) f (by rw [List.take_length];exact L)
 exact ⟨h.1,⟨fun z=>h.2.mp fun j hj _=>z j hj,fun z j hj=>h.2.mpr z j hj hj⟩⟩
def Ed (E:List (Nat × Nat)) (V:List Nat):Prop:=∀ a ∈ V,∀ b ∈ V,cX E a b
theorem n9 {E:List (Nat × Nat)} {V:List Nat} {f:Nat->Nat} (L:BB f E):Ed E V ↔ cls f V ≤ 1:= by
 rw [qP]
 exact ⟨fun h a ha b hb=>(L a b).mpr (h a ha b hb),fun h a ha b hb=>(L a b).mp (h a ha b hb)⟩
theorem nF {f:Nat->Nat} {V:List Nat} (h:V ≠ []):1 ≤ cls f V:= by
 unfold cls
 cases V with
 | nil=>exact absurd rfl h
 | cons x V=>
  refine List.length_pos_of_mem (a:=f x) (dm.mpr ?_)
  simp
theorem vM {V:List Nat} (nd:V.Nodup) (hne:V ≠ []) {E:List (Nat × Nat)} (hE:∀ e ∈ E,e.1 ∈ V∧e.2 ∈ V) (hl:E.length + 1=V.length):dh E ↔ Ed E V:= by
 obtain ⟨f,L⟩:=gn E
 have h:=dq nd hE L
 have p:=nF (f:=f) hne
 rw [h.2,n9 L]
 omega
end K22
namespace K22
abbrev Pr:=Nat × Nat
theorem xR {f g:Nat->Nat}:∀ {V:List Nat},(∀ a ∈ V,∀ b ∈ V,f a=f b->g a=g b)->cls g V ≤ cls f V
 | [],_=>Nat.le_refl _
 | x :: V,h=>by
  have ih:=xR (f:=f) (g:=g) (V:=V) fun a ha b hb=>h a (List.mem_cons_of_mem _ ha) b (List.mem_cons_of_mem _ hb)
  unfold cls at *
  rw [List.map_cons,List.map_cons]
  unfold uq
  by_cases q:f x ∈ V.map f
  ·have q':g x ∈ V.map g:= by
    obtain ⟨y,hy,e⟩:=List.mem_map.mp q
    exact List.mem_map.mpr ⟨y,hy,h y (List.mem_cons_of_mem _ hy) x List.mem_cons_self e⟩
   rw [if_pos q,if_pos q'];exact ih
  ·rw [if_neg q,List.length_cons]
   split
   ·omega
   ·rw [List.length_cons];omega
theorem xP {E F:List Pr} (h:∀ e ∈ E,cX F e.1 e.2) {a b:Nat} (r:cX E a b):cX F a b:= by
 induction r with
 | refl a=>exact .refl a
 | step z _ ih=>
  rcases z with z | z
  ·exact (h _ z).trans ih
  ·exact (h _ z).symm.trans ih
theorem fM {E:List Pr} {e:Pr} (h:e ∈ E):cX E e.1 e.2:=.one (.inl h)
theorem jY:dh []:=fun k h=>absurd h (by simp)
theorem iL {A B:List Pr} (h:dh (A ++ B)):dh A:=fun k hk=>by
 have:=h k (by simp;omega)
 rw [List.take_append_of_le_length (by omega),List.getElem_append_left hk] at this
 exact this
theorem gp {T:List Pr} {e:Pr}:dh (T ++ [e]) ↔ dh T∧¬ cX T e.1 e.2:= by
 constructor
 ·intro h
  refine ⟨iL h,?_⟩
  have:=h T.length (by simp)
  rw [List.take_append_of_le_length (Nat.le_refl _),List.take_length,List.getElem_append_right (Nat.le_refl _)] at this
  simpa using this
 ·rintro ⟨h1,h2⟩ k hk
  by_cases hk':k < T.length
  ·rw [List.take_append_of_le_length (by omega),List.getElem_append_left hk']
   exact h1 k hk'
  ·have:k=T.length:=by simp at hk;omega
   subst this
   rw [List.take_append_of_le_length (Nat.le_refl _),List.take_length,List.getElem_append_right (Nat.le_refl _)]
   simpa using h2
def ends (E:List Pr):List Nat:=uq (E.map (·.1) ++ E.map (·.2))
theorem iG {E:List Pr} {e:Pr} (h:e ∈ E):e.1 ∈ ends E∧e.2 ∈ ends E :=
 ⟨dm.mpr (List.mem_append.mpr (.inl (List.mem_map.mpr ⟨e,h,rfl⟩))),dm.mpr (List.mem_append.mpr (.inr (List.mem_map.mpr ⟨e,h,rfl⟩)))⟩
theorem B6 {E F:List Pr} (hE:dh E) (hF:dh F) (h:∀ e ∈ E,cX F e.1 e.2):E.length ≤ F.length:= by
 obtain ⟨f,Lf⟩:=gn E
 obtain ⟨g,Lg⟩:=gn F
 have nd:(ends (E ++ F)).Nodup:=k0 _
 have c1:=(dq nd (fun e he=>iG (List.mem_append.mpr (.inl he))) Lf).2.mp hE
 have c2:=(dq nd (fun e he=>iG (List.mem_append.mpr (.inr he))) Lg).2.mp hF
 have c3:=xR (f:=f) (g:=g) (V:=ends (E ++ F)) fun a _ b _ e=>(Lg a b).mpr (xP h ((Lf a b).mp e))
 omega
theorem iW {E F:List Pr} (p:E.Perm F) (h:dh E):dh F:= by
 obtain ⟨f,Lf⟩:=gn E
 have Lg:BB f F:=fun a b=>(Lf a b).trans ⟨cX.mono fun e he=>p.mem_iff.mp he,cX.mono fun e he=>p.mem_iff.mpr he⟩
 have nd:(ends E).Nodup:=k0 _
 have c1:=(dq nd (fun e he=>iG he) Lf).2.mp h
 refine (dq nd (fun e he=>iG (p.mem_iff.mpr he)) Lg).2.mpr ?_
 rw [<- p.length_eq];exact c1
theorem mL {E:List Pr} (h:dh E):E.Nodup:= by
 rw [List.nodup_iff_pairwise_ne,List.pairwise_iff_getElem]
 intro i j hi hj hij e
 refine h j hj ?_
 rw [<- e]
 refine fM ?_
 rw [List.mem_take_iff_getElem]
 exact ⟨i,by omega,rfl⟩
open Classical in
def cY:List Pr->List Pr->List Pr
 | [],_=>[]
 | e :: r,T=>if cX T e.1 e.2 then cY r T else e :: cY r (T ++ [e])
theorem iK:∀ (L T:List Pr),(cY L T).Sublist L
 | [],T=>.slnil
 | e :: r,T=>by
  unfold cY
  split
  ·exact (iK r T).cons _
  ·exact (iK r _).cons_cons _
theorem gQ:∀ {L T:List Pr},dh T->dh (T ++ cY L T)
 | [],T,h=>by unfold cY;rw [List.append_nil];exact h
 | e :: r,T,h=>by
  unfold cY
  split
  ·exact gQ h
  ·rename_i n
   have:=gQ (L:=r) (gp.mpr ⟨h,n⟩)
   rw [List.append_assoc] at this
   exact this
theorem jc:∀ {L T:List Pr},∀ e ∈ L,cX (T ++ cY L T) e.1 e.2
 | [],_,e,he=>nomatch he
 | x :: r,T,e,he=>by
  unfold cY
  split
  ·rename_i z
   rcases List.mem_cons.mp he with rfl | he
   ·exact z.mono fun e he=>List.mem_append.mpr (.inl he)
   ·exact jc e he
  ·rcases List.mem_cons.mp he with rfl | he
   ·exact fM (List.mem_append.mpr (.inr List.mem_cons_self))
   ·have:=jc (L:=r) (T:=T ++ [x]) e he
    rw [List.append_assoc] at this
    exact this
theorem r_ {e:Pr} {r T:List Pr} (h:cX T e.1 e.2):cY (e :: r) T=cY r T:=by rw [cY,if_pos h]
theorem sg {e:Pr} {r T:List Pr} (h:¬ cX T e.1 e.2):cY (e :: r) T=e :: cY r (T ++ [e]):=by rw [cY,if_neg h]
theorem jV:∀ (A B T:List Pr),cY (A ++ B) T=cY A T ++ cY B (T ++ cY A T)
 | [],B,T=>by simp [cY]
 | e :: r,B,T=>by
  rw [List.cons_append]
  by_cases h:cX T e.1 e.2
  ·rw [r_ h,r_ h];exact jV r B T
  ·rw [sg h,sg h,jV r B (T ++ [e]),List.cons_append,List.append_assoc];rfl
def wt (w:Pr->Int) (L:List Pr):Int:=(L.map w).sum
theorem cy (w:Pr->Int) (e:Pr) (L:List Pr):wt w (e :: L)=w e + wt w L:=by simp [wt]
theorem tF {w:Pr->Int} {A B:List Pr} (p:A.Perm B):wt w A=wt w B:= by
 induction p with
 | nil=>rfl
 | cons x _ ih=>rw [cy,cy,ih]
 | swap x y l=>rw [cy,cy,cy,cy];omega
 | trans _ _ h1 h2=>exact h1.trans h2
theorem EU (w:Pr->Int) (p q:Pr->Bool):∀ (L:List Pr) (d w0:Int),0 ≤ d->L.Pairwise (fun a b=>w b ≤ w a)->(∀ e ∈ L,0 ≤ w e∧w e ≤ w0)->(∀ k,(((L.take k).filter p).length:Int) ≤ d + ((L.take k).filter q).length) ->
  0 ≤ w0->wt w (L.filter p) ≤ d * w0 + wt w (L.filter q)
 | [],d,w0,hd,_,_,_,h0=>by
  have:=Int.mul_nonneg hd h0
  simpa [wt] using this
 | e :: r,d,w0,hd,hs,hw,hk,h0=>by
  have hs':=List.pairwise_cons.mp hs
  obtain ⟨w1,w2⟩:=hw e List.mem_cons_self
  have m0:d * w e ≤ d * w0:=Int.mul_le_mul_of_nonneg_left w2 hd
  have k1:=hk 1
  have next:∀ d':Int,0 ≤ d' -> (∀ k,(((r.take k).filter p).length:Int) ≤ d' + ((r.take k).filter q).length)->wt w (r.filter p) ≤ d' * w e + wt w (r.filter q):=fun d' h1 h2=>
   EU w p q r d' (w e) h1 hs'.2 (fun x hx=>⟨(hw x (List.mem_cons_of_mem _ hx)).1,hs'.1 x hx⟩) h2 w1
  cases hp:p e <;> cases hq:q e
  ·have h:=next d hd fun k=>by have:=hk (k + 1);simpa [hp,hq] using this
   simp only [List.filter_cons,hp,hq,Bool.false_eq_true,if_false]
   omega
  ·have h:=next (d + 1) (by omega) fun k=>by
    have:=hk (k + 1)
    simp [hp,hq] at this ⊢
    omega
   simp only [List.filter_cons,hp,hq,Bool.false_eq_true,if_false,if_true,cy]
   rw [Int.add_mul,Int.one_mul] at h
   omega
  ·have h1:0 ≤ d - 1:=by simp [hp,hq] at k1;omega
   have h:=next (d - 1) h1 fun k=>by
    have:=hk (k + 1)
    simp [hp,hq] at this ⊢
    omega
   simp only [List.filter_cons,hp,hq,Bool.false_eq_true,if_false,if_true,cy]
   rw [Int.sub_mul,Int.one_mul] at h
   omega
  ·have h:=next d hd fun k=>by
    have:=hk (k + 1)
    simp [hp,hq] at this ⊢
    omega
   simp only [List.filter_cons,hp,hq,if_true,cy]
   omega
theorem oW {L C:List Pr} (nd:L.Nodup) (ndC:C.Nodup) (h:∀ e ∈ C,e ∈ L):(L.filter fun e=>decide (e ∈ C)).Perm C:= by
 refine (List.perm_ext_iff_of_nodup (nd.filter _) ndC).mpr fun e=>?_
 rw [List.mem_filter,decide_eq_true_eq]
 exact ⟨fun z=>z.2,fun z=>⟨h e z,z⟩⟩
theorem ke {A B T:List Pr} (nd:(A ++ B).Nodup):A.filter (fun e=>decide (e ∈ cY (A ++ B) T))=cY A T:= by
 have e1:A.filter (fun e=>decide (e ∈ cY (A ++ B) T))=A.filter fun e=>decide (e ∈ cY A T):= by
  refine List.filter_congr fun e he=>?_
  rw [jV,decide_eq_decide,List.mem_append]
  refine ⟨fun z=>z.elim id fun z=>?_,.inl⟩
  have hb:=(iK B _).mem z
  exact absurd rfl ((List.nodup_append.mp nd).2.2 e he e hb)
 rw [e1]
 have gen:∀ {S L:List Pr},L.Nodup->S.Sublist L->L.filter (fun e=>decide (e ∈ S))=S:= by
  intro S L nd sl
  induction sl with
  | slnil=>rfl
  | cons a sl ih=>
   rename_i l1 l2
   have nd':=List.nodup_cons.mp nd
   rw [List.filter_cons,if_neg (by simpa using fun z=>nd'.1 (sl.mem z)),ih nd'.2]
  | cons_cons a sl ih=>
   rename_i l1 l2
   have nd':=List.nodup_cons.mp nd
   rw [List.filter_cons,if_pos (by simp)]
   congr 1
   rw [<- ih nd'.2]
   refine List.filter_congr fun e he=>?_
   rw [ih nd'.2,decide_eq_decide,List.mem_cons]
   exact ⟨fun z=>z.elim (fun q=>absurd (q ▸ he) nd'.1) id,.inr⟩
 exact gen (List.nodup_append.mp nd).1 (iK A T)
theorem xO {w:Pr->Int} {L T C:List Pr} (nd:L.Nodup) (hs:L.Pairwise fun a b=>w b ≤ w a) (hw:∀ e ∈ L,0 ≤ w e) (hT:dh T) (hC:dh (T ++ C)) (hm:∀ e ∈ C,e ∈ L):wt w C ≤ wt w (cY L T):= by
 have ndC:C.Nodup:=(List.nodup_append.mp (mL hC)).2.1
 have p:=oW nd ndC hm
 have hC':dh (T ++ L.filter fun e=>decide (e ∈ C)):=iW (p.symm.append_left T) hC
 obtain ⟨w0,h0,hw0⟩:∃ w0:Int,0 ≤ w0∧∀ e ∈ L,w e ≤ w0:= by
  cases L with
  | nil=>exact ⟨0,by omega,fun e he=>nomatch he⟩
  | cons x r=>exact ⟨w x,hw x List.mem_cons_self,fun e he=>by
    rcases List.mem_cons.mp he with rfl | he
    ·exact Int.le_refl _
    ·exact (List.pairwise_cons.mp hs).1 e he⟩
 have h:=EU w (fun e=>decide (e ∈ C)) (fun e=>decide (e ∈ cY L T)) L 0 w0 (Int.le_refl _) hs (fun e he=>⟨hw e he,hw0 e he⟩) (fun k=>?_) h0
 ·rw [tF p] at h
  have e:=ke (A:=L) (B:=[]) (T:=T) (by rw [List.append_nil];exact nd)
  rw [List.append_nil] at e
  rw [e] at h
  simpa using h
 ·have ndk:(L.take k ++ L.drop k).Nodup:=by rw [List.take_append_drop];exact nd
  have e:=ke (T:=T) ndk
  rw [List.take_append_drop] at e
  rw [e]
  have f1:dh (T ++ (L.take k).filter fun e=>decide (e ∈ C)):= by
   have:L.filter (fun e=>decide (e ∈ C))=(L.take k).filter (fun e=>decide (e ∈ C)) ++ (L.drop k).filter fun e=>decide (e ∈ C):=by rw [<- List.filter_append,List.take_append_drop]
   rw [this,<- List.append_assoc] at hC'
   exact iL hC'
  have:=B6 f1 (gQ (L:=L.take k) hT) fun e he=>by
   rcases List.mem_append.mp he with he | he
   ·exact fM (List.mem_append.mpr (.inl he))
   ·exact jc e (List.mem_filter.mp he).1
  rw [List.length_append,List.length_append] at this
  omega
end K22
namespace K22
def subs:Nat->List Pr->List (List Pr)
 | 0,_=>[[]]
 | k + 1,[]=>[]
 | k + 1,e :: r=>(subs k r).map (e :: ·) ++ subs (k + 1) r
theorem dE:∀ {k:Nat} {L X:List Pr},X ∈ subs k L->X.Sublist L∧X.length=k
 | 0,L,X,h=>by
  have:X=[]:=by cases L <;> simpa [subs] using h
  subst this
  exact ⟨List.nil_sublist _,rfl⟩
 | k + 1,[],X,h=>by simp [subs] at h
 | k + 1,e :: r,X,h=>by
  rw [subs,List.mem_append] at h
  rcases h with h | h
  ·obtain ⟨Y,hY,rfl⟩:=List.mem_map.mp h
   obtain ⟨a,b⟩:=dE hY
   exact ⟨a.cons_cons _,by simp [b]⟩
  ·obtain ⟨a,b⟩:=dE h
   exact ⟨a.cons _,b⟩
theorem sf (k:Nat):∀ L:List Pr,subs (k + 1) L=(List.range L.length).flatMap fun p=>(subs k (L.drop (p + 1))).map ((L.getD p (0,0)) :: ·)
 | []=>by simp [subs]
 | e :: r=>by
  rw [subs,sf k r,List.length_cons,List.range_succ_eq_map,List.flatMap_cons,List.flatMap_map]
  simp
section
variable (w:Pr->Int) (M:List Pr->Int)
open Classical in
def md:List Pr->List Pr->Int->List Pr
 | [],T,_=>T
 | e :: r,T,d=>if cX T e.1 e.2 then md r T d else if w e + M (T ++ [e])=d then md r (T ++ [e]) (d - w e) else md r T d
theorem AK {e:Pr} {r T:List Pr} {d:Int} (h:cX T e.1 e.2):md w M (e :: r) T d=md w M r T d:=by rw [md,if_pos h]
theorem A3 {e:Pr} {r T:List Pr} {d:Int} (h:¬ cX T e.1 e.2) (h2:w e + M (T ++ [e])=d):md w M (e :: r) T d=md w M r (T ++ [e]) (d - w e):=by rw [md,if_neg h,if_pos h2]
theorem Bo {e:Pr} {r T:List Pr} {d:Int} (h:¬ cX T e.1 e.2) (h2:w e + M (T ++ [e]) ≠ d):md w M (e :: r) T d=md w M r T d:=by rw [md,if_neg h,if_neg h2]
end
section
variable {w:Pr->Int} {SL PL:List Pr} {n:Nat}
structure Fm (w:Pr->Int) (SL PL:List Pr) (n:Nat):Prop where
 perm:SL.Perm PL
 nd:PL.Nodup
 ord:SL.Pairwise fun a b=>w b ≤ w a
 pos:∀ e ∈ PL,0 ≤ w e
 rng:∀ e ∈ PL,e.1 < n∧e.2 < n
 con:∀ a,a < n->∀ b,b < n->cX PL a b
 one:1 ≤ n
theorem Fm.ndS (F:Fm w SL PL n):SL.Nodup:=F.perm.nodup_iff.mpr F.nd
theorem Fm.most (F:Fm w SL PL n) {T C:List Pr} (hT:dh T) (hC:dh (T ++ C)) (hm:∀ e ∈ C,e ∈ PL):wt w C ≤ wt w (cY SL T) :=
 xO F.ndS F.ord (fun e he=>F.pos e (F.perm.mem_iff.mp he)) hT hC fun e he=>F.perm.mem_iff.mpr (hm e he)
theorem Fm.len (F:Fm w SL PL n) {E:List Pr} (hE:dh E) (hr:∀ e ∈ E,e.1 < n∧e.2 < n):E.length + 1 ≤ n∧((∀ e ∈ PL,cX E e.1 e.2)->E.length + 1=n):= by
 obtain ⟨f,L⟩:=gn E
 have c:=(dq List.nodup_range (fun e he=>⟨List.mem_range.mpr (hr e he).1,List.mem_range.mpr (hr e he).2⟩) L).2.mp hE
 rw [List.length_range] at c
 have p:=nF (f:=f) (V:=List.range n) (by intro z;have:=congrArg List.length z;rw [List.length_range,List.length_nil] at this;have:=F.one;omega)
 refine ⟨by omega,fun h=>?_⟩
 have:cls f (List.range n) ≤ 1:=(n9 L).mp fun a ha b hb=>xP h (F.con a (List.mem_range.mp ha) b (List.mem_range.mp hb))
 omega
def Pk (w:Pr->Int) (T:List Pr) (d:Int) (X:List Pr):Prop:=dh (T ++ X)∧wt w X=d
open Classical in
def Cq (w:Pr->Int) (T:List Pr) (d:Int) (k:Nat) (R:List Pr):Option (List Pr):=((subs k R).filter fun X=>decide (Pk w T d X)).head?
def HG (w:Pr->Int) (SL PL T R:List Pr):Prop:=∀ f ∈ PL,f ∉ R->∀ C,dh (T ++ C)->(∀ e ∈ C,e ∈ PL)->wt w C=wt w (cY SL T)->f ∉ C
theorem n5 (F:Fm w SL PL n) {T:List Pr}:∀ e ∈ cY SL T,e ∈ PL:=fun e he=>F.perm.mem_iff.mp ((iK SL T).mem he)
open Classical in
theorem f6 (F:Fm w SL PL n):∀ (R T:List Pr) (k:Nat),R.Sublist PL->dh T->(∀ e ∈ T,e ∈ PL)->HG w SL PL T R->k + T.length + 1=n ->
  ∃ X,Cq w T (wt w (cY SL T)) k R=some X∧md w (fun T=>wt w (cY SL T)) R T (wt w (cY SL T))=T ++ X
 | [],T,k,_,hT,hTP,hR,hk=>by
  have c1:cY SL T=[]:=List.eq_nil_iff_forall_not_mem.mpr fun e he=>hR e (n5 F e he) (by simp) _ (gQ hT) (n5 F) rfl he
  have sp:T.length + 1=n:= by
   refine (F.len hT fun e he=>F.rng e (hTP e he)).2 fun e he=>?_
   have:=jc (L:=SL) (T:=T) e (F.perm.mem_iff.mpr he)
   rwa [c1,List.append_nil] at this
  have:k=0:=by omega
  subst this
  refine ⟨[],?_,by simp [md]⟩
  unfold Cq
  rw [c1]
  simp [subs,Pk,hT,wt]
 | e :: r,T,k,hs,hT,hTP,hR,hk=>by
  have heP:e ∈ PL:=hs.mem List.mem_cons_self
  have hs':r.Sublist PL:=(List.sublist_cons_self e r).trans hs
  by_cases hc:cX T e.1 e.2
  ·rw [AK _ _ hc]
   have hnot:∀ C,dh (T ++ C)->e ∉ C:=fun C hC he=>by
    have:=iW (List.perm_append_comm (l₁:=T) (l₂:=C)) hC
    obtain ⟨A,B,rfl⟩:=List.append_of_mem he
    have p2:(T ++ (A ++ e :: B)).Perm (T ++ [e] ++ (A ++ B)):= by
     rw [List.append_assoc]
     refine List.Perm.append_left T ?_
     exact List.perm_middle
    exact (gp.mp (iL (iW p2 hC))).2 hc
   obtain ⟨X,h1,h2⟩:=f6 F r T k hs' hT hTP (fun f hf hfr C hC hCP hw hfC=>by
    by_cases q:f=e
    ·subst q;exact hnot C hC hfC
    ·exact hR f hf (by simp [q,hfr]) C hC hCP hw hfC) hk
   refine ⟨X,?_,h2⟩
   rw [<- h1]
   unfold Cq
   cases k with
   | zero=>cases r <;> rfl
   | succ k=>
    rw [subs,List.filter_append]
    have:((subs k r).map (e :: ·)).filter (fun X=>decide (Pk w T (wt w (cY SL T)) X))=[]:= by
     rw [List.filter_eq_nil_iff]
     intro X hX
     obtain ⟨Y,_,rfl⟩:=List.mem_map.mp hX
     rw [decide_eq_true_eq]
     exact fun z=>hnot _ z.1 List.mem_cons_self
    rw [this,List.nil_append]
  ·have hTe:dh (T ++ [e]):=gp.mpr ⟨hT,hc⟩
   have hTeP:∀ x ∈ T ++ [e],x ∈ PL:=fun x hx=>by
    rcases List.mem_append.mp hx with hx | hx
    ·exact hTP x hx
    ·rw [List.mem_singleton.mp hx];exact heP
   have le1:w e + wt w (cY SL (T ++ [e])) ≤ wt w (cY SL T):= by
    have h:=F.most (T:=T) (C:=e :: cY SL (T ++ [e])) hT (by
     have:=gQ (L:=SL) hTe
     rw [List.append_assoc] at this
     exact this) fun x hx=>by
      rcases List.mem_cons.mp hx with rfl | hx
      ·exact heP
      ·exact n5 F x hx
    rwa [cy] at h
   have hk1:1 ≤ k:= by
    have:=(F.len hTe fun x hx=>F.rng x (hTeP x hx)).1
    rw [List.length_append,List.length_singleton] at this
    omega
   obtain ⟨k,rfl⟩:∃ j,k=j + 1:=⟨k - 1,by omega⟩
   by_cases ht:w e + wt w (cY SL (T ++ [e]))=wt w (cY SL T)
   ·rw [A3 _ _ hc ht]
    have ed:wt w (cY SL T) - w e=wt w (cY SL (T ++ [e])):=by omega
    rw [ed]
    obtain ⟨X,h1,h2⟩:=f6 F r (T ++ [e]) k hs' hTe hTeP (fun f hf hfr C hC hCP hw hfC=>by
     by_cases q:f=e
     ·subst q
      rw [List.append_assoc] at hC
      have nd:=(List.nodup_append.mp (mL hC)).2.1
      exact (List.nodup_cons.mp nd).1 hfC
     ·exact hR f hf (by simp [q,hfr]) (e :: C) (by rw [List.append_assoc] at hC;exact hC) (fun x hx=>by
       rcases List.mem_cons.mp hx with rfl | hx
       ·exact heP
       ·exact hCP x hx) (by rw [cy,hw,ht]) (List.mem_cons_of_mem _ hfC)) (by rw [List.length_append,List.length_singleton];omega)
    refine ⟨e :: X,?_,by rw [h2,List.append_assoc];rfl⟩
    unfold Cq at h1 ⊢
    rw [subs,List.filter_append]
    have e2:((subs k r).map (e :: ·)).filter (fun X=>decide (Pk w T (wt w (cY SL T)) X))=((subs k r).filter fun X=>decide (Pk w (T ++ [e]) (wt w (cY SL (T ++ [e]))) X)).map (e :: ·):= by
     rw [List.filter_map]
     refine congrArg _ (List.filter_congr fun Y _=>?_)
     show decide (Pk w T (wt w (cY SL T)) (e :: Y))=_
     rw [decide_eq_decide]
     unfold Pk
     rw [cy,List.append_assoc]
     exact ⟨fun z=>⟨z.1,by omega⟩,fun z=>⟨z.1,by omega⟩⟩
    rw [e2,List.head?_append,List.head?_map,h1]
    rfl
   ·rw [Bo _ _ hc ht]
    have hnot:∀ C,dh (T ++ C)->(∀ x ∈ C,x ∈ PL)->wt w C=wt w (cY SL T)->e ∉ C:=fun C hC hCP hw he=>by
     obtain ⟨A,B,rfl⟩:=List.append_of_mem he
     have p2:(A ++ e :: B).Perm (e :: (A ++ B)):=List.perm_middle
     have h3:dh (T ++ [e] ++ (A ++ B)):= by
      rw [List.append_assoc]
      exact iW (List.Perm.append_left T p2) hC
     have h4:=F.most (C:=A ++ B) hTe h3 fun x hx=>hCP x (by
      rcases List.mem_append.mp hx with z | z
      ·exact List.mem_append.mpr (.inl z)
      ·exact List.mem_append.mpr (.inr (List.mem_cons_of_mem _ z)))
     rw [tF p2,cy] at hw
     omega
    obtain ⟨X,h1,h2⟩:=f6 F r T (k + 1) hs' hT hTP (fun f hf hfr C hC hCP hw hfC=>by
     by_cases q:f=e
     ·subst q;exact hnot C hC hCP hw hfC
     ·exact hR f hf (by simp [q,hfr]) C hC hCP hw hfC) hk
    refine ⟨X,?_,h2⟩
    rw [<- h1]
    unfold Cq
    rw [subs,List.filter_append]
    have:((subs k r).map (e :: ·)).filter (fun X=>decide (Pk w T (wt w (cY SL T)) X))=[]:= by
     rw [List.filter_eq_nil_iff]
     intro X hX
     obtain ⟨Y,hY,rfl⟩:=List.mem_map.mp hX
     rw [decide_eq_true_eq]
     intro z
     refine hnot _ z.1 (fun x hx=>?_) z.2 List.mem_cons_self
     rcases List.mem_cons.mp hx with rfl | hx
     ·exact heP
     ·exact hs'.mem ((dE hY).1.mem hx)
    rw [this,List.nil_append]
theorem vq (F:Fm w SL PL n):∃ X,Cq w [] (wt w (cY SL [])) (n - 1) PL=some X∧md w (fun T=>wt w (cY SL T)) PL [] (wt w (cY SL []))=X:= by
 have h:=f6 F PL [] (n - 1) (List.Sublist.refl _) jY (fun e he=>nomatch he) (fun f hf hn=>absurd hf hn) (by have:=F.one;simp;omega)
 simpa using h
end
end K22
namespace K22
theorem l8 {α:Type} (f g:α->Int):∀ L:List α,(∀ x ∈ L,f x ≤ g x)->(L.map f).sum ≤ (L.map g).sum∧((L.map f).sum=(L.map g).sum ↔ ∀ x ∈ L,f x=g x)
 | [],_=>⟨Int.le_refl _,⟨fun _ x hx=>(nomatch hx),fun _=>rfl⟩⟩
 | a :: r,h=>by
  obtain ⟨h1,h2⟩:=l8 f g r fun x hx=>h x (List.mem_cons_of_mem _ hx)
  have h0:=h a List.mem_cons_self
  simp only [List.map_cons,List.sum_cons]
  refine ⟨by omega,⟨fun e x hx=>?_,fun e=>?_⟩⟩
  ·rcases List.mem_cons.mp hx with rfl | hx
   ·omega
   ·exact h2.mp (by omega) x hx
  ·rw [e a List.mem_cons_self,h2.mpr fun x hx=>e x (List.mem_cons_of_mem _ hx)]
theorem sum_add {α:Type} (f g:α->Int):∀ L:List α,(L.map fun x=>f x + g x).sum=(L.map f).sum + (L.map g).sum
 | []=>rfl
 | a :: r=>by simp only [List.map_cons,List.sum_cons,sum_add f g r];omega
theorem wD {α:Type} (p:α->Bool):∀ L:List α,(L.map fun x=>if p x=true then (1:Int) else 0).sum=(L.filter p).length
 | []=>rfl
 | a :: r=>by
  simp only [List.map_cons,List.sum_cons,wD p r,List.filter_cons]
  split <;> simp <;> omega
theorem ou {α β:Type} (q:α->β->Bool) (C:List β):∀ t:List α,(t.map fun e=>((C.filter (q e)).length:Int)).sum=(C.map fun c=>((t.filter fun e=>q e c).length:Int)).sum
 | []=>by
  have:∀ C:List β,(C.map fun c=>((([]:List α).filter fun e=>q e c).length:Int)).sum=0:=fun C=>by
   induction C with
   | nil=>rfl
   | cons c r ih=>simpa using ih
  simpa using (this C).symm
 | e :: t=>by
  rw [List.map_cons,List.sum_cons,ou q C t,<- wD (q e) C,<- sum_add]
  congr 1
  refine List.map_congr_left fun c _=>?_
  rw [List.filter_cons]
  split <;> simp <;> omega
section
variable {hs:List (List Int)} {M:Nat} {t:List Pr}
def co (hs:List (List Int)) (c i:Nat):Bool:=decide ((c:Int) ∈ hs.getD i [])
def wh (hs:List (List Int)) (e:Pr):Int:=(((hs.getD e.1 []).filter fun x=>decide (x ∈ hs.getD e.2 [])).length:Nat)
def vc (hs:List (List Int)) (c:Nat):List Nat:=(List.range hs.length).filter fun i=>co hs c i
def ec (hs:List (List Int)) (t:List Pr) (c:Nat):List Pr:=t.filter fun e=>co hs c e.1 && co hs c e.2
def gC (hs:List (List Int)) (M:Nat):Int:=((List.range M).map fun c=>max (((vc hs c).length:Int) - 1) 0).sum
theorem yI (hh:∀ h ∈ hs,h.Pairwise (· < ·)∧∀ c ∈ h,0 ≤ c∧c < (M:Int)) (e:Pr):wh hs e=(((List.range M).filter fun c=>co hs c e.1 && co hs c e.2).length:Nat):= by
 have ok:(hs.getD e.1 []).Pairwise (· < ·)∧∀ c ∈ hs.getD e.1 [],0 ≤ c∧c < (M:Int):= by
  rw [List.getD_eq_getElem?_getD]
  cases q:hs[e.1]? with
  | none=>exact ⟨.nil,fun c hc=>nomatch hc⟩
  | some h=>exact hh h (List.mem_of_getElem? q)
 unfold wh
 congr 1
 have nd1:((hs.getD e.1 []).filter fun x=>decide (x ∈ hs.getD e.2 [])).Nodup:=(ok.1.imp fun h=>Int.ne_of_lt h).filter _
 have nd2:(((List.range M).filter fun c=>co hs c e.1 && co hs c e.2).map fun (c:Nat)=>(c:Int)).Nodup:= by
  rw [List.nodup_iff_pairwise_ne,List.pairwise_map]
  exact (List.nodup_range.filter _).imp fun h z=>h (by omega)
 have p:=(List.perm_ext_iff_of_nodup nd1 nd2).mpr fun x=>by
  simp only [List.mem_filter,List.mem_map,decide_eq_true_eq,co,Bool.and_eq_true,List.mem_range]
  constructor
  ·rintro ⟨h1,h2⟩
   obtain ⟨a,b⟩:=ok.2 x h1
   have e:((x.toNat:Nat):Int)=x:=Int.toNat_of_nonneg a
   exact ⟨x.toNat,⟨by omega,by rw [e];exact ⟨h1,h2⟩⟩,e⟩
  ·rintro ⟨c,⟨_,h1,h2⟩,rfl⟩
   exact ⟨h1,h2⟩
 rw [p.length_eq,List.length_map]
theorem qt (ht:dh t) (hr:∀ e ∈ t,e.1 < hs.length∧e.2 < hs.length) (c:Nat):((ec hs t c).length:Int) ≤ max (((vc hs c).length:Int) - 1) 0∧(((ec hs t c).length:Int)=max (((vc hs c).length:Int) - 1) 0 ↔ Ed (ec hs t c) (vc hs c)):= by
 have hF:dh (ec hs t c):=ht.sub
 have hV:∀ e ∈ ec hs t c,e.1 ∈ vc hs c∧e.2 ∈ vc hs c:=fun e he=>by
  obtain ⟨h1,h2⟩:=List.mem_filter.mp he
  simp only [Bool.and_eq_true] at h2
  exact ⟨List.mem_filter.mpr ⟨List.mem_range.mpr (hr e h1).1,h2.1⟩,List.mem_filter.mpr ⟨List.mem_range.mpr (hr e h1).2,h2.2⟩⟩
 have nd:(vc hs c).Nodup:=List.nodup_range.filter _
 obtain ⟨f,L⟩:=gn (ec hs t c)
 have k:=(dq nd hV L).2.mp hF
 by_cases hv:vc hs c=[]
 ·have he:ec hs t c=[]:=List.eq_nil_iff_forall_not_mem.mpr fun e he=>by
   have:=(hV e he).1
   rw [hv] at this;cases this
  rw [he,hv]
  exact ⟨by decide,⟨fun _ a ha=>(nomatch ha),fun _=>by decide⟩⟩
 ·have p:=nF (f:=f) hv
  rw [n9 L]
  omega
theorem l4 (hh:∀ h ∈ hs,h.Pairwise (· < ·)∧∀ c ∈ h,0 ≤ c∧c < (M:Int)) (ht:dh t) (hr:∀ e ∈ t,e.1 < hs.length∧e.2 < hs.length) :
  wt (wh hs) t ≤ gC hs M∧(wt (wh hs) t=gC hs M ↔ ∀ c,c < M->Ed (ec hs t c) (vc hs c)):= by
 have e:wt (wh hs) t=((List.range M).map fun c=>((ec hs t c).length:Int)).sum:= by
  unfold wt
  rw [show (t.map (wh hs))=t.map fun e=>(((List.range M).filter ((fun e c=>co hs c e.1 && co hs c e.2) e)).length:Int) from List.map_congr_left fun e _=>yI hh e]
  exact ou (fun (e:Pr) c=>co hs c e.1 && co hs c e.2) (List.range M) t
 have h:=l8 (fun c=>((ec hs t c).length:Int)) (fun c=>max (((vc hs c).length:Int) - 1) 0) (List.range M) fun c _=>(qt ht hr c).1
 rw [e]
 refine ⟨h.1,h.2.trans ⟨fun z c hc=>(qt ht hr c).2.mp (z c (List.mem_range.mpr hc)),fun z c hc=>(qt ht hr c).2.mpr (z c (List.mem_range.mp hc))⟩⟩
end
def stH (sm f:List Nat) (e:Pr):List Nat:=if (decide (e.1 ∈ f) != decide (e.2 ∈ f)) && decide (e.1 ∈ sm) && decide (e.2 ∈ sm) then f ++ [if e.1 ∈ f then e.2 else e.1] else f
def rdH (sm:List Nat) (P:List Pr) (f:List Nat):List Nat:=P.foldl (stH sm) f
def mF (sm:List Nat) (P:List Pr):Nat->List Nat->List Nat
 | 0,f=>f
 | k + 1,f=>rdH sm P (mF sm P k f)
def dI (P:List Pr) (sm:List Nat):Bool:=if sm=[] then true else (mF sm P sm.length (sm.take 1)).length == sm.length
section
variable {sm:List Nat} {P:List Pr}
theorem zg (f:List Nat) (e:Pr):f.length ≤ (stH sm f e).length∧((stH sm f e).length=f.length->stH sm f e=f):= by
 unfold stH
 split
 ·simp
 ·exact ⟨Nat.le_refl _,fun _=>rfl⟩
theorem rL:∀ (P:List Pr) (f:List Nat),f.length ≤ (rdH sm P f).length∧((rdH sm P f).length=f.length->rdH sm P f=f∧∀ e ∈ P,stH sm f e=f)
 | [],f=>⟨Nat.le_refl _,fun _=>⟨rfl,fun e he=>(nomatch he)⟩⟩
 | e :: r,f=>by
  have h1:=zg (sm:=sm) f e
  have h2:=rL r (stH sm f e)
  have e0:rdH sm (e :: r) f=rdH sm r (stH sm f e):=rfl
  rw [e0]
  refine ⟨by omega,fun h=>?_⟩
  have k1:=h1.2 (by omega)
  rw [k1] at h2 h ⊢
  have k2:=h2.2 h
  exact ⟨k2.1,fun x hx=>by
   rcases List.mem_cons.mp hx with rfl | hx
   ·exact k1
   ·exact k2.2 x hx⟩
theorem wb:∀ {P:List Pr} {f:List Nat},(∀ e ∈ P,stH sm f e=f)->rdH sm P f=f
 | [],f,_=>rfl
 | e :: r,f,h=>by
  show rdH sm r (stH sm f e)=f
  rw [h e List.mem_cons_self]
  exact wb fun x hx=>h x (List.mem_cons_of_mem _ hx)
theorem sy (P:List Pr) (f:List Nat):∀ k,(∀ e ∈ P,stH sm (mF sm P k f) e=mF sm P k f) ∨ f.length + k ≤ (mF sm P k f).length
 | 0=>.inr (Nat.le_refl _)
 | k + 1=>by
  show (∀ e ∈ P,stH sm (rdH sm P (mF sm P k f)) e=rdH sm P (mF sm P k f)) ∨ _ ≤ (rdH sm P (mF sm P k f)).length
  rcases sy P f k with h | h
  ·rw [wb h];exact .inl h
  ·have h2:=rL (sm:=sm) P (mF sm P k f)
   by_cases q:(rdH sm P (mF sm P k f)).length=(mF sm P k f).length
   ·obtain ⟨a,b⟩:=h2.2 q
    rw [a];exact .inl b
   ·exact .inr (by omega)
def both (sm:List Nat) (P:List Pr):List Pr:=P.filter fun e=>decide (e.1 ∈ sm) && decide (e.2 ∈ sm)
structure JH (sm:List Nat) (P:List Pr) (x:Nat) (f:List Nat):Prop where
 nd:f.Nodup
 sub:∀ a ∈ f,a ∈ sm
 root:x ∈ f
 rch:∀ a ∈ f,cX (both sm P) x a
theorem JH.st {x:Nat} {f:List Nat} {e:Pr} (h:JH sm P x f) (he:e ∈ P):JH sm P x (stH sm f e):= by
 unfold stH
 split
 ·rename_i c
  simp only [Bool.and_eq_true,bne_iff_ne,ne_eq,decide_eq_true_eq,decide_eq_decide] at c
  have hb:e ∈ both sm P:=List.mem_filter.mpr ⟨he,by simp [c.1.2,c.2]⟩
  by_cases q:e.1 ∈ f
  ·have q2:e.2 ∉ f:=fun z=>c.1.1 ⟨fun _=>z,fun _=>q⟩
   rw [if_pos q]
   refine ⟨?_,fun a ha=>?_,List.mem_append.mpr (.inl h.root),fun a ha=>?_⟩
   ·exact List.nodup_append.mpr ⟨h.nd,by simp,fun a ha b hb z=>q2 (by rw [List.mem_singleton.mp hb] at z;exact z ▸ ha)⟩
   ·rcases List.mem_append.mp ha with z | z
    ·exact h.sub a z
    ·rw [List.mem_singleton.mp z];exact c.2
   ·rcases List.mem_append.mp ha with z | z
    ·exact h.rch a z
    ·rw [List.mem_singleton.mp z];exact (h.rch _ q).trans (fM hb)
  ·have q2:e.2 ∈ f:= by
    by_cases z:e.2 ∈ f
    ·exact z
    ·exact absurd ⟨fun y=>absurd y q,fun y=>absurd y z⟩ c.1.1
   rw [if_neg q]
   refine ⟨?_,fun a ha=>?_,List.mem_append.mpr (.inl h.root),fun a ha=>?_⟩
   ·exact List.nodup_append.mpr ⟨h.nd,by simp,fun a ha b hb z=>q (by rw [List.mem_singleton.mp hb] at z;exact z ▸ ha)⟩
   ·rcases List.mem_append.mp ha with z | z
    ·exact h.sub a z
    ·rw [List.mem_singleton.mp z];exact c.1.2
   ·rcases List.mem_append.mp ha with z | z
    ·exact h.rch a z
    ·rw [List.mem_singleton.mp z];exact (h.rch _ q2).trans (fM hb).symm
 ·exact h
theorem JH.rd {x:Nat}:∀ {Q:List Pr} {f:List Nat},(∀ e ∈ Q,e ∈ P)->JH sm P x f->JH sm P x (rdH sm Q f)
 | [],f,_,h=>h
 | e :: r,f,hq,h=>JH.rd (Q:=r) (fun y hy=>hq y (List.mem_cons_of_mem _ hy)) (h.st (hq e List.mem_cons_self))
theorem JH.it {x:Nat} {f:List Nat} (h:JH sm P x f):∀ k,JH sm P x (mF sm P k f)
 | 0=>h
 | k + 1=>JH.rd (fun _ z=>z) (JH.it h k)
theorem sh {a b:List Nat} (nd:a.Nodup) (h:∀ x ∈ a,x ∈ b):a.length ≤ b.length:= by
 induction a generalizing b with
 | nil=>exact Nat.zero_le _
 | cons x r ih=>
  have n:=List.nodup_cons.mp nd
  have hx:x ∈ b:=h x List.mem_cons_self
  have:=ih (b:=b.erase x) n.2 fun y hy=>(List.mem_erase_of_ne (show y ≠ x from fun z=>n.1 (z ▸ hy))).mpr (h y (List.mem_cons_of_mem _ hy))
  rw [List.length_erase_of_mem hx] at this
  have p:=List.length_pos_of_mem hx
  rw [List.length_cons]
  omega
theorem B0 {a b:List Nat} (nd:a.Nodup) (h:∀ x ∈ a,x ∈ b) (hl:b.length ≤ a.length):∀ x ∈ b,x ∈ a:=fun x hx=>by
 by_cases q:x ∈ a
 ·exact q
 ·have:=sh (a:=x :: a) (b:=b) (List.nodup_cons.mpr ⟨q,nd⟩) fun y hy=>by
   rcases List.mem_cons.mp hy with rfl | hy
   ·exact hx
   ·exact h y hy
  rw [List.length_cons] at this
  omega
theorem rV (nd:sm.Nodup):dI P sm=true ↔ Ed (both sm P) sm:= by
 unfold dI
 split
 ·rename_i e
  subst e
  exact ⟨fun _ a ha=>(nomatch ha),fun _=>rfl⟩
 ·rename_i ne
  obtain ⟨x,r,rfl⟩:∃ x r,sm=x :: r:= by
   cases sm with
   | nil=>exact absurd rfl ne
   | cons x r=>exact ⟨x,r,rfl⟩
  have j0:JH (x :: r) P x ((x :: r).take 1):=⟨by simp,fun a ha=>by
   have:a=x:=by simpa using ha
   rw [this];exact List.mem_cons_self,by simp,fun a ha=>by
   have:a=x:=by simpa using ha
   rw [this];exact .refl _⟩
  have j:=j0.it (x :: r).length
  have le:=sh j.nd j.sub
  have closed:∀ e ∈ P,stH (x :: r) (mF (x :: r) P (x :: r).length ((x :: r).take 1)) e=mF (x :: r) P (x :: r).length ((x :: r).take 1):= by
   rcases sy (sm:=x :: r) P ((x :: r).take 1) (x :: r).length with h | h
   ·exact h
   ·have:((x :: r).take 1).length=1:=by simp
    omega
  generalize mF (x :: r) P (x :: r).length ((x :: r).take 1)=f at j le closed
  rw [beq_iff_eq]
  have cl:∀ a b,cX (both (x :: r) P) a b->a ∈ f->b ∈ f:= by
   intro a b h
   induction h with
   | refl a=>exact id
   | step z _ ih=>
    rename_i a b c
    intro ha
    refine ih ?_
    have edge:∀ e ∈ both (x :: r) P,(e.1 ∈ f ↔ e.2 ∈ f):=fun e he=>by
     obtain ⟨h1,h2⟩:=List.mem_filter.mp he
     have hc:=closed e h1
     unfold stH at hc
     split at hc
     ·have:=congrArg List.length hc
      simp at this
     ·rename_i nc
      simp only [Bool.and_eq_true,decide_eq_true_eq] at h2
      simp only [h2.1,h2.2,decide_true,Bool.and_true,bne_iff_ne,ne_eq,decide_eq_decide,Decidable.not_not] at nc
      exact nc
    rcases z with z | z
    ·exact (edge _ z).mp ha
    ·exact (edge _ z).mpr ha
  constructor
  ·intro e a ha b hb
   have all:=B0 j.nd j.sub (by omega)
   exact (j.rch a (all a ha)).symm.trans (j.rch b (all b hb))
  ·intro h
   have:(x :: r).length ≤ f.length:=sh nd fun a ha=>cl x a (h x List.mem_cons_self a ha) j.root
   omega
end
end K22
namespace K22
open PySem L2 Jt
def hD (h:List Int):D:=.tup (h.map .int)
def cB (m:Int) (hs:List (List Int)):D:=.tup [.int m,.tup (hs.map hD)]
def lD (ls:List Nat):List D:=ls.map fun (i:Nat)=>.int (i:Int)
def G (hs:List (List Int)) (i:Nat):List Int:=hs.getD i []
theorem tK (h:List Int):kQ (h.map .int)=some (h.map V.int):= by
 induction h with
 | nil=>rfl
 | cons a r ih=>simp [kQ,flat,ih]
theorem zA (c:Int) (h:List Int):Ef (.int c) (h.map V.int)=decide (c ∈ h):= by
 induction h with
 | nil=>rfl
 | cons a r ih=>
  show (a == c || Ef (.int c) (r.map V.int))=_
  rw [ih]
  by_cases e:c=a
  ·subst e;simp
  ·simp [e,Ne.symm e]
theorem pv (neg:Bool) (c:Int) (h:List Int):l_ neg (.int c) (hD h)=some (.bl (if neg then !decide (c ∈ h) else decide (c ∈ h))):= by
 simp [l_,hD,jT,flat,tK,zA]
theorem kO (h:List Int):bO (hD h)=some (aQ (h.map .int)):=rfl
theorem dA {α:Type} (xs:List α) (i:Nat) (h:i < xs.length):jh xs (i:Int)=some xs[i]:= by
 have h1:(i:Int) < xs.length:=by omega
 simp [jh,uY,h1,h]
theorem vy {hs:List (List Int)} {i:Nat} (h:i < hs.length):e_ (.tup (hs.map hD)) (.int (i:Int))=some (hD (G hs i)):= by
 show jh _ _=_
 rw [dA _ _ (by simpa using h)]
 simp [G,h]
theorem gJ (m:Int) (hs:List (List Int)):e_ (cB m hs) (.int 1)=some (.tup (hs.map hD)):=rfl
theorem pF (m:Int) (hs:List (List Int)):e_ (cB m hs) (.int 0)=some (.int m):=rfl
theorem mW (neg:Bool) (a b:Int):iC neg (.int a) (.int b)=some (.bl (if neg then !decide (a=b) else decide (a=b))):= by
 exact Dd neg a b
theorem gP (neg:Bool) (a b:Nat):iC neg (.int (a:Int)) (.int (b:Int))=some (.bl (if neg then !decide (a=b) else decide (a=b))):= by
 rw [mW]
 simp only [Int.natCast_inj,show ((a:Int)=(b:Int))=(a=b) from propext Int.ofNat_inj]
theorem eK (neg:Bool) (xs:List D):iC neg (.lst xs) (.lst [])=some (.bl (if neg then !xs.isEmpty else xs.isEmpty)):= by
 cases xs <;> simp [iC,jz,cP,cP.go]
theorem iA (n:Nat):bo 0 n=lD (List.range n):= by
 simp [bo,lD]
theorem eG (n i:Nat) (h:i < (bo 0 n).length):(bo 0 n)[i]=.int (i:Int):=by simp [bo]
variable {hs:List (List Int)} {ls:List Nat} {x:D}
theorem qi {i j:Int} (h:-(2 ^ 64) < j) (h2:j < 2 ^ 64):lr (.int i) (.int j)=some (.int (i * j)):= by
 show (if ((decide (-(2 ^ 64) < i) && decide (i < 2 ^ 64)) || (decide (-(2 ^ 64) < j) && decide (j < 2 ^ 64)))=true then _ else _)=_
 rw [if_pos (by rw [decide_eq_true h,decide_eq_true h2];simp)]
def dY (m:Int) (h:List Int):Prop:=h ≠ []∧h.Pairwise (· < ·)∧∀ c ∈ h,0 ≤ c∧c < m
theorem mR:∀ (l:List Int) (lo hi:Int),l.Pairwise (· < ·)->(∀ y ∈ l,lo ≤ y∧y < hi)->lo ≤ hi->(l.length:Int) ≤ hi - lo
 | [],lo,hi,_,_,h=>by simp;omega
 | z :: t,lo,hi,hp,hb,h=>by
  rw [List.pairwise_cons] at hp
  have hz:=hb z List.mem_cons_self
  have:=mR t (z + 1) hi hp.2 (fun y hy=>⟨by have:=hp.1 y hy;omega,(hb y (List.mem_cons_of_mem _ hy)).2⟩) (by omega)
  rw [List.length_cons];omega
theorem dY.len {m:Int} {h:List Int} (H:dY m h) (h1:1 ≤ m) (hm:m ≤ 7):h.length ≤ 7:= by
 have:=mR h 0 m H.2.1 H.2.2 (by omega)
 omega
theorem kP {l:List Int} (h:l.Nodup):(cQ l).Pairwise (· < ·):= by
 refine ((kK l).and ((dZ l).nodup_iff.mpr h)).imp fun {a b} h=>?_
 have:=h.1
 have:=h.2
 omega
theorem jB {a:Int} {l:List Int}:a ∈ cQ l ↔ a ∈ l:=(dZ l).mem_iff
def LQ (d:D) (xs:List D):Prop:=∃ (m:Int) (hs:List (List Int)) (n:Int),d=cB m hs∧xs=[.int n]∧1 ≤ hs.length∧hs.length ≤ 6∧(1 ≤ m∧m ≤ 7)∧∀ h ∈ hs,dY m h
theorem jC (h:List Int):f_ (h.map .int)=some h:= by
 induction h with
 | nil=>rfl
 | cons a r ih=>simp [f_,ih]
theorem mH (h:List Int):(cQ h).length=h.length:=(dZ h).length_eq
theorem i0 (neg:Bool) (xs:List D):qd neg (.lst xs) (.lst [])=some (.bl (if neg then !xs.isEmpty else xs.isEmpty)):=eK neg xs
theorem wJ (hs:List (List Int)) (n:Int) (hp:0 < hs.length):∃ h ∈ hs,e_ (.lst (hs.map hD)) (.int (n % (hs.length:Int)))=some (hD h):= by
 have h1:=Int.emod_nonneg n (show (hs.length:Int) ≠ 0 by omega)
 have h2:=Int.emod_lt_of_pos n (show (0:Int) < hs.length by omega)
 obtain ⟨j,hj⟩:∃ j:Nat,n % (hs.length:Int)=(j:Int):=⟨(n % (hs.length:Int)).toNat,by omega⟩
 have hlt:j < hs.length:=by omega
 refine ⟨hs[j],List.getElem_mem hlt,?_⟩
 rw [hj]
 show jh _ _=_
 rw [dA _ _ (by simpa using hlt)]
 simp
theorem jF {α β:Type} (f:α->β):∀ (l:List α) (j:Nat),(l.map f).eraseIdx j=(l.eraseIdx j).map f
 | [],_=>rfl
 | _ :: _,0=>rfl
 | a :: r,j + 1=>by
  show f a :: (r.map f).eraseIdx j=f a :: (r.eraseIdx j).map f
  rw [jF f r j]
theorem dj (xs:List D):cG [.lst xs]=some (.tup xs):=rfl
def isInt:D->Bool
 | .int _=>true
 | _=>false
def ir (n:Int):D->Bool
 | .int i=>decide (0 ≤ i) && decide (i < n)
 | _=>false
theorem wZ (x:D):aU tw pA [x]=some (.bl (isInt x)):= by
 apply bZ
 show Ok pA [.pu x] _
 unfold pA
 cases x <;> simp [bH,oj,isInt]
theorem oU (x:D):aU zm vg [x]=some (.bl (isInt x)):= by
 apply bZ
 show Ok vg [.pu x] _
 unfold vg
 cases x <;> simp [bH,oj,isInt]
theorem Bw (x:D) (n:Int):aU mz kN [x,.int n]=some (.bl (ir n x)):= by
 apply bZ
 show Ok kN [.pu x,.pu (.int n)] _
 unfold kN
 cases x with
 | int i=>
  by_cases h:0 ≤ i
  ·simp [aA,wZ,isInt,ir,F5,A7,bC,h]
  ·simp [aA,wZ,isInt,ir,F5,A7,bC,h]
 | _=>simp [aA,wZ,isInt,ir]
theorem ql (ls:List Nat):(lD ls).length=ls.length:=by simp [lD]
variable {hs:List (List Int)} {ls:List Nat}
theorem vA (xs:List D) (k:Nat):cutD xs none (some (k:Int))=xs.take k:= by
 unfold cutD
 rw [show HT.sIx xs.length 0 none=0 from rfl,HT.sIx_nat,List.drop_zero,Nat.sub_zero]
 rw [List.take_eq_take_iff]
 omega
theorem yC (ls:List Nat) (k:Nat):(lD ls).take k=lD (ls.take k):=by simp [lD,List.map_take]
variable {hs:List (List Int)} {ls:List Nat}
theorem wq (neg:Bool) (k:Nat) (ls:List Nat):l_ neg (.int (k:Int)) (.tup (lD ls))=some (.bl (if neg then !decide (k ∈ ls) else decide (k ∈ ls))):= by
 have:lD ls=(ls.map fun (i:Nat)=>(i:Int)).map .int:=by simp [lD]
 have e:=pv neg k (ls.map fun (i:Nat)=>(i:Int))
 unfold hD at e
 rw [this,e]
 have:((k:Int) ∈ ls.map fun (i:Nat)=>(i:Int))=(k ∈ ls):= by
  refine propext ⟨fun h=>?_,fun h=>List.mem_map.mpr ⟨k,h,rfl⟩⟩
  obtain ⟨i,hi,e⟩:=List.mem_map.mp h
  rw [<- Int.ofNat_inj.mp e];exact hi
 simp only [this]
variable {hs:List (List Int)} {ls:List Nat}
variable {hs:List (List Int)} {ls:List Nat}
theorem Fi (xs ys:List D) (h1:xs.length ≤ 100) (h2:ys.length ≤ 100):jO (.tup xs) (.tup ys)=some (.tup (xs ++ ys)):= by
 show (if xs.length + ys.length ≤ 100000 then _ else _)=_
 rw [if_pos (by omega)]
end K22
namespace K22
open PySem L2 Jt
open Builtin.Int (intBits)
theorem qY (ns:List Int) (hb:∀ i ∈ ns,intBits i ≤ 2 ^ 20) (k:Nat) (hk:k < 100):∃ c:Int,aU sJ j_ [.lst (ns.map .int),.int k]=some (.int c)∧intBits c ≤ 2 ^ 20:= by
 by_cases h:k < ns.length
 ·refine ⟨ns[k],bZ ?_,hb _ (List.getElem_mem h)⟩
  show Ok j_ [.pu (.lst (ns.map .int)),.pu (.int k)] _
  unfold j_
  have e:e_ (.lst (ns.map .int)) (.int (k:Int))=some (.int ns[k]):= by
   show jh _ _=_
   rw [dA _ _ (by simpa using h)]
   simp
  simp [bW,A7,bC,h,e]
 ·refine ⟨6151 * (k:Int) + 29,bZ ?_,?_⟩
  ·show Ok j_ [.pu (.lst (ns.map .int)),.pu (.int k)] _
   unfold j_
   simp [bW,A7,bC,h,lr,b8]
  ·exact Nat.le_trans (intBits_le_64 (by omega) (by omega)) (by decide)
theorem pJ {i j:Int} (h:intBits i + intBits j ≤ 134217728):lX (.int i) (.int j)=some (.int (i * j)):= by
 show (if decide (intBits i + intBits j ≤ 134217728)=true then _ else _)=_
 rw [decide_eq_true h];rfl
theorem tN {c:Int} (hc:intBits c ≤ 2 ^ 20) (k:Nat) (hk:k < 100):∃ n:Int,aU o6 l3 [.int c,.int k]=some (.int n):= by
 have key:∃ d,aU o6 l3 [.int c,.int k]=some d∧∃ n,d=.int n:= by
  apply rY
  show Ok l3 [.pu (.int c),.pu (.int k),.un] _
  unfold l3
  have s1:∀ z:Int,-(2 ^ 63) < z->z < 2 ^ 63->intBits z ≤ 64:=fun z h1 h2=>intBits_le_64 (by omega) (by omega)
  have e1:lr (.int (c + 1)) (.int 40692)=some (.int ((c + 1) * 40692)):=qi (by omega) (by omega)
  have e2:lr (.int 104729) (.int (k:Int))=some (.int (104729 * (k:Int))):=qi (by omega) (by omega)
  have b1:=PyProof.Rows.bits_add hc (s1 1 (by omega) (by omega))
  have b2:=PyProof.Rows.bits_mul b1 (s1 40692 (by omega) (by omega))
  have b3:=PyProof.Rows.bits_add b2 (s1 (104729 * (k:Int)) (by omega) (by omega))
  have e3:lX (.int ((c + 1) * 40692 + 104729 * (k:Int))) (.int ((c + 1) * 40692 + 104729 * (k:Int)))=some (.int (((c + 1) * 40692 + 104729 * (k:Int)) * ((c + 1) * 40692 + 104729 * (k:Int)))):=pJ (Nat.le_trans (Nat.add_le_add b3 b3) (by decide))
  have g1:=Int.emod_nonneg (((c + 1) * 40692 + 104729 * (k:Int)) * ((c + 1) * 40692 + 104729 * (k:Int))) (show (2147483399:Int) ≠ 0 by omega)
  have g2:=Int.emod_lt_of_pos (((c + 1) * 40692 + 104729 * (k:Int)) * ((c + 1) * 40692 + 104729 * (k:Int))) (show (0:Int) < 2147483399 by omega)
  simp only [cb,dt,d7,bp,ar,List.getElem?_cons_zero,List.getElem?_cons_succ,Option.some.injEq,Jt.Slot.pu.injEq,exists_eq_left',b8,bC,if_true,bA,e1,e2]
  refine ⟨by simp,?_⟩
  simp only [List.set_cons_succ,List.set_cons_zero,List.getElem?_cons_zero,List.getElem?_cons_succ,Option.some.injEq,Jt.Slot.pu.injEq,exists_eq_left',d7,bp,e3,bA,ar,pX,bC]
  generalize (((c + 1) * 40692 + 104729 * (k:Int)) * ((c + 1) * 40692 + 104729 * (k:Int))) % 2147483399=z at g1 g2 ⊢
  have e4:lX (.int (z + k)) (.int (z + k + 31))=some (.int ((z + k) * (z + k + 31))):=pJ (Nat.le_trans (Nat.add_le_add (s1 (z + k) (by omega) (by omega)) (s1 (z + k + 31) (by omega) (by omega))) (by decide))
  simp [e4,b8,bC]
 obtain ⟨d,e,n,rfl⟩:=key
 exact ⟨n,e⟩
theorem uk (ns:List Int) (hb:∀ i ∈ ns,intBits i ≤ 2 ^ 20) (k:Nat) (hk:k < 100):∃ n:Int,eF oY mr [.lst (ns.map .int),.int k]=some [.int n]:= by
 obtain ⟨c,ec,bc⟩:=qY ns hb k hk
 have:∃ d,eF oY mr [.lst (ns.map .int),.int k]=some d∧∃ c,d=[.int c]:= by
  apply Ag
  show Ok mr [.pu (.lst (ns.map .int)),.pu (.int k),.un,.un,.un] _
  unfold mr
  simp [aA,ec,pX,D0,bC,cW]
  by_cases h:c % 2=0
  ·simp [h]
  ·simp [h,bT,aF]
   refine wA (bo 0 24) (fun _ δ=>∃ a x,δ=[.pu (.lst (ns.map .int)),.pu (.int k),.pu (.int c),.pu (.int a),x]) ?_ (fun i hk δ hI=>?_) (fun δ hI=>?_)
   ·exact ⟨_,_,rfl⟩
   ·obtain ⟨a,x,rfl⟩:=hI
    have hk':i < 24:=by simpa [bo] using hk
    have e4:∀ z:Int,lr (.int z) (.int 2147483647)=some (.int (z * 2147483647)):=fun z=>qi (by omega) (by omega)
    obtain ⟨m,em⟩:=tN bc i (by omega)
    rw [eG]
    simp [e4,aA,em,b8,bC]
   ·obtain ⟨a,x,rfl⟩:=hI
    simp
 obtain ⟨d,e,c,rfl⟩:=this
 exact ⟨c,e⟩
theorem aW (n j:Int) (h:0 < j) (h2:j < 1073741824):bL cN cC [.int n] [.int j]=some (.int (n % j),[.int (n / j)]):= by
 have:∃ d xs',bL cN cC [.int n] [.int j]=some (d,xs')∧(d=.int (n % j)∧xs' = [.int (n / j)]):= by
  apply gX
  show Ok cC [.ow true [.int n],.pu (.int j),.un,.un] _
  unfold cC
  simp [i_,e_,jh,uY,h,h2]
 obtain ⟨d,xs',e,rfl,rfl⟩:=this
 exact e
def Up (M k:Nat) (cs:List Int):Prop:=cs.Pairwise (· < ·)∧∀ c ∈ cs,0 ≤ c∧c < (k:Int)∧c < (M:Int)
theorem Up.snoc {M k:Nat} {cs:List Int} (h:Up M k cs) (hk:k < M):Up M (k + 1) (cs ++ [(k:Int)]):= by
 refine ⟨List.pairwise_append.mpr ⟨h.1,by simp,fun a ha b hb=>?_⟩,fun c hc=>?_⟩
 ·rw [List.mem_singleton.mp hb];exact (h.2 a ha).2.1
 ·rcases List.mem_append.mp hc with q | q
  ·have:=h.2 c q;omega
  ·rw [List.mem_singleton.mp q];omega
theorem Up.more {M k:Nat} {cs:List Int} (h:Up M k cs):Up M (k + 1) cs:=⟨h.1,fun c hc=>by have:=h.2 c hc;omega⟩
theorem kg (n0:Int) {M:Nat} (hM1:1 ≤ M) (hM7:M ≤ 7):∃ d xs',bL gk ic [.int n0] [.int M]=some (d,xs')∧(∃ h,d=hD h∧dY M h)∧∃ n:Int,xs' = [.int n]:= by
 apply gX
 show Ok ic [.ow true [.int n0],.pu (.int M),.un] _
 unfold ic
 have sM:aF M=true:=by simp [aF];omega
 refine aB (fun δ=>∃ (n:Int) (cs:List Int),δ=[.ow true [.int n],.pu (.int M),.pu (.lst (cs.map .int))]∧Up M M cs) ?_ ?_
 ·simp only [dt,av,ar]
  refine dD (bo 0 M) (fun k acc δ=>∃ (n:Int) (cs:List Int),acc=cs.map .int∧δ=[.ow true [.int n],.pu (.int M),.un]∧Up M k cs) rfl ?_ (by simp [bo];omega) ⟨n0,[],rfl,rfl,List.Pairwise.nil,by simp⟩ ?_ ?_
  ·simp [bT,sM]
  ·rintro j hj acc _ ha hl ⟨n,cs,rfl,rfl,hb⟩
   have hj':j < M:=by simpa [bo] using hj
   rw [eG]
   by_cases q:n % 3=0
   ·simp [-Prod.exists,aW,cW,q]
    exact ⟨_,cs ++ [(j:Int)],by simp,rfl,hb.snoc hj'⟩
   ·simp [-Prod.exists,aW,cW,q]
    exact ⟨_,cs,rfl,rfl,hb.more⟩
  ·rintro xs _ hx hl ⟨n,cs,rfl,rfl,hb⟩
   have:(bo 0 M).length=M:=by simp [bo]
   rw [this] at hb
   exact ⟨by simp,trivial,n,cs,rfl,hb⟩
 rintro _ ⟨n,cs,rfl,hb⟩
 have et:=aW n M (by omega) (by omega)
 by_cases q:cs=[]
 ·subst q
  simp [-Prod.exists,eK,et,dj]
  refine ⟨[n % (M:Int)],rfl,by simp,by simp,fun c hc=>?_⟩
  rw [List.mem_singleton.mp hc]
  exact ⟨Int.emod_nonneg n (by omega),Int.emod_lt_of_pos n (by omega)⟩
 ·have q':(cs.map D.int).isEmpty=false:= by
   cases cs with
   | nil=>exact absurd rfl q
   | cons a r=>rfl
  simp only [cb,xl,av,d7,bp,gS,ar,cJ,List.getElem?_cons_zero,List.getElem?_cons_succ,Option.some.injEq,Jt.Slot.pu.injEq,exists_eq_left',List.length_nil,Nat.zero_le,true_and,eK,q',bA,ip,Bool.false_eq_true,if_false,D.bl.injEq,fw,bg,dj]
  exact ⟨_,_,rfl,rfl,⟨cs,rfl,q,hb.1,fun c hc=>by have:=hb.2 c hc;omega⟩,n,rfl⟩
end K22
namespace K22
open PySem L2 Jt
open Builtin.Int (intBits)
theorem G0 (hs:List (List Int)) (c:Int):((hs.filter fun h=>decide (c ∈ h)).map hD).isEmpty = !(hs.any fun h=>decide (c ∈ h)):= by
 rw [List.isEmpty_map,Bool.eq_iff_iff,List.isEmpty_iff,List.filter_eq_nil_iff,Bool.not_eq_true',List.any_eq_false]
theorem tP {a b:List Int} (h1:a.Pairwise (· < ·)) (h2:b.Pairwise (· < ·)) (h:∀ x ∈ a,x ∉ b):(a ++ b).Nodup :=
 List.nodup_append.mpr ⟨h1.imp fun {x y} (q:x < y)=>Int.ne_of_lt q,h2.imp fun {x y} (q:x < y)=>Int.ne_of_lt q,fun x hx y hy e=>h x hx (e ▸ hy)⟩
def qu (M:Nat) (hs:List (List Int)):List Nat:=(List.range M).filter fun c=>hs.any fun h=>decide ((c:Int) ∈ h)
theorem vp (a b:D):e_ (.lst [a,b]) (.int 0)=some a:=rfl
theorem xX (a b:D):e_ (.lst [a,b]) (.int 1)=some b:=rfl
theorem mN (neg:Bool) (k:Nat) (ls:List Nat):l_ neg (.int (k:Int)) (.lst (lD ls))=some (.bl (if neg then !decide (k ∈ ls) else decide (k ∈ ls))):=wq neg k ls
theorem oi (n0:Int) {M Z:Nat} (hM1:1 ≤ M) (hM7:M ≤ 7) (hZ1:1 ≤ Z) (hZ6:Z ≤ 6):∃ d xs',bL k7 xF [.int n0] [.int M,.int Z]=some (d,xs')∧(∃ hs:List (List Int),d=.lst (hs.map hD)∧hs.length=Z∧∀ h ∈ hs,dY M h)∧∃ n:Int,xs' = [.int n]:= by
 apply gX
 show Ok xF [.ow true [.int n0],.pu (.int M),.pu (.int Z),.un,.un,.un,.un,.un,.un,.un,.un] _
 unfold xF
 have sM:aF M=true:=by simp [aF];omega
 obtain ⟨d,xs',eh,⟨h0,rfl,hh0⟩,n1,rfl⟩:=kg n0 hM1 hM7
 refine aB (fun δ=>δ=[.ow true [.int n1],.pu (.int M),.pu (.int Z),.ow false [hD h0],.un,.un,.un,.un,.un,.un,.un]) ?_ ?_
 ·simp [-Prod.exists,eh]
 rintro _ rfl
 have hZ':((Z:Int) - 1)=((Z - 1:Nat):Int):=by omega
 have sZ:aF ((Z - 1:Nat):Int)=true:=by simp [aF];omega
 refine aB (fun δ=>∃ (n:Int) (hs:List (List Int)) (a4 a5 a6 a7 a8 a9 a10:Jt.Slot),δ=[.ow true [.int n],.pu (.int M),.pu (.int Z),.ow false (hs.map hD),a4,a5,a6,a7,a8,a9,a10]∧hs.length=Z∧∀ h ∈ hs,dY M h) ?_ ?_
 ·refine fL (bo 0 (Z - 1)) (fun k δ=>∃ (n:Int) (hs:List (List Int)) (a4 a5 a6 a7 a8 a9 a10:Jt.Slot),δ=[.ow true [.int n],.pu (.int M),.pu (.int Z),.ow false (hs.map hD),a4,a5,a6,a7,a8,a9,a10]∧hs.length=k + 1∧∀ h ∈ hs,dY M h) ?_ ⟨n1,[h0],_,_,_,_,_,_,_,rfl,rfl,by simpa using hh0⟩ ?_ ?_
  ·simp [du,bC,hZ',bT,sZ]
  ·rintro k hk _ ⟨n,hs,a4,a5,a6,a7,a8,a9,a10,rfl,hlen,hq⟩
   have hk':k < Z - 1:=by simpa [bo] using hk
   rw [eG,br]
   refine ⟨by simp,?_⟩
   simp only [List.set_cons_succ,List.set_cons_zero]
   refine aB (fun δ=>∃ n way:Int,δ=[.ow true [.int n],.pu (.int M),.pu (.int Z),.ow false (hs.map hD),.pu (.int k),.pu (.int way),a6,a7,a8,a9,a10]) ?_ ?_
   ·simp [-Prod.exists,aW]
   rintro _ ⟨n,way,rfl⟩
   have hpos:0 < hs.length:=by omega
   have et:=aW n hs.length (by omega) (by omega)
   refine aB (fun δ=>∃ (n:Int) (h:List Int),h ∈ hs∧δ=[.ow true [.int n],.pu (.int M),.pu (.int Z),.ow false (hs.map hD),.pu (.int k),.pu (.int way),.pu (hD h),a7,a8,a9,a10]) ?_ ?_
   ·obtain ⟨h,hh,eh⟩:=wJ hs n hpos
    have el:e_ (.lst (hs.map hD)) (.int ((hs.length:Int) - 1))=some (hD hs[hs.length - 1]):= by
     rw [show (hs.length:Int) - 1=((hs.length - 1:Nat):Int) by omega]
     show jh _ _=_
     rw [dA _ _ (by simp;omega)]
     simp
    by_cases q:1 < way
    ·simp [-Prod.exists,et,du,uX,bC,jG,q,xX,eh]
     exact ⟨_,h,hh,rfl,rfl⟩
    ·simp [-Prod.exists,et,du,uX,bC,jG,q,vp,el]
     exact ⟨_,_,List.getElem_mem (by omega),rfl,rfl⟩
   rintro _ ⟨n,h,hh,rfl⟩
   have hok:=hq h hh
   have h7:=hok.len (by omega) (by omega)
   refine aB (fun δ=>∃ (n:Int) (cs:List Int),δ=[.ow true [.int n],.pu (.int M),.pu (.int Z),.ow false (hs.map hD),.pu (.int k),.pu (.int way),.pu (hD h),.pu (.lst (cs.map .int)),a8,a9,a10]∧cs.Sublist h) ?_ ?_
   ·simp only [dt,av,ar]
    refine dD (h.map .int) (fun j acc δ=>∃ (n:Int) (cs:List Int),acc=cs.map .int∧δ=[.ow true [.int n],.pu (.int M),.pu (.int Z),.ow false (hs.map hD),.pu (.int k),.pu (.int way),.pu (hD h),a7,a8,a9,a10]∧cs.Sublist (h.take j)) rfl ?_ (by simp;omega) ⟨n,[],rfl,rfl,by simp⟩ ?_ ?_
    ·simp [kO]
    ·rintro j hj acc _ ha hl ⟨n,cs,rfl,rfl,hb⟩
     have hj':j < h.length:=by simpa using hj
     rw [List.getElem_map]
     have e3:=aW n 3 (by omega) (by omega)
     have tk:h.take (j + 1)=h.take j ++ [h[j]]:=List.take_succ_eq_append_getElem hj'
     by_cases q:0 < n % 3
     ·simp [-Prod.exists,e3,uX,bC,q]
      exact ⟨_,cs ++ [h[j]],by simp,rfl,by rw [tk];exact List.Sublist.append hb (List.Sublist.refl _)⟩
     ·simp [-Prod.exists,e3,uX,bC,q]
      exact ⟨_,cs,rfl,rfl,by rw [tk];exact hb.trans (List.sublist_append_left _ _)⟩
    ·rintro xs _ hx hl ⟨n,cs,rfl,rfl,hb⟩
     rw [List.length_map,List.take_length] at hb
     exact ⟨by simp,trivial,n,cs,rfl,hb⟩
   rintro _ ⟨n,cs,rfl,hcs⟩
   refine aB (fun δ=>δ=[.ow true [.int n],.pu (.int M),.pu (.int Z),.ow false (hs.map hD),.pu (.int k),.pu (.int way),.pu (hD h),.pu (.lst (cs.map .int)),.pu (.lst (lD (qu M hs))),a9,a10]) ?_ ?_
   ·simp only [dt,av,ar]
    refine bF (List.range M) (fun (i:Nat)=>.int (i:Int)) (fun c=>if (hs.any fun h=>decide ((c:Int) ∈ h))=true then some (.int (c:Int)) else none) rfl ?_ (by simp;omega) (fun c hc=>?_) ?_
    ·simp [bT,sM,bo]
    ·simp only [eA,br,av,d7]
     refine ⟨by simp,?_⟩
     refine vI (i:=3) (b:=false) hs hD (fun h=>if decide ((c:Int) ∈ h)=true then some (hD h) else none) rfl rfl ?_ (by omega) (fun h hh=>?_) ?_
     ·simp
     ·by_cases q:(c:Int) ∈ h <;> simp [pv,q]
     ·rw [bR]
      have:=G0 hs (c:Int)
      cases q:(hs.any fun h=>decide ((c:Int) ∈ h)) with
      | true=>
       rw [q] at this
       simp only [ar,gS,cJ,List.length_nil,Nat.zero_le,true_and,eK,this,bA,ip,if_true,D.bl.injEq,exists_eq_left']
       simp
      | false=>
       rw [q] at this
       simp only [ar,gS,cJ,List.length_nil,Nat.zero_le,true_and,eK,this,bA,ip,if_true,D.bl.injEq,exists_eq_left']
       simp
    ·rw [bR]
     simp [lD,qu]
   rintro _ rfl
   refine aB (fun δ=>∃ (n:Int) (fs:List Int),δ=[.ow true [.int n],.pu (.int M),.pu (.int Z),.ow false (hs.map hD),.pu (.int k),.pu (.int way),.pu (hD h),.pu (.lst (cs.map .int)),.pu (.lst (lD (qu M hs))),.pu (.lst (fs.map .int)),a10]∧Up M M fs∧∀ c ∈ fs,c ∉ h) ?_ ?_
   ·simp only [dt,av,ar]
    refine dD (bo 0 M) (fun j acc δ=>∃ (n:Int) (fs:List Int),acc=fs.map .int∧δ=[.ow true [.int n],.pu (.int M),.pu (.int Z),.ow false (hs.map hD),.pu (.int k),.pu (.int way),.pu (hD h),.pu (.lst (cs.map .int)),.pu (.lst (lD (qu M hs))),a9,a10]∧Up M j fs∧∀ c ∈ fs,c ∉ h) rfl ?_ (by simp [bo];omega) ⟨n,[],rfl,rfl,⟨List.Pairwise.nil,by simp⟩,by simp⟩ ?_ ?_
    ·simp [bT,sM]
    ·rintro j hj acc _ ha hl ⟨n,fs,rfl,rfl,hb,hn⟩
     have hj':j < M:=by simpa [bo] using hj
     rw [eG]
     have e2:=aW n 2 (by omega) (by omega)
     by_cases q:j ∈ qu M hs
     ·simp only [eA,br,nI,av,d7,bp]
      simp [-Prod.exists,mN,q]
      exact ⟨_,fs,rfl,rfl,hb.more,hn⟩
     ·have nh:(j:Int) ∉ h:=fun z=>q (List.mem_filter.mpr ⟨List.mem_range.mpr hj',List.any_eq_true.mpr ⟨h,hh,decide_eq_true z⟩⟩)
      by_cases q2:n % 2=0
      ·simp only [eA,br,nI,av,d7,bp]
       simp [-Prod.exists,mN,q,e2,cW,q2]
       refine ⟨_,fs ++ [(j:Int)],by simp,rfl,hb.snoc hj',fun c hc=>?_⟩
       rcases List.mem_append.mp hc with z | z
       ·exact hn c z
       ·rw [List.mem_singleton.mp z];exact nh
      ·simp only [eA,br,nI,av,d7,bp]
       simp [-Prod.exists,mN,q,e2,cW,q2]
       exact ⟨_,fs,rfl,rfl,hb.more,hn⟩
    ·rintro xs _ hx hl ⟨n,fs,rfl,rfl,hb,hn⟩
     have:(bo 0 M).length=M:=by simp [bo]
     rw [this] at hb
     exact ⟨by simp,trivial,n,fs,rfl,hb,hn⟩
   rintro _ ⟨n,fs,rfl,hfs,hfn⟩
   have hcl:=hcs.length_le
   have hfl:fs.length ≤ 7:= by
    have:=mR fs 0 M hfs.1 (fun c hc=>by have:=hfs.2 c hc;omega) (by omega)
    omega
   have l1:cs.length + fs.length ≤ 100000:=by omega
   have l2:(cs ++ fs).length < 64:=by rw [List.length_append];omega
   refine aB (fun δ=>δ=[.ow true [.int n],.pu (.int M),.pu (.int Z),.ow false (hs.map hD),.pu (.int k),.pu (.int way),.pu (hD h),.pu (.lst (cs.map .int)),.pu (.lst (lD (qu M hs))),.pu (.lst (fs.map .int)),.pu (.lst ((cQ (cs ++ fs)).map .int))]) ?_ ?_
   ·have e:f_ (cs.map D.int ++ fs.map D.int)=some (cs ++ fs):=by rw [<- List.map_append,jC]
    have es:sortI (cs.map D.int ++ fs.map D.int)=some ((cQ (cs ++ fs)).map D.int):= by
     unfold sortI
     rw [e]
     exact if_pos l2
    simp [ny,pS,l1,jT,es]
   rintro _ rfl
   have hnd:(cs ++ fs).Nodup:=tP (hok.2.1.sublist hcs) hfs.1 fun x hx hy=>hfn x hy (hcs.subset hx)
   have hpos':0 < h.length:=List.length_pos_iff.mpr hok.1
   have e7:=aW n h.length (by omega) (by omega)
   refine aB (fun δ=>∃ (n:Int) (g:List Int),δ=[.ow true [.int n],.pu (.int M),.pu (.int Z),.ow false (hs.map hD),.pu (.int k),.pu (.int way),.pu (hD h),.pu (.lst (cs.map .int)),.pu (.lst (lD (qu M hs))),.pu (.lst (fs.map .int)),.pu (.lst (g.map .int))]∧dY M g) ?_ ?_
   ·by_cases q:cQ (cs ++ fs)=[]
    ·obtain ⟨j,hj,ej⟩:∃ j,∃ hj:j < h.length,n % (h.length:Int)=(j:Int):= by
      have g1:=Int.emod_nonneg n (show (h.length:Int) ≠ 0 by omega)
      have g2:=Int.emod_lt_of_pos n (show (0:Int) < h.length by omega)
      exact ⟨(n % (h.length:Int)).toNat,by omega,by omega⟩
     rw [ej] at e7
     have ei:e_ (hD h) (.int (j:Int))=some (.int h[j]):= by
      show jh _ _=_
      rw [dA _ _ (by simpa using hj)]
      simp
     have el:bW [hD h]=some (.int h.length):=by simp [hD,bW]
     simp [-Prod.exists,q,eK,el,e7,ei]
     refine ⟨_,[h[j]],⟨rfl,rfl⟩,by simp,by simp,fun c hc=>?_⟩
     rw [List.mem_singleton.mp hc]
     exact hok.2.2 _ (List.getElem_mem hj)
    ·have q':((cQ (cs ++ fs)).map D.int).isEmpty=false:= by
      cases z:cQ (cs ++ fs) with
      | nil=>exact absurd z q
      | cons a r=>rfl
     simp only [xl,av,d7,bp,gS,ar,cJ,List.getElem?_cons_zero,List.getElem?_cons_succ,Option.some.injEq,Jt.Slot.pu.injEq,exists_eq_left',List.length_nil,Nat.zero_le,true_and,eK,q',bA,ip,Bool.false_eq_true,if_false,D.bl.injEq]
     refine ⟨n,_,rfl,q,kP hnd,fun c hc=>?_⟩
     rw [jB] at hc
     rcases List.mem_append.mp hc with z | z
     ·exact hok.2.2 c (hcs.subset z)
     ·have:=hfs.2 c z;omega
   rintro _ ⟨n,g,rfl,hg⟩
   refine d8 ⟨_,_,rfl⟩ ?_
   have hl3:hs.length ≤ 100000:=by omega
   simp [dj,hl3]
   refine ⟨_,hs ++ [g],⟨rfl,by simp [hD]⟩,by simp [hlen],fun h' hh'=>?_⟩
   rcases List.mem_append.mp hh' with z | z
   ·exact hq h' z
   ·rw [List.mem_singleton.mp z];exact hg
  ·rintro _ ⟨n,hs,a4,a5,a6,a7,a8,a9,a10,rfl,hlen,hq⟩
   have:(bo 0 (Z - 1)).length=Z - 1:=by simp [bo]
   rw [this] at hlen
   exact ⟨rfl,n,hs,_,_,_,_,_,_,_,rfl,by omega,hq⟩
 rintro _ ⟨n,hs,a4,a5,a6,a7,a8,a9,a10,rfl,hlen,hq⟩
 simp
 exact ⟨hs,rfl,hlen,hq⟩
end K22
namespace K22
open PySem L2 Jt
open Builtin.Int (intBits)
theorem yW {M S k:Nat} (hS:3 ≤ S) (hSM:S ≤ M) (hk:k < S):dY M (cQ [(k:Int),((k:Int) + 1) % (S:Int)]):= by
 have a1:=Int.emod_nonneg ((k:Int) + 1) (show (S:Int) ≠ 0 by omega)
 have a2:=Int.emod_lt_of_pos ((k:Int) + 1) (show (0:Int) < S by omega)
 have ne:(k:Int) ≠ ((k:Int) + 1) % (S:Int):= by
  by_cases q:k + 1 < S
  ·rw [Int.emod_eq_of_lt (by omega) (by omega)];omega
  ·rw [show (k:Int) + 1=S by omega,Int.emod_self];omega
 refine ⟨?_,kP (by simpa using ne),?_⟩
 ·intro e
  have:=congrArg List.length e
  rw [mH] at this
  simp at this
 ·intro c hc
  rw [jB] at hc
  rcases List.mem_cons.mp hc with rfl | hc
  ·omega
  ·rw [List.mem_singleton.mp hc];omega
theorem yP {M S k:Nat} (hS:3 ≤ S) (hSM:S ≤ M):dY M (((List.range S).filter fun i=>decide (i ≠ k)).map fun (i:Nat)=>(i:Int)):= by
 refine ⟨?_,?_,?_⟩
 ·intro e
  have:(if k=0 then 1 else 0) ∈ (List.range S).filter fun i=>decide (i ≠ k):= by
   rw [List.mem_filter,List.mem_range]
   split <;> simp <;> omega
  rw [List.map_eq_nil_iff] at e
  rw [e] at this;cases this
 ·refine List.Pairwise.map _ (fun a b hab=>?_) (List.Pairwise.filter _ List.pairwise_lt_range)
  exact Int.ofNat_lt.mpr hab
 ·intro c hc
  obtain ⟨i,hi,rfl⟩:=List.mem_map.mp hc
  have:=List.mem_range.mp (List.mem_filter.mp hi).1
  omega
theorem m9 (n0:Int) {M:Nat} (hM3:3 ≤ M) (hM7:M ≤ 7):∃ d xs',bL k8 vO [.int n0] [.int M]=some (d,xs')∧(∃ hs:List (List Int),d=.lst (hs.map hD)∧3 ≤ hs.length∧hs.length ≤ 6∧∀ h ∈ hs,dY M h)∧∃ n:Int,xs' = [.int n]:= by
 apply gX
 show Ok vO [.ow true [.int n0],.pu (.int M),.un] _
 unfold vO
 obtain ⟨N,hN,hN1,hN2,hNM⟩:∃ N:Nat,(if (M:Int) < 6 then (M:Int) else 6)=(N:Int)∧3 ≤ N∧N ≤ 6∧N ≤ M:= by
  refine ⟨(if (M:Int) < 6 then (M:Int) else 6).toNat,?_,?_,?_,?_⟩ <;> split <;> omega
 have lot:∀ n:Int,Ok (aE (c_ 2 (m2 b8 (pure (.int 3)) (do let _ <- aO 0;cq 0 2 (bL cN cC) (af (m2 du (mC i9 (af (pure (.int 6)) (af (ag 1) (pure [])))) (pure (.int 2))) (pure [])))))
  (do let d <- (do let xs <- (bh 3 1 (mC bT (af (ag 2) (pure []))) (bz (ba 3) (pure true) (mC cG (af (do let xs <- (bh 4 1 (mC bT (af (ag 2) (pure []))) (bz (ba 4) ((m2 (iC true) (ag 4) (ag 3)) >>= dG) (ag 4)));pure (D.lst xs)) (pure [])))));pure (D.lst xs));pure (Fl.rt d))) [.ow true [.int n],.pu (.int M),.un] (fun fl δ=>∃ d,fl=.rt d∧∃ xs',δ[0]? = some (.ow true xs')∧(∃ hs:List (List Int),d=.lst (hs.map hD)∧3 ≤ hs.length∧hs.length ≤ 6∧∀ h ∈ hs,dY M h)∧∃ n:Int,xs' = [.int n]):= by
  intro n
  have hp:(0:Int) < N - 2:=by omega
  have hq:(N:Int) - 2 < 1073741824:=by omega
  obtain ⟨S,hS,hS1,hS2⟩:∃ S:Nat,3 + n % ((N:Int) - 2)=(S:Int)∧3 ≤ S∧S ≤ N:= by
   have h1:=Int.emod_nonneg n (show (N:Int) - 2 ≠ 0 by omega)
   have h2:=Int.emod_lt_of_pos n hp
   exact ⟨(3 + n % ((N:Int) - 2)).toNat,by omega,by omega,by omega⟩
  have hsm:aF S=true:=by simp [aF];omega
  refine aB (fun δ=>δ=[.ow true [.int (n / ((N:Int) - 2))],.pu (.int M),.pu (.int S)]) ?_ ?_
  ·simp [-Prod.exists,i9,hN,du,b8,bC,aW _ _ hp hq,hS]
  rintro _ rfl
  simp only [av,ar]
  refine bF (List.range S) (fun (k:Nat)=>.int (k:Int)) (fun k=>some (hD (((List.range S).filter fun i=>decide (i ≠ k)).map fun (i:Nat)=>(i:Int)))) rfl ?_ (by simp;omega) (fun k _=>?_) ?_
  ·simp [bT,hsm,bo]
  ·simp
   refine bF (List.range S) (fun (k:Nat)=>.int (k:Int)) (fun i=>if decide (i ≠ k)=true then some (.int (i:Int)) else none) rfl ?_ (by simp;omega) (fun i _=>?_) ?_
   ·simp [bT,hsm,bo]
   ·by_cases e:i=k <;> simp [gP,e]
   ·rw [bR]
    simp [cG,jT,hD]
  ·refine ⟨_,rfl,_,rfl,⟨(List.range S).map fun (k:Nat)=>(((List.range S).filter fun i=>decide (i ≠ k)).map fun (i:Nat)=>(i:Int)),by simp [List.filterMap_eq_map'],by simp;omega,by simp;omega,fun h hh=>?_⟩,_,rfl⟩
   obtain ⟨k,hk,rfl⟩:=List.mem_map.mp hh
   exact yP hS1 (by omega)
 by_cases h3:M=3
 ·rw [cb]
  have:(M:Int)=3:=by omega
  refine fP (fun b δ=>b=true∧δ=[.ow true [.int n0],.pu (.int M),.un]) ?_ ?_ ?_
  ·simp [cW,this]
  ·rintro _ ⟨_,rfl⟩
   refine (lot n0).mono fun fl δ1 ⟨d,e,xs',q⟩=>?_
   subst e
   exact ⟨d,xs',rfl,q⟩
  ·rintro _ ⟨h,_⟩;cases h
 ·have h3':¬ ((M:Int)=3):=by omega
  have e2:=aW n0 2 (by omega) (by omega)
  rw [cb]
  refine fP (fun b δ=>δ=[.ow true [.int (n0 / 2)],.pu (.int M),.un]) ?_ ?_ ?_
  ·simp [-Prod.exists,cW,h3',e2]
   omega
  ·rintro _ rfl
   refine (lot _).mono fun fl δ1 ⟨d,e,xs',q⟩=>?_
   subst e
   exact ⟨d,xs',rfl,q⟩
  ·rintro _ rfl
   rw [ar]
   generalize n0 / 2=n
   have hp:(0:Int) < N - 3:=by omega
   have hq:(N:Int) - 3 < 1073741824:=by omega
   obtain ⟨S,hS,hS1,hS2⟩:∃ S:Nat,4 + n % ((N:Int) - 3)=(S:Int)∧3 ≤ S∧S ≤ N:= by
    have h1:=Int.emod_nonneg n (show (N:Int) - 3 ≠ 0 by omega)
    have h2:=Int.emod_lt_of_pos n hp
    exact ⟨(4 + n % ((N:Int) - 3)).toNat,by omega,by omega,by omega⟩
   have hsm:aF S=true:=by simp [aF];omega
   refine aB (fun δ=>δ=[.ow true [.int (n / ((N:Int) - 3))],.pu (.int M),.pu (.int S)]) ?_ ?_
   ·simp [-Prod.exists,i9,hN,du,b8,bC,aW _ _ hp hq,hS]
   rintro _ rfl
   simp only [av,ar]
   refine bF (List.range S) (fun (k:Nat)=>.int (k:Int)) (fun k=>some (hD (cQ [(k:Int),((k:Int) + 1) % (S:Int)]))) rfl ?_ (by simp;omega) (fun k _=>?_) ?_
   ·simp [bT,hsm,bo]
   ·have:0 < S:=by omega
    simp [b8,pX,bC,jT,sortI,f_,this,cG,hD]
   ·refine ⟨_,_,rfl,rfl,⟨(List.range S).map fun (k:Nat)=>cQ [(k:Int),((k:Int) + 1) % (S:Int)],by simp [List.filterMap_eq_map'],by simp;omega,by simp;omega,fun h hh=>?_⟩,_,rfl⟩
    obtain ⟨k,hk,rfl⟩:=List.mem_map.mp hh
    exact yW hS1 (by omega) (List.mem_range.mp hk)
theorem vf {ls:List Nat} (h:ls.Nodup) (j:Nat):(ls.eraseIdx j).Nodup:=h.sublist (List.eraseIdx_sublist ls j)
theorem jl {ls:List Nat} (h:ls.Nodup) {j:Nat} (hj:j < ls.length):ls[j] ∉ ls.eraseIdx j:=fun hm=>by
 obtain ⟨i,hi,e⟩:=List.mem_eraseIdx_iff_getElem.mp hm
 obtain ⟨hl,e⟩:=e
 have:=(List.getElem_inj h).mp e
 exact hl this
theorem ot (n0:Int) {M:Nat} {hs:List (List Int)} (hM1:1 ≤ M) (hM7:M ≤ 7) (h1:1 ≤ hs.length) (h6:hs.length ≤ 6) (hq:∀ h ∈ hs,dY M h):∃ d xs',bL ft jL [.int n0] [.int M,.lst (hs.map hD)]=some (d,xs')∧(∃ gs:List (List Int),d=.tup (gs.map hD)∧gs.length=hs.length∧∀ g ∈ gs,dY M g)∧∃ n:Int,xs' = [.int n]:= by
 apply gX
 show Ok jL [.ow true [.int n0],.pu (.int M),.pu (.lst (hs.map hD)),.un,.un,.un,.un] _
 unfold jL
 have hn:(M:Int) < 100000:=by omega
 have sM:aF M=true:=by simp [aF];omega
 refine aB (fun δ=>δ=[.ow true [.int n0],.pu (.int M),.pu (.lst (hs.map hD)),.ow false (lD (List.range M)),.un,.un,.un]) (by simp [j8,hn,iA]) ?_
 rintro _ rfl
 refine aB (fun δ=>∃ (n:Int) (ls os:List Nat),δ=[.ow true [.int n],.pu (.int M),.pu (.lst (hs.map hD)),.ow false (lD ls),.pu (.lst (lD os)),.un,.un]∧os.length=M∧os.Nodup∧∀ o ∈ os,o < M) ?_ ?_
 ·simp only [dt,av,ar]
  refine dD (bo 0 M) (fun k acc δ=>∃ (n:Int) (ls os:List Nat),acc=lD os∧δ=[.ow true [.int n],.pu (.int M),.pu (.lst (hs.map hD)),.ow false (lD ls),.un,.un,.un]∧os.length=k∧ls.length + k=M∧os.Nodup∧ls.Nodup∧(∀ o ∈ os,o < M∧o ∉ ls)∧∀ o ∈ ls,o < M) rfl ?_ (by simp [bo];omega) ⟨n0,List.range M,[],rfl,rfl,rfl,by simp,by simp,List.nodup_range,by simp,by simp⟩ ?_ ?_
  ·simp [bT,sM]
  ·rintro k hk acc _ ha hl ⟨n,ls,os,rfl,rfl,h1,h2,h3,h4,h5,h6⟩
   have hk':k < M:=by simpa [bo] using hk
   have et:=aW n ls.length (by omega) (by omega)
   have g1:=Int.emod_nonneg n (show (ls.length:Int) ≠ 0 by omega)
   have g2:=Int.emod_lt_of_pos n (show (0:Int) < ls.length by omega)
   obtain ⟨j,hj⟩:∃ j:Nat,n % (ls.length:Int)=(j:Int):=⟨(n % (ls.length:Int)).toNat,by omega⟩
   have hlt:j < ls.length:=by omega
   rw [hj] at et
   rw [eG]
   simp only [eA,br,ar]
   refine ⟨by simp,?_⟩
   simp only [if_true]
   refine rp ⟨_,_,rfl⟩ ?_
   simp [-Prod.exists,ql,et]
   have hne:=jl h4 hlt
   have hmem:=List.getElem_mem hlt
   refine ⟨j,rfl,by omega,.int (ls[j]:Int),by simp [lD,hlt],_,ls.eraseIdx j,os ++ [ls[j]],by simp [lD],⟨rfl,jF _ ls j⟩,by simp [h1],?_,?_,vf h4 j,?_,fun o ho=>h6 o (List.mem_of_mem_eraseIdx ho)⟩
   ·rw [List.length_eraseIdx,if_pos hlt];omega
   ·refine List.nodup_append.mpr ⟨h3,by simp,fun a ha b hb e=>?_⟩
    rw [List.mem_singleton.mp hb] at e
    exact (h5 a ha).2 (e ▸ hmem)
   ·intro o ho
    rcases List.mem_append.mp ho with z | z
    ·exact ⟨(h5 o z).1,fun q=>(h5 o z).2 (List.mem_of_mem_eraseIdx q)⟩
    ·rw [List.mem_singleton.mp z];exact ⟨h6 _ hmem,hne⟩
  ·rintro xs _ hx hl ⟨n,ls,os,rfl,rfl,h1,h2,h3,h4,h5,h6⟩
   have:(bo 0 M).length=M:=by simp [bo]
   exact ⟨by simp,trivial,n,ls,os,rfl,by omega,h3,fun o ho=>(h5 o ho).1⟩
 rintro _ ⟨n,ls,os,rfl,o1,o2,o3⟩
 let mv:List Int->List Int:=fun h=>cQ (h.map fun c=>((os.getD c.toNat 0:Nat):Int))
 have mvOk:∀ h ∈ hs,dY M (mv h):=fun h hh=>by
  obtain ⟨q1,q2,q3⟩:=hq h hh
  have inj:(h.map fun c=>((os.getD c.toNat 0:Nat):Int)).Nodup:= by
   refine List.Pairwise.map _ (fun a b (hab:a ∈ h∧b ∈ h∧a < b) e=>?_) (List.Pairwise.imp_of_mem (fun {a b} ha hb (l:a < b)=>(⟨ha,hb,l⟩:a ∈ h∧b ∈ h∧a < b)) q2)
   have ha:=q3 a hab.1
   have hb:=q3 b hab.2.1
   have e':=Int.ofNat_inj.mp e
   rw [List.getD_eq_getElem?_getD,List.getD_eq_getElem?_getD,List.getElem?_eq_getElem (by omega),List.getElem?_eq_getElem (by omega)] at e'
   have:=(List.getElem_inj o2).mp e'
   have:=hab.2.2
   omega
  refine ⟨?_,kP inj,fun c hc=>?_⟩
  ·intro e
   have:=congrArg List.length e
   rw [mH,List.length_map] at this
   exact q1 (List.eq_nil_of_length_eq_zero this)
  ·rw [jB] at hc
   obtain ⟨x,hx,rfl⟩:=List.mem_map.mp hc
   have:=q3 x hx
   have hlt:x.toNat < os.length:=by omega
   rw [List.getD_eq_getElem?_getD,List.getElem?_eq_getElem hlt]
   have:=o3 _ (List.getElem_mem hlt)
   simp;omega
 refine aB (fun δ=>δ=[.ow true [.int n],.pu (.int M),.pu (.lst (hs.map hD)),.ow false (lD ls),.pu (.lst (lD os)),.ow false ((hs.map mv).map hD),.un]) ?_ ?_
 ·simp only [BQ]
  refine bF hs hD (fun h=>some (hD (mv h))) rfl ?_ (by omega) (fun h hh=>?_) ?_
  ·simp [bO]
  ·have h7:=(hq h hh).len (by omega) (by omega)
   simp only [eA,br,ar,if_true,fw,bg,av,Fo]
   refine ⟨by simp,?_⟩
   refine bF h .int (fun c=>some (.int ((os.getD c.toNat 0:Nat):Int))) rfl ?_ (by omega) (fun c hc=>?_) ?_
   ·simp [kO]
   ·have hb:=(hq h hh).2.2 c hc
    have e:e_ (.lst (lD os)) (.int c)=some (.int ((os.getD c.toNat 0:Nat):Int)):= by
     obtain ⟨i,rfl⟩:∃ i:Nat,c=(i:Int):=⟨c.toNat,by omega⟩
     show jh _ _=_
     have:i < os.length:=by omega
     rw [dA _ _ (by rw [ql];omega)]
     simp [lD,this]
    simp [e]
   ·have es:sortI (h.map fun c=>D.int ((os.getD c.toNat 0:Nat):Int))=some ((mv h).map D.int):= by
     have:(h.map fun c=>D.int ((os.getD c.toNat 0:Nat):Int))=(h.map fun c=>((os.getD c.toNat 0:Nat):Int)).map D.int:=by rw [List.map_map];rfl
     unfold sortI
     rw [this,jC]
     exact if_pos (by rw [List.length_map];omega)
    simp only [List.filterMap_eq_map',jT,bA,es,dj,ar]
    simp [hD]
  ·simp [List.filterMap_eq_map']
 rintro _ rfl
 refine aB (fun δ=>δ=[.ow true [.int n],.pu (.int M),.pu (.lst (hs.map hD)),.ow false (lD ls),.pu (.lst (lD os)),.ow false ((hs.map mv).map hD),.ow false []]) (by simp) ?_
 rintro _ rfl
 refine aB (fun δ=>∃ (n:Int) (gs:List (List Int)) (a5:Jt.Slot),δ=[.ow true [.int n],.pu (.int M),.pu (.lst (hs.map hD)),.ow false (lD ls),.pu (.lst (lD os)),a5,.ow false (gs.map hD)]∧gs.length=hs.length∧∀ g ∈ gs,dY M g) ?_ ?_
 ·refine sE (fun k δ=>∃ (n:Int) (rs gs:List (List Int)),δ=[.ow true [.int n],.pu (.int M),.pu (.lst (hs.map hD)),.ow false (lD ls),.pu (.lst (lD os)),.ow false (rs.map hD),.ow false (gs.map hD)]∧rs.length=k∧gs.length + k=hs.length∧(∀ g ∈ gs,dY M g)∧∀ g ∈ rs,dY M g) ?_ 7 hs.length _ (by omega) ⟨n,hs.map mv,[],rfl,by simp,by simp,by simp,fun g hg=>?_⟩
  ·rintro k _ ⟨n,rs,gs,rfl,r1,r2,r3,r4⟩
   have e1:(rs.map hD).isEmpty=rs.isEmpty:=by rw [List.isEmpty_map]
   cases q:rs.isEmpty with
   | true=>
    have:k=0:=by rw [<- r1,List.isEmpty_iff.mp q];rfl
    simp [i0,e1,q]
    exact .inl ⟨List.isEmpty_iff.mp q,_,gs,⟨rfl,rfl⟩,by omega,r3⟩
   | false=>
    simp only [av,qZ,Au,gS,ar,cJ,ip,C1,rb,List.getElem?_cons_zero,List.getElem?_cons_succ,Option.some.injEq,List.length_nil,Nat.zero_le,true_and,i0,D.bl.injEq]
    refine ⟨_,_,rfl,_,_,rfl,?_⟩
    simp only [i0,e1,q,bA,D.bl.injEq,exists_eq_left']
    refine ⟨fun _=>?_,fun h=>by cases h⟩
    have hpos:0 < rs.length:=List.length_pos_iff.mpr fun z=>by rw [z] at q;cases q
    have et:=aW n rs.length (by omega) (by omega)
    have g1:=Int.emod_nonneg n (show (rs.length:Int) ≠ 0 by omega)
    have g2:=Int.emod_lt_of_pos n (show (0:Int) < rs.length by omega)
    obtain ⟨j,hj⟩:∃ j:Nat,n % (rs.length:Int)=(j:Int):=⟨(n % (rs.length:Int)).toNat,by omega⟩
    have hlt:j < rs.length:=by omega
    rw [hj] at et
    refine ⟨k - 1,by omega,?_⟩
    refine d8 ⟨_,_,rfl⟩ ?_
    simp only [bg]
    refine rp ⟨_,_,rfl⟩ ?_
    simp [-Prod.exists,et]
    refine ⟨j,rfl,by omega,hD rs[j],by simp [hlt],by omega,n / (rs.length:Int),rs.eraseIdx j,gs ++ [rs[j]],⟨rfl,jF _ rs j,by simp⟩,?_,by simp;omega,fun g hg=>?_,fun g hg=>r4 g (List.mem_of_mem_eraseIdx hg)⟩
    ·rw [List.length_eraseIdx,if_pos hlt];omega
    ·rcases List.mem_append.mp hg with z | z
     ·exact r3 g z
     ·rw [List.mem_singleton.mp z];exact r4 _ (List.getElem_mem hlt)
  ·obtain ⟨h,hh,rfl⟩:=List.mem_map.mp hg
   exact mvOk h hh
 rintro _ ⟨n,gs,a5,rfl,g1,g2⟩
 simp
 exact ⟨gs,rfl,g1,g2⟩
end K22
namespace K22
open PySem L2 Jt
open Builtin.Int (intBits)
theorem qL {lo own:Nat} {fi:M iB} {turn:D->M (Option D)} {Q:List D->DS->Prop} {δ:DS} (hl:δ.length=lo) (h:Ok fi δ fun it δ'=>Ok (bh lo own (pure it) turn) δ' Q):Ok (bh lo own fi turn) δ Q:= by
 obtain ⟨it,δ',e,z⟩:=h
 obtain ⟨xs,δ2,e2,q⟩:=z
 refine ⟨xs,δ2,?_,q⟩
 unfold bh at e2 ⊢
 obtain ⟨u,δ3,e3,e4⟩:=bind_some e2
 obtain ⟨it',δ4,e5,e6⟩:=bind_some e4
 obtain ⟨rfl,rfl⟩:=ai e5
 have e7:δ3=δ':= by
  unfold f9 at e3
  split at e3
  ·cases e3;rfl
  ·cases e3
 subst e7
 show (f9 lo >>= _) δ=_
 have:f9 lo δ=some ((),δ):=by unfold f9;rw [if_pos hl]
 simp only [M.bind_def,this,e] at e6 ⊢
 exact e6
theorem kc {M:Nat} (hM1:1 ≤ M) (hM7:M ≤ 7) (Z:Nat) (hZ:Z ≤ 100) (n:Int) {a1 a2 a4 a5 a6 a7:Jt.Slot} {fi:Jt.M iB} {Q:List D->DS->Prop}
  (hi:Ok fi [.ow true [.int n],a1,a2,.pu (.int M),a4,a5,a6,a7] fun it δ'=>it=aQ (bo 0 Z)∧δ' = [.ow true [.int n],a1,a2,.pu (.int M),a4,a5,a6,a7])
  (hQ:∀ (hs:List (List Int)) (n:Int),hs.length=Z->(∀ h ∈ hs,dY M h)->Q (hs.map hD) [.ow true [.int n],a1,a2,.pu (.int M),a4,a5,a6,a7]) :
  Ok (bh 8 1 fi (bz (ba 8) (pure true) (do let _ <- aO 0;cq 0 2 (bL gk ic) (af (ag 3) (pure []))))) [.ow true [.int n],a1,a2,.pu (.int M),a4,a5,a6,a7] Q:= by
 refine dD (bo 0 Z) (fun k acc δ=>∃ (n:Int) (hs:List (List Int)),acc=hs.map hD∧δ=[.ow true [.int n],a1,a2,.pu (.int M),a4,a5,a6,a7]∧hs.length=k∧∀ h ∈ hs,dY M h) rfl hi (by simp [bo];omega) ⟨n,[],rfl,rfl,rfl,by simp⟩ ?_ ?_
 ·rintro k hk acc _ ha hl ⟨n,hs,rfl,rfl,h1,h2⟩
  rw [eG]
  obtain ⟨d,xs',eh,⟨h,rfl,hh⟩,n',rfl⟩:=kg n hM1 hM7
  simp [-Prod.exists,eh]
  refine ⟨n',hs ++ [h],by simp,rfl,by simp [h1],fun g hg=>?_⟩
  rcases List.mem_append.mp hg with z | z
  ·exact h2 g z
  ·rw [List.mem_singleton.mp z];exact hh
 ·rintro xs _ hx hl ⟨n,hs,rfl,rfl,h1,h2⟩
  exact hQ hs n (by rw [h1];simp [bo]) h2
theorem nt (n0:Int) {P Z:Nat} (hP1:1 ≤ P) (hP7:P ≤ 7) (hZ1:1 ≤ Z) (hZ6:Z ≤ 6):∃ d xs',bL pQ xi [.int n0] [.int P,.int Z]=some (d,xs')∧LQ d xs':= by
 apply gX
 show Ok xi [.ow true [.int n0],.pu (.int P),.pu (.int Z),.un,.un,.un,.un,.un] _
 unfold xi
 obtain ⟨M,hM,hM1,hM7⟩:∃ M:Nat,1 + n0 % (P:Int)=(M:Int)∧1 ≤ M∧M ≤ 7:= by
  have h1:=Int.emod_nonneg n0 (show (P:Int) ≠ 0 by omega)
  have h2:=Int.emod_lt_of_pos n0 (show (0:Int) < P by omega)
  exact ⟨(1 + n0 % (P:Int)).toNat,by omega,by omega,by omega⟩
 refine aB (fun δ=>∃ n:Int,δ=[.ow true [.int n],.pu (.int P),.pu (.int Z),.pu (.int M),.un,.un,.un,.un]) ?_ ?_
 ·simp [-Prod.exists,aW n0 P (by omega) (by omega),b8,bC,hM]
 rintro _ ⟨n,rfl⟩
 obtain ⟨N,hN,hN1,hN7⟩:∃ M:Nat,1 + n % (Z:Int)=(M:Int)∧1 ≤ M∧M ≤ Z:= by
  have h1:=Int.emod_nonneg n (show (Z:Int) ≠ 0 by omega)
  have h2:=Int.emod_lt_of_pos n (show (0:Int) < Z by omega)
  exact ⟨(1 + n % (Z:Int)).toNat,by omega,by omega,by omega⟩
 refine aB (fun δ=>∃ n:Int,δ=[.ow true [.int n],.pu (.int P),.pu (.int Z),.pu (.int M),.pu (.int N),.un,.un,.un]) ?_ ?_
 ·simp [-Prod.exists,aW n Z (by omega) (by omega),b8,bC,hN]
 rintro _ ⟨n,rfl⟩
 refine aB (fun δ=>∃ n way:Int,δ=[.ow true [.int n],.pu (.int P),.pu (.int Z),.pu (.int M),.pu (.int N),.pu (.int way),.un,.un]) ?_ ?_
 ·simp [-Prod.exists,aW n 5 (by omega) (by omega)]
 rintro _ ⟨n,way,rfl⟩
 have fin:∀ {hs:List (List Int)} (n:Int),1 ≤ hs.length->hs.length ≤ 6->(∀ h ∈ hs,dY M h)->∃ d xs',bL ft jL [.int n] [.int M,.lst (hs.map hD)]=some (d,xs')∧LQ (.tup [.int M,d]) xs':=fun n h1 h6 hq=>by
  obtain ⟨d,xs',e,⟨gs,rfl,g1,g2⟩,n',rfl⟩:=ot n hM1 hM7 h1 h6 hq
  exact ⟨_,_,e,M,gs,n',rfl,rfl,by omega,by omega,by omega,g2⟩
 refine fW (decide (way=0∧2 < M)) ?_ ?_ ?_
 ·by_cases q:way=0
  ·by_cases q2:2 < M
   ·simp [cW,uX,bC,q,q2]
    omega
   ·have:¬ (M:Int) > 2:=by omega
    simp [cW,uX,bC,q,q2]
    omega
  ·simp [cW,uX,bC,q]
 ·intro hw
  obtain ⟨hw,hM2⟩:=of_decide_eq_true hw
  obtain ⟨d,xs',eb,⟨bs,rfl,b3,b6,bq⟩,n',rfl⟩:=m9 n (by omega) hM7
  refine aB (fun δ=>δ=[.ow true [.int n'],.pu (.int P),.pu (.int Z),.pu (.int M),.pu (.int N),.pu (.int way),.pu (.lst (bs.map hD)),.un]) (by simp [-Prod.exists,eb]) ?_
  rintro _ rfl
  refine aB (fun δ=>∃ (n:Int) (es:List (List Int)),δ=[.ow true [.int n],.pu (.int P),.pu (.int Z),.pu (.int M),.pu (.int N),.pu (.int way),.pu (.lst (bs.map hD)),.pu (.lst (es.map hD))]∧bs.length + es.length ≤ 6∧∀ h ∈ es,dY M h) ?_ ?_
  ·simp only [dt,av,ar]
   refine qL rfl ?_
   obtain ⟨W,hW,hW1,hW2⟩:∃ W:Nat,1 + (if bs.length < Z then (Z:Int) - (bs.length:Int) else 0)=(W:Int)∧1 ≤ W∧bs.length + W ≤ 7:= by
    refine ⟨(1 + (if bs.length < Z then (Z:Int) - (bs.length:Int) else 0)).toNat,?_,?_,?_⟩ <;> split <;> omega
   obtain ⟨V,hV,hV1⟩:∃ V:Nat,n' % (W:Int)=(V:Int)∧V < W:= by
    have h1:=Int.emod_nonneg n' (show (W:Int) ≠ 0 by omega)
    have h2:=Int.emod_lt_of_pos n' (show (0:Int) < W by omega)
    exact ⟨(n' % (W:Int)).toNat,by omega,by omega⟩
   have sV:aF V=true:=by simp [aF];omega
   have hcomp:∀ n:Int,Ok (bh 8 1 (pure (aQ (bo 0 V))) (bz (ba 8) (pure true) (do let _ <- aO 0;cq 0 2 (bL gk ic) (af (ag 3) (pure []))))) [.ow true [.int n],.pu (.int P),.pu (.int Z),.pu (.int M),.pu (.int N),.pu (.int way),.pu (.lst (bs.map hD)),.un] (fun xs δ=>∃ (m:Int) (es:List (List Int)),xs=es.map hD∧δ=[.ow true [.int m],.pu (.int P),.pu (.int Z),.pu (.int M),.pu (.int N),.pu (.int way),.pu (.lst (bs.map hD)),.un]∧es.length=V∧∀ h ∈ es,dY M h):=fun n=>
    kc hM1 hM7 V (by omega) n (by simp) fun hs m h1 h2=>⟨m,hs,rfl,rfl,h1,h2⟩
   have et:=aW n' W (by omega) (by omega)
   simp [-Prod.exists,bW,du,iR,b8,bC,hW,et,hV,bT,sV]
   refine (hcomp _).mono fun xs δ ⟨m,es,e1,e2,e3,e4⟩=>?_
   subst e1;subst e2
   simp
   exact ⟨m,es,⟨rfl,rfl⟩,by omega,e4⟩
  rintro _ ⟨n,es,rfl,hl,eq⟩
  obtain ⟨d,xs',e,z⟩:=fin (hs:=bs ++ es) n (by simp;omega) (by simp;omega) fun h hh=>by
   rcases List.mem_append.mp hh with z | z
   ·exact bq h z
   ·exact eq h z
  have ec:cutD (bs.map hD ++ es.map hD) none (some 6)=(bs ++ es).map hD:= by
   rw [<- List.map_append]
   unfold cutD
   rw [HT.sIx_none,show (some (6:Int))=some ((6:Nat):Int) from rfl,HT.sIx_nat,List.drop_zero,List.length_map,List.take_of_length_le]
   rw [List.length_map,List.length_append];simp;omega
  have hc:pS (bs.map hD) (es.map hD)=some (bs.map hD ++ es.map hD):= by
   unfold pS;rw [if_pos (by simp;omega)]
  rw [List.map_append] at e
  simp [-Prod.exists,ny,hc,Fy,ec,e]
  exact z
 ·intro _
  refine fW (decide (way=1)) ?_ ?_ ?_
  ·by_cases q:way=1 <;> simp [cW,q]
  ·intro _
   have sN:aF N=true:=by simp [aF];omega
   have hcomp:Ok (bh 8 1 (mC bT (af (ag 4) (pure []))) (bz (ba 8) (pure true) (do let _ <- aO 0;cq 0 2 (bL gk ic) (af (ag 3) (pure []))))) [.ow true [.int n],.pu (.int P),.pu (.int Z),.pu (.int M),.pu (.int N),.pu (.int way),.un,.un] (fun xs δ=>∃ (m:Int) (es:List (List Int)),xs=es.map hD∧δ=[.ow true [.int m],.pu (.int P),.pu (.int Z),.pu (.int M),.pu (.int N),.pu (.int way),.un,.un]∧es.length=N∧∀ h ∈ es,dY M h) :=
    kc hM1 hM7 N (by omega) n (by simp [bT,sN]) fun hs m h1 h2=>⟨m,hs,rfl,rfl,h1,h2⟩
   simp only [av,gR,bg,bp,rH,ar,dJ,List.getElem?_cons_zero,List.getElem?_cons_succ,Option.some.injEq,Jt.Slot.pu.injEq,exists_eq_left']
   refine ⟨_,_,rfl,hcomp.mono fun xs δ ⟨m,es,e1,e2,e3,e4⟩=>?_⟩
   subst e1;subst e2
   obtain ⟨d,xs',e,z⟩:=fin (hs:=es) m (by omega) (by omega) e4
   simp [-Prod.exists,e]
   exact z
  ·intro _
   obtain ⟨d,xs',eg,⟨hs,rfl,g1,g2⟩,n',rfl⟩:=oi n hM1 hM7 hN1 (Z:=N) (by omega)
   obtain ⟨d,xs',e,z⟩:=fin (hs:=hs) n' (by omega) (by omega) g2
   simp [-Prod.exists,eg,e]
   exact z
end K22
namespace K22
open PySem L2 Jt
variable {hs:List (List Int)} {M:Nat}
theorem kb:∀ (hs:List (List Int)) (n:Nat),jo n (hs.map hD)=(List.range hs.length).map fun (i:Nat)=>.tup [.int ((n + i:Nat):Int),hD (G hs i)]:= by
 intro hs
 induction hs with
 | nil=>intro n;rfl
 | cons h r ih=>
  intro n
  show D.tup [.int (n:Int),hD h] :: jo (n + 1) (r.map hD)=_
  rw [ih,List.length_cons,List.range_succ_eq_map,List.map_cons,List.map_map]
  congr 1
  refine List.map_congr_left fun i _=>?_
  simp [G,Function.comp]
  omega
theorem EB {M:Nat} (h6:hs.length ≤ 6) (c:Nat) (hc:c < M):aU ku pd [cB M hs,.int c]=some (.tup (lD (vc hs c))):= by
 apply bZ
 show Ok pd [.pu (cB M hs),.pu (.int c),.un,.un] _
 unfold pd
 refine aB (fun δ=>δ=[.pu (cB M hs),.pu (.int c),.pu (.int M),.pu (.tup (hs.map hD))]) ?_ ?_
 ·simp [cB]
 rintro _ rfl
 have eb:aU mz kN [.int (c:Int),.int (M:Int)]=some (.bl true):= by
  rw [Bw]
  simp [ir]
  omega
 refine fW false ?_ (by simp) fun _=>?_
 ·simp [aA,eb,iz]
 simp only [av,fw,bg,ar]
 refine bF (List.range hs.length) (fun (i:Nat)=>.tup [.int (i:Int),hD (G hs i)]) (fun i=>if decide ((c:Int) ∈ G hs i)=true then some (.int (i:Int)) else none) rfl ?_ (by simp;omega) (fun i hi=>?_) ?_
 ·have:=kb hs 0
  simp [gz,vB,this]
 ·by_cases q:(c:Int) ∈ G hs i <;> simp [pv,q]
 ·rw [bR]
  simp [cG,jT,lD,vc,co,G]
theorem zZ {N:List Str} {body:Jt.M Fl} {ds:List D} (h:Ok body (entry N ds) fun fl _=>fl=.nx):aU N body ds=some .non:= by
 obtain ⟨z,δ',e,rfl⟩:=h
 unfold aU
 rw [e]
theorem kR (hs:List (List Int)):bW [.tup (hs.map hD)]=some (.int (hs.length:Int)):=by simp [bW]
theorem y6 {a n:Nat} (h:a < n):ir (n:Int) (.int (a:Int))=true:=by simp [ir];omega
theorem vX {a:Nat} (m:Int) (h:a < hs.length):aU oE lz [cB m hs,.int (a:Int)]=some .non:= by
 apply zZ
 show Ok lz [.pu (cB m hs),.pu (.int (a:Int))] _
 unfold lz
 have e:=Bw (.int (a:Int)) (hs.length:Int)
 rw [y6 h] at e
 have e1:=gJ m hs
 have e2:=kR hs
 generalize cB m hs=lay at *
 refine fP (fun b δ=>b=false∧δ=[.pu lay,.pu (.int (a:Int))]) ?_ (fun _ h=>by cases h.1) ?_
 ·simp [aA,e,e1,e2,iz]
 ·rintro _ ⟨_,rfl⟩
  simp
def oG (hs:List (List Int)) (a b:Nat):List Int:=(G hs a).filter fun c=>decide (c ∈ G hs b)
theorem FK (m:Int) (h7:∀ h ∈ hs,h.length ≤ 7) {a b:Nat} (ha:a < hs.length) (hb:b < hs.length):aU l5 oh [cB m hs,.int (a:Int),.int (b:Int)]=some (hD (oG hs a b)):= by
 apply bZ
 show Ok oh [.pu (cB m hs),.pu (.int (a:Int)),.pu (.int (b:Int)),.un] _
 unfold oh
 have n1:=vX m ha
 have n2:=vX m hb
 have e1:=gJ m hs
 have ga:=vy ha
 have gb:=vy hb
 have g7:(G hs a).length ≤ 7:= by
  have:G hs a=hs[a]:=by simp [G,ha]
  rw [this];exact h7 _ (List.getElem_mem ha)
 generalize cB m hs=lay at *
 refine aB (fun δ=>δ=[.pu lay,.pu (.int (a:Int)),.pu (.int (b:Int)),.un]) (by simp [aA,n1]) ?_
 rintro _ rfl
 refine aB (fun δ=>δ=[.pu lay,.pu (.int (a:Int)),.pu (.int (b:Int)),.un]) (by simp [aA,n2]) ?_
 rintro _ rfl
 refine aB (fun δ=>δ=[.pu lay,.pu (.int (a:Int)),.pu (.int (b:Int)),.pu (.tup (hs.map hD))]) (by simp [e1]) ?_
 rintro _ rfl
 simp only [av,fw,bg,ar]
 refine bF (G hs a) .int (fun c=>if decide (c ∈ G hs b)=true then some (.int c) else none) rfl ?_ (by omega) (fun c _=>?_) ?_
 ·simp [ga,kO]
 ·by_cases q:c ∈ G hs b <;> simp [gb,pv,q]
 ·rw [bR]
  simp [dj,oG,hD]
theorem o7 {H:List Nat} {k:Nat} (h:k < H.length):e_ (.tup (lD H)) (.int (k:Int))=some (.int ((H.getD k 0:Nat):Int)):= by
 show jh (lD H) (k:Int)=_
 rw [dA (lD H) k (by rw [ql];exact h)]
 simp [lD,h]
theorem nJ {H:List Nat} {k:Nat} (h:k < H.length):eB (.tup (lD H)) (.int (k:Int))=some (.int ((H.getD k 0:Nat):Int)):=o7 h
def chg (x y:Nat) (l:List Nat):List Nat:=l.map fun z=>if z=x then y else z
def lnk (l:List Nat) (a b:Nat):List Nat:=chg (max (l.getD a 0) (l.getD b 0)) (min (l.getD a 0) (l.getD b 0)) l
theorem xU {l:List Nat} (h6:l.length ≤ 6) {a b:Nat} (ha:a < l.length) (hb:b < l.length):aU jJ kD [.tup (lD l),.int (a:Int),.int (b:Int)]=some (.tup (lD (lnk l a b))):= by
 apply bZ
 show Ok kD [.pu (.tup (lD l)),.pu (.int (a:Int)),.pu (.int (b:Int)),.un,.un] _
 unfold kD
 have xa:=o7 ha
 have xb:=o7 hb
 have mn:i9 [.int ((l.getD a 0:Nat):Int),.int ((l.getD b 0:Nat):Int)]=some (.int ((min (l.getD a 0) (l.getD b 0):Nat):Int)):= by
  simp only [i9]
  congr 2
  omega
 have mx:iR [.int ((l.getD a 0:Nat):Int),.int ((l.getD b 0:Nat):Int)]=some (.int ((max (l.getD a 0) (l.getD b 0):Nat):Int)):= by
  simp only [iR]
  congr 2
  omega
 have si:bO (.tup (lD l))=some (aQ (l.map fun (i:Nat)=>D.int (i:Int))):=rfl
 unfold lnk
 generalize min (l.getD a 0) (l.getD b 0)=mi at *
 generalize max (l.getD a 0) (l.getD b 0)=ma at *
 generalize ((l.getD a 0:Nat):Int)=ya at *
 generalize ((l.getD b 0:Nat):Int)=yb at *
 generalize D.tup (lD l)=ld at *
 refine aB (fun δ=>δ=[.pu ld,.pu (.int (a:Int)),.pu (.int (b:Int)),.pu (.int (mi:Int)),.un]) (by simp [xa,xb,mn]) ?_
 rintro _ rfl
 refine aB (fun δ=>δ=[.pu ld,.pu (.int (a:Int)),.pu (.int (b:Int)),.pu (.int (mi:Int)),.pu (.int (ma:Int))]) (by simp [xa,xb,mx]) ?_
 rintro _ rfl
 simp only [av,fw,bg,ar]
 refine bF l (fun (i:Nat)=>.int (i:Int)) (fun z=>some (.int ((if z=ma then mi else z:Nat):Int))) rfl ?_ (by omega) (fun z _=>?_) ?_
 ·simp [si]
 ·by_cases q:z=ma
  ·simp [gP,q]
  ·simp [gP,q]
 ·rw [List.filterMap_eq_map']
  simp [dj,chg,lD]
structure y8 (n:Nat) (l:List Nat) (T:List Pr):Prop where
 len:l.length=n
 eq:∀ a b,a < n->b < n->(l.getD a 0=l.getD b 0 ↔ cX T a b)
theorem jW (n:Nat):y8 n (List.range n) []:=⟨List.length_range,fun a b ha hb=>by
 simp only [List.getD_eq_getElem?_getD,List.getElem?_range ha,List.getElem?_range hb,Option.getD_some]
 exact ⟨fun h=>by cases h;exact .refl _,fun h=>h.nil⟩⟩
theorem tG {x y a:Nat} {l:List Nat} (ha:a < l.length):(chg x y l).getD a 0=if l.getD a 0=x then y else l.getD a 0:= by
 unfold chg
 simp [List.getD_eq_getElem?_getD,List.getElem?_eq_getElem ha]
theorem y8.lnk {n:Nat} {l:List Nat} {T:List Pr} (h:y8 n l T) {u v:Nat} (hu:u < n) (hv:v < n):y8 n (lnk l u v) (T ++ [(u,v)]):= by
 refine ⟨by unfold K22.lnk chg;rw [List.length_map];exact h.len,fun a b ha hb=>?_⟩
 have e:cX (T ++ [(u,v)]) a b ↔ cX ((u,v) :: T) a b:=⟨cX.mono fun e he=>by
  rcases List.mem_append.mp he with z | z
  ·exact List.mem_cons_of_mem _ z
  ·rw [List.mem_singleton.mp z];exact List.mem_cons_self,cX.mono fun e he=>by
  rcases List.mem_cons.mp he with z | z
  ·rw [z];exact List.mem_append.mpr (.inr (List.mem_singleton.mpr rfl))
  ·exact List.mem_append.mpr (.inl z)⟩
 rw [e,o_,<- h.eq a b ha hb,<- h.eq a u ha hu,<- h.eq v b hv hb,<- h.eq a v ha hv,<- h.eq u b hu hb]
 unfold K22.lnk
 rw [tG (by rw [h.len];exact ha),tG (by rw [h.len];exact hb)]
 generalize l.getD a 0=A
 generalize l.getD b 0=B
 generalize l.getD u 0=U
 generalize l.getD v 0=V
 by_cases q:U ≤ V
 ·rw [Nat.max_eq_right q,Nat.min_eq_left q]
  by_cases h1:A=V
  ·rw [if_pos h1]
   by_cases h2:B=V
   ·rw [if_pos h2];omega
   ·rw [if_neg h2];omega
  ·rw [if_neg h1]
   by_cases h2:B=V
   ·rw [if_pos h2];omega
   ·rw [if_neg h2];omega
 ·rw [Nat.max_eq_left (by omega),Nat.min_eq_right (by omega)]
  by_cases h1:A=U
  ·rw [if_pos h1]
   by_cases h2:B=U
   ·rw [if_pos h2];omega
   ·rw [if_neg h2];omega
  ·rw [if_neg h1]
   by_cases h2:B=U
   ·rw [if_pos h2];omega
   ·rw [if_neg h2];omega
theorem BX {fi:Jt.M iB} {turn:D->Jt.M (Option ((Int × Int) × Int))} {acc:Jt.PL} {δ:DS} {Q:Jt.PL->DS->Prop} (ds:List D) (I:Nat->Jt.PL->DS->Prop) (hi:Ok fi δ fun it δ'=>it=aQ ds∧δ' = δ) (hn:ds.length ≤ 1000) (h0:I 0 acc δ)
  (ht:∀ k (hk:k < ds.length) acc δ,I k acc δ->Ok (turn ds[k]) δ fun o δ2=>I (k + 1) (Cu acc o) δ2) (hQ:∀ acc δ,I ds.length acc δ->Q acc δ):Ok (oV fi turn acc) δ Q:= by
 have gen:∀ (m k:Nat) (acc:Jt.PL) (δ:DS),ds.length - k=m->k ≤ ds.length->I k acc δ->∃ acc' δ',gK turn (fun _=>true) (aQ (ds.drop k)).1 acc δ=some (acc',δ')∧I ds.length acc' δ':= by
  intro m
  induction m with
  | zero=>
   intro k acc δ hm hk hI
   have:k=ds.length:=by omega
   subst this
   rw [List.drop_length]
   exact ⟨acc,δ,rfl,hI⟩
  | succ m ih=>
   intro k acc δ hm hk hI
   have hk':k < ds.length:=by omega
   rw [List.drop_eq_getElem_cons hk']
   obtain ⟨o,δ2,e1,q⟩:=ht k hk' acc δ hI
   obtain ⟨acc',δ',e2,q2⟩:=ih (k + 1) (Cu acc o) δ2 (by omega) (by omega) q
   refine ⟨acc',δ',?_,q2⟩
   show gK turn (fun _=>true) ((fun _=>some ds[k]) :: (aQ (ds.drop (k + 1))).1) acc δ=_
   unfold gK
   dsimp only
   rw [e1]
   exact e2
 unfold oV
 simp only [av]
 refine hi.mono fun it δ' ⟨e1,e2⟩=>?_
 subst e1;subst e2
 obtain ⟨acc',δ2,e3,q⟩:=gen _ 0 acc δ' rfl (Nat.zero_le _) h0
 rw [List.drop_zero] at e3
 exact ⟨(),δ',by unfold lift uI;simp [aQ,hn],acc',δ2,e3,hQ _ _ q⟩
theorem tQ {lo own:Nat} {fi:Jt.M iB} {turn:D->Jt.PL->Jt.M Jt.PL} {δ:DS} {Q:D->DS->Prop} (ds:List D) (I:Nat->Jt.PL->Prop) (hl:δ.length=lo) (hi:Ok fi δ fun it δ'=>it=aQ ds∧δ' = δ) (hn:ds.length ≤ 1000) (h0:I 0 [])
  (ht:∀ k (hk:k < ds.length) acc,I k acc->Ok (turn ds[k] acc) (δ ++ List.replicate own .un) fun acc2 δ2=>I (k + 1) acc2∧δ2.take lo=δ) (hQ:∀ acc,I ds.length acc->Q (.dip acc) δ):Ok (i5 lo own fi turn) δ Q:= by
 have gen:∀ (m k:Nat) (acc:Jt.PL),ds.length - k=m->k ≤ ds.length->I k acc->∃ acc',gf own turn (fun _=>true) (aQ (ds.drop k)).1 acc δ=some (acc',δ)∧I ds.length acc':= by
  intro m
  induction m with
  | zero=>
   intro k acc hm hk hI
   have:k=ds.length:=by omega
   subst this
   rw [List.drop_length]
   exact ⟨acc,rfl,hI⟩
  | succ m ih=>
   intro k acc hm hk hI
   have hk':k < ds.length:=by omega
   rw [List.drop_eq_getElem_cons hk']
   obtain ⟨o,δ2,e1,q,e0⟩:=ht k hk' acc hI
   obtain ⟨acc',e2,q2⟩:=ih (k + 1) o (by omega) (by omega) q
   refine ⟨acc',?_,q2⟩
   show gf own turn (fun _=>true) ((fun _=>some ds[k]) :: (aQ (ds.drop (k + 1))).1) acc δ=_
   unfold gf
   dsimp only
   rw [e1]
   dsimp only
   rw [hl,e0]
   exact e2
 unfold i5
 simp only [av]
 refine ⟨(),δ,by unfold f9;rw [if_pos hl],hi.mono fun it δ' ⟨e1,e2⟩=>?_⟩
 subst e1;subst e2
 obtain ⟨acc',e3,q⟩:=gen _ 0 [] rfl (Nat.zero_le _) h0
 rw [List.drop_zero] at e3
 exact ⟨(),δ',by unfold lift uI;simp [aQ,hn],acc',δ',e3,ar.mpr (hQ _ q)⟩
end K22
namespace K22
open PySem L2 Jt
variable {hs:List (List Int)} {M:Nat}
def row (n i:Nat):List Pr:=(List.range (n - (i + 1))).map fun j=>(i,i + 1 + j)
def uU (n k:Nat):List Pr:=(List.range k).flatMap (row n)
abbrev Pn (n:Nat):List Pr:=uU n n
theorem eJ {n k:Nat} {e:Pr}:e ∈ uU n k ↔ e.1 < k∧e.1 < e.2∧e.2 < n:= by
 unfold uU row
 simp only [List.mem_flatMap,List.mem_range,List.mem_map]
 constructor
 ·rintro ⟨i,hi,j,hj,rfl⟩
  dsimp only
  omega
 ·rintro ⟨h1,h2,h3⟩
  exact ⟨e.1,h1,e.2 - (e.1 + 1),by omega,by ext <;> dsimp only <;> omega⟩
theorem kM (n k:Nat):uU n (k + 1)=uU n k ++ row n k:= by
 unfold uU
 rw [List.range_succ,List.flatMap_append]
 simp
theorem E4:∀ n,n < 7->(Pn n).Nodup:=by decide +kernel
theorem kf:∀ n,n < 7->(Pn n).length ≤ 15:=by decide +kernel
def dW (hs:List (List Int)) (L:List Pr):Jt.PL:=L.map fun e=>(((e.1:Int),(e.2:Int)),wh hs e)
theorem yq {L:List Pr} {e:Pr} (h:e ∉ L) (v:Int):k_ (dW hs L) ((e.1:Int),(e.2:Int)) v=dW hs L ++ [(((e.1:Int),(e.2:Int)),v)]:= by
 unfold k_
 rw [if_neg]
 intro z
 rw [List.any_eq_true] at z
 obtain ⟨p,hp,z⟩:=z
 obtain ⟨f,hf,rfl⟩:=List.mem_map.mp hp
 rw [decide_eq_true_eq] at z
 have z1:=congrArg Prod.fst z
 have z2:=congrArg Prod.snd z
 dsimp only at z1 z2
 have:f=e:=by ext <;> omega
 exact h (this ▸ hf)
theorem va {n i j:Nat} (h:j < n - (i + 1)):(row n i).take (j + 1)=(row n i).take j ++ [(i,i + 1 + j)]:= by
 have hl:j < (row n i).length:=by unfold row;simpa using h
 rw [List.take_succ_eq_append_getElem hl]
 simp [row]
theorem Eu (m:Int) (h6:hs.length ≤ 6) (h7:∀ h ∈ hs,h.length ≤ 7):aU oM ub [cB m hs]=some (.dip (dW hs (Pn hs.length))):= by
 apply bZ
 show Ok ub [.pu (cB m hs),.un] _
 unfold ub
 have cm:=fun {a b:Nat} (ha:a < hs.length) (hb:b < hs.length)=>FK m h7 ha hb
 have e1:=gJ m hs
 have e2:=kR hs
 generalize cB m hs=lay at *
 refine aB (fun δ=>δ=[.pu lay,.pu (.int (hs.length:Int))]) (by simp [e1,e2]) ?_
 rintro _ rfl
 simp only [av,ar]
 have sN:aF (hs.length:Int)=true:=by simp [aF];omega
 refine tQ (lD (List.range hs.length)) (fun k acc=>acc=dW hs (uU hs.length k)) rfl ?_ ?_ rfl ?_ ?_
 ·simp [bT,sN,iA]
 ·simp [lD];omega
 ·rintro k hk _ rfl
  have hk2:k < hs.length:=by simpa [lD] using hk
  have itm:(lD (List.range hs.length))[k]=.int (k:Int):=by simp [lD]
  rw [itm]
  have s1:aF ((k:Int) + 1)=true:=by simp [aF];omega
  have ed:((hs.length:Int) - ((k:Int) + 1)).toNat=hs.length - (k + 1):=by omega
  unfold jk
  simp only [av,br,ar,if_true]
  refine ⟨by simp,?_⟩
  show Ok _ [.pu lay,.pu (.int (hs.length:Int)),.pu (.int (k:Int)),.un] _
  refine BX (bo ((k:Int) + 1) (hs.length - (k + 1))) (fun j acc δ=>acc=dW hs (uU hs.length k ++ (row hs.length k).take j)∧∃ z,δ=[.pu lay,.pu (.int (hs.length:Int)),.pu (.int (k:Int)),z]) ?_ ?_ ⟨by simp,_,rfl⟩ ?_ ?_
  ·simp [b8,bC,pq,sN,s1,ed]
  ·simp [bo];omega
  ·rintro j hj _ _ ⟨rfl,z,rfl⟩
   have hj2:j < hs.length - (k + 1):=by simpa [bo] using hj
   have itj:(bo ((k:Int) + 1) (hs.length - (k + 1)))[j]=.int ((k + 1 + j:Nat):Int):=by simp [bo]
   rw [itj]
   have c:=cm hk2 (show k + 1 + j < hs.length by omega)
   have lb:bW [hD (oG hs k (k + 1 + j))]=some (.int (wh hs (k,k + 1 + j))):=by simp [bW,hD,wh,oG,G]
   generalize hD (oG hs k (k + 1 + j))=bd at *
   unfold jb
   simp only [av,br,ar,if_true,gR,bg,bp,fw]
   simp only [List.length_cons,List.length_nil,List.set_cons_succ,List.set_cons_zero,List.getElem?_cons_succ,List.getElem?_cons_zero,Option.some.injEq,Jt.Slot.pu.injEq,exists_eq_left',cJ,aA,if_true,c,bA,lb,ar]
   refine ⟨by omega,by omega,?_,_,rfl⟩
   show k_ _ ((((k,k + 1 + j):Pr).1:Int),(((k,k + 1 + j):Pr).2:Int)) _=_
   rw [yq,va hj2,<- List.append_assoc]
   ·unfold dW
    rw [List.map_append (l₂:=[_])]
    rfl
   ·intro h
    rcases List.mem_append.mp h with h | h
    ·have:=eJ.mp h;dsimp only at this;omega
    ·rw [List.mem_take_iff_getElem] at h
     obtain ⟨i,hi,h⟩:=h
     simp [row] at h hi
     omega
  ·rintro _ _ ⟨rfl,z,rfl⟩
   refine ⟨?_,rfl⟩
   have:(row hs.length k).take (bo ((k:Int) + 1) (hs.length - (k + 1))).length=row hs.length k:= by
    rw [List.take_of_length_le]
    simp [row,bo]
   rw [this,kM]
 ·rintro _ rfl
  simp [lD]
theorem rQ {e:Pr}:∀ {L:List Pr},e ∈ L->kI (dW hs L) (e.1:Int) (e.2:Int)=some (wh hs e)
 | [],h=>nomatch h
 | f :: L,h=>by
  unfold kI dW
  rw [List.map_cons,List.find?_cons]
  by_cases q:f=e
  ·subst q;simp
  ·have:¬ (((f.1:Int),(f.2:Int))=((e.1:Int),(e.2:Int))):=fun z=>q (by
    have z1:=congrArg Prod.fst z
    have z2:=congrArg Prod.snd z
    dsimp only at z1 z2
    ext <;> omega)
   simp only [this,decide_false]
   exact rQ ((List.mem_cons.mp h).resolve_left fun z=>q z.symm)
def pD (e:Pr):D:=.tup [.int (e.1:Int),.int (e.2:Int)]
theorem nQ {L:List Pr} {e:Pr} (h:e ∈ L):eB (.dip (dW hs L)) (pD e)=some (.int (wh hs e)):= by
 show (kI (dW hs L) (e.1:Int) (e.2:Int)).map D.int=_
 rw [rQ h];rfl
theorem tI {L:List Pr} {a b c d:Jt.Slot}:∀ {R:List Pr},(∀ e ∈ R,e ∈ L)->g_ (m1 qD (m2 eB (ag 0) (ag 5))) (dW hs R) [.pu (.dip (dW hs L)),a,b,c,d]=some (R.map fun e=>- wh hs e,[.pu (.dip (dW hs L)),a,b,c,d])
 | [],_=>rfl
 | e :: R,h=>by
  have ih:=tI (L:=L) (a:=a) (b:=b) (c:=c) (d:=d) fun x hx=>h x (List.mem_cons_of_mem _ hx)
  have ix:=nQ (hs:=hs) (h e List.mem_cons_self)
  have o:(m1 qD (m2 eB (ag 0) (ag 5))) [.pu (.dip (dW hs L)),a,b,c,d,.pu (pD e)]=some (.int (- wh hs e),[.pu (.dip (dW hs L)),a,b,c,d,.pu (pD e)]):= by
   have:Ok (m1 qD (m2 eB (ag 0) (ag 5))) [.pu (.dip (dW hs L)),a,b,c,d,.pu (pD e)] fun x δ=>x=.int (- wh hs e)∧δ=[.pu (.dip (dW hs L)),a,b,c,d,.pu (pD e)]:= by
    unfold m1
    simp [ix,qD]
   obtain ⟨x,δ,e1,rfl,rfl⟩:=this
   exact e1
  show g_ _ ((((e.1:Int),(e.2:Int)),wh hs e) :: dW hs R) _=_
  unfold g_
  show (match (m1 qD (m2 eB (ag 0) (ag 5))) [.pu (.dip (dW hs L)),a,b,c,d,.pu (pD e)] with
   | some (.int k,δ')=>_
   | _=>none)=_
  rw [o]
  dsimp only [List.length_cons,List.length_nil,List.take_succ_cons,List.take_zero]
  rw [ih]
  rfl
theorem pK {α:Type} {ks:List Int} {vs:List α} (h:vs.length=ks.length) (z z':α):So.pickI ks z vs=So.pickI ks z' vs:= by
 unfold So.pickI
 split
 ·rfl
 ·rename_i hl
  have b:=(So.ordI_ok (ks:=ks) (by omega)).1
  have p:(So.ordI ks).toList.Perm (List.range ks.length):=by simpa using Array.perm_iff_toList_perm.mp b
  refine List.map_congr_left fun i hi=>?_
  have:=List.mem_range.mp (p.mem_iff.mp hi)
  simp [List.getD_eq_getElem?_getD,List.getElem?_eq_getElem (show i < vs.length by omega)]
def SL (hs:List (List Int)):List Pr:=So.pickI ((Pn hs.length).map fun e=>- wh hs e) (0,0) (Pn hs.length)
theorem vY (e:Pr):0 ≤ wh hs e:=by unfold wh;omega
theorem fm (h6:hs.length ≤ 6) (h1:1 ≤ hs.length):Fm (wh hs) (SL hs) (Pn hs.length) hs.length where
 perm:=So.pickI_perm _ _ _ (by simp)
 nd:=E4 _ (by omega)
 ord:= by
  have h:=So.pickI_sorted ((Pn hs.length).map fun e=>- wh hs e)
  rw [pK rfl 0 (- wh hs (0,0)),<- So.pickI_map _ (fun e=>- wh hs e) (0,0),List.pairwise_map] at h
  exact h.imp fun z=>by omega
 pos:=fun e _=>vY e
 rng:=fun e he=>by have:=eJ.mp he;omega
 con:=fun a ha b hb=>by
  rcases Nat.lt_trichotomy a b with h | h | h
  ·exact fM (e:=(a,b)) (eJ.mpr ⟨ha,h,hb⟩)
  ·subst h;exact .refl _
  ·exact (fM (e:=(b,a)) (eJ.mpr ⟨hb,h,ha⟩)).symm
 one:=h1
theorem AW (h6:hs.length ≤ 6) {l:List Nat} {T:List Pr} (hl:y8 hs.length l T):aU jI jR [.dip (dW hs (Pn hs.length)),.tup (lD l)]=some (.int (wt (wh hs) (cY (SL hs) T))):= by
 apply bZ
 show Ok jR [.pu (.dip (dW hs (Pn hs.length))),.pu (.tup (lD l)),.un,.un,.un] _
 unfold jR
 refine aB (fun δ=>δ=[.pu (.dip (dW hs (Pn hs.length))),.pu (.tup (lD l)),.pu (.int 0),.un,.un]) (by simp) ?_
 rintro _ rfl
 have F:∀ e ∈ SL hs,e ∈ Pn hs.length:=fun e he=>(So.pickI_perm _ _ _ (by simp)).mem_iff.mp he
 rw [cb]
 refine fL ((SL hs).map pD) (fun k δ=>∃ (l':List Nat) (a b:Jt.Slot),y8 hs.length l' (T ++ cY ((SL hs).take k) T)∧δ=[.pu (.dip (dW hs (Pn hs.length))),.pu (.tup (lD l')),.pu (.int (wt (wh hs) (cY ((SL hs).take k) T))),a,b]) ?_ ⟨l,.un,.un,by simpa [cY] using hl,by simp [cY,wt]⟩ ?_ ?_
 ·have ks:=tI (hs:=hs) (L:=Pn hs.length) (a:=.pu (.tup (lD l))) (b:=.pu (.int 0)) (c:=.un) (d:=.un) (R:=Pn hs.length) fun _ z=>z
  have hlen:(dW hs (Pn hs.length)).length < 64:= by
   have:=kf hs.length (by omega)
   simp [dW];omega
  have em:(dW hs (Pn hs.length)).map (fun p=>pairD p.1)=(Pn hs.length).map pD:= by
   unfold dW
   rw [List.map_map]
   rfl
  have ep:So.pickI ((Pn hs.length).map fun e=>- wh hs e) .non ((Pn hs.length).map pD)=(SL hs).map pD:= by
   rw [pK (by simp) .non (pD (0,0)),<- So.pickI_map]
   rfl
  unfold n4
  simp only [av,bp,List.getElem?_cons_zero,Option.some.injEq,Jt.Slot.pu.injEq,exists_eq_left']
  rw [if_pos hlen]
  simp only [av]
  exact ⟨_,_,ks,by dsimp only;rw [ar,em,ep,ar];simp [bO]⟩
 ·rintro k hk _ ⟨l',a,b,hL,rfl⟩
  have hk2:k < (SL hs).length:=by simpa using hk
  have itm:((SL hs).map pD)[k]=pD (SL hs)[k]:=by simp
  rw [itm]
  have he:=F _ (List.getElem_mem hk2)
  have ek:(SL hs).take (k + 1)=(SL hs).take k ++ [(SL hs)[k]]:=List.take_succ_eq_append_getElem hk2
  rw [ek,jV]
  generalize (SL hs)[k]=e at he
  generalize cY ((SL hs).take k) T=X at hL
  have hm:=eJ.mp he
  have x1:=nJ (H:=l') (k:=e.1) (by rw [hL.len];omega)
  have x2:=nJ (H:=l') (k:=e.2) (by rw [hL.len];omega)
  have lk:=xU (l:=l') (by rw [hL.len];exact h6) (a:=e.1) (b:=e.2) (by rw [hL.len];omega) (by rw [hL.len];omega)
  have iw:=nQ (hs:=hs) he
  have ee:=hL.eq e.1 e.2 (by omega) (by omega)
  have hL2:=hL.lnk (u:=e.1) (v:=e.2) (by omega) (by omega)
  have ne:=gP true (l'.getD e.1 0) (l'.getD e.2 0)
  unfold pD at iw ⊢
  generalize lnk l' e.1 e.2=l2 at *
  generalize l'.getD e.1 0=y1 at *
  generalize l'.getD e.2 0=y2 at *
  generalize D.dip (dW hs (Pn hs.length))=W at *
  simp only [i4,List.length_cons,List.length_nil,if_true,fI,br,gq,List.set_cons_succ,List.set_cons_zero]
  refine ⟨by omega,by omega,?_⟩
  by_cases q:cX (T ++ X) e.1 e.2
  ·refine fP (fun b δ=>b=false∧δ=[.pu W,.pu (.tup (lD l')),.pu (.int (wt (wh hs) X)),.pu (.int (e.1:Int)),.pu (.int (e.2:Int))]) ?_ (fun _ h=>by cases h.1) ?_
   ·rw [decide_eq_true (ee.mpr q)] at ne
    simp [x1,x2,ne]
   ·rintro _ ⟨_,rfl⟩
    refine ar.mpr ⟨l',.pu (.int (e.1:Int)),.pu (.int (e.2:Int)),?_,?_⟩
    ·rw [r_ q];simpa [cY] using hL
    ·rw [r_ q];simp [cY]
  ·have q':¬ y1=y2:=fun z=>q (ee.mp z)
   refine fP (fun b δ=>b=true∧δ=[.pu W,.pu (.tup (lD l')),.pu (.int (wt (wh hs) X)),.pu (.int (e.1:Int)),.pu (.int (e.2:Int))]) ?_ ?_ (fun _ h=>by cases h.1)
   ·simp only [decide_eq_false q'] at ne
    simp [x1,x2,ne]
   ·rintro _ ⟨_,rfl⟩
    refine aB (fun δ=>δ=[.pu W,.pu (.tup (lD l2)),.pu (.int (wt (wh hs) X)),.pu (.int (e.1:Int)),.pu (.int (e.2:Int))]) (by simp [aA,lk]) ?_
    rintro _ rfl
    simp only [dt,d7,bp,gR,bg,ar,cJ,List.getElem?_cons_succ,List.getElem?_cons_zero,Option.some.injEq,Jt.Slot.pu.injEq,exists_eq_left',iw,bA,List.length_cons,List.length_nil,List.set_cons_succ,List.set_cons_zero,b8,bC,if_true]
    refine ⟨by omega,by omega,l2,.pu (.int (e.1:Int)),.pu (.int (e.2:Int)),?_,?_⟩
    ·rw [sg q];simpa [cY] using hL2
    ·rw [sg q];simp [cY,wt]
 ·rintro _ ⟨l',a,b,hL,rfl⟩
  have:(SL hs).take ((SL hs).map pD).length=SL hs:=by simp
  rw [this]
  simp
end K22
namespace K22
open PySem L2 Jt
variable {hs:List (List Int)} {M:Nat}
theorem FA (h7:∀ h ∈ hs,h.length ≤ 7) (e:Pr):wh hs e ≤ 7:= by
 unfold wh
 have h1:=List.length_filter_le (fun x=>decide (x ∈ hs.getD e.2 [])) (hs.getD e.1 [])
 have h2:(hs.getD e.1 []).length ≤ 7:= by
  rw [List.getD_eq_getElem?_getD]
  cases q:hs[e.1]? with
  | none=>simp
  | some h=>exact h7 h (List.mem_of_getElem? q)
 omega
theorem sum_ints (ns:List Int) (h1:ns.length ≤ 1000) (h2:∀ i ∈ ns,0 ≤ i∧i ≤ 1000000):qU [.lst (ns.map .int)]=some (.int ns.sum):= by
 have:jU ns=true:= by
  unfold jU
  simp only [Bool.and_eq_true,decide_eq_true_eq,List.all_eq_true]
  exact ⟨h1,h2⟩
 show (f_ (ns.map .int)).bind _=_
 rw [jC]
 simp [this]
theorem AX (h6:hs.length ≤ 6) (hM:M ≤ 7):aU kZ l0 [cB M hs]=some (.int (gC hs M)):= by
 apply bZ
 show Ok l0 [.pu (cB M hs)] _
 unfold l0
 have e0:=pF (M:Int) hs
 have ho:=fun (c:Nat) (hc:c < M)=>EB h6 c hc
 generalize cB (M:Int) hs=lay at *
 have sM:aF (M:Int)=true:=by simp [aF];omega
 simp only [av,fw,bg,ar]
 refine bF (List.range M) (fun (c:Nat)=>.int (c:Int)) (fun c=>some (.int (max (((vc hs c).length:Int) - 1) 0))) rfl ?_ (by simp;omega) (fun c hc=>?_) ?_
 ·simp [e0,bT,sM,bo]
 ·have h:=ho c (List.mem_range.mp hc)
  have hm:iR [.int (((vc hs c).length:Int) - 1),.int 0]=some (.int (max (((vc hs c).length:Int) - 1) 0)):= by
   simp only [iR]
   refine congrArg (fun z:Int=>some (D.int z)) ?_
   omega
  have hl:bW [.tup (lD (vc hs c))]=some (.int ((vc hs c).length:Int)):=by simp [bW,lD]
  generalize D.tup (lD (vc hs c))=vd at *
  simp [aA,h,hl,du,bC,hm]
 ·rw [List.filterMap_eq_map']
  have s:=sum_ints ((List.range M).map fun c=>max (((vc hs c).length:Int) - 1) 0) (by simp;omega) fun i hi=>by
   obtain ⟨c,_,rfl⟩:=List.mem_map.mp hi
   have:(vc hs c).length ≤ 6:= by
    unfold vc
    have:=List.length_filter_le (fun i=>co hs c i) (List.range hs.length)
    rw [List.length_range] at this
    omega
   omega
  rw [List.map_map] at s
  show Ok (lift (qU [.lst _])) _ _
  rw [show ((fun c:Nat=>D.int (max (((vc hs c).length:Int) - 1) 0))=(D.int ∘ fun c=>max (((vc hs c).length:Int) - 1) 0)) from rfl,s]
  simp [gC]
abbrev Mw (hs:List (List Int)) (T:List Pr):Int:=wt (wh hs) (cY (SL hs) T)
theorem nr (n:Nat) (h:n ≤ 6):j8 [.int (n:Int)]=some (lD (List.range n)):= by
 have:((n:Int) < 100000 ∧ -(2 ^ 62) ≤ (n:Int)):=by omega
 simp [j8,this,iA]
theorem vw (hs:List (List Int)) (L:List Pr):qw (.dip (dW hs L))=some (aQ (L.map pD)):= by
 show some (aQ ((dW hs L).map fun p=>pairD p.1))=_
 unfold dW
 rw [List.map_map]
 rfl
theorem GX (h1:1 ≤ hs.length) (h6:hs.length ≤ 6) (h7:∀ h ∈ hs,h.length ≤ 7) (hM:M ≤ 7) :
  aU ve t7 [cB M hs]=some (if Mw hs []=gC hs M then .tup ((md (wh hs) (Mw hs) (Pn hs.length) [] (gC hs M)).map pD) else .non):= by
 apply bZ
 show Ok t7 [.pu (cB M hs),.un,.un,.un,.un,.un,.un,.un,.un] _
 unfold t7
 have e1:eB (cB (M:Int) hs) (.int 1)=some (.tup (hs.map hD)):=rfl
 have e2:=kR hs
 have pw:=Eu (M:Int) h6 h7
 have dw:=AX h6 hM
 have mm:=fun {l:List Nat} {T:List Pr} (hl:y8 hs.length l T)=>AW h6 hl
 have mm0:=mm (jW hs.length)
 have kd:=vw hs (Pn hs.length)
 have iw:=fun (e:Pr) (he:e ∈ Pn hs.length)=>nQ (hs:=hs) he
 have rl:=nr _ h6
 have le15:=kf hs.length (by omega)
 generalize cB (M:Int) hs=lay at *
 generalize D.dip (dW hs (Pn hs.length))=W at *
 generalize gC hs M=d0 at *
 refine aB (fun δ=>δ=[.pu lay,.pu W,.un,.un,.un,.un,.un,.un,.un]) (by simp [aA,pw]) ?_
 rintro _ rfl
 refine aB (fun δ=>δ=[.pu lay,.pu W,.pu (.tup (lD (List.range hs.length))),.un,.un,.un,.un,.un,.un]) (by simp [e1,e2,rl]) ?_
 rintro _ rfl
 refine aB (fun δ=>δ=[.pu lay,.pu W,.pu (.tup (lD (List.range hs.length))),.pu (.int d0),.un,.un,.un,.un,.un]) (by simp [aA,dw]) ?_
 rintro _ rfl
 have ne:=mW true (Mw hs []) d0
 refine fW (!decide (Mw hs []=d0)) ?_ (fun h=>?_) fun h=>?_
 ·rw [if_pos rfl] at ne
  simp [aA,mm0,ne]
  exact Decidable.em _
 ·have:¬ Mw hs []=d0:=by simpa using h
  rw [if_neg this]
  simp
 ·have:Mw hs []=d0:=by simpa using h
  rw [if_pos this]
  refine aB (fun δ=>δ=[.pu lay,.pu W,.pu (.tup (lD (List.range hs.length))),.pu (.int d0),.ow false [],.un,.un,.un,.un]) (by simp) ?_
  rintro _ rfl
  rw [cb]
  refine fL ((Pn hs.length).map pD) (fun k δ=>∃ (T:List Pr) (l:List Nat) (d:Int) (a b c e:Jt.Slot),y8 hs.length l T∧T.length ≤ k∧md (wh hs) (Mw hs) ((Pn hs.length).drop k) T d=md (wh hs) (Mw hs) (Pn hs.length) [] d0∧δ=[.pu lay,.pu W,.pu (.tup (lD l)),.pu (.int d),.ow false (T.map pD),a,b,c,e]) ?_ ⟨[],_,d0,.un,.un,.un,.un,jW _,Nat.le_refl _,by simp,rfl⟩ ?_ ?_
  ·simp [kd]
  ·rintro k hk _ ⟨T,l,d,a,b,c,e0,hL,hT,hf,rfl⟩
   have hk2:k < (Pn hs.length).length:=by simpa using hk
   have itm:((Pn hs.length).map pD)[k]=pD (Pn hs.length)[k]:=by simp
   rw [itm]
   have he:(Pn hs.length)[k] ∈ Pn hs.length:=List.getElem_mem hk2
   rw [List.drop_eq_getElem_cons hk2] at hf
   generalize (Pn hs.length)[k]=e at he hf
   have hm:=eJ.mp he
   have x1:=nJ (H:=l) (k:=e.1) (by rw [hL.len];omega)
   have x2:=nJ (H:=l) (k:=e.2) (by rw [hL.len];omega)
   have lk:=xU (l:=l) (by rw [hL.len];exact h6) (a:=e.1) (b:=e.2) (by rw [hL.len];omega) (by rw [hL.len];omega)
   have iw:=iw e he
   have ee:=hL.eq e.1 e.2 (by omega) (by omega)
   have hL2:=hL.lnk (u:=e.1) (v:=e.2) (by omega) (by omega)
   have mm2:=mm hL2
   have ne:=gP true (l.getD e.1 0) (l.getD e.2 0)
   unfold pD at iw
   show Ok (dF 2 _ (.tup [.int (e.1:Int),.int (e.2:Int)])) _ _
   generalize lnk l e.1 e.2=l2 at *
   generalize l.getD e.1 0=y1 at *
   generalize l.getD e.2 0=y2 at *
   simp only [i4,List.length_cons,List.length_nil,if_true,fI,br,gq,List.set_cons_succ,List.set_cons_zero]
   refine ⟨by omega,by omega,?_⟩
   refine aB (fun δ=>δ=[.pu lay,.pu W,.pu (.tup (lD l)),.pu (.int d),.ow false (T.map pD),.pu (.int (e.1:Int)),.pu (.int (e.2:Int)),.pu (.int (wh hs e)),e0]) (by simp [iw]) ?_
   rintro _ rfl
   by_cases q:cX T e.1 e.2
   ·refine fP (fun b δ=>b=false∧δ=[.pu lay,.pu W,.pu (.tup (lD l)),.pu (.int d),.ow false (T.map pD),.pu (.int (e.1:Int)),.pu (.int (e.2:Int)),.pu (.int (wh hs e)),e0]) ?_ (fun _ h=>by cases h.1) ?_
    ·rw [decide_eq_true (ee.mpr q)] at ne
     simp [x1,x2,ne]
    ·rintro _ ⟨_,rfl⟩
     rw [AK _ _ q] at hf
     exact ar.mpr ⟨T,l,d,_,_,_,_,hL,by omega,hf,rfl⟩
   ·have q':¬ y1=y2:=fun z=>q (ee.mp z)
    refine fP (fun b δ=>b=true∧δ=[.pu lay,.pu W,.pu (.tup (lD l)),.pu (.int d),.ow false (T.map pD),.pu (.int (e.1:Int)),.pu (.int (e.2:Int)),.pu (.int (wh hs e)),e0]) ?_ ?_ (fun _ h=>by cases h.1)
    ·simp only [decide_eq_false q'] at ne
     simp [x1,x2,ne]
    ·rintro _ ⟨_,rfl⟩
     refine aB (fun δ=>δ=[.pu lay,.pu W,.pu (.tup (lD l)),.pu (.int d),.ow false (T.map pD),.pu (.int (e.1:Int)),.pu (.int (e.2:Int)),.pu (.int (wh hs e)),.pu (.tup (lD l2))]) (by simp [aA,lk]) ?_
     rintro _ rfl
     have eqf:b9 false (.int (wh hs e + Mw hs (T ++ [e]))) (.int d)=some (.bl (decide (wh hs e + Mw hs (T ++ [e])=d))):=by simp [b9,flat,jZ]
     change aU jI jR [W,.tup (lD l2)]=some (.int (Mw hs (T ++ [e]))) at mm2
     generalize ht:Mw hs (T ++ [e])=m2' at *
     refine fP (fun b δ=>b=decide (wh hs e + m2' = d)∧δ=[.pu lay,.pu W,.pu (.tup (lD l)),.pu (.int d),.ow false (T.map pD),.pu (.int (e.1:Int)),.pu (.int (e.2:Int)),.pu (.int (wh hs e)),.pu (.tup (lD l2))]) ?_ ?_ ?_
     ·simp [aA,mm2,b8,bC,eqf]
      exact (Decidable.em _).symm
     ·rintro _ ⟨h,rfl⟩
      have h:wh hs e + m2' = d:=by simpa using h.symm
      rw [A3 _ _ q (by rw [ht];exact h)] at hf
      refine aB (fun δ=>δ=[.pu lay,.pu W,.pu (.tup (lD l)),.pu (.int d),.ow false ((T ++ [e]).map pD),.pu (.int (e.1:Int)),.pu (.int (e.2:Int)),.pu (.int (wh hs e)),.pu (.tup (lD l2))]) ?_ ?_
      ·refine d8 ⟨_,_,rfl⟩ ?_
       simp only [bg,gR,bp,ar,cJ,List.getElem?_cons_succ,List.getElem?_cons_zero,Option.some.injEq,Jt.Slot.pu.injEq,exists_eq_left',List.length_cons,List.length_nil]
       refine ⟨by omega,_,false,_,rfl,rfl,by simp;omega,trivial,?_⟩
       rw [List.map_append]
       rfl
      rintro _ rfl
      refine aB (fun δ=>δ=[.pu lay,.pu W,.pu (.tup (lD l2)),.pu (.int d),.ow false ((T ++ [e]).map pD),.pu (.int (e.1:Int)),.pu (.int (e.2:Int)),.pu (.int (wh hs e)),.pu (.tup (lD l2))]) (by simp) ?_
      rintro _ rfl
      simp only [dt,d7,bp,List.getElem?_cons_succ,List.getElem?_cons_zero,Option.some.injEq,Jt.Slot.pu.injEq,exists_eq_left',du,bC,if_true,bA,List.length_cons,List.length_nil,List.set_cons_succ,List.set_cons_zero]
      exact ⟨by omega,T ++ [e],l2,d - wh hs e,_,_,_,_,hL2,by simp;omega,hf,rfl⟩
     ·rintro _ ⟨h,rfl⟩
      have h:¬ wh hs e + m2' = d:=by simpa using h.symm
      rw [Bo _ _ q (by rw [ht];exact h)] at hf
      exact ar.mpr ⟨T,l,d,_,_,_,_,hL,by omega,hf,rfl⟩
  ·rintro _ ⟨T,l,d,a,b,c,e0,hL,hT,hf,rfl⟩
   have:(Pn hs.length).drop ((Pn hs.length).map pD).length=[]:=by simp
   rw [this] at hf
   simp only [md] at hf
   rw [<- hf]
   simp
end K22
namespace K22
open PySem L2 Jt
variable {hs:List (List Int)} {M:Nat}
def tD (X:List Pr):D:=.tup (X.map pD)
open Classical in
def tf (k:Nat) (T R:List Pr):List D:=((subs k R).filter fun X=>decide (dh (T ++ X))).map fun X=>tD (T ++ X)
theorem Ai {T R:List Pr} (h:dh T):tf 0 T R=[tD T]:= by
 unfold tf
 cases R <;> simp [subs,h]
theorem BP (k:Nat) (T:List Pr):tf (k + 1) T []=[]:=rfl
theorem z6 {T X:List Pr} {e:Pr} (h:dh (T ++ e :: X)):¬ cX T e.1 e.2:= by
 have:T ++ e :: X=(T ++ [e]) ++ X:=by simp
 rw [this] at h
 exact (gp.mp (iL h)).2
open Classical in
theorem Gv {k:Nat} {T R:List Pr} {e:Pr} (h:cX T e.1 e.2):tf (k + 1) T (e :: R)=tf (k + 1) T R:= by
 unfold tf
 rw [subs,List.filter_append,List.map_append]
 have:((subs k R).map (e :: ·)).filter (fun X=>decide (dh (T ++ X)))=[]:= by
  rw [List.filter_eq_nil_iff]
  intro X hX
  obtain ⟨Y,_,rfl⟩:=List.mem_map.mp hX
  rw [decide_eq_true_eq]
  exact fun z=>z6 z h
 rw [this];rfl
open Classical in
theorem G9 {k:Nat} {T R:List Pr} {e:Pr}:tf (k + 1) T (e :: R)=tf k (T ++ [e]) R ++ tf (k + 1) T R:= by
 unfold tf
 rw [subs,List.filter_append,List.map_append]
 congr 1
 rw [List.filter_map,List.map_map]
 have e1:∀ Y:List Pr,T ++ e :: Y=T ++ [e] ++ Y:=fun Y=>by simp
 have:(subs k R).filter ((fun X=>decide (dh (T ++ X))) ∘ (e :: ·))=(subs k R).filter fun X=>decide (dh (T ++ [e] ++ X)):=List.filter_congr fun Y _=>by
  show decide (dh (T ++ e :: Y))=_
  rw [e1]
 rw [this]
 refine List.map_congr_left fun Y _=>?_
 show tD (T ++ e :: Y)=_
 rw [e1]
theorem gy:∀ (k:Nat) (R:List Pr),(subs k R).length ≤ 2 ^ R.length
 | 0,R=>by
  have:(subs 0 R).length=1:=by cases R <;> rfl
  rw [this];exact Nat.one_le_two_pow
 | k + 1,[]=>by simp [subs]
 | k + 1,e :: R=>by
  have h1:=gy k R
  have h2:=gy (k + 1) R
  rw [subs,List.length_append,List.length_map,List.length_cons,Nat.pow_succ]
  omega
theorem x3 (k:Nat) (T R:List Pr) (h:R.length ≤ 15):(tf k T R).length ≤ 40000:= by
 unfold tf
 rw [List.length_map]
 have h1:=List.length_filter_le (fun X=>@decide (dh (T ++ X)) (Classical.propDecidable _)) (subs k R)
 have h2:=gy k R
 have h3:2 ^ R.length ≤ 2 ^ 15:=Nat.pow_le_pow_right (by omega) h
 omega
theorem Aq:∀ (R:List Pr) (n:Nat),jo n (R.map pD)=(List.range R.length).map fun (i:Nat)=>.tup [.int ((n + i:Nat):Int),pD (R.getD i (0,0))]:= by
 intro R
 induction R with
 | nil=>intro n;rfl
 | cons h r ih=>
  intro n
  show D.tup [.int (n:Int),pD h] :: jo (n + 1) (r.map pD)=_
  rw [ih,List.length_cons,List.range_succ_eq_map,List.map_cons,List.map_map]
  congr 1
  refine List.map_congr_left fun i _=>?_
  simp [Function.comp]
  omega
theorem uC (xs:List D) (k:Nat):cutD xs (some (k:Int)) none=xs.drop k:= by
 unfold cutD
 have h1:HT.sIx xs.length xs.length none=xs.length:=rfl
 have h2:HT.sIx xs.length 0 (some (k:Int))=min k xs.length:= by
  simp [HT.sIx]
  omega
 rw [h1,h2]
 by_cases h:k ≤ xs.length
 ·rw [Nat.min_eq_left h]
  exact List.take_of_length_le (by rw [List.length_drop];omega)
 ·rw [Nat.min_eq_right (by omega),List.drop_eq_nil_of_le (Nat.le_refl _),List.drop_eq_nil_of_le (by omega),List.take_nil]
theorem ib (h6:hs.length ≤ 6):∀ (f k:Nat) (T R:List Pr) (l:List Nat),k < f->f ≤ 8->y8 hs.length l T->dh T->T.length + k ≤ 6->R.length ≤ 15->(∀ e ∈ R,e.1 < hs.length∧e.2 < hs.length) ->
  iP f [tD T,.int (k:Int),.tup (lD l),.lst (R.map pD)]=some (tf k T R)
 | 0,k,_,_,_,h,_,_,_,_,_,_=>by omega
 | f + 1,k,T,R,l,hf,hf8,hL,hT,hTk,hR,hRn=>by
  have ih:=ib h6 f
  show eF xT (sX (iP f)) _=_
  apply nk
  show Ok (sX (iP f)) [.pu (tD T),.pu (.int (k:Int)),.pu (.tup (lD l)),.pu (.lst (R.map pD)),.un,.un,.un,.un,.un] _
  unfold sX
  generalize iP f=rec at *
  have ez:b9 false (.int (k:Int)) (.int 0)=some (.bl (decide ((k:Int)=0))):=by simp [b9,flat,jZ]
  cases k with
  | zero=>
   rw [Ai hT]
   rw [cb]
   refine fP (fun b δ=>b=true∧δ=[.pu (tD T),.pu (.int ((0:Nat):Int)),.pu (.tup (lD l)),.pu (.lst (R.map pD)),.un,.un,.un,.un,.un]) ?_ ?_ (fun _ h=>by cases h.1)
   ·have e0:b9 false (.int 0) (.int 0)=some (.bl true):=rfl
    simp [e0]
   ·rintro _ ⟨_,rfl⟩
    simp
  | succ k=>
   have ez2:b9 false (.int ((k + 1:Nat):Int)) (.int 0)=some (.bl false):=by rw [ez];congr 2
   refine aB (fun δ=>δ=[.pu (tD T),.pu (.int ((k + 1:Nat):Int)),.pu (.tup (lD l)),.pu (.lst (R.map pD)),.un,.un,.un,.un,.un]) ?_ ?_
   ·refine fP (fun b δ=>b=false∧δ=[.pu (tD T),.pu (.int ((k + 1:Nat):Int)),.pu (.tup (lD l)),.pu (.lst (R.map pD)),.un,.un,.un,.un,.un]) ?_ (fun _ h=>by cases h.1) ?_
    ·simp only [av,d7,bp,ar,List.getElem?_cons_succ,List.getElem?_cons_zero,Option.some.injEq,Jt.Slot.pu.injEq,exists_eq_left',ez2,bA,ip]
     exact ⟨false,by simp⟩
    ·rintro _ ⟨_,rfl⟩
     simp
   rintro _ rfl
   have bigR:=x3 (k + 1) T R hR
   have ek:du (.int ((k + 1:Nat):Int)) (.int 1)=some (.int (k:Int)):=by simp [du,bC]
   have sl:∀ p:Nat,Fy (.lst (R.map pD)) (some ((p:Int) + 1)) none=some (.lst ((R.drop (p + 1)).map pD)):=fun p=>by
    show some (D.lst (cutD (R.map pD) (some ((p:Int) + 1)) none))=_
    have:=uC (R.map pD) (p + 1)
    rw [show (((p + 1:Nat):Int))=(p:Int) + 1 by omega] at this
    rw [this,List.map_drop]
   have cat:∀ e:Pr,jO (tD T) (.tup [.tup [.int (e.1:Int),.int (e.2:Int)]])=some (tD (T ++ [e])):=fun e=>by
    unfold tD
    rw [Fi _ _ (by simp;omega) (by simp),List.map_append]
    rfl
   have nit:gz [.lst (R.map pD)]=some (aQ ((List.range R.length).map fun (i:Nat)=>.tup [.int (i:Int),pD (R.getD i (0,0))])):= by
    have:=Aq R 0
    simp only [Nat.zero_add] at this
    rw [<- this]
    rfl
   refine aB (fun δ=>δ=[.pu (tD T),.pu (.int ((k + 1:Nat):Int)),.pu (.tup (lD l)),.pu (.lst (R.map pD)),.ow false [],.un,.un,.un,.un]) (by simp) ?_
   rintro _ rfl
   generalize (((k + 1:Nat):Int))=kd at *
   generalize tD T=td at *
   rw [cb]
   refine fL ((List.range R.length).map fun (i:Nat)=>.tup [.int (i:Int),pD (R.getD i (0,0))]) (fun p δ=>∃ (acc:List D) (a b c d:Jt.Slot),acc ++ tf (k + 1) T (R.drop p)=tf (k + 1) T R∧δ=[.pu td,.pu (.int kd),.pu (.tup (lD l)),.pu (.lst (R.map pD)),.ow false acc,a,b,c,d]) ?_ ⟨[],.un,.un,.un,.un,by simp,rfl⟩ ?_ ?_
   ·generalize D.lst (R.map pD)=rd at *
    simp [nit]
   ·rintro p hp _ ⟨acc,a,b,c,d,ha,rfl⟩
    have hp2:p < R.length:=by simpa using hp
    have itm:((List.range R.length).map fun (i:Nat)=>D.tup [.int (i:Int),pD (R.getD i (0,0))])[p]=.tup [.int (p:Int),pD R[p]]:=by simp [hp2]
    rw [itm]
    have hr:=hRn _ (List.getElem_mem hp2)
    rw [List.drop_eq_getElem_cons hp2] at ha
    generalize R[p]=e at ha hr
    have x1:=o7 (H:=l) (k:=e.1) (by rw [hL.len];omega)
    have x2:=o7 (H:=l) (k:=e.2) (by rw [hL.len];omega)
    have lk:=xU (l:=l) (by rw [hL.len];exact h6) (a:=e.1) (b:=e.2) (by rw [hL.len];omega) (by rw [hL.len];omega)
    have ee:=hL.eq e.1 e.2 (by omega) (by omega)
    have hL2:=hL.lnk (u:=e.1) (v:=e.2) (by omega) (by omega)
    have ne:=gP true (l.getD e.1 0) (l.getD e.2 0)
    have ct:=cat e
    have sp:=sl p
    show Ok (dF 2 _ (.tup [.int (p:Int),.tup [.int (e.1:Int),.int (e.2:Int)]])) _ _
    generalize lnk l e.1 e.2=l2 at *
    generalize l.getD e.1 0=y1 at *
    generalize l.getD e.2 0=y2 at *
    generalize D.lst (R.map pD)=rd at *
    simp only [i4,List.length_cons,List.length_nil,if_true,fI,br,gq,List.set_cons_succ,List.set_cons_zero]
    refine ⟨by omega,by omega,by omega,?_⟩
    by_cases q:cX T e.1 e.2
    ·refine fP (fun b δ=>b=false∧δ=[.pu td,.pu (.int kd),.pu (.tup (lD l)),.pu rd,.ow false acc,.pu (.int (p:Int)),.pu (.int (e.1:Int)),.pu (.int (e.2:Int)),d]) ?_ (fun _ h=>by cases h.1) ?_
     ·rw [decide_eq_true (ee.mpr q)] at ne
      simp [x1,x2,ne]
     ·rintro _ ⟨_,rfl⟩
      rw [Gv q] at ha
      exact ar.mpr ⟨acc,_,_,_,_,ha,rfl⟩
    ·have q':¬ y1=y2:=fun z=>q (ee.mp z)
     refine fP (fun b δ=>b=true∧δ=[.pu td,.pu (.int kd),.pu (.tup (lD l)),.pu rd,.ow false acc,.pu (.int (p:Int)),.pu (.int (e.1:Int)),.pu (.int (e.2:Int)),d]) ?_ ?_ (fun _ h=>by cases h.1)
     ·simp only [decide_eq_false q'] at ne
      simp [x1,x2,ne]
     ·rintro _ ⟨_,rfl⟩
      refine aB (fun δ=>δ=[.pu td,.pu (.int kd),.pu (.tup (lD l)),.pu rd,.ow false acc,.pu (.int (p:Int)),.pu (.int (e.1:Int)),.pu (.int (e.2:Int)),.pu (.tup (lD l2))]) (by simp [aA,lk]) ?_
      rintro _ rfl
      rw [G9,<- List.append_assoc] at ha
      have hT2:dh (T ++ [e]):=gp.mpr ⟨hT,q⟩
      have rc:=ih k (T ++ [e]) (R.drop (p + 1)) l2 (by omega) (by omega) hL2 hT2 (by simp;omega) (by rw [List.length_drop];omega) fun x hx=>hRn x (List.mem_of_mem_drop hx)
      have hlen:acc.length + (tf k (T ++ [e]) (R.drop (p + 1))).length ≤ 100000:= by
       have:=congrArg List.length ha
       rw [List.length_append,List.length_append] at this
       omega
      generalize tD (T ++ [e])=te at *
      generalize D.lst ((R.drop (p + 1)).map pD)=rd2 at *
      refine kr ⟨_,_,rfl⟩ ?_
      simp only [fw,bg,d7,gR,Dw,av,CW,bp,ar,cJ,List.getElem?_cons_succ,List.getElem?_cons_zero,Option.some.injEq,Jt.Slot.pu.injEq,exists_eq_left',List.length_cons,List.length_nil,ct,bA,ek,b8,bC,if_true,D.int.injEq,exists_eq_left',sp,aA,rc]
      exact ⟨by omega,by omega,false,acc,rfl,hlen,_,_,_,_,_,ha,rfl⟩
   ·rintro _ ⟨acc,a,b,c,d,ha,rfl⟩
    have:R.drop ((List.range R.length).map fun (i:Nat)=>D.tup [.int (i:Int),pD (R.getD i (0,0))]).length=[]:=by simp
    rw [this,BP,List.append_nil] at ha
    rw [ha]
    simp
open Classical in
def cT (hs:List (List Int)) (M:Nat):List (List Pr):=(subs (hs.length - 1) (Pn hs.length)).filter fun X=>decide (dh X∧wt (wh hs) X=gC hs M)
open Classical in
theorem GS (h1:1 ≤ hs.length) (h6:hs.length ≤ 6) (h7:∀ h ∈ hs,h.length ≤ 7) (hM:M ≤ 7) :
  eF k4 pE [cB M hs]=some (if Mw hs []=gC hs M then (cT hs M).map tD else []):= by
 apply nk
 show Ok pE [.pu (cB M hs),.un,.un,.un,.un] _
 unfold pE
 have e1:eB (cB (M:Int) hs) (.int 1)=some (.tup (hs.map hD)):=rfl
 have e2:=kR hs
 have pw:=Eu (M:Int) h6 h7
 have dw:=AX h6 hM
 have mm0:=AW h6 (jW hs.length)
 have le15:=kf hs.length (by omega)
 have kl:AB [.dip (dW hs (Pn hs.length))]=some ((Pn hs.length).map pD):= by
  have:(dW hs (Pn hs.length)).length ≤ 1000:=by simp [dW];omega
  show (if (dW hs (Pn hs.length)).length ≤ 1000 then some ((dW hs (Pn hs.length)).map fun p=>pairD p.1) else none)=_
  rw [if_pos this]
  unfold dW
  rw [List.map_map]
  rfl
 have iw:=fun (e:Pr) (he:e ∈ Pn hs.length)=>nQ (hs:=hs) he
 have rl:=nr _ h6
 have tr:=ib h6 8 (hs.length - 1) [] (Pn hs.length) (List.range hs.length) (by omega) (Nat.le_refl _) (jW _) jY (by simp;omega) le15 fun e he=>by have:=eJ.mp he;omega
 have e3:bW [.tup (lD (List.range hs.length))]=some (.int (hs.length:Int)):=by simp [bW,lD]
 have e4:du (.int (hs.length:Int)) (.int 1)=some (.int ((hs.length - 1:Nat):Int)):= by
  simp only [du,bC,if_true]
  refine congrArg (fun z:Int=>some (D.int z)) ?_
  omega
 have e5:tD []=.tup []:=rfl
 rw [e5] at tr
 have all:tf (hs.length - 1) [] (Pn hs.length)=(((subs (hs.length - 1) (Pn hs.length)).filter fun X=>decide (dh X)).map tD):=rfl
 rw [all] at tr
 have hall:((subs (hs.length - 1) (Pn hs.length)).filter fun X=>decide (dh X)).filter (fun X=>decide (wt (wh hs) X=gC hs M))=cT hs M:= by
  unfold cT
  rw [List.filter_filter]
  refine List.filter_congr fun X _=>?_
  rw [Bool.and_comm,Bool.decide_and]
 have sm:∀ X ∈ (subs (hs.length - 1) (Pn hs.length)).filter fun X=>decide (dh X),(∀ e ∈ X,e ∈ Pn hs.length)∧X.length ≤ 15:=fun X hX=>by
  have h:=(dE (List.mem_filter.mp hX).1)
  exact ⟨fun e he=>h.1.mem he,by omega⟩
 have len:((subs (hs.length - 1) (Pn hs.length)).filter fun X=>decide (dh X)).length ≤ 40000:= by
  have:=x3 (hs.length - 1) [] (Pn hs.length) le15
  rw [all,List.length_map] at this
  exact this
 generalize (subs (hs.length - 1) (Pn hs.length)).filter (fun X=>decide (dh X))=Ts at *
 generalize cB (M:Int) hs=lay at *
 generalize D.dip (dW hs (Pn hs.length))=W at *
 generalize gC hs M=d0 at *
 generalize iP 8=rec at *
 refine aB (fun δ=>δ=[.pu lay,.pu W,.un,.un,.un]) (by simp [aA,pw]) ?_
 rintro _ rfl
 refine aB (fun δ=>δ=[.pu lay,.pu W,.pu (.tup (lD (List.range hs.length))),.un,.un]) (by simp [e1,e2,rl]) ?_
 rintro _ rfl
 refine aB (fun δ=>δ=[.pu lay,.pu W,.pu (.tup (lD (List.range hs.length))),.pu (.int d0),.un]) (by simp [aA,dw]) ?_
 rintro _ rfl
 generalize D.tup (lD (List.range hs.length))=lb at *
 have ne:=mW true (Mw hs []) d0
 by_cases hc:Mw hs []=d0
 ·rw [if_pos hc]
  rw [decide_eq_true hc] at ne
  refine aB (fun δ=>δ=[.pu lay,.pu W,.pu lb,.pu (.int d0),.un]) ?_ ?_
  ·refine fP (fun b δ=>b=false∧δ=[.pu lay,.pu W,.pu lb,.pu (.int d0),.un]) ?_ (fun _ h=>by cases h.1) ?_
   ·simp [aA,mm0,ne]
   ·rintro _ ⟨_,rfl⟩
    simp
  rintro _ rfl
  generalize (((hs.length - 1:Nat):Int))=n1 at *
  refine aB (fun δ=>δ=[.pu lay,.pu W,.pu lb,.pu (.int d0),.pu (.lst (Ts.map tD))]) (by simp [aA,kl,e3,e4,tr]) ?_
  rintro _ rfl
  rw [av]
  refine bF Ts tD (fun X=>if decide (wt (wh hs) X=d0)=true then some (tD X) else none) rfl ?_ (by omega) (fun X hX=>?_) ?_
  ·simp [bO]
  ·obtain ⟨hX1,hX2⟩:=sm X hX
   have si:bO (tD X)=some (aQ (X.map pD)):=rfl
   have sw:=sum_ints (X.map (wh hs)) (by simp;omega) fun i hi=>by
    obtain ⟨e,_,rfl⟩:=List.mem_map.mp hi
    have:=FA h7 e
    have:=vY (hs:=hs) e
    omega
   rw [List.map_map] at sw
   have eqf:b9 false (.int (wt (wh hs) X)) (.int d0)=some (.bl (decide (wt (wh hs) X=d0))):=by simp [b9,flat,jZ]
   simp only [eA,br,av,d7,fw,bg,ar]
   refine ⟨by simp,?_⟩
   show Ok _ [.pu lay,.pu W,.pu lb,.pu (.int d0),.pu (.lst (Ts.map tD)),.pu (tD X)] _
   refine bF X pD (fun e=>some (.int (wh hs e))) rfl ?_ (by omega) (fun e he=>?_) ?_
   ·generalize tD X=xd at *
    simp [si]
   ·have:=iw e (hX1 e he)
    generalize pD e=pe at *
    simp [this]
   ·rw [List.filterMap_eq_map']
    rw [show (fun e:Pr=>D.int (wh hs e))=D.int ∘ wh hs from rfl,sw,bA]
    change Ok (ag 3) _ fun y δ2=>Ok (lift (b9 false (.int (wt (wh hs) X)) y)) δ2 _
    generalize tD X=xd at *
    simp only [bp,List.getElem?_cons_succ,List.getElem?_cons_zero,Option.some.injEq,Jt.Slot.pu.injEq,exists_eq_left',eqf,bA,ip,D.bl.injEq]
    by_cases hw:wt (wh hs) X=d0
    ·simp [hw]
    ·simp [hw]
  ·rw [bR,hall]
   simp
 ·rw [if_neg hc]
  rw [decide_eq_false hc] at ne
  rw [cb]
  refine fP (fun b δ=>b=true∧δ=[.pu lay,.pu W,.pu lb,.pu (.int d0),.un]) ?_ ?_ (fun _ h=>by cases h.1)
  ·simp [aA,mm0,ne]
  ·rintro _ ⟨_,rfl⟩
   simp
theorem Cw {xs:List D} {lay:D} (h:eF k4 pE [lay]=some xs):aU zT vF [lay]=some (.int (xs.length:Int)):= by
 apply bZ
 show Ok vF [.pu lay] _
 unfold vF
 simp [aA,h,bW]
end K22
namespace K22
open PySem L2 Jt
variable {hs:List (List Int)} {M:Nat}
theorem wQ (k:Nat) (ls:List Nat):l_ false (.int (k:Int)) (.lst (lD ls))=some (.bl (decide (k ∈ ls))):=wq false k ls
theorem wo {sm:List Nat} {X:List Pr} {f:List Nat} {j:Nat} (h:j < X.length):K22.rdH sm (X.take (j + 1)) f=stH sm (K22.rdH sm (X.take j) f) X[j]:= by
 unfold K22.rdH
 rw [List.take_succ_eq_append_getElem h,List.foldl_append]
 rfl
theorem vP {sm:List Nat} {X:List Pr} (hne:sm ≠ []) (i j:Nat):(K22.rdH sm (X.take j) (mF sm X i (sm.take 1))).length ≤ sm.length:= by
 obtain ⟨x,r,rfl⟩:∃ x r,sm=x :: r:= by
  cases sm with
  | nil=>exact absurd rfl hne
  | cons x r=>exact ⟨x,r,rfl⟩
 have j0:JH (x :: r) X x ((x :: r).take 1):=⟨by simp,fun a ha=>by
  have:a=x:=by simpa using ha
  rw [this];exact List.mem_cons_self,by simp,fun a ha=>by
  have:a=x:=by simpa using ha
  rw [this];exact .refl _⟩
 have h:=JH.rd (Q:=X.take j) (fun e he=>List.mem_of_mem_take he) (j0.it i)
 exact sh h.nd h.sub
theorem xJ (a b:Bool):iC true (.bl a) (.bl b)=some (.bl (a != b)):=by cases a <;> cases b <;> rfl
theorem km {X:List Pr} {sm:List Nat} (hs6:sm.length ≤ 6):aU oZ lA [tD X,.lst (lD sm)]=some (.bl (dI X sm)):= by
 apply bZ
 show Ok lA [.pu (tD X),.pu (.lst (lD sm)),.un,.un,.un,.un] _
 unfold lA
 have e0:=eK false (lD sm)
 have i1:=fun k=>wQ k sm
 have si:bO (tD X)=some (aQ (X.map pD)):=rfl
 have sl:Fy (.lst (lD sm)) none (some 1)=some (.lst (lD (sm.take 1))):= by
  show some (D.lst (cutD (lD sm) none (some ((1:Nat):Int))))=_
  rw [vA,yC]
 have ln:bW [.lst (lD sm)]=some (.int (sm.length:Int)):=by simp [bW,lD]
 have sN:aF (sm.length:Int)=true:=by simp [aF];omega
 by_cases hne:sm=[]
 ·subst hne
  rw [cb]
  refine fP (fun b δ=>b=true∧δ=[.pu (tD X),.pu (.lst (lD [])),.un,.un,.un,.un]) ?_ ?_ (fun _ h=>by cases h.1)
  ·have:iC false (.lst (lD [])) (.lst [])=some (.bl true):=rfl
   generalize D.lst (lD [])=z at *
   simp [this]
  ·rintro _ ⟨_,rfl⟩
   simp [dI]
 ·have hemp:(lD sm).isEmpty=false:= by
   cases sm with
   | nil=>exact absurd rfl hne
   | cons _ _=>rfl
  rw [hemp,if_neg (by simp)] at e0
  unfold dI
  rw [if_neg hne]
  generalize tD X=td at *
  generalize hsd:D.lst (lD sm)=sd at *
  refine fW false ?_ (by simp) fun _=>?_
  ·simp [e0]
  refine aB (fun δ=>δ=[.pu td,.pu sd,.pu (.lst (lD (sm.take 1))),.un,.un,.un]) (by simp [sl]) ?_
  rintro _ rfl
  rw [cb]
  refine fL (lD (List.range sm.length)) (fun i δ=>∃ a b c:Jt.Slot,δ=[.pu td,.pu sd,.pu (.lst (lD (mF sm X i (sm.take 1)))),a,b,c]) ?_ ⟨_,_,_,rfl⟩ ?_ ?_
  ·simp [ln,bT,sN,iA]
  ·rintro i hi _ ⟨a,b,c,rfl⟩
   have itm:(lD (List.range sm.length))[i]=.int (i:Int):=by simp [lD]
   rw [itm]
   simp only [br,List.length_cons,List.length_nil,List.set_cons_succ,List.set_cons_zero]
   refine ⟨by omega,?_⟩
   refine fL (X.map pD) (fun j δ=>∃ b c:Jt.Slot,δ=[.pu td,.pu sd,.pu (.lst (lD (K22.rdH sm (X.take j) (mF sm X i (sm.take 1))))),.pu (.int (i:Int)),b,c]) ?_ ⟨b,c,rfl⟩ ?_ ?_
   ·simp [si]
   ·rintro j hj _ ⟨b,c,rfl⟩
    have hj2:j < X.length:=by simpa using hj
    have itj:(X.map pD)[j]=pD X[j]:=by simp
    rw [itj,wo hj2]
    have hl:=vP (X:=X) hne i j
    generalize K22.rdH sm (X.take j) (mF sm X i (sm.take 1))=f at *
    generalize X[j]=e at *
    have f1:=wQ e.1 f
    have f2:=wQ e.2 f
    have g1:=i1 e.1
    have g2:=i1 e.2
    have bb:=xJ (decide (e.1 ∈ f)) (decide (e.2 ∈ f))
    have ct:ny (.lst (lD f)) (.lst [.int ((if e.1 ∈ f then e.2 else e.1:Nat):Int)])=some (lD (f ++ [if e.1 ∈ f then e.2 else e.1])):= by
     show pS _ _=_
     unfold pS
     rw [if_pos (by simp [lD];omega)]
     simp [lD]
    have hst:stH sm f e=if (decide (e.1 ∈ f) != decide (e.2 ∈ f)) && decide (e.1 ∈ sm) && decide (e.2 ∈ sm) then f ++ [if e.1 ∈ f then e.2 else e.1] else f:=rfl
    have pick:e_ (.lst [.int (e.1:Int),.int (e.2:Int)]) (.int (if decide (e.1 ∈ f)=true then 1 else 0))=some (.int ((if e.1 ∈ f then e.2 else e.1:Nat):Int)):= by
     by_cases q:e.1 ∈ f <;> simp [q] <;> rfl
    show Ok (dF 2 _ (.tup [.int (e.1:Int),.int (e.2:Int)])) _ _
    generalize stH sm f e=f' at *
    generalize hf:D.lst (lD f)=fd at *
    generalize (if e.1 ∈ f then e.2 else e.1)=v at *
    generalize decide (e.1 ∈ f)=q1 at *
    generalize decide (e.2 ∈ f)=q2 at *
    generalize decide (e.1 ∈ sm)=q3 at *
    generalize decide (e.2 ∈ sm)=q4 at *
    simp only [i4,List.length_cons,List.length_nil,if_true,fI,br,gq,List.set_cons_succ,List.set_cons_zero]
    refine ⟨by omega,by omega,?_⟩
    refine fP (fun b δ=>b=((q1 != q2) && q3 && q4)∧δ=[.pu td,.pu sd,.pu fd,.pu (.int (i:Int)),.pu (.int (e.1:Int)),.pu (.int (e.2:Int))]) ?_ ?_ ?_
    ·cases hq:(q1 != q2) <;> rw [hq] at bb <;> cases q3 <;> simp [f1,f2,bb,g1,g2]
    ·rintro _ ⟨h,rfl⟩
     rw [if_pos h.symm] at hst
     simp only [dt,av,qZ,bp,ar,gS,bg,d7,fw,cJ,rb,List.getElem?_cons_succ,List.getElem?_cons_zero,Option.some.injEq,Jt.Slot.pu.injEq,exists_eq_left',f1,bA,jG,pick,List.length_cons,List.length_nil,List.set_cons_succ,List.set_cons_zero,ct]
     exact ⟨by omega,by omega,by omega,_,_,by rw [hst]⟩
    ·rintro _ ⟨h,rfl⟩
     rw [if_neg (by rw [<- h];simp)] at hst
     refine ar.mpr ⟨.pu (.int (e.1:Int)),.pu (.int (e.2:Int)),?_⟩
     rw [hst,hf]
   ·rintro _ ⟨b,c,rfl⟩
    have:X.take (X.map pD).length=X:=by simp
    rw [this]
    exact ⟨_,_,_,rfl⟩
  ·rintro _ ⟨a,b,c,rfl⟩
   have:(lD (List.range sm.length)).length=sm.length:=by simp [lD]
   rw [this]
   generalize mF sm X sm.length (sm.take 1)=f
   have lf:bW [.lst (lD f)]=some (.int (f.length:Int)):=by simp [bW,lD]
   have eqf:b9 false (.int (f.length:Int)) (.int (sm.length:Int))=some (.bl (f.length == sm.length)):= by
    have:b9 false (.int (f.length:Int)) (.int (sm.length:Int))=some (.bl (decide ((f.length:Int)=(sm.length:Int)))):=by simp [b9,flat,jZ]
    rw [this]
    refine congrArg (fun b:Bool=>some (D.bl b)) ?_
    rw [Bool.eq_iff_iff,decide_eq_true_eq,beq_iff_eq]
    omega
   generalize D.lst (lD f)=fd at *
   simp [lf,ln,eqf]
theorem C3 (h6:hs.length ≤ 6) (c:Nat):(vc hs c).length ≤ 6:= by
 unfold vc
 have:=List.length_filter_le (fun i=>co hs c i) (List.range hs.length)
 rw [List.length_range] at this
 omega
def c7 (hs:List (List Int)) (M:Nat) (X:List Pr):Bool:=decide (∀ c,c < M->dI X (vc hs c)=true)
theorem o5 (h6:hs.length ≤ 6) (hM:M ≤ 7) (X:List Pr):aU p8 t5 [cB M hs,tD X]=some (.bl (c7 hs M X)):= by
 have:∃ d,aU p8 t5 [cB M hs,tD X]=some d∧d=.bl (c7 hs M X):= by
  apply rY
  show Ok t5 [.pu (cB M hs),.pu (tD X),.un] _
  unfold t5
  have e0:=pF (M:Int) hs
  have e1:=gJ (M:Int) hs
  have hg:=fun c=>km (X:=X) (C3 h6 c)
  have nd:=kb hs 0
  have sM:aF (M:Int)=true:=by simp [aF];omega
  generalize cB (M:Int) hs=lay at *
  generalize tD X=td at *
  rw [cb]
  refine fL (lD (List.range M)) (fun c δ=>∃ a:Jt.Slot,δ=[.pu lay,.pu td,a]∧∀ i,i < c->dI X (vc hs i)=true) ?_ ⟨_,rfl,fun i h=>by omega⟩ ?_ ?_
  ·simp [e0,bT,sM,iA]
  ·rintro c hc _ ⟨a,rfl,hz⟩
   have hc2:c < M:=by simpa [lD] using hc
   have itm:(lD (List.range M))[c]=.int (c:Int):=by simp [lD]
   rw [itm]
   simp only [br,List.length_cons,List.length_nil,List.set_cons_succ,List.set_cons_zero]
   refine ⟨by omega,?_⟩
   refine fP (fun b δ=>b = !dI X (vc hs c)∧δ=[.pu lay,.pu td,.pu (.int (c:Int))]) ?_ ?_ ?_
   ·simp only [zr,av,fw,bg,bp,ar,List.getElem?_cons_succ,List.getElem?_cons_zero,Option.some.injEq,Jt.Slot.pu.injEq,exists_eq_left']
    refine bF (List.range hs.length) (fun (i:Nat)=>.tup [.int (i:Int),hD (G hs i)]) (fun i=>if decide ((c:Int) ∈ G hs i)=true then some (.int (i:Int)) else none) rfl ?_ (by simp;omega) (fun i hi=>?_) ?_
    ·simp [e1,gz,vB,nd]
    ·by_cases q:(c:Int) ∈ G hs i <;> simp [pv,q]
    ·rw [bR]
     have ev:((List.range hs.length).filter fun i=>decide ((c:Int) ∈ G hs i)).map (fun (i:Nat)=>D.int (i:Int))=lD (vc hs c):=rfl
     rw [ev]
     have h:=hg c
     generalize D.lst (lD (vc hs c))=vd at *
     simp [aA,h,iz]
   ·rintro _ ⟨h,rfl⟩
    have h:dI X (vc hs c)=false:=by simpa using h.symm
    simp only [av,ar]
    refine ⟨_,rfl,?_⟩
    have:c7 hs M X=false:= by
     unfold c7
     rw [decide_eq_false_iff_not]
     intro z
     have:=z c hc2
     rw [h] at this;cases this
    rw [this]
   ·rintro _ ⟨h,rfl⟩
    have h:dI X (vc hs c)=true:=by simpa using h.symm
    refine ar.mpr ⟨_,rfl,fun i hi=>?_⟩
    by_cases e:i=c
    ·rw [e];exact h
    ·exact hz i (by omega)
  ·rintro _ ⟨a,rfl,hz⟩
   have:(lD (List.range M)).length=M:=by simp [lD]
   rw [this] at hz
   simp only [av,ar]
   refine ⟨_,rfl,?_⟩
   have:c7 hs M X=true:= by
    unfold c7
    rw [decide_eq_true_eq];exact hz
   rw [this]
 obtain ⟨d,h,rfl⟩:=this
 exact h
theorem fH {α β:Type} {f g:α->List β}:∀ {l:List α},(∀ a ∈ l,f a=g a)->l.flatMap f=l.flatMap g
 | [],_=>rfl
 | a :: r,h=>by rw [List.flatMap_cons,List.flatMap_cons,h a List.mem_cons_self,fH fun x hx=>h x (List.mem_cons_of_mem _ hx)]
def rws (L:List Pr):Nat->List (List Pr × Nat)
 | 0=>[([],0)]
 | t + 1=>(rws L t).flatMap fun r=>(List.range (L.length - r.2)).map fun j=>(r.1 ++ [L.getD (r.2 + j) (0,0)],r.2 + j + 1)
theorem oO (L:List Pr):∀ t s,(rws L t).flatMap (fun r=>(subs s (L.drop r.2)).map (r.1 ++ ·))=subs (s + t) L
 | 0,s=>by simp [rws]
 | t + 1,s=>by
  rw [show s + (t + 1)=(s + 1) + t by omega,<- oO L t (s + 1),rws,List.flatMap_assoc]
  refine fH fun r _=>?_
  rw [List.flatMap_map,sf,List.map_flatMap,List.length_drop]
  refine fH fun j _=>?_
  rw [List.map_map,List.drop_drop]
  have e1:(L.drop r.2).getD j (0,0)=L.getD (r.2 + j) (0,0):=by simp [List.getD_eq_getElem?_getD,List.getElem?_drop]
  rw [e1]
  refine List.map_congr_left fun Y _=>?_
  simp
theorem nU (L:List Pr) (t:Nat):(rws L t).map (·.1)=subs t L:= by
 have h:=oO L t 0
 rw [Nat.zero_add] at h
 rw [<- h,List.map_eq_flatMap]
 refine fH fun r _=>?_
 have:subs 0 (L.drop r.2)=[[]]:=by cases L.drop r.2 <;> rfl
 rw [this]
 simp
theorem rK (L:List Pr) (t:Nat) (h:L.length ≤ 15):(rws L t).length ≤ 40000:= by
 have h1:(rws L t).length=(subs t L).length:=by rw [<- nU,List.length_map]
 have h2:=gy t L
 have h3:2 ^ L.length ≤ 2 ^ 15:=Nat.pow_le_pow_right (by omega) h
 omega
def rD (r:List Pr × Nat):D:=.tup [tD r.1,.int (r.2:Int)]
end K22
namespace K22
open PySem L2 Jt
variable {hs:List (List Int)} {M:Nat}
theorem zI:∀ n,n < 7->∀ k,k < 7->(uU n k).length ≤ 36:=by decide +kernel
theorem Cb {L:List Pr}:∀ {t:Nat} {r:List Pr × Nat},r ∈ rws L t->r.2 ≤ L.length
 | 0,r,h=>by rw [List.mem_singleton.mp h];exact Nat.zero_le _
 | t + 1,r,h=>by
  obtain ⟨q,_,hr⟩:=List.mem_flatMap.mp h
  obtain ⟨j,hj,rfl⟩:=List.mem_map.mp hr
  have:=List.mem_range.mp hj
  dsimp only
  omega
theorem Dc {L:List Pr} {t:Nat} {r:List Pr × Nat} (h:r ∈ rws L t):r.1.length=t:= by
 have:r.1 ∈ subs t L:=by rw [<- nU];exact List.mem_map.mpr ⟨r,h,rfl⟩
 exact (dE this).2
def tS (L:List Pr) (r:List Pr × Nat):List (List Pr × Nat):=(List.range (L.length - r.2)).map fun j=>(r.1 ++ [L.getD (r.2 + j) (0,0)],r.2 + j + 1)
theorem Bb (L:List Pr) (t:Nat):rws L (t + 1)=(rws L t).flatMap (tS L):=rfl
theorem EG {L:List Pr} {k:Nat} (h:k < L.length):e_ (.lst (L.map pD)) (.int (k:Int))=some (pD (L.getD k (0,0))):= by
 show jh (L.map pD) (k:Int)=_
 rw [dA (L.map pD) k (by simpa using h)]
 simp [h]
theorem pG {n:Nat} (h1:1 ≤ n) (h6:n ≤ 6):eF o8 wM [.int (n:Int)]=some ((subs (n - 1) (Pn n)).map tD):= by
 apply nk
 show Ok wM [.pu (.int (n:Int)),.un,.un,.un,.un,.un,.un,.un] _
 unfold wM
 have sN:aF (n:Int)=true:=by simp [aF];omega
 refine aB (fun δ=>δ=[.pu (.int (n:Int)),.pu (.lst []),.un,.un,.un,.un,.un,.un]) (by simp) ?_
 rintro _ rfl
 refine aB (fun δ=>∃ a:Jt.Slot,δ=[.pu (.int (n:Int)),.pu (.lst ((Pn n).map pD)),a,.un,.un,.un,.un,.un]) ?_ ?_
 ·refine fL (lD (List.range n)) (fun k δ=>∃ a:Jt.Slot,δ=[.pu (.int (n:Int)),.pu (.lst ((uU n k).map pD)),a,.un,.un,.un,.un,.un]) ?_ ⟨_,rfl⟩ ?_ ?_
  ·simp [bT,sN,iA]
  ·rintro k hk _ ⟨a,rfl⟩
   have hk2:k < n:=by simpa [lD] using hk
   have itm:(lD (List.range n))[k]=.int (k:Int):=by simp [lD]
   rw [itm]
   have s1:aF ((k:Int) + 1)=true:=by simp [aF];omega
   have ed:((n:Int) - ((k:Int) + 1)).toNat=n - (k + 1):=by omega
   simp only [br,List.length_cons,List.length_nil,List.set_cons_succ,List.set_cons_zero]
   refine ⟨by omega,?_⟩
   simp only [dt,av,qZ,bp,ar,List.getElem?_cons_succ,List.getElem?_cons_zero,Option.some.injEq,Jt.Slot.pu.injEq,exists_eq_left']
   refine bF (List.range (n - (k + 1))) (fun j=>.int ((k:Int) + 1 + (j:Int))) (fun j=>some (pD (k,k + 1 + j))) rfl ?_ (by simp;omega) (fun j hj=>?_) ?_
   ·simp [b8,bC,pq,sN,s1,ed,bo]
   ·simp [pD]
   ·rw [List.filterMap_eq_map']
    have er:(List.range (n - (k + 1))).map (fun j=>pD (k,k + 1 + j))=(row n k).map pD:=by simp [row]
    have ct:ny (.lst ((uU n k).map pD)) (.lst ((row n k).map pD))=some ((uU n (k + 1)).map pD):= by
     show pS _ _=_
     unfold pS
     have:=zI n (by omega) (k + 1) (by omega)
     rw [kM,List.length_append] at this
     rw [if_pos (by simp only [List.length_map];omega),kM,List.map_append]
    rw [er]
    simp only [rb,ct,bA,List.length_cons,List.length_nil,List.set_cons_succ,List.set_cons_zero]
    exact ⟨by omega,_,rfl⟩
  ·rintro _ ⟨a,rfl⟩
   have:(lD (List.range n)).length=n:=by simp [lD]
   rw [this]
   exact ⟨rfl,_,rfl⟩
 rintro _ ⟨a,rfl⟩
 have le15:=kf n (by omega)
 generalize Pn n=L at *
 have lenL:bW [.lst (L.map pD)]=some (.int (L.length:Int)):=by simp [bW]
 have sL:aF (L.length:Int)=true:=by simp [aF];omega
 have ixL:=fun {k:Nat} (h:k < L.length)=>EG h
 generalize D.lst (L.map pD)=ld at *
 refine aB (fun δ=>δ=[.pu (.int (n:Int)),.pu ld,a,.pu (.lst ((rws L 0).map rD)),.un,.un,.un,.un]) (by simp [rws,rD,tD]) ?_
 rintro _ rfl
 refine aB (fun δ=>∃ a2 a4 a5 a6 a7:Jt.Slot,δ=[.pu (.int (n:Int)),.pu ld,a2,.pu (.lst ((rws L (n - 1)).map rD)),a4,a5,a6,a7]) ?_ ?_
 ·refine fL (lD (List.range (n - 1))) (fun t δ=>∃ a2 a4 a5 a6 a7:Jt.Slot,δ=[.pu (.int (n:Int)),.pu ld,a2,.pu (.lst ((rws L t).map rD)),a4,a5,a6,a7]) ?_ ⟨_,_,_,_,_,rfl⟩ ?_ ?_
  ·have e4:du (.int (n:Int)) (.int 1)=some (.int ((n - 1:Nat):Int)):= by
    simp only [du,bC,if_true]
    refine congrArg (fun z:Int=>some (D.int z)) ?_
    omega
   have s4:aF ((n - 1:Nat):Int)=true:=by simp [aF];omega
   simp only [fw,bg,d7,bp,ar,List.getElem?_cons_succ,List.getElem?_cons_zero,Option.some.injEq,Jt.Slot.pu.injEq,exists_eq_left',e4,bA,bT,s4,if_true]
   rw [Int.toNat_natCast,iA]
   simp
  ·rintro t ht _ ⟨a2,a4,a5,a6,a7,rfl⟩
   have ht2:t < n - 1:=by simpa [lD] using ht
   have itm:(lD (List.range (n - 1)))[t]=.int (t:Int):=by simp [lD]
   rw [itm]
   simp only [br,List.length_cons,List.length_nil,List.set_cons_succ,List.set_cons_zero]
   refine ⟨by omega,?_⟩
   refine aB (fun δ=>δ=[.pu (.int (n:Int)),.pu ld,a2,.pu (.lst ((rws L t).map rD)),.pu (.int (t:Int)),.ow false [],a6,a7]) (by simp) ?_
   rintro _ rfl
   have big:=rK L (t + 1) le15
   rw [Bb] at big
   refine aB (fun δ=>∃ a6 a7:Jt.Slot,δ=[.pu (.int (n:Int)),.pu ld,a2,.pu (.lst ((rws L t).map rD)),.pu (.int (t:Int)),.ow false ((rws L (t + 1)).map rD),a6,a7]) ?_ ?_
   ·refine fL ((rws L t).map rD) (fun p δ=>∃ a6 a7:Jt.Slot,δ=[.pu (.int (n:Int)),.pu ld,a2,.pu (.lst ((rws L t).map rD)),.pu (.int (t:Int)),.ow false ((((rws L t).take p).flatMap (tS L)).map rD),a6,a7]) ?_ ⟨_,_,rfl⟩ ?_ ?_
    ·simp [bO]
    ·rintro p hp _ ⟨a6,a7,rfl⟩
     have hp2:p < (rws L t).length:=by simpa using hp
     have itp:((rws L t).map rD)[p]=rD (rws L t)[p]:=by simp
     rw [itp,List.take_succ_eq_append_getElem hp2,List.flatMap_append,List.flatMap_singleton]
     have hr:=List.getElem_mem hp2
     have hb:=Cb hr
     have hl:=Dc hr
     have hlen:(((rws L t).take p).flatMap (tS L)).length + (tS L (rws L t)[p]).length ≤ 40000:= by
      have e:rws L t=(rws L t).take p ++ (rws L t)[p] :: (rws L t).drop (p + 1):=by rw [<- List.drop_eq_getElem_cons hp2,List.take_append_drop]
      have e2:((rws L t).flatMap (tS L)).length=(((rws L t).take p).flatMap (tS L)).length + ((tS L (rws L t)[p]).length + (((rws L t).drop (p + 1)).flatMap (tS L)).length):= by
       conv=>lhs;rw [e]
       rw [List.flatMap_append,List.length_append,List.flatMap_cons,List.length_append]
      omega
     generalize ((rws L t).take p).flatMap (tS L)=acc at *
     generalize (rws L t)[p]=r at *
     have cat:∀ e:Pr,jO (tD r.1) (.tup [pD e])=some (tD (r.1 ++ [e])):=fun e=>by
      unfold tD
      rw [Fi _ _ (by simp;omega) (by simp),List.map_append]
      rfl
     have s1:aF (r.2:Int)=true:=by simp [aF];omega
     have ed:((L.length:Int) - (r.2:Int)).toNat=L.length - r.2:=by omega
     show Ok (dF 2 _ (.tup [tD r.1,.int (r.2:Int)])) _ _
     generalize D.lst ((rws L t).map rD)=rwd at *
     generalize htd:tD r.1=td at *
     simp only [i4,List.length_cons,List.length_nil,if_true,fI,br,gq,List.set_cons_succ,List.set_cons_zero]
     refine ⟨by omega,by omega,?_⟩
     refine kr ⟨_,_,rfl⟩ ?_
     refine bF (List.range (L.length - r.2)) (fun j=>.int ((r.2:Int) + (j:Int))) (fun j=>some (rD (r.1 ++ [L.getD (r.2 + j) (0,0)],r.2 + j + 1))) rfl ?_ (by simp;omega) (fun j hj=>?_) ?_
     ·simp [lenL,pq,s1,sL,ed,bo]
     ·have hj2:=List.mem_range.mp hj
      have ix:=ixL (show r.2 + j < L.length by omega)
      have ct:=cat (L.getD (r.2 + j) (0,0))
      have en:b8 (.int ((r.2:Int) + (j:Int))) (.int 1)=some (.int ((r.2 + j + 1:Nat):Int)):=by simp [b8,bC]
      rw [show (((r.2 + j:Nat):Int))=(r.2:Int) + (j:Int) by omega] at ix
      unfold rD
      generalize tD (r.1 ++ [L.getD (r.2 + j) (0,0)])=te at *
      generalize pD (L.getD (r.2 + j) (0,0))=pe at *
      dsimp only
      generalize (((r.2 + j + 1:Nat):Int))=nn at *
      simp [ix,ct,en]
     ·rw [List.filterMap_eq_map']
      refine ⟨false,_,rfl,?_,.pu td,.pu (.int (r.2:Int)),?_⟩
      ·have:(tS L r).length=L.length - r.2:=by simp [tS]
       simp only [List.length_map,List.length_range]
       omega
      ·have:(List.range (L.length - r.2)).map (fun j=>rD (r.1 ++ [L.getD (r.2 + j) (0,0)],r.2 + j + 1))=(tS L r).map rD:=by unfold tS;rw [List.map_map];rfl
       rw [this,List.map_append]
       rfl
    ·rintro _ ⟨a6,a7,rfl⟩
     have:(rws L t).take ((rws L t).map rD).length=rws L t:=by simp
     rw [this,<- Bb]
     exact ⟨rfl,_,_,rfl⟩
   rintro _ ⟨a6,a7,rfl⟩
   simp only [dt,av,vV,ar,List.getElem?_cons_succ,List.getElem?_cons_zero,Option.some.injEq,Jt.Slot.ow.injEq,true_and,exists_eq_left',List.length_set,List.length_cons,List.length_nil,List.set_cons_succ,List.set_cons_zero]
   exact ⟨by omega,_,_,_,_,_,rfl⟩
  ·rintro _ ⟨a2,a4,a5,a6,a7,rfl⟩
   have:(lD (List.range (n - 1))).length=n - 1:=by simp [lD]
   rw [this]
   exact ⟨rfl,_,_,_,_,_,rfl⟩
 rintro _ ⟨a2,a4,a5,a6,a7,rfl⟩
 have big:=rK L (n - 1) le15
 rw [<- nU,List.map_map]
 rw [av]
 refine bF (rws L (n - 1)) rD (fun r=>some (tD r.1)) rfl ?_ (by omega) (fun r hr=>?_) ?_
 ·simp [bO]
 ·unfold rD
  generalize tD r.1=td
  simp
 ·rw [List.filterMap_eq_map',ar]
  rfl
end K22
namespace K22
open PySem L2 Jt
open Builtin.Int (intBits)
variable {hs:List (List Int)} {M:Nat}
structure Ly (hs:List (List Int)) (M:Nat):Prop where
 h1:1 ≤ hs.length
 h6:hs.length ≤ 6
 hM:M ≤ 7
 h7:∀ h ∈ hs,h.length ≤ 7
 hh:∀ h ∈ hs,h.Pairwise (· < ·)∧∀ c ∈ h,0 ≤ c∧c < (M:Int)
theorem wG {n:Nat} {X:List Pr} (h:X ∈ subs (n - 1) (Pn n)):∀ e ∈ X,e.1 < n∧e.2 < n:=fun e he=>by
 have:=eJ.mp ((dE h).1.mem he)
 omega
theorem xM (Y:Ly hs M) {X:List Pr} (h:X ∈ subs (hs.length - 1) (Pn hs.length)):dI X (List.range hs.length)=true ↔ dh X:= by
 have r:=wG h
 have e:both (List.range hs.length) X=X:=List.filter_eq_self.mpr fun e he=>by simp [r e he]
 rw [rV List.nodup_range,e]
 have h1:=Y.h1
 refine (vM List.nodup_range (fun z=>?_) (fun e he=>?_) ?_).symm
 ·have:=congrArg List.length z
  rw [List.length_range,List.length_nil] at this
  omega
 ·exact ⟨List.mem_range.mpr (r e he).1,List.mem_range.mpr (r e he).2⟩
 ·rw [(dE h).2,List.length_range];omega
theorem lZ (Y:Ly hs M) {X:List Pr} (h:X ∈ subs (hs.length - 1) (Pn hs.length)) (hF:dh X):c7 hs M X=true ↔ wt (wh hs) X=gC hs M:= by
 have r:=wG h
 rw [(l4 Y.hh hF r).2]
 unfold c7
 rw [decide_eq_true_eq]
 refine forall_congr' fun c=>imp_congr_right fun _=>?_
 have nd:(vc hs c).Nodup:=List.nodup_range.filter _
 rw [rV nd]
 have e:both (vc hs c) X=ec hs X c:= by
  unfold both ec
  refine List.filter_congr fun e he=>?_
  have:=r e he
  have m:∀ i,i < hs.length->decide (i ∈ vc hs c)=co hs c i:=fun i hi=>by
   unfold vc
   rw [Bool.eq_iff_iff,decide_eq_true_eq,List.mem_filter,List.mem_range]
   exact ⟨fun z=>z.2,fun z=>⟨hi,z⟩⟩
  rw [m _ this.1,m _ this.2]
 rw [e]
open Classical in
theorem zC (Y:Ly hs M):(subs (hs.length - 1) (Pn hs.length)).filter (fun X=>dI X (List.range hs.length) && c7 hs M X)=cT hs M:= by
 unfold cT
 refine List.filter_congr fun X hX=>?_
 rw [Bool.eq_iff_iff,Bool.and_eq_true,decide_eq_true_eq,xM Y hX]
 exact ⟨fun z=>⟨z.1,(lZ Y hX z.1).mp z.2⟩,fun z=>⟨z.1,(lZ Y hX z.1).mpr z.2⟩⟩
open Classical in
theorem oo (Y:Ly hs M):(Mw hs []=gC hs M∧∃ X r,cT hs M=X :: r∧md (wh hs) (Mw hs) (Pn hs.length) [] (gC hs M)=X) ∨ (Mw hs [] ≠ gC hs M∧cT hs M=[]):= by
 have F:=fm Y.h6 Y.h1
 by_cases h:Mw hs []=gC hs M
 ·left
  refine ⟨h,?_⟩
  obtain ⟨X,e1,e2⟩:=vq F
  rw [show wt (wh hs) (cY (SL hs) [])=gC hs M from h] at e1 e2
  have e3:(cT hs M).head? = some X:= by
   rw [<- e1]
   unfold Cq cT
   refine congrArg List.head? (List.filter_congr fun Z _=>decide_eq_decide.mpr Iff.rfl)
  cases q:cT hs M with
  | nil=>rw [q] at e3;cases e3
  | cons Z r=>
   rw [q] at e3
   cases e3
   exact ⟨X,r,rfl,e2⟩
 ·right
  refine ⟨h,?_⟩
  unfold cT
  rw [List.filter_eq_nil_iff]
  intro X hX
  rw [decide_eq_true_eq]
  rintro ⟨hF,hw⟩
  have a:=F.most jY (C:=X) hF fun e he=>(dE hX).1.mem he
  have g:=gQ (L:=SL hs) jY
  rw [List.nil_append] at g
  have b:=(l4 Y.hh g fun e he=>F.rng e (n5 F e he)).1
  exact h (by show wt (wh hs) (cY (SL hs) [])=_;omega)
theorem n6 (n:Nat):∀ {xs:List D},(∀ x ∈ xs,cP n x x=some true)->cP.go n xs xs=some true
 | [],_=>by simp [cP.go]
 | x :: xs,h=>by
  have ih:=n6 n (xs:=xs) fun y hy=>h y (List.mem_cons_of_mem _ hy)
  unfold cP.go
  rw [h x List.mem_cons_self,ih]
  rfl
theorem Fe (n:Nat) (e:Pr):cP (n + 2) (pD e) (pD e)=some true:= by
 simp [pD,cP,cP.go,flat,uZ]
theorem AR (n:Nat) (X:List Pr):cP (n + 3) (tD X) (tD X)=some true:= by
 unfold tD cP
 rw [n6 _ fun x hx=>by obtain ⟨e,_,rfl⟩:=List.mem_map.mp hx;exact Fe n e]
 simp
theorem Fp (X:List Pr):iC true (tD X) (tD X)=some (.bl false):= by
 have h:=AR 6 X
 unfold iC
 rw [if_pos (show jz (tD X) (tD X)=true from rfl),h]
 rfl
theorem CC (L:List (List Pr)):qd true (.lst (L.map tD)) (.lst (L.map tD))=some (.bl false):= by
 have h:cP 9 (.lst (L.map tD)) (.lst (L.map tD))=some true:= by
  unfold cP
  rw [if_pos rfl]
  exact n6 _ fun x hx=>by obtain ⟨X,_,rfl⟩:=List.mem_map.mp hx;exact AR 5 X
 unfold qd
 rw [if_pos (show jz (.lst (L.map tD)) (.lst (L.map tD))=true from rfl),h]
 rfl
inductive LS (z0:Jt.Slot):DS->Prop
 | mk (a1 a2 a3 a4 a5 a6 a7 a8 a9:Jt.Slot):LS z0 [z0,a1,a2,a3,a4,a5,a6,a7,a8,a9]
theorem xj:∀ ns:List Int,ns.length ≤ 63->(∀ i ∈ ns,intBits i ≤ 2 ^ 20)->aU vJ rP [.lst (ns.map .int)]=some (.bl true):= by
 intro ns hns hbits
 apply bZ
 show Ok rP [.pu (.lst (ns.map .int)),.un,.un,.un,.un,.un,.un,.un,.un,.un] _
 unfold rP
 refine aB (LS (.pu (.lst (ns.map .int)))) ?_ ?_
 ·obtain ⟨N,hN,hN2⟩:∃ N:Nat,(if (if (2:Int) < ns.length then 2 else (ns.length:Int)) > 1 then (if (2:Int) < ns.length then 2 else (ns.length:Int)) else 1)=(N:Int)∧N ≤ 2:= by
   refine ⟨(if (if (2:Int) < ns.length then 2 else (ns.length:Int)) > 1 then (if (2:Int) < ns.length then 2 else (ns.length:Int)) else 1).toNat,?_,?_⟩ <;> split <;> split <;> omega
  have sN:aF N=true:=by simp [aF];omega
  refine fL (bo 0 N) (fun _ δ=>LS (.pu (.lst (ns.map .int))) δ) ?_ (.mk ..) ?_ ?_
  ·simp only [fw,bg,bp,ar,List.getElem?_cons_zero,Option.some.injEq,Jt.Slot.pu.injEq,exists_eq_left',bW,bA,i9,iR,List.length_map,hN,bT,sN,if_true]
   simp
  ·rintro k hk' _ ⟨a1,a2,a3,a4,a5,a6,a7,a8,a9⟩
   have hkN:k < N:=by simpa [bo] using hk'
   rw [eG,br]
   refine ⟨by simp,?_⟩
   simp only [List.set_cons_succ,List.set_cons_zero]
   obtain ⟨n,en⟩:=uk ns hbits k (by omega)
   obtain ⟨d,xs',el,m,hs,n1,rfl,rfl,h1,h6,hm,hq⟩:=nt n (P:=7) (Z:=6) (by omega) (by omega) (by omega) (by omega)
   obtain ⟨M,rfl⟩:∃ M:Nat,m=(M:Int):=⟨m.toNat,by omega⟩
   have Y:Ly hs M:=⟨h1,h6,by omega,fun h hh=>(hq h hh).len (by omega) (by omega),fun h hh=>(hq h hh).2⟩
   have aj:=GS Y.h1 Y.h6 Y.h7 Y.hM
   have fj:=GX Y.h1 Y.h6 Y.h7 Y.hM
   have lt:=pG Y.h1 Y.h6
   have hg:=fun X:List Pr=>km (X:=X) (sm:=List.range hs.length) (by rw [List.length_range];exact h6)
   have jg:=fun X:List Pr=>o5 Y.h6 Y.hM X
   have da:=zC Y
   have le15:=kf hs.length (by omega)
   have sb:(subs (hs.length - 1) (Pn hs.length)).length ≤ 40000:= by
    have h2:=gy (hs.length - 1) (Pn hs.length)
    have h3:2 ^ (Pn hs.length).length ≤ 2 ^ 15:=Nat.pow_le_pow_right (by omega) le15
    omega
   have ajF:eF k4 pE [cB M hs]=some ((cT hs M).map tD):= by
    rw [aj]
    rcases oo Y with ⟨q,_⟩ | ⟨q,e⟩
    ·rw [if_pos q]
    ·rw [if_neg q,e];rfl
   have mj:=Cw ajF
   have fjF:∃ fd,aU ve t7 [cB M hs]=some fd∧((fd=.non∧cT hs M=[]) ∨ ∃ X r,fd=tD X∧cT hs M=X :: r):= by
    refine ⟨_,fj,?_⟩
    rcases oo Y with ⟨q,X,r,e1,e2⟩ | ⟨q,e⟩
    ·rw [if_pos q,e2]
     exact .inr ⟨X,r,rfl,e1⟩
    ·rw [if_neg q]
     exact .inl ⟨rfl,e⟩
   obtain ⟨fd,fe,fq⟩:=fjF
   have e1:=gJ (M:Int) hs
   have e2:=kR hs
   have rl:=nr _ h6
   have h7':((7:Nat):Int)=7:=rfl
   have h6':((6:Nat):Int)=6:=rfl
   rw [h7',h6'] at el
   clear aj fj
   generalize subs (hs.length - 1) (Pn hs.length)=Ts at *
   generalize hrg:lD (List.range hs.length)=rg at *
   generalize cB (M:Int) hs=lay at *
   refine aB (fun δ=>δ=[.pu (.lst (ns.map .int)),.pu (.int (k:Int)),.ow false [.int n],a3,a4,a5,a6,a7,a8,a9]) (by simp [aA,en]) ?_
   rintro _ rfl
   refine aB (fun δ=>δ=[.pu (.lst (ns.map .int)),.pu (.int (k:Int)),.ow false [.int n1],.pu lay,a4,a5,a6,a7,a8,a9]) ?_ ?_
   ·simp only [dt,av,dJ,rH,bg,ar,List.getElem?_cons_succ,List.getElem?_cons_zero,Option.some.injEq,Jt.Slot.ow.injEq,List.length_cons,List.length_nil]
    exact ⟨false,_,⟨rfl,rfl⟩,false,_,⟨rfl,rfl⟩,trivial,_,el,by simp⟩
   rintro _ rfl
   generalize D.lst (ns.map .int)=nsd
   refine aB (fun δ=>δ=[.pu nsd,.pu (.int (k:Int)),.ow false [.int n1],.pu lay,.ow false [],a5,a6,a7,a8,a9]) (by simp) ?_
   rintro _ rfl
   refine aB (fun δ=>∃ a5:Jt.Slot,δ=[.pu nsd,.pu (.int (k:Int)),.ow false [.int n1],.pu lay,.ow false ((cT hs M).map tD),a5,a6,a7,a8,a9]) ?_ ?_
   ·refine fL (Ts.map tD) (fun j δ=>∃ a5:Jt.Slot,δ=[.pu nsd,.pu (.int (k:Int)),.ow false [.int n1],.pu lay,.ow false (((Ts.take j).filter fun X=>dI X (List.range hs.length) && c7 hs M X).map tD),a5,a6,a7,a8,a9]) ?_ ⟨_,rfl⟩ ?_ ?_
    ·simp [e1,e2,aA,lt,bO]
    ·rintro j hj _ ⟨a5,rfl⟩
     have hj2:j < Ts.length:=by simpa using hj
     have itj:(Ts.map tD)[j]=tD Ts[j]:=by simp
     rw [itj,List.take_succ_eq_append_getElem hj2,List.filter_append,List.map_append]
     have h1:=hg Ts[j]
     have h2:=jg Ts[j]
     have hlen:(((Ts.take j).filter fun X=>dI X (List.range hs.length) && c7 hs M X).map tD).length ≤ 100000:= by
      rw [List.length_map]
      have:=List.length_filter_le (fun X=>dI X (List.range hs.length) && c7 hs M X) (Ts.take j)
      rw [List.length_take] at this
      omega
     generalize ((Ts.take j).filter fun X=>dI X (List.range hs.length) && c7 hs M X).map tD=acc at *
     generalize Ts[j]=X at *
     rw [List.filter_cons,List.filter_nil]
     generalize dI X (List.range hs.length)=q1 at *
     generalize c7 hs M X=q2 at *
     rw [br]
     refine ⟨by simp,?_⟩
     simp only [List.set_cons_succ,List.set_cons_zero]
     generalize htd:tD X=td at *
     refine fP (fun b δ=>b=(q1 && q2)∧δ=[.pu nsd,.pu (.int (k:Int)),.ow false [.int n1],.pu lay,.ow false acc,.pu td,a6,a7,a8,a9]) ?_ ?_ ?_
     ·cases q1 <;> simp [aA,h1,h2,e1,e2,rl,iz]
     ·rintro _ ⟨h,rfl⟩
      rw [<- h,if_pos rfl]
      refine d8 ⟨_,_,rfl⟩ ?_
      simp only [bg,bp,ar,List.getElem?_cons_succ,List.getElem?_cons_zero,Option.some.injEq,Jt.Slot.pu.injEq,exists_eq_left']
      refine ⟨_,false,_,rfl,rfl,hlen,.pu td,?_⟩
      rw [<- htd]
      rfl
     ·rintro _ ⟨h,rfl⟩
      rw [<- h]
      refine ar.mpr ⟨.pu td,?_⟩
      simp
    ·rintro _ ⟨a5,rfl⟩
     have:Ts.take (Ts.map tD).length=Ts:=by simp
     rw [this,da]
     exact ⟨rfl,_,rfl⟩
   rintro _ ⟨b5,rfl⟩
   have nl:=CC (cT hs M)
   have sb2:(cT hs M).length ≤ 40000:= by
    rw [<- da]
    exact Nat.le_trans (List.length_filter_le _ _) sb
   refine aB (fun δ=>∃ a6 a7:Jt.Slot,δ=[.pu nsd,.pu (.int (k:Int)),.ow false [.int n1],.pu lay,.ow false ((cT hs M).map tD),b5,a6,a7,a8,a9]) ?_ ?_
   ·refine fL (bo 0 2) (fun _ δ=>∃ a6 a7:Jt.Slot,δ=[.pu nsd,.pu (.int (k:Int)),.ow false [.int n1],.pu lay,.ow false ((cT hs M).map tD),b5,a6,a7,a8,a9]) ?_ ⟨_,_,rfl⟩ ?_ ?_
    ·have s2:aF 2=true:=rfl
     simp [bT,s2]
    ·rintro j hj _ ⟨a6,a7,rfl⟩
     rw [eG,br]
     refine ⟨by simp,?_⟩
     simp only [List.set_cons_succ,List.set_cons_zero]
     refine aB (fun δ=>δ=[.pu nsd,.pu (.int (k:Int)),.ow false [.int n1],.pu lay,.ow false ((cT hs M).map tD),b5,.pu (.int (j:Int)),.ow false ((cT hs M).map tD),a8,a9]) (by simp [aA,ajF]) ?_
     rintro _ rfl
     have hlen:((cT hs M).map tD).length ≤ 100000:=by rw [List.length_map];omega
     generalize (cT hs M).map tD=al at *
     refine fW false ?_ (by simp) fun _=>?_
     ·simp [vT,oj,iz,nl]
     ·refine d8 ⟨_,_,rfl⟩ ?_
      simp only [bg,gR,ar,cJ,List.length_nil]
      exact ⟨by omega,_,false,_,rfl,rfl,hlen,_,_,rfl⟩
    ·rintro _ ⟨a6,a7,rfl⟩
     exact ⟨rfl,_,_,rfl⟩
   rintro _ ⟨b6,b7,rfl⟩
   rw [List.length_map] at mj
   refine aB (fun δ=>δ=[.pu nsd,.pu (.int (k:Int)),.ow false [.int n1],.pu lay,.ow false ((cT hs M).map tD),b5,b6,b7,.pu (.int ((cT hs M).length:Int)),a9]) (by simp [aA,mj]) ?_
   rintro _ rfl
   have wl:=oU (.int ((cT hs M).length:Int))
   have neq:b9 true (.int ((cT hs M).length:Int)) (.int ((cT hs M).length:Int))=some (.bl false):=by simp [b9,flat,jZ]
   refine fW false ?_ (by simp) fun _=>?_
   ·simp [aA,wl,isInt,iz,neq]
   refine aB (fun δ=>δ=[.pu nsd,.pu (.int (k:Int)),.ow false [.int n1],.pu lay,.ow false ((cT hs M).map tD),b5,b6,b7,.pu (.int ((cT hs M).length:Int)),.pu fd]) (by simp [aA,fe]) ?_
   rintro _ rfl
   generalize D.int ((cT hs M).length:Int)=ld at *
   refine fP (fun b δ=>b=false∧δ=[.pu nsd,.pu (.int (k:Int)),.ow false [.int n1],.pu lay,.ow false ((cT hs M).map tD),b5,b6,b7,.pu ld,.pu fd]) ?_ (fun _ h=>by cases h.1) ?_
   ·rcases fq with ⟨rfl,q⟩ | ⟨X,r,rfl,q⟩
    ·rw [q]
     have g1:qd false (.lst []) (.lst [])=some (.bl true):=rfl
     have g2:qd true (.lst []) (.lst [])=some (.bl false):=rfl
     have g3:=xJ true true
     simp [xp,sk,g1,g2,g3]
    ·rw [q,List.map_cons]
     have g1:qd false (.lst (tD X :: r.map tD)) (.lst [])=some (.bl false):=i0 _ _
     have g2:qd true (.lst (tD X :: r.map tD)) (.lst [])=some (.bl true):=i0 _ _
     have g3:=xJ false false
     have g4:=Fp X
     have g5:e_ (.lst (tD X :: r.map tD)) (.int 0)=some (tD X):= by
      show jh (tD X :: r.map tD) ((0:Nat):Int)=_
      rw [dA _ _ (by simp)]
      rfl
     have g6:xp false (tD X) .non=some (.bl false):=rfl
     generalize tD X=td at *
     simp [g1,g2,g3,g4,g5,g6]
   ·rintro _ ⟨_,rfl⟩
    exact ar.mpr (.mk ..)
  ·rintro δ h
   exact ⟨rfl,h⟩
 ·rintro _ ⟨⟩
  simp
end K22
namespace K22
open PySem L2 Jt
theorem jQ {us:List Value} (h:us.length=1):∃ a,us=[a]:=by match us,h with | [a],_=>exact ⟨a,rfl⟩
theorem f7 {us:List Value} (h:us.length=2):∃ a b,us=[a,b]:=by match us,h with | [a,b],_=>exact ⟨a,b,rfl⟩
theorem p6 {us:List Value} (h:us.length=3):∃ a b c,us=[a,b,c]:=by match us,h with | [a,b,c],_=>exact ⟨a,b,c,rfl⟩
theorem E6 {us:List Value} (h:us.length=4):∃ a b c d,us=[a,b,c,d]:=by match us,h with | [a,b,c,d],_=>exact ⟨a,b,c,d,rfl⟩
theorem all_mk {l:PySem.W.OpenLaw} {w:World} {K:PySem.W.Frag} {h:Heap} {mg:Str->Option Value} {fa:Addr} (X:K.In h) (G:h.Ns mainGlobals mg) (hfa:mg "law" = some (.ref fa))
  {f_l c_l b_l:Addr} {oc_l:Value} {od_l ob_l:Option Addr} {fd_l:FuncData} {sl_l sm_l sn_l:Array (Option Value)} {vs_l:Array Value} (la:PySem.W.nsIn K mainGlobals cF=some (some (.ref f_l))) (ll:K.lookup f_l=some ⟨oc_l,od_l,.func fd_l,sl_l⟩) (lh:fd_l.code=.ref c_l) (lc:K.lookup c_l=some ⟨.type "code",ob_l,.fields vs_l,sm_l⟩) (lb:PySem.W.nsIn K mainGlobals "__builtins__" = some (some (.ref b_l))) (lm:K.lookup b_l=some ⟨.type "module",some builtinsNs,.plain,sn_l⟩) (lv:codeOk vs_l c_l b_l=true)
  (e_is_whole:Fh K "is_whole" w4)
  (e_is_below:Fh K "is_below" vQ)
  (e_linked:Fh K "linked" x9)
  (e_need_head:Fh K "need_head" wC)
  (e_heads_of:Fh K "heads_of" xw)
  (e_common:Fh K "common" vb)
  (e_pair_weights:Fh K "pair_weights" CP)
  (e_most_more:Fh K "most_more" xE)
  (e_due_weight:Fh K "due_weight" u0)
  (e_first_join_tree:Fh K "first_join_tree" CY)
  (e_trees_from:Fh K "trees_from" wc)
  (e_all_join_trees:Fh K "all_join_trees" Df)
  (e_many_join_trees:Fh K "many_join_trees" CU)
  (e__law_cell:Fh K "_law_cell" vR)
  (e__law_mix:Fh K "_law_mix" xn)
  (e__law_box:Fh K "_law_box" w9)
  (e__law_take:Fh K "_law_take" u6)
  (e__law_head:Fh K "_law_head" xx)
  (e__law_grown:Fh K "_law_grown" Dz)
  (e__law_barred:Fh K "_law_barred" Di)
  (e__law_named:Fh K "_law_named" xg)
  (e__law_layout:Fh K "_law_layout" BU)
  (e__law_whole:Fh K "_law_whole" DK)
  (e__law_hang:Fh K "_law_hang" xf)
  (e__law_joins:Fh K "_law_joins" DR)
  (e__law_trees:Fh K "_law_trees" Dy)
  (e_law:Fh K "law" pL)
  (z:PySem.W.nsIn K mainGlobals "bool" = some none∧PySem.W.nsIn K mainGlobals "divmod" = some none∧PySem.W.nsIn K mainGlobals "enumerate" = some none∧PySem.W.nsIn K mainGlobals "int" = some none∧PySem.W.nsIn K mainGlobals "isinstance" = some none∧PySem.W.nsIn K mainGlobals "len" = some none∧PySem.W.nsIn K mainGlobals "list" = some none∧PySem.W.nsIn K mainGlobals "max" = some none∧PySem.W.nsIn K mainGlobals "min" = some none∧PySem.W.nsIn K mainGlobals "range" = some none∧PySem.W.nsIn K mainGlobals "sorted" = some none∧PySem.W.nsIn K mainGlobals "sum" = some none∧PySem.W.nsIn K mainGlobals "tuple" = some none)
 :(∃ c PT,PySem.W.tabIn K cF=some (c,PT))∧∃ fd:FuncData,(∀ (s:Shared) (v:Value),BindsTo s fd ⟨[v],[]⟩ [("_law_script",v)])∧∀ base:Heap,K.In base->base.Ns mainGlobals mg->c9 l.prog w K mg base cV 12 fa fd ["_law_script"] qG:= by
 have m:Bi mg:=⟨PySem.W.mg_none_of X G z.1,PySem.W.mg_none_of X G z.2.1,PySem.W.mg_none_of X G z.2.2.1,PySem.W.mg_none_of X G z.2.2.2.1,PySem.W.mg_none_of X G z.2.2.2.2.1,PySem.W.mg_none_of X G z.2.2.2.2.2.1,PySem.W.mg_none_of X G z.2.2.2.2.2.2.1,PySem.W.mg_none_of X G z.2.2.2.2.2.2.2.1,PySem.W.mg_none_of X G z.2.2.2.2.2.2.2.2.1,PySem.W.mg_none_of X G z.2.2.2.2.2.2.2.2.2.1,PySem.W.mg_none_of X G z.2.2.2.2.2.2.2.2.2.2.1,PySem.W.mg_none_of X G z.2.2.2.2.2.2.2.2.2.2.2.1,PySem.W.mg_none_of X G z.2.2.2.2.2.2.2.2.2.2.2.2⟩
 have E_is_whole:=ent X G e_is_whole (ps:=["thing"]) fun _ _ _ _ _ _ us hl=>by obtain ⟨_,rfl⟩:=jQ hl;rfl
 have E_is_below:=ent X G e_is_below (ps:=["thing","many"]) fun _ _ _ _ _ _ us hl=>by obtain ⟨_,_,rfl⟩:=f7 hl;rfl
 have E_linked:=ent X G e_linked (ps:=["labels","one","other"]) fun _ _ _ _ _ _ us hl=>by obtain ⟨_,_,_,rfl⟩:=p6 hl;rfl
 have E_need_head:=ent X G e_need_head (ps:=["layout","thing"]) fun _ _ _ _ _ _ us hl=>by obtain ⟨_,_,rfl⟩:=f7 hl;rfl
 have E_heads_of:=ent X G e_heads_of (ps:=["layout","column"]) fun _ _ _ _ _ _ us hl=>by obtain ⟨_,_,rfl⟩:=f7 hl;rfl
 have E_common:=ent X G e_common (ps:=["layout","one","other"]) fun _ _ _ _ _ _ us hl=>by obtain ⟨_,_,_,rfl⟩:=p6 hl;rfl
 have E_pair_weights:=ent X G e_pair_weights (ps:=["layout"]) fun _ _ _ _ _ _ us hl=>by obtain ⟨_,rfl⟩:=jQ hl;rfl
 have E_most_more:=ent X G e_most_more (ps:=["weights","labels"]) fun _ _ _ _ _ _ us hl=>by obtain ⟨_,_,rfl⟩:=f7 hl;rfl
 have E_due_weight:=ent X G e_due_weight (ps:=["layout"]) fun _ _ _ _ _ _ us hl=>by obtain ⟨_,rfl⟩:=jQ hl;rfl
 have E_first_join_tree:=ent X G e_first_join_tree (ps:=["layout"]) fun _ _ _ _ _ _ us hl=>by obtain ⟨_,rfl⟩:=jQ hl;rfl
 have E_trees_from:=ent X G e_trees_from (ps:=["taken","missing","labels","pairs"]) fun _ _ _ _ _ _ us hl=>by obtain ⟨_,_,_,_,rfl⟩:=E6 hl;rfl
 have E_all_join_trees:=ent X G e_all_join_trees (ps:=["layout"]) fun _ _ _ _ _ _ us hl=>by obtain ⟨_,rfl⟩:=jQ hl;rfl
 have E_many_join_trees:=ent X G e_many_join_trees (ps:=["layout"]) fun _ _ _ _ _ _ us hl=>by obtain ⟨_,rfl⟩:=jQ hl;rfl
 have E__law_cell:=ent X G e__law_cell (ps:=["_law_script","_law_k"]) fun _ _ _ _ _ _ us hl=>by obtain ⟨_,_,rfl⟩:=f7 hl;rfl
 have E__law_mix:=ent X G e__law_mix (ps:=["_law_cell_here","_law_k"]) fun _ _ _ _ _ _ us hl=>by obtain ⟨_,_,rfl⟩:=f7 hl;rfl
 have E__law_box:=ent X G e__law_box (ps:=["_law_script","_law_k"]) fun _ _ _ _ _ _ us hl=>by obtain ⟨_,_,rfl⟩:=f7 hl;rfl
 have E__law_take:=ent X G e__law_take (ps:=["_law_box_here","_law_many"]) fun _ _ _ _ _ _ us hl=>by obtain ⟨_,_,rfl⟩:=f7 hl;rfl
 have E__law_head:=ent X G e__law_head (ps:=["_law_box_here","_law_many"]) fun _ _ _ _ _ _ us hl=>by obtain ⟨_,_,rfl⟩:=f7 hl;rfl
 have E__law_grown:=ent X G e__law_grown (ps:=["_law_box_here","_law_many","_law_heads"]) fun _ _ _ _ _ _ us hl=>by obtain ⟨_,_,_,rfl⟩:=p6 hl;rfl
 have E__law_barred:=ent X G e__law_barred (ps:=["_law_box_here","_law_many"]) fun _ _ _ _ _ _ us hl=>by obtain ⟨_,_,rfl⟩:=f7 hl;rfl
 have E__law_named:=ent X G e__law_named (ps:=["_law_box_here","_law_many","_law_heads"]) fun _ _ _ _ _ _ us hl=>by obtain ⟨_,_,_,rfl⟩:=p6 hl;rfl
 have E__law_layout:=ent X G e__law_layout (ps:=["_law_box_here","_law_most","_law_heads"]) fun _ _ _ _ _ _ us hl=>by obtain ⟨_,_,_,rfl⟩:=p6 hl;rfl
 have E__law_whole:=ent X G e__law_whole (ps:=["_law_found"]) fun _ _ _ _ _ _ us hl=>by obtain ⟨_,rfl⟩:=jQ hl;rfl
 have E__law_hang:=ent X G e__law_hang (ps:=["_law_pairs","_law_some"]) fun _ _ _ _ _ _ us hl=>by obtain ⟨_,_,rfl⟩:=f7 hl;rfl
 have E__law_joins:=ent X G e__law_joins (ps:=["_law_layout_here","_law_tree"]) fun _ _ _ _ _ _ us hl=>by obtain ⟨_,_,rfl⟩:=f7 hl;rfl
 have E__law_trees:=ent X G e__law_trees (ps:=["_law_many"]) fun _ _ _ _ _ _ us hl=>by obtain ⟨_,rfl⟩:=jQ hl;rfl
 have LK:=zP X G la ll lh lc lb lm lv
 exact ⟨⟨_,_,LK.tab⟩,Ho X G hfa e_law (fun _ _ _ _ _ _ s v=>.of_eq rfl) eS (fun base=>by
  have G_q23:ik l.prog w K mg base 1:=B7 (k:=0) E_is_whole m
  have G_q19:fX l.prog w K mg base 2:=BL (k:=1) E_is_below (G_q23.up (by decide))
  have G_q25:gG l.prog w K mg base 1:=Cy (k:=0) E_linked m
  have G_q17:gh l.prog w K mg base 3:=DX (k:=2) E_need_head m (G_q19.up (by decide))
  have G_q20:il l.prog w K mg base 3:=CQ (k:=2) E_heads_of m (G_q19.up (by decide))
  have G_q24:kh l.prog w K mg base 4:=BJ (k:=3) E_common m (G_q17.up (by decide))
  have G_q3:cZ l.prog w K mg base 5:=FE (k:=4) E_pair_weights m (G_q24.up (by decide))
  have G_q15:eI l.prog w K mg base 2:=DY (k:=1) LK E_most_more m (G_q25.up (by decide))
  have G_q11:dU l.prog w K mg base 4:=Cc (k:=3) E_due_weight m (G_q20.up (by decide))
  have G_q1:c8 l.prog w K mg base 6:=FG (k:=5) E_first_join_tree m (G_q11.up (by decide)) (G_q25.up (by decide)) (G_q15.up (by decide)) (G_q3.up (by decide))
  have G_q10:i6 l.prog w K mg base 9:=wx (k:=1) E_trees_from m (G_q25.up (by decide)) 8
  have G_q2:cz l.prog w K mg base 10:=EI (k:=9) E_all_join_trees m (G_q11.up (by decide)) (G_q15.up (by decide)) (G_q3.up (by decide)) (G_q10.up (by decide))
  have G_q0:df l.prog w K mg base 11:=Fc (k:=10) E_many_join_trees m (G_q2.up (by decide))
  have G_q18:gm l.prog w K mg base 1:=D1 (k:=0) E__law_cell m
  have G_q21:ij l.prog w K mg base 1:=DN (k:=0) E__law_mix
  have G_q22:iu l.prog w K mg base 2:=Ck (k:=1) E__law_box m (G_q18.up (by decide)) (G_q21.up (by decide))
  have G_q14:ck l.prog w K mg base 1:=Cp (k:=0) E__law_take m
  have G_q16:eN l.prog w K mg base 2:=B_ (k:=1) E__law_head m (G_q14.up (by decide))
  have G_q7:fO l.prog w K mg base 3:=EH (k:=2) E__law_grown m (G_q16.up (by decide)) (G_q14.up (by decide))
  have G_q4:eR l.prog w K mg base 2:=Ey (k:=1) E__law_barred m (G_q14.up (by decide))
  have G_q12:fZ l.prog w K mg base 2:=DJ (k:=1) E__law_named m (G_q14.up (by decide))
  have G_q5:eU l.prog w K mg base 4:=E2 (k:=3) E__law_layout m (G_q4.up (by decide)) (G_q7.up (by decide)) (G_q16.up (by decide)) (G_q12.up (by decide)) (G_q14.up (by decide))
  have G_q8:fV l.prog w K mg base 1:=FO (k:=0) E__law_whole m
  have G_q13:eL l.prog w K mg base 1:=C4 (k:=0) E__law_hang m
  have G_q9:fQ l.prog w K mg base 2:=FP (k:=1) E__law_joins m (G_q13.up (by decide))
  have G_q6:fS l.prog w K mg base 1:=Er (k:=0) E__law_trees m
  exact Fg (k:=11) m (G_q22.up (by decide)) (G_q13.up (by decide)) (G_q9.up (by decide)) (G_q5.up (by decide)) (G_q6.up (by decide)) (G_q8.up (by decide)) (G_q2.up (by decide)) (G_q1.up (by decide)) (G_q0.up (by decide))) fun _ _ _ F=>yA F xj⟩
end K22
open PySem PySem.W PyProof.Rows
set_option maxRecDepth 100000
set_option maxHeartbeats 0
namespace TopAll
open PySem PySem.W PySem.Calls PyProof.Rows
def run (st:SharedT→Thread→Option (SharedT×Thread)) (ok:Thread→Bool):Nat→SharedT→Thread→Option SharedT
 |0,_,_=>none
 |n+1,s,t=>match through t with
  |true=>some s
  |false=>match ok t with
   |false=>none
   |true=>match st s t with
    |some (s',t')=>run st ok n s' t'
    |none=>none
theorem run_spec {tb:String→Option Builtin} {p:Program} {w:World} {m:Nat} {an:Option Value}:∀ {n:Nat} {s s':SharedT} {t:Thread},
  run (stepT (denote tb) p w) (stepOk m an) n s t=some s' → topRun tb p w m an n s.abs t=some s'.abs
 |0,_,_,_,h=>by cases h
 |n+1,s,s',t,h=>by
  unfold run at h
  unfold topRun
  cases ht:through t with
  |true=>rw [ht] at h;cases h;rfl
  |false=>
   rw [ht] at h
   cases hk:stepOk m an t with
   |false=>rw [hk] at h;cases h
   |true=>
    rw [hk] at h
    cases hs:stepT (denote tb) p w s t with
    |none=>rw [hs] at h;cases h
    |some r=>obtain ⟨s2,t2⟩:=r;rw [hs] at h;rw [stepT_spec hs];exact run_spec h
noncomputable def boot (w:World) (os:OsState):SharedT:=⟨(boot_heap w.params).objs.toList.zipIdx.foldl (fun t x=>t.ins x.2 x.1) BT.nil,11,(boot_heap w.params).life,Array.mk [],boot_drawn,boot_toks,os⟩
theorem boot_abs (w:World) (os:OsState):(boot w os).abs=⟨boot_heap w.params,Array.mk [],boot_drawn,boot_toks,os⟩:=by kernel_rfl
theorem boot_size (w:World):((boot_heap w.params).isNs mainGlobals && (Array.mk []:Array GenState).size==0,(boot_heap w.params).objs.size,(boot_heap w.params).nsMap mainGlobals "__annotations__")=(true,11,some (.ref 6)):=by kernel_rfl
noncomputable abbrev go (p:Program) (w:World) (N:Nat) (os:OsState):Option SharedT:=run (Fast.tw10156331382660048174 (Fast.tw11892475500146522536 Fast.tw14364793385576792824) p w) (Fast.tw6613529449190102663 11 (some (.ref 6))) N (boot w os) (topStub p)
theorem left {p q:Program} {lo:List Str} {Xt:Shared→Bool} {α:Type} {Yf:Shared→α} {Ya:World→α} {N:Nat} {g0:Bool}
  (e:opening p=plainProg p.main.scope.names) (hN:Nat.ble 600 N=true) (f:∀ s,fenceModules? p s=some s)
  (u1:∀ w:World,(fun os=>(go p w N os).map fun S=>((staticsOk (importedModules p.main.body) (boot_heap w.params) S.abs.heap && namesBound p S.abs.heap && gensDone S.abs && laidKept (boot_heap w.params) S.abs.heap),
   (Fast.tw4187177175401517315 q lo (Fast.tw5923862056798008813 p.main.body) Xt g0 S.abs).1))=fun _=>some (true,(openGood q lo).1))
  (u2:∀ w:World,(fun os=>(go p w N os).map fun S=>(Fast.tw4187177175401517315 q lo (Fast.tw5923862056798008813 p.main.body) Xt g0 S.abs).2)=fun _=>some (openGood q lo).2)
  (u3:∀ w:World,(fun os=>(go p w N os).map fun S=>Yf S.abs)=fun _=>some (Ya w)):LeftO p q lo Xt Yf Ya N g0:=fun w=>by
 obtain ⟨⟨h,gs,d,k,os⟩,e1,e'⟩:=Option.map_eq_some_iff.mp (boot_open e hN f w)
 obtain ⟨rfl,rfl,rfl,rfl⟩:h=boot_heap w.params∧gs=Array.mk []∧d=boot_drawn∧k=boot_toks:=by simpa using e'
 obtain ⟨z1,z2,z3⟩:_∧_∧_:=by simpa only [Prod.mk.injEq] using boot_size w
 obtain ⟨S,r,l1⟩:=Option.map_eq_some_iff.mp (congrFun (u1 w) os)
 have l2:=congrFun (u2 w) os
 have l3:=congrFun (u3 w) os
 simp only [r,Option.map_some,Option.some.injEq] at l2 l3
 obtain ⟨l1,l4⟩:=Prod.mk.inj l1
 rw [←Fast.te4187177175401517315,←Fast.te5923862056798008813] at l2 l4
 unfold go at r
 rw [←Fast.te10156331382660048174,←Fast.te11892475500146522536,←Fast.te14364793385576792824,←Fast.te6613529449190102663] at r
 have r:=run_spec r
 rw [boot_abs] at r
 have t:topFrom treeTable p w N ⟨boot_heap w.params,Array.mk [],boot_drawn,boot_toks,os⟩=some S.abs:=by
  unfold topFrom
  dsimp only
  rw [z1,z2,z3,r]
  show (match staticsOk (importedModules p.main.body) (boot_heap w.params) S.abs.heap && namesBound p S.abs.heap && gensDone S.abs && laidKept (boot_heap w.params) S.abs.heap with |true=>_|false=>_)=_
  rw [l1]
 unfold openEnds
 rw [e1]
 show (topFrom treeTable p w N _).map _=_
 rw [t]
 exact congrArg some (Prod.ext (Prod.ext l4 l2) l3)
end TopAll
abbrev TopAll.q:PySem.Program:=PySem.W.view PySem.Challenge.rw_jointrees_k22_join_trees_told.prog [1,2,3,5,6,7,9,10,11,13,14,15,16,17,18,19,21,22,23,24,25,26,27,28,29,30,31,32,33,34]
open PySem PySem.W PySem.Calls PyProof.Rows
theorem TopAll.law:PySem.Challenge.rw_jointrees_k22_join_trees_told.wellSaid=true:=by
 rw [Fast.te9446332074065402090]
 kernel_rfl
theorem TopAll.u1 (w:World):(fun os=>(TopAll.go PySem.Challenge.rw_jointrees_k22_join_trees_told.row.prog w 8000 os).map fun S=>((staticsOk (importedModules PySem.Challenge.rw_jointrees_k22_join_trees_told.row.prog.main.body) (boot_heap w.params) S.abs.heap && namesBound PySem.Challenge.rw_jointrees_k22_join_trees_told.row.prog S.abs.heap && gensDone S.abs && laidKept (boot_heap w.params) S.abs.heap),
   (Fast.tw4187177175401517315 TopAll.q [] (Fast.tw5923862056798008813 PySem.Challenge.rw_jointrees_k22_join_trees_told.row.prog.main.body) (fun s=>xlAt TopAll.q [] s && recOk [] s) true S.abs).1))=fun _=>some (true,(openGood TopAll.q []).1):=by kernel_rfl
theorem TopAll.u2 (w:World):(fun os=>(TopAll.go PySem.Challenge.rw_jointrees_k22_join_trees_told.row.prog w 8000 os).map fun S=>(Fast.tw4187177175401517315 TopAll.q [] (Fast.tw5923862056798008813 PySem.Challenge.rw_jointrees_k22_join_trees_told.row.prog.main.body) (fun s=>xlAt TopAll.q [] s && recOk [] s) true S.abs).2)=fun _=>some (openGood TopAll.q []).2:=by kernel_rfl
set_option hygiene false in
local macro_rules |`(tactic|o_head $H)=>`(tactic|(refine holds_open (r:=PySem.Challenge.rw_jointrees_k22_join_trees_told.row) (q:=TopAll.q) (loose:=[]) (Xt:=fun s=>xlAt TopAll.q [] s && recOk [] s) (XP:=XL TopAll.q []) (Yf:=Hook.obs $H) (Ya:=Hook.val $H) (YP:=Hook.says $H) (N:=8000) ?hl (Hook.of $H) (Hook.keeps $H) (fun s e=>xl_of s (Bool.and_eq_true_iff.mp e).1) XL.keeps (by rfl) (by rfl) (by rfl) (fun s e=>recFacts_of (Bool.and_eq_true_iff.mp e).2) (by rfl) (by assumption) (by decide +kernel) ⟨rfl,rfl,rfl,rfl,rfl,by decide +kernel⟩ ?hw ?hc;(case hl=>exact TopAll.left (by kernel_rfl) (by decide) (fun s=>by kernel_rfl) TopAll.u1 TopAll.u2 (fun w=>by kernel_rfl))))
set_option maxRecDepth 100000 in
set_option maxHeartbeats 0 in
theorem PySem.Challenge.cw_jointrees_k22_join_trees_told_holds : PySem.Challenge.rw_jointrees_k22_join_trees_told.Holds := by
 w_on;refine holds_law TopAll.law fun said=>?_;k_head;(case hw=>w_witness2)
 k_fill
 refine Jt.walkM (l:=PySem.Challenge.rw_jointrees_k22_join_trees_told) (k:=12) rfl rfl ⟨rfl,by decide,by decide,rfl⟩ (fun w h Y=>PySem.W.km_in_of Y) ?L ?NT ?RT ?F
 case L=>intro w;kernel_rfl
 case NT=>intro w;kernel_rfl
 case RT=>kernel_rfl
 case F=>
  intro w mg fa h K' bm sl U KX G hmg hbm hlk
  refine' K22.all_mk KX G hmg (U.ns ?la) (U.lk ?ll) ?lh (U.lk ?lc) (U.ns ?lb) (Jt.bm_eq KX G hbm hlk (U.ns ?lb)) ?lv (U.fh ?_) (U.fh ?_) (U.fh ?_) (U.fh ?_) (U.fh ?_) (U.fh ?_) (U.fh ?_) (U.fh ?_) (U.fh ?_) (U.fh ?_) (U.fh ?_) (U.fh ?_) (U.fh ?_) (U.fh ?_) (U.fh ?_) (U.fh ?_) (U.fh ?_) (U.fh ?_) (U.fh ?_) (U.fh ?_) (U.fh ?_) (U.fh ?_) (U.fh ?_) (U.fh ?_) (U.fh ?_) (U.fh ?_) (U.fh ?_) ?z
  (case la=>k_is);(case ll=>k_is);(case lh=>exact rfl);(case lc=>k_is);(case lb=>k_is);(case lv=>kernel_rfl)
  case z=>refine ⟨U.ns ?_,U.ns ?_,U.ns ?_,U.ns ?_,U.ns ?_,U.ns ?_,U.ns ?_,U.ns ?_,U.ns ?_,U.ns ?_,U.ns ?_,U.ns ?_,U.ns ?_⟩ <;> k_is
  all_goals (refine' Jt.fh_mk ?a ?l ?c ?k;(case a=>k_is);(case l=>k_is);(case c=>k_is);(case k=>k_is))
