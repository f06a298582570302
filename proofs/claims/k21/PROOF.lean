import PyProof.Rows.All
import Wide.All
import OpenK.AllK
import Wide.FinOn
import Lean
import PyProof.Rows.SetFrom
import PyProof.WalksMore
import PyProof.SetRoads
import PyProof.ListRange
import PyProof.Rows.SortWalk
import PyProof.CollectWalk
import PyProof.ZipIter
import PyProof.EnumStmt
import PyProof.EqAt
import PyProof.EqKinds
import PyProof.TupleCall
import PyProof.CompFree
import PyProof.Cells
import PyProof.ConsumeWalk
import PyProof.TupleOfSeq
import PyProof.NeKinds
import PyProof.IsiPairs
import PyProof.IsiHeapPairs
import PyProof.IsInstanceT
import PyProof.IsiTupleOf
import KE.KSortTup
import KE.KTryMore
import PyProof.ExcBaseAll.ValueError
import KE.RegMulBits
import Wide.ObjOpen
import Wide.RegSB
import PyProof.ExcAttrAll.ValueError
import PyProof.ExcArgsOwn
import PyProof.SumWalk
import PyProof.ReprRoads
import PyProof.Rows.DictMade
import PyProof.Rows.DictMethods
import KE.KRevIter
import PyProof.ListMulRoad
import PyProof.FactsAll.tuple_2
import PyProof.DictRoadsH
import PyProof.DictCompW
import PyProof.DictIter
import PyProof.DictWalks
import PyProof.TupleKey
import PyProof.IsRules
import KE.KDictList
import KE.KSortKey
import KE.KLam
import PySem.Challenge.RW_jointrees_k21_trees_looked_at
noncomputable section
set_option Elab.async false
set_option linter.all false
set_option maxRecDepth 100000
set_option maxHeartbeats 4000000
namespace Jt
open PySem
def Up (xs:Array Nat):Prop:=xs.toList.Pairwise (· < ·)
theorem Up.lt {xs:Array Nat} (u:Up xs) {i k a b:Nat} (h:i < k) (ha:xs[i]? = some a) (hb:xs[k]? = some b):a < b:= by
 rw [<- Array.getElem?_toList] at ha hb
 obtain ⟨hi,e1⟩:=List.getElem?_eq_some_iff.mp ha
 obtain ⟨hk,e2⟩:=List.getElem?_eq_some_iff.mp hb
 rw [<- e1,<- e2]
 exact List.pairwise_iff_getElem.mp u i k hi hk h
theorem wg {xs:Array Nat} {j:Nat} (u:Up xs):∀ (fuel lo hi:Nat),hi ≤ xs.size->lo ≤ hi->hi - lo ≤ fuel ->
  (∀ i v,i < lo->xs[i]? = some v->v < j)->(∀ i v,hi ≤ i->xs[i]? = some v->j ≤ v) ->
  SetTable.below.go xs j fuel lo hi ≤ xs.size∧(∀ i v,i < SetTable.below.go xs j fuel lo hi->xs[i]? = some v->v < j)∧∀ i v,SetTable.below.go xs j fuel lo hi ≤ i->xs[i]? = some v->j ≤ v:= by
 intro fuel
 induction fuel with
 | zero=>
  intro lo hi h1 h2 h3 h4 h5
  unfold SetTable.below.go
  have:lo=hi:=by omega
  subst this
  exact ⟨h1,h4,h5⟩
 | succ fuel ih=>
  intro lo hi h1 h2 h3 h4 h5
  unfold SetTable.below.go
  by_cases hl:lo < hi
  ·rw [if_pos hl]
   have hm:(lo + hi) / 2 < xs.size:=by omega
   have eg:xs.getD ((lo + hi) / 2) j=xs[(lo + hi) / 2]:=by simp [Array.getD,hm]
   have em:xs[(lo + hi) / 2]? = some xs[(lo + hi) / 2]:=by simp [hm]
   dsimp only
   by_cases hc:xs.getD ((lo + hi) / 2) j < j
   ·rw [if_pos hc]
    refine ih _ _ h1 (by omega) (by omega) (fun i v hi' e=>?_) h5
    rcases Nat.lt_or_eq_of_le (Nat.le_of_lt_succ hi') with q | q
    ·have:=u.lt q e em
     omega
    ·subst q;rw [em] at e;cases e;omega
   ·rw [if_neg hc]
    refine ih _ _ (by omega) (by omega) (by omega) h4 fun i v hi' e=>?_
    rcases Nat.lt_or_eq_of_le hi' with q | q
    ·have:=u.lt q em e
     omega
    ·subst q;rw [em] at e;cases e;omega
  ·rw [if_neg hl]
   have:lo=hi:=by omega
   subst this
   exact ⟨h1,h4,h5⟩
theorem gq {xs:Array Nat} (u:Up xs) (j:Nat):SetTable.below xs j ≤ xs.size∧(∀ i v,i < SetTable.below xs j->xs[i]? = some v->v < j)∧∀ i v,SetTable.below xs j ≤ i->xs[i]? = some v->j ≤ v:= by
 unfold SetTable.below
 refine wg u _ _ _ (Nat.le_refl _) (Nat.zero_le _) (by omega) (fun i v h=>absurd h (Nat.not_lt_zero _)) fun i v h e=>?_
 rw [Array.getElem?_eq_none h] at e
 cases e
theorem vF {xs:Array Nat} (u:Up xs) {j:Nat} (h:xs[SetTable.below xs j]? ≠ some j):j ∉ xs.toList:=fun hm=>by
 obtain ⟨i,hi,e⟩:=List.getElem_of_mem hm
 have ei:xs[i]? = some j:=by rw [<- Array.getElem?_toList,List.getElem?_eq_getElem hi,e]
 obtain ⟨_,b1,b2⟩:=gq u j
 rcases Nat.lt_trichotomy i (SetTable.below xs j) with q | q | q
 ·exact absurd (b1 i j q ei) (Nat.lt_irrefl _)
 ·rw [<- q] at h;exact h ei
 ·have hb:SetTable.below xs j < xs.size:=Nat.lt_of_lt_of_le q (by simpa using Nat.le_of_lt hi)
  have e2:xs[SetTable.below xs j]? = some xs[SetTable.below xs j]:=by simp [hb]
  have:=u.lt q e2 ei
  have:=b2 _ _ (Nat.le_refl _) e2
  omega
theorem vS {xs:Array Nat} (u:Up xs) {j:Nat} (h:j ∉ xs.toList):Up (SetTable.insertAt xs (SetTable.below xs j) j):= by
 unfold Up
 rw [SetTable.toList_insertAt]
 obtain ⟨b0,b1,b2⟩:=gq u j
 have u':xs.toList.Pairwise (· < ·):=u
 have hd:∀ y ∈ xs.toList.drop (SetTable.below xs j),j < y:=fun y hy=>by
  obtain ⟨i,hi,e⟩:=List.getElem_of_mem hy
  rw [List.getElem_drop] at e
  have hm:y ∈ xs.toList:=List.mem_of_mem_drop hy
  have:=b2 (SetTable.below xs j + i) y (by omega) (by rw [<- Array.getElem?_toList,List.getElem?_eq_some_iff];exact ⟨by simp at hi;simp;omega,e⟩)
  rcases Nat.lt_or_eq_of_le this with q | q
  ·exact q
  ·subst q;exact absurd hm h
 have ht:∀ y ∈ xs.toList.take (SetTable.below xs j),y < j:=fun y hy=>by
  obtain ⟨i,hi,e⟩:=List.getElem_of_mem hy
  rw [List.getElem_take] at e
  have hi':i < SetTable.below xs j∧i < xs.toList.length:=by rw [List.length_take] at hi;omega
  exact b1 i y hi'.1 (by rw [<- Array.getElem?_toList,List.getElem?_eq_some_iff];exact ⟨hi'.2,e⟩)
 rw [List.pairwise_append]
 refine ⟨u'.sublist (List.take_sublist _ _),?_,fun a ha b hb=>?_⟩
 ·rw [List.pairwise_cons]
  exact ⟨hd,u'.sublist (List.drop_sublist _ _)⟩
 ·rcases List.mem_cons.mp hb with e | hb
  ·rw [e];exact ht a ha
  ·exact Nat.lt_trans (ht a ha) (hd b hb)
def Tb (t:SetTable):Prop:=t.plain=true->Up t.place
theorem AY {mask finger moves:Nat} {led plain:Bool} {hs:Array Int} {t:SetTable} {o:Array Nat} (e:SetTable.laid mask finger moves led plain hs=some (t,o)):Up t.place∧t.led=led:= by
 unfold SetTable.laid at e
 cases q:SetTable.layClean mask hs with
 | none=>rw [q] at e;cases e
 | some owner=>
  rw [q] at e
  injection e with e
  injection e with e1 e2
  subst e1
  refine ⟨?_,rfl⟩
  show (List.map _ _).Pairwise _
  rw [List.pairwise_map]
  rw [List.pairwise_filterMap]
  refine List.Pairwise.imp (fun {a b} hab x hx y hy=>?_) List.pairwise_lt_range
  cases q1:owner.getD a none with
  | none=>rw [q1] at hx;cases hx
  | some _=>
   cases q2:owner.getD b none with
   | none=>rw [q2] at hy;cases hy
   | some _=>rw [q1] at hx;rw [q2] at hy;cases hx;cases hy;exact hab
def eo (p:Int × Tok):Int × Value:=(hashInt p.1,.int p.1 p.2)
def ed (e:Int × Value):Int × Tok:=match e.2 with
 | .int i t=>(i,t)
 | _=>(0,0)
end Jt
namespace Jt
open PySem
section
variable {prog:Program} {w:World} {A:Around} {E:Value->Shared->Prop} {s:Shared} {a:Addr} {l:List (Int × Tok)} {ep:Nat} {t:SetTable}
end
end Jt
namespace Jt
open PySem
section
variable {prog:Program} {w:World} {A:Around} {E:Value->Shared->Prop} {s:Shared} {R:Result->Shared->Prop} {I:Addr} {fp wr:List Addr} {n:Nat} {P:Nat->Value->Prop} {St:Nat->Heap->Prop}
theorem qz (v:Value) {Q:Value->Shared->Prop} (h:Q (.ref s.heap.objs.size) { s with heap:=s.heap.push { cls:=.type "set",dict:=none,data:=.set #[] 0 (.fresh 0 0 (!w.params.followText "set-order")) } }) :
  codeAny (model prog w) A (.call (.builtin "set.__new__") ⟨[.type "set",v],[]⟩) (wants Q E) s:= by
 refine codeAny_of_tree ?_
 show wpAny (model prog w) A.in1 (do checkBuiltinCall "set.__new__" ⟨[.type "set",v],[]⟩;again (.builtin "set.__new__" ⟨[.type "set",v],[]⟩)) _ _ s
 refine wpAny_bind (wpAny_of_eq (F.newCall_set_1 v) (wpAny_pure ⟨plainId_quiet F.plain_set_new _,codeAny_builtin F.entry_set_new ?_⟩))
 rw [Around.under_plainId F.plain_set_new _]
 have hsub:=sub_set_self
 obtain ⟨hp,g,d,tk,os⟩:=s
 unfold Builtin.«set.__new__» Builtin.Frozenset.newClass
 dsimp only
 wp_walk
 refine wpAny_askSetting (wpAny_pure ?_)
 dsimp only
 simp only [newObj]
 exact wpAny_bind (wpAny_alloc (wpAny_pure (wpAny_pure h)))
set_option maxHeartbeats 8000000 in
theorem qk:isSubtype (.type "tuple") (.type "set")=pure false:=by rw [isSubtype_type];kernel_rfl
theorem p8:isSubtype (.type "tuple") (.type "frozenset")=pure false:=by rw [isSubtype_type];kernel_rfl
set_option maxHeartbeats 8000000 in
end
end Jt
namespace Jt
open PySem
theorem xM:Manifest.owners.lookup (String.ofList ['r','o','t','a','r','e','t','i','_','t','e','s'].reverse)=some Manifest.sig_set_iterator:=by kernel_rfl
theorem d7:Slot "set_iterator" "__next__" "set_iterator.__next__":=.of (owner:="set_iterator") (n:="__next__") (by rw [typeLookup_type,builtinLookup_eq_fast];kernel_rfl) (by decide +kernel) (by decide +kernel) (by decide +kernel) (by first | exact .inl (by decide +kernel) | exact .inr (by decide +kernel)) (by rw [isSubtype_type];kernel_rfl)
theorem sI:entryFor table "set_iterator.__next__" = some Builtin.«set_iterator.__next__»:=entryFor_of_tree (by kernel_rfl)
theorem rB (v:Value):argsOk "set_iterator.__next__" ⟨[v],[]⟩:= by
 unfold argsOk
 rw [signature?_of (id:="set_iterator.__next__") (n:=['_','_','t','x','e','n','_','_']) (o:=['r','o','t','a','r','e','t','i','_','t','e','s']) (by kernel_rfl) xM]
 kernel_rfl
theorem k_:Slot "set_iterator" "__iter__" "set_iterator.__iter__":=.of (owner:="set_iterator") (n:="__iter__") (by rw [typeLookup_type,builtinLookup_eq_fast];kernel_rfl) (by decide +kernel) (by decide +kernel) (by decide +kernel) (by first | exact .inl (by decide +kernel) | exact .inr (by decide +kernel)) (by rw [isSubtype_type];kernel_rfl)
theorem rN:entryFor table "set_iterator.__iter__" = some Builtin.«dict_keyiterator.__iter__»:=entryFor_alias (id':="dict_keyiterator.__iter__") (by kernel_rfl) (by first | rfl | decide +kernel | (unfold String.splitOn;simp +decide [String.splitOnAux])) (by decide +kernel) (by kernel_rfl)
theorem sG (v:Value):argsOk "set_iterator.__iter__" ⟨[v],[]⟩:= by
 unfold argsOk
 rw [signature?_of (id:="set_iterator.__iter__") (n:=['_','_','r','e','t','i','_','_']) (o:=['r','o','t','a','r','e','t','i','_','t','e','s']) (by kernel_rfl) xM]
 kernel_rfl
theorem qw:entryFor table "set.__iter__" = some Builtin.«frozenset.__iter__»:=entryFor_alias (id':="frozenset.__iter__") (by kernel_rfl) (by first | rfl | decide +kernel | (unfold String.splitOn;simp +decide [String.splitOnAux])) (by decide +kernel) (by kernel_rfl)
abbrev qU (h:Heap) (I S:Addr) (f0:Value) (i n ep:Nat):Prop:=h.get? I=some { cls:=.type "set_iterator",dict:=none,data:=.fields #[f0,.int i 0,.ref S,.int n 0,.int ep 0],slots:=#[] }
section
variable {prog:Program} {w:World} {A:Around} {E:Value->Shared->Prop} {s:Shared} {I S:Addr} {l:List (Int × Tok)} {ep:Nat} {t:SetTable} {i:Nat} {f0:Value}
theorem kI {α:Type} {Q:α->Shared->Prop} (hh:A.handled=none) (hE:∀ h' e,(∀ b o,s.heap.get? b=some o->h'.get? b=some o)->(∃ o,h'.get? e=some o∧o.cls=.type "StopIteration")->E (.ref e) { s with heap:=h' }) :
  wpAny (model prog w) A (newExc (.type "StopIteration") [] >>= fun x=>(raiseNew x:Sem α)) Q E s:= by
 refine wpAny_bind ?_
 simp only [newExc,newTuple]
 refine wpAny_bind (wpAny_newObj_type ?_ (by size_fits))
 refine wpAny_bind (m:=firstArgMember _ _) (wpAny_of_eq (a:=Value.none) (by first | rfl | (simp only [firstArgMember];rfl)) ?_)
 refine wpAny_newObj_type ?_ (by size_fits)
 simp only [raiseNew]
 refine wpAny_bind (wpAny_handled ?_)
 rw [hh]
 refine wpAny_bind (wpAny_pure (wpAny_throw ?_))
 exact hE _ _ (fun b o e=>Heap.get?_push_of_some _ (Heap.get?_push_of_some _ e)) ⟨_,Heap.get?_push_size _ rfl,rfl⟩
end
end Jt
namespace Jt
open PySem
section
variable {prog:Program} {w:World} {A:Around} {E:Value->Shared->Prop} {s:Shared} {I S:Addr} {l:List (Int × Tok)} {ep:Nat} {t:SetTable} {i:Nat} {f0:Value}
theorem iq {α:Type}:∀ {l:List α} {i:Nat} (h:i < l.length),(l[i] :: l.eraseIdx i).Perm l
 | [],_,h=>absurd h (Nat.not_lt_zero _)
 | x :: l,0,_=>List.Perm.refl _
 | x :: l,i + 1,h=>by
  rw [List.getElem_cons_succ,List.eraseIdx_cons_succ]
  exact (List.Perm.swap _ _ _).trans ((iq (l:=l) (i:=i) (by simpa using h)).cons x)
theorem Cc {α:Type} (next:Nat->Nat):∀ (fuel k:Nat) (left:List α) (out:Array α),fuel=left.length->(pickOrder.go next fuel k left out).toList.Perm (out.toList ++ left):= by
 intro fuel
 induction fuel with
 | zero=>
  intro k left out h
  have:left=[]:=List.eq_nil_of_length_eq_zero h.symm
  subst this
  unfold pickOrder.go
  simp
 | succ fuel ih=>
  intro k left out h
  unfold pickOrder.go
  have hl:next k % left.length < left.length:=Nat.mod_lt _ (by omega)
  rw [List.getElem?_eq_getElem hl]
  dsimp only
  refine (ih _ _ _ (by rw [List.length_eraseIdx];split <;> omega)).trans ?_
  rw [Array.toList_push,List.append_assoc]
  refine List.Perm.append_left _ ?_
  exact (iq hl)
theorem u6 {α:Type} (next:Nat->Nat) (xs:Array α):(pickOrder next xs).toList.Perm xs.toList:= by
 unfold pickOrder
 have:=Cc next xs.size 0 xs.toList #[] (by simp)
 simpa using this
theorem rj {M:Model} {Q:List Nat->Shared->Prop}:∀ (n:Nat) (xs:List Nat) (s:Shared),n=xs.length->(∀ ys d,ys.Perm xs->Q ys { s with drawn:=d })->wpAny M A (drawOrder n xs) Q E s:= by
 intro n
 induction n generalizing Q with
 | zero=>
  intro xs s h hQ
  have:xs=[]:=List.eq_nil_of_length_eq_zero h.symm
  subst this
  exact wpAny_pure (hQ [] s.drawn (List.Perm.refl _))
 | succ n ih=>
  intro xs s h hQ
  cases xs with
  | nil=>cases h
  | cons x xs=>
   unfold drawOrder
   refine wpAny_bind (fun Γ p hΓ=>?_)
   rw [show choose Source.order (x :: xs).length=Sem.choose Source.order (x :: xs).length Sem.pure from rfl,Sem.wp_choose]
   refine ⟨by simp,?_⟩
   rw [Sem.wp_pure]
   have hl:M.w.draws Source.order (s.drawn.get Source.order) % (x :: xs).length < (x :: xs).length:=Nat.mod_lt _ (by simp)
   dsimp only
   rw [List.getElem?_eq_getElem hl]
   dsimp only
   refine wpAny_bind (ih _ _ (by rw [List.length_eraseIdx];split <;> (simp at h ⊢;omega)) fun ys d py=>wpAny_pure ?_)
   exact hQ _ d ((py.cons _).trans (iq hl))
end
end Jt
namespace Jt
open PySem
section
variable {prog:Program} {w:World} {A:Around} {E:Value->Shared->Prop} {s:Shared} {I S:Addr} {l:List (Int × Tok)} {ep:Nat} {t:SetTable} {i:Nat} {f0:Value}
theorem jQ {Q:Bool->Shared->Prop} (h:Q (w.params.followText "set-order") s):wpAny (model prog w) A setsByText Q E s:= by
 unfold setsByText
 exact wpAny_bind (wpAny_askSetting (wpAny_pure h))
theorem rK {xs:Array Nat} (u:Up xs) {i j:Nat} (h:xs[i]? = some j):SetTable.below xs (j + 1)=i + 1:= by
 obtain ⟨b0,b1,b2⟩:=gq u (j + 1)
 have h1:i < SetTable.below xs (j + 1):= by
  rcases Nat.lt_or_ge i (SetTable.below xs (j + 1)) with q | q
  ·exact q
  ·have:=b2 i j q h;omega
 rcases Nat.lt_or_ge (i + 1) (SetTable.below xs (j + 1)) with q | q
 ·have hs:i + 1 < xs.size:=by omega
  have e2:xs[i + 1]? = some xs[i + 1]:=by simp [hs]
  have a1:=b1 (i + 1) _ q e2
  have a2:=u.lt (Nat.lt_succ_self i) h e2
  omega
 ·omega
theorem rY {xs:Array Nat} (u:Up xs):SetTable.below xs 0=0:= by
 obtain ⟨b0,b1,b2⟩:=gq u 0
 rcases Nat.eq_zero_or_pos (SetTable.below xs 0) with q | q
 ·exact q
 ·have e2:xs[0]? = some xs[0]:=by simp
  have:=b1 0 _ q e2
  omega
end
end Jt
namespace Jt
open PySem
section
variable {prog:Program} {w:World} {A:Around} {E:Value->Shared->Prop} {s:Shared} {I S:Addr} {l:List (Int × Tok)} {ep:Nat} {t:SetTable}
theorem pE {v:Value} {ns:List Int} {Q:Value->Shared->Prop}
  (hc:∀ (A':Around) (Q':List Value->Shared->Prop) (E':Value->Shared->Prop),(A'.handled=A.handled)->(∀ (vs:List Value) (ms:List Int) (h':Heap) (tk:Nat) (d:Drawn),PyProof.Rows.IntsAre vs ms->ms.Perm ns->(∀ b o,s.heap.get? b=some o->h'.get? b=some o)->Q' vs { s with heap:=h',toks:=tk,drawn:=d }) ->
   wpAny (model prog w) A' (collect v) Q' E' s) (h64:ns.length < 64)
  (h:∀ (h1 h':Heap) (tk:Nat) (d:Drawn) (out:List Value) (ms:List Int) (e:Nat),(∀ b o,s.heap.get? b=some o->h1.get? b=some o)->(∀ b o,h1.get? b=some o->h'.get? b=some o)->h'.get? h1.objs.size=some { cls:=.type "list",data:=.seq out.toArray e } ->
   PyProof.Rows.IntsAre out ms->ms.Perm ns->ms.Pairwise (· ≤ ·)->Q (.ref h1.objs.size) { s with heap:=h',toks:=tk,drawn:=d }) :
  wpAny (model prog w) A (call (.builtin "sorted") [v]) Q E s:= by
 refine Calls.call_function_entry PyProof.Rows.kind_sorted PyProof.Rows.plain_sorted PyProof.Rows.entry_sorted (PyProof.Rows.args_sorted1 _) ?_
 unfold Builtin.«sorted»
 refine wpAny_bind (m:=checkCount "sorted" 1 1 _) (wpAny_pure ?_)
 refine wpAny_bind (hc _ _ _ (by simp) fun vs ms h1 tk d hi pm kp=>?_)
 have hl:vs.length=ns.length:=by rw [hi.length,pm.length_eq]
 refine wpAny_bind (wpAny_newList ?_ (by rw [hl,sizeLine_eq];omega))
 have g1:(h1.push (PyProof.Rows.seqObj "list" vs.toArray 0)).get? h1.objs.size=some (PyProof.Rows.seqObj "list" vs.toArray 0):=Heap.get?_push_size _ rfl
 refine wpAny_bind (wpAny_holding (wpAny_call_entry PyProof.Rows.slot_list_sort ⟨_,g1,rfl⟩ PyProof.Rows.entry_list_sort (PyProof.Rows.list_sort_tree (s:={ s with heap:=h1.push (PyProof.Rows.seqObj "list" vs.toArray 0),toks:=tk,drawn:=d }) g1 hi (by omega) fun out ms' a1 a2 a3=>⟨_,rfl,?_⟩) (PyProof.Rows.args_list_sort _)))
 obtain ⟨e,he⟩:=PyProof.Rows.sortedHeap_at (out:=out) g1
 refine wpAny_pure ⟨_,rfl,h h1 _ tk d out.toList ms' e kp (fun b o eb=>?_) (by simpa [PyProof.Rows.seqObj] using he) a1 (a2.trans pm) a3⟩
 have hb:=Heap.lt_size eb
 show (PyProof.Rows.sortedHeap (h1.push (PyProof.Rows.seqObj "list" vs.toArray 0)) h1.objs.size vs out).get? b=some o
 rw [PyProof.Rows.sortedHeap_old (Nat.ne_of_lt hb) (by rw [Heap.size_push];exact Nat.lt_succ_of_lt hb)]
 exact Heap.get?_push_of_some _ eb
end
end Jt
namespace Jt
open PySem
def kM (b:Bool) (h:Heap) (q:Addr) (xs:Array Value):Prop:=match b with
 | true=>h.IsTuple q xs
 | false=>h.IsList q xs
def lz (b:Bool) (h:Heap) (it q:Addr) (k:Nat):Prop:=match b with
 | true=>h.IsTupleIter it q k
 | false=>h.IsListIter it q k
def d5 (b:Bool) (q:Addr):Obj:={ cls:=.type (if b then "tuple_iterator" else "list_iterator"),data:=.fields #[.ref q,.int 0 0] }
section
variable {prog:Program} {w:World} {A:Around} {E:Value->Shared->Prop} {s:Shared} {b:Bool} {it q:Addr} {k:Nat} {xs:Array Value}
theorem kM.at {h h':Heap} (x:kM b h q xs) (e:∀ o,h.get? q=some o->h'.get? q=some o):kM b h' q xs:= by
 cases b with
 | true=>obtain ⟨o,ho,r⟩:=x;exact ⟨o,e o ho,r⟩
 | false=>obtain ⟨o,ho,r⟩:=x;exact ⟨o,e o ho,r⟩
theorem lz.at {h h':Heap} (x:lz b h it q k) (e:∀ o,h.get? it=some o->h'.get? it=some o):lz b h' it q k:= by
 cases b with
 | true=>obtain ⟨o,ho,r⟩:=x;exact ⟨o,e o ho,r⟩
 | false=>obtain ⟨o,ho,r⟩:=x;exact ⟨o,e o ho,r⟩
theorem lz.lt {h:Heap} (x:lz b h it q k):it < h.objs.size:= by
 cases b with
 | true=>obtain ⟨o,ho,r⟩:=x;exact Heap.lt_size ho
 | false=>obtain ⟨o,ho,r⟩:=x;exact Heap.lt_size ho
theorem kM.lt {h:Heap} (x:kM b h q xs):q < h.objs.size:= by
 cases b with
 | true=>obtain ⟨o,ho,r⟩:=x;exact Heap.lt_size ho
 | false=>obtain ⟨o,ho,r⟩:=x;exact Heap.lt_size ho
theorem i9 {Q:Value->Shared->Prop} (x:kM b s.heap q xs) (h:Q (.ref s.heap.objs.size) { s with heap:=s.heap.push (d5 b q) }):wpAny (model prog w) A (pyIter (.ref q)) Q E s:= by
 cases b with
 | true=>exact wpAny_pyIter_tuple x h
 | false=>exact wpAny_pyIter_list x h
theorem lz.new {h:Heap}:lz b (h.push (d5 b q)) h.objs.size q 0:= by
 cases b with
 | true=>exact ⟨_,Heap.get?_push_size _ rfl,rfl,rfl⟩
 | false=>exact ⟨_,Heap.get?_push_size _ rfl,rfl,rfl⟩
theorem j5 {x:Value} {Q:Value->Shared->Prop} (hi:lz b s.heap it q k) (hq:kM b s.heap q xs) (hx:xs[k]? = some x) (h:∀ h',lz b h' it q (k + 1)->Heap.SameBut it s.heap h' -> Q x { s with heap:=h' }) :
  wpAny (model prog w) A (Builtin.SmallTypes.nextOf (.ref it)) Q E s:= by
 cases b with
 | false=>exact wpAny_nextOf_list_item hi hq hx h
 | true=>
  obtain ⟨o,ho,hc,hd⟩:=id hi
  obtain ⟨oq,hoq,_,n,hdq⟩:=hq
  have hT:s.TypeIs (.ref it) "tuple_iterator":=⟨o,ho,hc⟩
  unfold Builtin.SmallTypes.nextOf
  refine wpAny_bind (wpAny_callSpecial?_slot (name:=Str.ofString "__next__") hT F.slot_tuple_iterator_next (wpAny_call_entry F.slot_tuple_iterator_next hT F.entry_tuple_iterator_next (?_:wpAny _ _ (field (.ref it) 0 >>= _) _ _ s) (F.args_tuple_iterator_next_1 _)))
  refine wpAny_bind (wpAny_field ho hd (x:=.ref q) rfl (?_:wpAny _ _ (if (Value.ref q == Value.none)=true then _ else _) _ _ s))
  rw [if_neg (show ¬ ((Value.ref q == Value.none)=true) from Bool.false_ne_true)]
  refine (?_:wpAny _ _ (field (.ref it) 1 >>= _) _ _ s)
  refine wpAny_bind (wpAny_field ho hd (x:=.int k 0) rfl (?_:wpAny _ _ (seqItems? (.ref q) >>= _) _ _ s))
  refine wpAny_bind (wpAny_seqItems hoq hdq ?_)
  simp only [Int.toNat_natCast,hx]
  refine wpAny_bind (wpAny_setField ho hd (by simp) (wpAny_pure ⟨x,rfl,wpAny_pure (h _ ⟨_,Heap.get?_update_self _ ho (Obj.isFreed_of_fields (Obj.data_mapFields hd _)),(Obj.cls_mapFields ..).trans hc,?_⟩ (Heap.SameBut.update ..))⟩))
  rw [Obj.data_mapFields hd];simp [rawInt]
theorem rD {Q:Value->Shared->Prop} (hh:A.handled=none) (hi:lz b s.heap it q k) (hq:kM b s.heap q xs) (hx:xs[k]? = none)
  (h:∀ h' e,(∀ c o,c ≠ it->s.heap.get? c=some o->h'.get? c=some o)->(∃ o,h'.get? e=some o∧o.cls=.type "StopIteration")->E (.ref e) { s with heap:=h' }) :
  wpAny (model prog w) A (Builtin.SmallTypes.nextOf (.ref it)) Q E s:= by
 cases b with
 | false=>exact wpAny_nextOf_list_end hh hi hq hx h
 | true=>
  obtain ⟨o,ho,hc,hd⟩:=id hi
  obtain ⟨oq,hoq,_,n,hdq⟩:=hq
  have hT:s.TypeIs (.ref it) "tuple_iterator":=⟨o,ho,hc⟩
  unfold Builtin.SmallTypes.nextOf
  refine wpAny_bind (wpAny_callSpecial?_slot (name:=Str.ofString "__next__") hT F.slot_tuple_iterator_next (wpAny_call_entry F.slot_tuple_iterator_next hT F.entry_tuple_iterator_next (?_:wpAny _ _ (field (.ref it) 0 >>= _) _ _ s) (F.args_tuple_iterator_next_1 _)))
  refine wpAny_bind (wpAny_field ho hd (x:=.ref q) rfl (?_:wpAny _ _ (if (Value.ref q == Value.none)=true then _ else _) _ _ s))
  rw [if_neg (show ¬ ((Value.ref q == Value.none)=true) from Bool.false_ne_true)]
  refine (?_:wpAny _ _ (field (.ref it) 1 >>= _) _ _ s)
  refine wpAny_bind (wpAny_field ho hd (x:=.int k 0) rfl (?_:wpAny _ _ (seqItems? (.ref q) >>= _) _ _ s))
  refine wpAny_bind (wpAny_seqItems hoq hdq ?_)
  simp only [Int.toNat_natCast,hx]
  refine wpAny_bind (wpAny_rule (wpAny_bind (wpAny_setField ho hd (by simp) (?_:wpAny _ _ (newExc (.type "StopIteration") [] >>= _) _ _ _))))
  refine kI (s:={ s with heap:=s.heap.update it _ }) (by simpa using hh) fun h' e kp he=>h h' e (fun c o hc e'=>kp c o ?_) he
  exact (Heap.get?_update_other _ _ (Ne.symm hc)).trans e'
structure FG (z TI TO i1 i2 l1 l2:Addr):Prop where
 ni:[z,TI,TO,i1,i2].Nodup
 n1:l1 ∉ [z,TO,i1,i2]
 n2:l2 ∉ [z,TO,i1,i2]
abbrev HU (b1 b2:Bool) (z TI TO i1 i2 l1 l2:Addr) (xs ys:Array Value) (k:Nat) (f:Value) (h:Heap):Prop :=
 IsZip h z TI TO f∧IsPair h TI (.ref i1) (.ref i2)∧(∃ a c,IsPair h TO a c)∧lz b1 h i1 l1 k∧lz b2 h i2 l2 k∧kM b1 h l1 xs∧kM b2 h l2 ys
variable {b1 b2:Bool} {z TI TO i1 i2 l1 l2:Addr} {ys:Array Value}
theorem FG.ne (D:FG z TI TO i1 i2 l1 l2):TI ≠ z∧TO ≠ z∧i1 ≠ z∧i2 ≠ z∧TI ≠ TO∧TI ≠ i1∧TI ≠ i2∧TO ≠ i1∧TO ≠ i2∧i1 ≠ i2∧l1 ≠ z∧l1 ≠ TO∧l1 ≠ i1∧l1 ≠ i2∧l2 ≠ z∧l2 ≠ TO∧l2 ≠ i1∧l2 ≠ i2:= by
 obtain ⟨h,h1,h2⟩:=D
 simp only [List.nodup_cons,List.mem_cons,List.not_mem_nil,or_false,not_or,List.nodup_nil,and_true,not_false_eq_true] at h h1 h2
 obtain ⟨⟨a1,a2,a3,a4⟩,⟨b1,b2,b3⟩,⟨c1,c2⟩,d1⟩:=h
 exact ⟨Ne.symm a1,Ne.symm a2,Ne.symm a3,Ne.symm a4,b1,b2,b3,c1,c2,d1,h1.1,h1.2.1,h1.2.2.1,h1.2.2.2,h2.1,h2.2.1,h2.2.2.1,h2.2.2.2⟩
theorem kH {T:Addr} {a c v:Value} {j:Nat} {Q:Unit->Shared->Prop} (hT:IsPair s.heap T a c) (h:∀ h',h'.get? T=some { cls:=.type "tuple",data:=.seq ((#[a,c]:Array Value).setIfInBounds j v) }->Heap.SameBut T s.heap h' -> Q () { s with heap:=h' }) :
  wpAny (model prog w) A (updateSeq T (·.setIfInBounds j v)) Q E s:=wpAny_updateSeq_pair hT h
theorem xC {v1 v2:Value} {Q:Option Value->Shared->Prop} (D:FG z TI TO i1 i2 l1 l2) (st:HU b1 b2 z TI TO i1 i2 l1 l2 xs ys k .none s.heap) (hx:xs[k]? = some v1) (hy:ys[k]? = some v2)
  (hQ:∀ h',HU b1 b2 z TI TO i1 i2 l1 l2 xs ys (k + 1) (rawInt s.heap.objs.size) h' -> IsPair h' s.heap.objs.size v1 v2->(∀ c o,c ∉ [z,TO,i1,i2]->s.heap.get? c=some o->h'.get? c=some o)->Q (some (.ref s.heap.objs.size)) { s with heap:=h' }) :
  wpAny (model prog w) A (pyNext (.ref z)) Q E s:= by
 obtain ⟨n1,n2,n3,n4,n5,n6,n7,n8,n9,n10,m1,m2,m3,m4,m5,m6,m7,m8⟩:=D.ne
 obtain ⟨hz,hTI,⟨a,c,hTO⟩,q1,q2,p1,p2⟩:=st
 have hT:s.TypeIs (.ref z) "zip":=⟨_,hz,rfl⟩
 unfold pyNext
 refine wpAny_bind (wpAny_attempt (wpAny_callSpecial?_slot (name:=Str.ofString "__next__") hT F.slot_zip_next (wpAny_call_entry F.slot_zip_next hT F.entry_zip_next (?_:wpAny _ _ (field (.ref z) 2 >>= _) _ _ _) (F.args_zip_next_1 _))))
 refine wpAny_bind (wpAny_field hz rfl (x:=.bool false) rfl (?_:wpAny _ _ (field (.ref z) 3 >>= _) _ _ _))
 refine wpAny_bind (wpAny_field hz rfl (x:=.ref TI) rfl (wpAny_bind (wpAny_seqItems hTI rfl (?_:wpAny _ _ (Builtin.SmallTypes.ownedTupleIsFree (.ref z) >>= _) _ _ _))))
 refine wpAny_bind ?_
 unfold Builtin.SmallTypes.ownedTupleIsFree
 refine wpAny_bind (wpAny_field hz rfl (x:=.none) rfl (wpAny_pure ?_))
 simp only [if_true]
 refine wpAny_bind (wpAny_rule (wpAny_bind (wpAny_field hz rfl (x:=.ref TO) rfl ?_)))
 refine wpAny_bind (wpAny_setField_rec hz (by simp) fun h1 z1 s1=>?_)
 replace z1:IsZip h1 z TI TO .ellipsis:=z1
 refine wpAny_bind ?_
 simp only [List.zipIdx_cons,List.zipIdx_nil,List.forIn_cons,List.forIn_nil]
 refine wpAny_bind (wpAny_bind (wpAny_onRaise (?_:wpAny _ _ (Builtin.SmallTypes.nextOf (.ref i1) >>= _) _ _ _)))
 refine wpAny_bind (j5 (s:={ s with heap:=h1 }) (q1.at fun o e=>s1.extBut _ _ n3 e) (p1.at fun o e=>s1.extBut _ _ m1 e) hx fun h2 q1' s2=>wpAny_pure ?_)
 have t2:IsPair h2 TO a c:=s2.extBut _ _ n8 (s1.extBut _ _ n2 hTO)
 refine wpAny_bind (wpAny_seqItems (s:={ s with heap:=h2 }) t2 rfl (wpAny_bind (kH (s:={ s with heap:=h2 }) t2 fun h3 t3 s3=>?_)))
 replace t3:IsPair h3 TO v1 c:=t3
 refine wpAny_bind (wpAny_letGo (wpAny_pure ?_))
 refine wpAny_bind (wpAny_bind (wpAny_onRaise (?_:wpAny _ _ (Builtin.SmallTypes.nextOf (.ref i2) >>= _) _ _ _)))
 refine wpAny_bind (j5 (s:={ s with heap:=h3 }) (q2.at fun o e=>s3.extBut _ _ n9.symm (s2.extBut _ _ n10.symm (s1.extBut _ _ n4 e))) (p2.at fun o e=>s3.extBut _ _ m6 (s2.extBut _ _ m7 (s1.extBut _ _ m5 e))) hy fun h4 q2' s4=>wpAny_pure ?_)
 have t4:IsPair h4 TO v1 c:=s4.extBut _ _ n9 t3
 refine wpAny_bind (wpAny_seqItems (s:={ s with heap:=h4 }) t4 rfl (wpAny_bind (kH (s:={ s with heap:=h4 }) t4 fun h5 t5 s5=>?_)))
 replace t5:IsPair h5 TO v1 v2:=t5
 refine wpAny_bind (wpAny_letGo (wpAny_pure (wpAny_pure ?_)))
 refine wpAny_bind (wpAny_seqItems (s:={ s with heap:=h5 }) t5 rfl (wpAny_bind (wpAny_newTuple ?_)))
 have hsz:h5.objs.size=s.heap.objs.size:=by rw [s5.1,s4.1,s3.1,s2.1,s1.1]
 have up5:∀ c o,c ∉ [z,TO,i1,i2]->s.heap.get? c=some o->h5.get? c=some o:=fun c o hc e=>by
  simp only [List.mem_cons,List.not_mem_nil,or_false,not_or] at hc
  obtain ⟨c1,c2,c3,c4⟩:=hc
  exact s5.extBut _ _ c2 (s4.extBut _ _ c4 (s3.extBut _ _ c2 (s2.extBut _ _ c3 (s1.extBut _ _ c1 e))))
 have z5:IsZip h5 z TI TO .ellipsis:=s5.extBut _ _ n2.symm (s4.extBut _ _ n4.symm (s3.extBut _ _ n2.symm (s2.extBut _ _ n3.symm z1)))
 refine (?_:wpAny _ _ (Builtin.SmallTypes.ownedTupleHandOut (.ref z) (.ref h5.objs.size) >>= _) _ _ _)
 refine wpAny_bind ?_
 unfold Builtin.SmallTypes.ownedTupleHandOut
 have z6:IsZip (h5.push { cls:=.type "tuple",data:=.seq #[v1,v2] }) z TI TO .ellipsis:=Heap.get?_push_of_some _ z5
 refine wpAny_bind (wpAny_setField_rec (s:={ s with heap:=h5.push { cls:=.type "tuple",data:=.seq #[v1,v2] } }) z6 (by simp) fun h7 z7 s7=>?_)
 replace z7:IsZip h7 z TI TO (rawInt h5.objs.size):=z7
 refine wpAny_setField_rec (s:={ s with heap:=h7 }) z7 (by simp) fun h8 z8 s8=>?_
 replace z8:IsZip h8 z TI TO (rawInt h5.objs.size):=z8
 have up:∀ c o,c ≠ z->h5.get? c=some o->h8.get? c=some o:=fun c o c1 e=>s8.extBut _ _ c1 (s7.extBut _ _ c1 (Heap.get?_push_of_some _ e))
 have zl:z ≠ h5.objs.size:=Nat.ne_of_lt (Heap.lt_size z5)
 have new8:IsPair h8 h5.objs.size v1 v2:=s8.extBut _ _ zl.symm (s7.extBut _ _ zl.symm (Heap.get?_push_size _ rfl))
 rw [hsz] at z8 new8
 refine wpAny_pure ⟨_,rfl,(?_:wpAny _ _ (pure (some (Value.ref h5.objs.size))) _ _ _)⟩
 rw [hsz]
 refine wpAny_pure (hQ h8 ⟨z8,up _ _ n1 (up5 TI _ (by simp [n1,n5,n6,n7]) hTI),⟨_,_,up _ _ n2 t5⟩,q1'.at fun o e=>up _ _ n3 (s5.extBut _ _ n8.symm (s4.extBut _ _ n10 (s3.extBut _ _ n8.symm e))),q2'.at fun o e=>up _ _ n4 (s5.extBut _ _ n9.symm e),
  p1.at fun o e=>up _ _ m1 (up5 l1 _ D.n1 e),p2.at fun o e=>up _ _ m5 (up5 l2 _ D.n2 e)⟩ new8 fun c o hc e=>up c o (fun z'=>hc (by rw [z'];simp)) (up5 c o hc e))
theorem Bt {Q:Option Value->Shared->Prop} (hh:A.handled=none) (D:FG z TI TO i1 i2 l1 l2) (st:HU b1 b2 z TI TO i1 i2 l1 l2 xs ys k .none s.heap) (hx:xs[k]? = none ∨ ys[k]? = none)
  (hQ:∀ h',(∀ c o,c ∉ [z,TO,i1,i2]->s.heap.get? c=some o->h'.get? c=some o)->Q none { s with heap:=h' }):wpAny (model prog w) A (pyNext (.ref z)) Q E s:= by
 obtain ⟨n1,n2,n3,n4,n5,n6,n7,n8,n9,n10,m1,m2,m3,m4,m5,m6,m7,m8⟩:=D.ne
 obtain ⟨hz,hTI,⟨a,c,hTO⟩,q1,q2,p1,p2⟩:=st
 have hT:s.TypeIs (.ref z) "zip":=⟨_,hz,rfl⟩
 have fin:∀ (h:Heap) (e:Addr),IsZip h z TI TO .ellipsis->(∀ c o,c ∉ [z,TO,i1,i2]->s.heap.get? c=some o->h.get? c=some o)->(∃ o,h.get? e=some o∧o.cls=.type "StopIteration") ->
   wpAny (model prog w) A.in1 (setField (.ref z) 0 .none) (fun _ s'=>wpAny (model prog w) A (do if <- isInstance (Value.ref e) (.type "StopIteration") then pure (none:Option Value) else throw (Value.ref e)) Q E s') (fun _ _=>False) { s with heap:=h }:=fun h e hz kp he=>by
  obtain ⟨o,ho,hc⟩:=he
  refine wpAny_setField_rec (s:={ s with heap:=h }) hz (by simp) fun h' _ sb=>?_
  have hez:e ≠ z:=fun x=>by subst x;rw [hz] at ho;cases ho;simp at hc
  refine wpAny_bind (wpAny_isInstance (T:="StopIteration") (b:=true) ⟨o,sb.extBut _ _ hez ho,hc⟩ isSubtype_stop (wpAny_pure (hQ h' fun c o hc e=>sb.extBut _ _ (fun z'=>hc (by rw [z'];simp)) (kp c o hc e))))
 unfold pyNext
 refine wpAny_bind (wpAny_attempt (wpAny_callSpecial?_slot (name:=Str.ofString "__next__") hT F.slot_zip_next (wpAny_call_entry F.slot_zip_next hT F.entry_zip_next (?_:wpAny _ _ (field (.ref z) 2 >>= _) _ _ _) (F.args_zip_next_1 _))))
 refine wpAny_bind (wpAny_field hz rfl (x:=.bool false) rfl (?_:wpAny _ _ (field (.ref z) 3 >>= _) _ _ _))
 refine wpAny_bind (wpAny_field hz rfl (x:=.ref TI) rfl (wpAny_bind (wpAny_seqItems hTI rfl (?_:wpAny _ _ (Builtin.SmallTypes.ownedTupleIsFree (.ref z) >>= _) _ _ _))))
 refine wpAny_bind ?_
 unfold Builtin.SmallTypes.ownedTupleIsFree
 refine wpAny_bind (wpAny_field hz rfl (x:=.none) rfl (wpAny_pure ?_))
 simp only [if_true]
 refine wpAny_bind (wpAny_rule (wpAny_bind (wpAny_field hz rfl (x:=.ref TO) rfl ?_)))
 refine wpAny_bind (wpAny_setField_rec hz (by simp) fun h1 z1 s1=>?_)
 replace z1:IsZip h1 z TI TO .ellipsis:=z1
 refine wpAny_bind ?_
 simp only [List.zipIdx_cons,List.zipIdx_nil,List.forIn_cons,List.forIn_nil]
 refine wpAny_bind (wpAny_bind (wpAny_onRaise (?_:wpAny _ _ (Builtin.SmallTypes.nextOf (.ref i1) >>= _) _ _ _)))
 have p1':kM b1 h1 l1 xs:=p1.at fun o e=>s1.extBut _ _ m1 e
 have q1'':lz b1 h1 i1 l1 k:=q1.at fun o e=>s1.extBut _ _ n3 e
 cases hxk:xs[k]? with
 | none=>
  refine wpAny_bind (rD (s:={ s with heap:=h1 }) (by simpa using hh) q1'' p1' hxk fun h2 e kp he=>?_)
  refine wpAny_mono (fin h2 e (kp _ _ n3.symm z1) (fun c o hc e'=>?_) he) (fun _ _ q=>q) fun _ _ q=>q.elim
  simp only [List.mem_cons,List.not_mem_nil,or_false,not_or] at hc
  exact kp _ _ hc.2.2.1 (s1.extBut _ _ hc.1 e')
 | some v1=>
  have hy:ys[k]? = none:= by
   rcases hx with h | h
   ·rw [hxk] at h;cases h
   ·exact h
  refine wpAny_bind (j5 (s:={ s with heap:=h1 }) q1'' p1' hxk fun h2 q1' s2=>wpAny_pure ?_)
  have t2:IsPair h2 TO a c:=s2.extBut _ _ n8 (s1.extBut _ _ n2 hTO)
  refine wpAny_bind (wpAny_seqItems (s:={ s with heap:=h2 }) t2 rfl (wpAny_bind (kH (s:={ s with heap:=h2 }) t2 fun h3 t3 s3=>?_)))
  refine wpAny_bind (wpAny_letGo (wpAny_pure ?_))
  refine wpAny_bind (wpAny_bind (wpAny_onRaise (?_:wpAny _ _ (Builtin.SmallTypes.nextOf (.ref i2) >>= _) _ _ _)))
  refine wpAny_bind (rD (s:={ s with heap:=h3 }) (by simpa using hh) (q2.at fun o e=>s3.extBut _ _ n9.symm (s2.extBut _ _ n10.symm (s1.extBut _ _ n4 e))) (p2.at fun o e=>s3.extBut _ _ m6 (s2.extBut _ _ m7 (s1.extBut _ _ m5 e))) hy fun h4 e kp he=>?_)
  refine wpAny_mono (fin h4 e (kp _ _ n4.symm (s3.extBut _ _ n2.symm (s2.extBut _ _ n3.symm z1))) (fun c o hc e'=>?_) he) (fun _ _ q=>q) fun _ _ q=>q.elim
  simp only [List.mem_cons,List.not_mem_nil,or_false,not_or] at hc
  exact kp _ _ hc.2.2.2 (s3.extBut _ _ hc.2.1 (s2.extBut _ _ hc.2.2.1 (s1.extBut _ _ hc.1 e')))
end
end Jt
namespace Jt
open PySem
section
variable {prog:Program} {w:World} {A:Around} {E:Value->Shared->Prop} {s:Shared} {b1 b2 b:Bool} {l1 l2 q it e:Addr} {xs ys:Array Value} {k:Nat}
def v3 (b1 b2:Bool) (h:Heap) (l1 l2:Addr):Heap:=(h.push (d5 b1 l1)).push (d5 b2 l2)
def FH (b1 b2:Bool) (h:Heap) (l1 l2:Addr):Heap:=((v3 b1 b2 h l1 l2).push { cls:=.type "tuple",data:=.seq #[.ref h.objs.size,.ref (h.push (d5 b1 l1)).objs.size] }).push { cls:=.type "tuple",data:=.seq #[.none,.none] }
def CQ (b1 b2:Bool) (h:Heap) (l1 l2:Addr):Heap:=(FH b1 b2 h l1 l2).push { cls:=.type "zip",data:=.fields #[.none,.bool false,.bool false,.ref (v3 b1 b2 h l1 l2).objs.size,.ref ((v3 b1 b2 h l1 l2).push { cls:=.type "tuple",data:=.seq #[.ref h.objs.size,.ref (h.push (d5 b1 l1)).objs.size] }).objs.size] }
theorem u5 (b1 b2:Bool) (l1 l2:Addr) (xs ys:Array Value):Meets (Builtin.«zip.__new__» ⟨[.type "zip",.ref l1,.ref l2],[]⟩) (fun _ R s=>kM b1 s.heap l1 xs∧kM b2 s.heap l2 ys∧R (.ok (.ret (.ref (FH b1 b2 s.heap l1 l2).objs.size))) { s with heap:=CQ b1 b2 s.heap l1 l2 }) :=
 .of_wp fun prog w A R s h=>by
  obtain ⟨hp,g,d,tk,os⟩:=s
  obtain ⟨h1,h2,h⟩:=h
  have hsub:=sub_zip
  have L1:kM b1 (Shared.heap ⟨hp,g,d,tk,os⟩) l1 xs:=h1
  have L2:kM b2 (Shared.heap ⟨hp.push (d5 b1 l1),g,d,tk,os⟩) l2 ys:=h2.at fun o e=>Heap.get?_push_of_some _ e
  wp_walk using i9 L1,i9 L2
  exact ⟨_,rfl,h⟩
theorem B0 {Q:Value->Shared->Prop} (h1:kM b1 s.heap l1 xs) (h2:kM b2 s.heap l2 ys)
  (h:∀ h' z TI TO i1 i2,FG z TI TO i1 i2 l1 l2->HU b1 b2 z TI TO i1 i2 l1 l2 xs ys 0 .none h' -> (∀ c o,s.heap.get? c=some o->h'.get? c=some o)->(∀ c ∈ [z,TI,TO,i1,i2],s.heap.objs.size ≤ c)->Q (.ref z) { s with heap:=h' }) :
  wpAny (model prog w) A (call (.type "zip") [.ref l1,.ref l2]) Q E s:= by
 refine callType_new F.called_zip (by decide) (F.typeCall_zip_2 _ _) (F.newCall_zip_2 _ _) (fun obj=>F.args_object_init_3 obj _ _) F.entry_zip_new (u5 b1 b2 l1 l2 xs ys) ⟨h1,h2,?_⟩
 have a1:(s.heap.push (d5 b1 l1)).objs.size=s.heap.objs.size + 1:=Heap.size_push ..
 have a2:(v3 b1 b2 s.heap l1 l2).objs.size=s.heap.objs.size + 2:=by unfold v3;rw [Heap.size_push,a1]
 have a3:((v3 b1 b2 s.heap l1 l2).push { cls:=.type "tuple",data:=.seq #[.ref s.heap.objs.size,.ref (s.heap.push (d5 b1 l1)).objs.size] }).objs.size=s.heap.objs.size + 3:=by rw [Heap.size_push,a2]
 have a4:(FH b1 b2 s.heap l1 l2).objs.size=s.heap.objs.size + 4:=by unfold FH;rw [Heap.size_push,a3]
 have up4:∀ c o,(FH b1 b2 s.heap l1 l2).get? c=some o->(CQ b1 b2 s.heap l1 l2).get? c=some o:=fun c o e=>Heap.get?_push_of_some _ e
 have up2:∀ c o,(v3 b1 b2 s.heap l1 l2).get? c=some o->(CQ b1 b2 s.heap l1 l2).get? c=some o:=fun c o e=>up4 c o (Heap.get?_push_of_some _ (Heap.get?_push_of_some _ e))
 have up:∀ c o,s.heap.get? c=some o->(CQ b1 b2 s.heap l1 l2).get? c=some o:=fun c o e=>up2 c o (Heap.get?_push_of_some _ (Heap.get?_push_of_some _ e))
 have g5:(CQ b1 b2 s.heap l1 l2).get? (FH b1 b2 s.heap l1 l2).objs.size=some _:=Heap.get?_push_size _ rfl
 have g4:(CQ b1 b2 s.heap l1 l2).get? ((v3 b1 b2 s.heap l1 l2).push { cls:=.type "tuple",data:=.seq #[.ref s.heap.objs.size,.ref (s.heap.push (d5 b1 l1)).objs.size] }).objs.size=some _:=up4 _ _ (Heap.get?_push_size _ rfl)
 have g3:(CQ b1 b2 s.heap l1 l2).get? (v3 b1 b2 s.heap l1 l2).objs.size=some _:=up4 _ _ (Heap.get?_push_of_some _ (Heap.get?_push_size _ rfl))
 have lt1:=h1.lt
 have lt2:=h2.lt
 refine ⟨⟨_,g5,rfl⟩,h (CQ b1 b2 s.heap l1 l2) _ (v3 b1 b2 s.heap l1 l2).objs.size ((v3 b1 b2 s.heap l1 l2).push { cls:=.type "tuple",data:=.seq #[.ref s.heap.objs.size,.ref (s.heap.push (d5 b1 l1)).objs.size] }).objs.size s.heap.objs.size (s.heap.push (d5 b1 l1)).objs.size ?_
  ⟨g5,g3,⟨_,_,g4⟩,lz.new.at fun o e=>up2 _ _ (Heap.get?_push_of_some _ e),lz.new.at fun o e=>up2 _ _ e,h1.at fun o e=>up _ _ e,h2.at fun o e=>up _ _ e⟩ up fun c hc=>?_⟩
 ·rw [a3,a4,a2,a1]
  have e1:∀ j:Nat,l1 ≠ s.heap.objs.size + j:=fun j z=>Nat.ne_of_lt (Nat.lt_of_lt_of_le lt1 (Nat.le_add_right _ j)) z
  have e2:∀ j:Nat,l2 ≠ s.heap.objs.size + j:=fun j z=>Nat.ne_of_lt (Nat.lt_of_lt_of_le lt2 (Nat.le_add_right _ j)) z
  have ne:∀ i j:Nat,i ≠ j->s.heap.objs.size + i ≠ s.heap.objs.size + j:=fun i j h z=>h (Nat.add_left_cancel z)
  have ne0:∀ j:Nat,j ≠ 0->s.heap.objs.size + j ≠ s.heap.objs.size:=fun j h z=>h (Nat.add_left_cancel (m:=j) (k:=0) z)
  refine ⟨?_,?_,?_⟩
  ·simp only [List.nodup_cons,List.mem_cons,List.not_mem_nil,or_false,not_or,List.nodup_nil,and_true,not_false_eq_true]
   exact ⟨⟨ne 4 2 (by decide),ne 4 3 (by decide),ne0 4 (by decide),ne 4 1 (by decide)⟩,⟨ne 2 3 (by decide),ne0 2 (by decide),ne 2 1 (by decide)⟩,⟨ne0 3 (by decide),ne 3 1 (by decide)⟩,(ne0 1 (by decide)).symm⟩
  ·simp only [List.mem_cons,List.not_mem_nil,or_false,not_or]
   exact ⟨e1 4,e1 3,Nat.ne_of_lt lt1,e1 1⟩
  ·simp only [List.mem_cons,List.not_mem_nil,or_false,not_or]
   exact ⟨e2 4,e2 3,Nat.ne_of_lt lt2,e2 1⟩
 ·rw [a3,a4,a2,a1] at hc
  simp only [List.mem_cons,List.not_mem_nil,or_false] at hc
  rcases hc with e | e | e | e | e
  ·rw [e];exact Nat.le_add_right _ 4
  ·rw [e];exact Nat.le_add_right _ 2
  ·rw [e];exact Nat.le_add_right _ 3
  ·rw [e];exact Nat.le_refl _
  ·rw [e];exact Nat.le_add_right _ 1
theorem sF (b:Bool) (l:Addr) (xs:Array Value):Meets (Builtin.«enumerate.__new__» ⟨[.type "enumerate",.ref l],[]⟩) (fun _ R s=>kM b s.heap l xs∧R (.ok (.ret (.ref (s.heap.push (d5 b l)).objs.size)))
  { s with heap:=(s.heap.push (d5 b l)).push { cls:=.type "enumerate",data:=.fields #[.none,.bool false,.ref s.heap.objs.size,rawInt 0,.none,.none] } }) :=
 .of_wp fun prog w A R s h=>by
  obtain ⟨hp,g,d,tk,os⟩:=s
  obtain ⟨h1,h⟩:=h
  have hsub:=sub_enumerate
  have L1:kM b (Shared.heap ⟨hp,g,d,tk,os⟩) l xs:=h1
  wp_walk
  refine wpAny_stack_any fun st=>wpAny_pure ?_
  split
  ·rename_i c _ _ _ _ _
   cases (c == Value.type "enumerate")
   ·wp_walk using i9 L1
    exact ⟨_,rfl,h⟩
   ·wp_walk using i9 L1
    exact ⟨_,rfl,h⟩
  ·wp_walk using i9 L1
   exact ⟨_,rfl,h⟩
abbrev IV (b:Bool) (e it l:Addr) (xs:Array Value) (k:Nat) (h:Heap):Prop:=(∃ old,IsEnum h e it k old)∧lz b h it l k∧kM b h l xs
theorem wX {Q:Value->Shared->Prop} (h1:kM b s.heap q xs)
  (h:∀ h' e it,e ≠ it->q ≠ e->q ≠ it->IV b e it q xs 0 h' -> (∀ c o,s.heap.get? c=some o->h'.get? c=some o)->s.heap.objs.size ≤ e->s.heap.objs.size ≤ it->Q (.ref e) { s with heap:=h' }) :
  wpAny (model prog w) A (call (.type "enumerate") [.ref q]) Q E s:= by
 refine callType_new F.called_enumerate (by decide) (F.typeCall_enumerate_1 _) (F.newCall_enumerate_1 _) (fun obj=>F.args_object_init_2 obj _) F.entry_enumerate_new (sF b q xs) ⟨h1,?_⟩
 have a1:(s.heap.push (d5 b q)).objs.size=s.heap.objs.size + 1:=Heap.size_push ..
 have lt1:=h1.lt
 refine ⟨⟨_,Heap.get?_push_size _ rfl,rfl⟩,h _ _ s.heap.objs.size (fun z=>?_) (fun z=>?_) (Nat.ne_of_lt lt1) ⟨⟨.none,Heap.get?_push_size _ rfl⟩,lz.new.at fun o e=>Heap.get?_push_of_some _ e,h1.at fun o e=>Heap.get?_push_of_some _ (Heap.get?_push_of_some _ e)⟩ (fun c o e=>Heap.get?_push_of_some _ (Heap.get?_push_of_some _ e)) ?_ (Nat.le_refl _)⟩
 ·rw [a1] at z;exact Nat.succ_ne_self _ z
 ·rw [a1] at z;exact Nat.ne_of_lt (Nat.lt_succ_of_lt lt1) z
 ·rw [a1];exact Nat.le_succ _
theorem vn {v:Value} {Q:Option Value->Shared->Prop} (hne:e ≠ it) (hqe:q ≠ e) (hqi:q ≠ it) (st:IV b e it q xs k s.heap) (hx:xs[k]? = some v)
  (hQ:∀ h',IsEnumOut h' e it ((k:Int) + 1) v s.heap.objs.size->lz b h' it q (k + 1)->kM b h' q xs->IsPair h' s.heap.objs.size (.int k s.toks) v->(∀ c o,c ≠ e->c ≠ it->s.heap.get? c=some o->h'.get? c=some o)->Q (some (.ref s.heap.objs.size)) { s with heap:=h',toks:=s.toks + 1 }) :
  wpAny (model prog w) A (pyNext (.ref e)) Q E s:= by
 obtain ⟨⟨old,he⟩,hi,hq⟩:=st
 have hT:s.TypeIs (.ref e) "enumerate":=⟨_,he,rfl⟩
 have hel:e < s.heap.objs.size:=Heap.lt_size he
 unfold pyNext
 refine wpAny_bind (wpAny_attempt (wpAny_callSpecial?_slot (name:=Str.ofString "__next__") hT F.slot_enumerate_next (wpAny_call_entry F.slot_enumerate_next hT F.entry_enumerate_next (?_:wpAny _ _ (field (.ref e) 2 >>= _) _ _ _) (F.args_enumerate_next_1 _))))
 obtain ⟨hp,g,d,tk,os⟩:=s
 refine wpAny_bind (wpAny_field he rfl (x:=.ref it) rfl (wpAny_bind (j5 hi hq hx fun h1 hi1 s1=>?_)))
 replace s1:Heap.SameBut it hp h1:=s1
 have e1:IsEnum h1 e it k old:=(s1.2 e hne).trans he
 refine (?_:wpAny _ _ (field (.ref e) 3 >>= _) _ _ ⟨h1,g,d,tk,os⟩)
 refine wpAny_bind (wpAny_field (s:=⟨h1,g,d,tk,os⟩) e1 rfl (x:=rawInt k) rfl (?_:wpAny _ _ (field (.ref e) 4 >>= _) _ _ ⟨h1,g,d,tk,os⟩))
 refine wpAny_bind (wpAny_field (s:=⟨h1,g,d,tk,os⟩) e1 rfl (x:=.none) rfl (?_:wpAny _ _ (mkInt k >>= _) _ _ ⟨h1,g,d,tk,os⟩))
 refine wpAny_bind (wpAny_mkInt (?_:wpAny _ _ (setField (.ref e) 3 (rawInt ((k:Int) + 1)) >>= _) _ _ ⟨h1,g,d,tk + 1,os⟩))
 refine wpAny_bind (wpAny_setField_rec (s:=⟨h1,g,d,tk + 1,os⟩) e1 (by simp) fun h2 e2 s2=>(?_:wpAny _ _ (setField (.ref e) 4 .none >>= _) _ _ ⟨h2,g,d,tk + 1,os⟩))
 replace s2:Heap.SameBut e h1 h2:=s2
 replace e2:IsEnum h2 e it ((k:Int) + 1) old:=e2
 refine wpAny_bind (wpAny_setField_rec (s:=⟨h2,g,d,tk + 1,os⟩) e2 (by simp) fun h3 e3 s3=>(?_:wpAny _ _ (newTuple [.int k tk,v] >>= _) _ _ ⟨h3,g,d,tk + 1,os⟩))
 replace s3:Heap.SameBut e h2 h3:=s3
 replace e3:IsEnum h3 e it ((k:Int) + 1) old:=e3
 refine wpAny_bind (wpAny_newTuple ?_)
 have hsz:h3.objs.size=hp.objs.size:=by rw [s3.1,s2.1,s1.1]
 have e4:IsEnum (h3.push { cls:=.type "tuple",data:=.seq #[.int k tk,v] }) e it ((k:Int) + 1) old:=Heap.get?_push_of_some _ e3
 have t4:IsPair (h3.push { cls:=.type "tuple",data:=.seq #[.int k tk,v] }) hp.objs.size (.int k tk) v:=by rw [<- hsz];exact Heap.get?_push_size _ rfl
 have up4:∀ c o,c ≠ e->h1.get? c=some o->(h3.push { cls:=.type "tuple",data:=.seq #[.int k tk,v] }).get? c=some o:=fun c o hc x=>Heap.get?_push_of_some _ (s3.extBut c o hc (s2.extBut c o hc x))
 refine (?_:wpAny _ _ (Builtin.SmallTypes.ownedTupleIsFree (.ref e) >>= _) _ _ ⟨h3.push { cls:=.type "tuple",data:=.seq #[.int k tk,v] },g,d,tk + 1,os⟩)
 rw [hsz]
 generalize h3.push { cls:=.type "tuple",data:=.seq #[.int k tk,v] }=h4 at e4 t4 up4
 refine wpAny_bind ?_
 unfold Builtin.SmallTypes.ownedTupleIsFree
 refine wpAny_bind (wpAny_field (s:=⟨h4,g,d,tk + 1,os⟩) e4 rfl (x:=.none) rfl (wpAny_pure ?_))
 simp only [if_true]
 refine wpAny_bind (wpAny_rule (wpAny_bind (wpAny_field (s:=⟨h4,g,d,tk + 1,os⟩) e4 rfl (x:=old) rfl ?_)))
 refine wpAny_bind (wpAny_setField_rec (s:=⟨h4,g,d,tk + 1,os⟩) e4 (by simp) fun h5 e5 s5=>(?_:wpAny _ _ (Builtin.SmallTypes.ownedTupleHandOut (.ref e) (.ref hp.objs.size) >>= _) _ _ ⟨h5,g,d,tk + 1,os⟩))
 replace s5:Heap.SameBut e h4 h5:=s5
 replace e5:IsEnum h5 e it ((k:Int) + 1) v:=e5
 refine wpAny_bind ?_
 unfold Builtin.SmallTypes.ownedTupleHandOut
 refine wpAny_bind (wpAny_setField_rec (s:=⟨h5,g,d,tk + 1,os⟩) e5 (by simp) fun h6 e6 s6=>?_)
 replace s6:Heap.SameBut e h5 h6:=s6
 replace e6:IsEnumOut h6 e it ((k:Int) + 1) v hp.objs.size:=e6
 refine wpAny_setField_rec (s:=⟨h6,g,d,tk + 1,os⟩) e6 (by simp) fun h7 e7 s7=>?_
 replace s7:Heap.SameBut e h6 h7:=s7
 replace e7:IsEnumOut h7 e it ((k:Int) + 1) v hp.objs.size:=e7
 have up:∀ c o,c ≠ e->h1.get? c=some o->h7.get? c=some o:=fun c o hc x=>s7.extBut c o hc (s6.extBut c o hc (s5.extBut c o hc (up4 c o hc x)))
 have hel':hp.objs.size ≠ e:=Nat.ne_of_gt hel
 refine wpAny_bind (wpAny_letGo (wpAny_pure ⟨_,rfl,wpAny_pure (hQ h7 e7 (hi1.at fun o x=>up _ _ hne.symm x) (hq.at fun o x=>up _ _ hqe (s1.extBut _ _ hqi x)) (s7.extBut _ _ hel' (s6.extBut _ _ hel' (s5.extBut _ _ hel' t4))) fun c o c1 c2 x=>up c o c1 (s1.extBut _ _ c2 x))⟩))
theorem xA {Q:Option Value->Shared->Prop} (hh:A.handled=none) (st:IV b e it q xs k s.heap) (hx:xs[k]? = none) (hQ:∀ h',(∀ c o,c ≠ it->s.heap.get? c=some o->h'.get? c=some o)->Q none { s with heap:=h' }):wpAny (model prog w) A (pyNext (.ref e)) Q E s:= by
 obtain ⟨⟨old,he⟩,hi,hq⟩:=st
 have hT:s.TypeIs (.ref e) "enumerate":=⟨_,he,rfl⟩
 unfold pyNext
 refine wpAny_bind (wpAny_attempt (wpAny_callSpecial?_slot (name:=Str.ofString "__next__") hT F.slot_enumerate_next (wpAny_call_entry F.slot_enumerate_next hT F.entry_enumerate_next (?_:wpAny _ _ (field (.ref e) 2 >>= _) _ _ _) (F.args_enumerate_next_1 _))))
 refine wpAny_bind (wpAny_field he rfl (x:=.ref it) rfl (wpAny_bind (rD (by simpa using hh) hi hq hx fun h' x kp hx'=>?_)))
 obtain ⟨o,ho,hc⟩:=hx'
 exact wpAny_bind (wpAny_isInstance (T:="StopIteration") (b:=true) ⟨o,ho,hc⟩ isSubtype_stop (wpAny_pure (hQ _ kp)))
end
end Jt
namespace L2
open PySem PySem.Spec PyProof.Rows
abbrev Key:=Sum Int Str
def Ck:Key->Value->Bool
 | .inl k,v=>Value.isInt k v
 | .inr x,v=>Value.isStrOf x v
def Il (w:World):Key->Int
 | .inl k=>hashInt k
 | .inr x=>hashStr w x
theorem bZ:∀ {k:Key} {v:Value},Ck k v=true->(∃ i t,k=Sum.inl i∧v=Value.int i t) ∨ (∃ x t,k=Sum.inr x∧v=Value.str x t)
 | .inl i,v,h=>by
  obtain ⟨t,e⟩:=Value.isInt_shape (k:=i) (v:=v) h
  exact .inl ⟨i,t,rfl,e⟩
 | .inr x,v,h=>by
  obtain ⟨t,e⟩:=Value.isStrOf_shape (x:=x) (v:=v) h
  exact .inr ⟨x,t,rfl,e⟩
theorem De (a b:Int):decide ((Sum.inl a:Key)=Sum.inl b)=(a == b):= by
 by_cases e:a=b
 ·subst e;simp
 ·have h:¬ (Sum.inl a:Key)=Sum.inl b:=fun q=>e (Sum.inl.inj q)
  rw [decide_eq_false h]
  exact (beq_eq_false_iff_ne.mpr e).symm
theorem EU (a b:Str):decide ((Sum.inr a:Key)=Sum.inr b)=decide (a=b):= by
 by_cases e:a=b
 ·subst e;simp
 ·have h:¬ (Sum.inr a:Key)=Sum.inr b:=fun q=>e (Sum.inr.inj q)
  rw [decide_eq_false h,decide_eq_false e]
theorem EI (a:Int) (b:Str):decide ((Sum.inl a:Key)=Sum.inr b)=false:=decide_eq_false (fun q=>nomatch q)
theorem Eg (a:Str) (b:Int):decide ((Sum.inr a:Key)=Sum.inl b)=false:=decide_eq_false (fun q=>nomatch q)
def nI (prog:Program) (w:World):PySem.KeyKind prog w Key where
 is:=Ck
 hash:=Il w
 inj:=fun v a b ha hb=>by
  rcases bZ ha with ⟨i,t,rfl,rfl⟩ | ⟨x,t,rfl,rfl⟩
  ·rcases bZ hb with ⟨j,u,rfl,e⟩ | ⟨y,u,rfl,e⟩
   ·injection e with e1 _;rw [e1]
   ·exact nomatch e
  ·rcases bZ hb with ⟨j,u,rfl,e⟩ | ⟨y,u,rfl,e⟩
   ·exact nomatch e
   ·injection e with e1 _;rw [e1]
 byValue:=fun k v h=>by
  rcases bZ h with ⟨i,t,rfl,rfl⟩ | ⟨x,t,rfl,rfl⟩ <;> rfl
 pyHash:=fun hv h=>by
  rcases bZ hv with ⟨i,t,rfl,rfl⟩ | ⟨x,t,rfl,rfl⟩
  ·exact wpAny_pyHash_int h
  ·exact wpAny_pyHash_str h
 eqBool:=fun hu hv h=>by
  rcases bZ hu with ⟨i,t,rfl,rfl⟩ | ⟨x,t,rfl,rfl⟩
  ·rcases bZ hv with ⟨j,u,rfl,rfl⟩ | ⟨y,u,rfl,rfl⟩
   ·rw [De] at h;exact wpAny_eqBool_int h
   ·rw [EI] at h;exact SeqAt.EqAt.int_str i t y u _ _ _ _ h
  ·rcases bZ hv with ⟨j,u,rfl,rfl⟩ | ⟨y,u,rfl,rfl⟩
   ·rw [Eg] at h;exact SeqAt.EqAt.str_int x t j u _ _ _ _ h
   ·rw [EU] at h;exact wpAny_eqBool_str h
 «strs»:=fun k x t v h=>by
  rcases bZ h with ⟨i,u,rfl,e⟩ | ⟨y,u,rfl,e⟩
  ·exact nomatch e
  ·injection e with e1 _
   subst e1
   cases v <;> rfl
end L2
namespace L2
open PySem PySem.Spec PyProof.Rows
inductive V where
 | non | bl (b:Bool) | int (i:Int) | str (x:Str) | byt (b:Array UInt8) | flt (b:UInt64) | ref (a:Addr) | ty (n:String)
 deriving DecidableEq
def RelV:V->Value->Prop
 | .non,u=>u=Value.none
 | .bl b,u=>u=Value.bool b
 | .int i,u=>∃ t,u=Value.int i t
 | .str x,u=>∃ t,u=Value.str x t
 | .byt b,u=>∃ t,u=Value.bytes b t
 | .flt b,u=>∃ t,u=Value.float b t
 | .ref a,u=>u=Value.ref a
 | .ty n,u=>u=Value.type n
abbrev Vals:List V->List Value->Prop:=Paired RelV
theorem Vals.length {xs:List V} {us:List Value} (r:Vals xs us):xs.length=us.length:=Paired.length r
theorem Vals.get:∀ {xs:List V} {us:List Value} {i:Nat} {x:V},Vals xs us->xs[i]? = some x->∃ u,us[i]? = some u∧RelV x u
 | _,_,_,_,.nil,e=>by simp at e
 | _,_,0,_,.cons r _,e=>by simp at e;subst e;exact ⟨_,rfl,r⟩
 | _,_,i + 1,x,.cons _ t,e=>by
  obtain ⟨u,h1,h2⟩:=Vals.get (i:=i) (x:=x) t (by simpa using e)
  exact ⟨u,by simpa using h1,h2⟩
theorem Vals.set {x:V} {u:Value} (r:RelV x u):∀ {xs:List V} {us:List Value} (i:Nat),Vals xs us->Vals (xs.set i x) (us.set i u)
 | _,_,_,.nil=>.nil
 | _,_,0,.cons _ t=>.cons r t
 | _,_,i + 1,.cons q t=>.cons q (Vals.set r i t)
theorem Vals.append:∀ {xs ys:List V} {us ws:List Value},Vals xs us->Vals ys ws->Vals (xs ++ ys) (us ++ ws)
 | _,_,_,_,.nil,s=>s
 | _,_,_,_,.cons r t,s=>.cons r (Vals.append t s)
theorem Vals.take:∀ {xs:List V} {us:List Value} (n:Nat),Vals xs us->Vals (xs.take n) (us.take n)
 | _,_,0,_=>.nil
 | _,_,_ + 1,.nil=>.nil
 | _,_,n + 1,.cons r t=>.cons r (Vals.take n t)
theorem Vals.drop:∀ {xs:List V} {us:List Value} (n:Nat),Vals xs us->Vals (xs.drop n) (us.drop n)
 | _,_,0,r=>r
 | _,_,_ + 1,.nil=>.nil
 | _,_,n + 1,.cons _ t=>Vals.drop n t
def RelO:Option V->Option Value->Prop
 | some v,some u=>RelV v u
 | none,none=>True
 | _,_=>False
def KV {κ:Type}:List (κ × V)->List (κ × Value)->Prop:=Paired fun (p:κ × V) (q:κ × Value)=>p.1=q.1∧RelV p.2 q.2
def kV:Key->V
 | .inl i=>.int i
 | .inr x=>.str x
inductive HO where
  | lst (xs:List V)
  | tup (xs:List V)
  | dK (kvs:List (Key × V)) | dT (kvs:List (List Key × V))
  | set (S:Int->Bool) (n:Nat)
  | ins (C dx:Addr) (fs:List (Str × V))
  | own (x:Addr)
  | xd (fs:List (Str × V))
  | met (f x:Addr)
  | rng (lo hi:Int)
  | frz (o:Obj) (u:HO)
  | tbl (ps:Array Value)
  | ext (φ:Heap->Prop)
abbrev Hp:=Addr->Option HO
def upd (H:Hp) (a:Addr) (o:HO):Hp:=fun b=>if b=a then some o else H b
theorem aI {H:Hp} {a:Addr} {o:HO}:upd H a o a=some o:=by unfold upd;rw [if_pos rfl]
theorem ax {H:Hp} {a b:Addr} {o:HO} (h:b ≠ a):upd H a o b=H b:=by unfold upd;rw [if_neg h]
theorem Br {H:Hp} {a:Addr} {o u:HO}:upd (upd H a o) a u=upd H a u:= by
 funext b;unfold upd;split <;> rfl
theorem bB {H:Hp} {a b:Addr} {o:HO} (h:H a=some o) (h':H b=none):a ≠ b:= by
 intro e;subst e;rw [h] at h';cases h'
def pw (h:Heap) (a:Addr) (items:Array Value):Prop:=IsTup h a items∧∃ o,h.get? a=some o∧o.dict=none
theorem pw.new (h:Heap) (items:Array Value):pw (h.push { cls:=.type "tuple",data:=.seq items }) h.objs.size items:=⟨IsTup.new _ _,_,Heap.get?_push_size _ rfl,rfl⟩
section
variable (P:Program) (w:World)
def c9 (H:Hp) (h:Heap) (a:Addr):HO->Prop
 | .lst xs=>xs.length ≤ sizeLine∧∃ (its:List Value) (n:Nat),Vals xs its∧h.get? a=some { cls:=.type "list",data:=.seq its.toArray n }
 | .tup xs=>xs.length ≤ sizeLine∧∃ its:List Value,Vals xs its∧pw h a its.toArray
 | .dK kvs=>kvs.length ≤ sizeLine∧(a == sysModules)=false∧∃ vs,KV kvs vs∧h.DictOf (nI P w) a vs
 | .dT kvs=>kvs.length ≤ sizeLine∧(a == sysModules)=false∧∃ xs:List (List Key × Addr × Value),
   Paired (fun (p:List Key × V) (q:List Key × Addr × Value)=>p.1=q.1∧H q.2.1=some (.tup (p.1.map kV))∧RelV p.2 q.2.2) kvs xs ∧
   ∃ o es ep,h.get? a=some o∧o.ExactDict∧o.data=.dict es ep∧es.toList=xs.map (entryOfKey (tupleKind (nI P w)))∧(xs.map (·.1)).Nodup∧ep=es.size
 | .set S n=>h.SetOf (intKind P w) a S n
 | .ins C dx fs=>H dx=some (.own a)∧fs.length ≤ 1000∧dx ≠ a∧h.get? a=some (PySem.W.instObj C dx) ∧
   ∃ mA,h.Ns1 dx mA∧(∀ f,RelO (fs.lookup f) (mA f))∧PySem.Within mA (fs.map (·.1))
 | .own _=>∃ o,h.get? a=some o
 | .xd fs=>∃ mA,h.Ns1 a mA∧∀ f,RelO (fs.lookup f) (mA f)
 | .rng lo hi=>∃ t u v,h.get? a=some { cls:=.type "range",data:=.fields #[.int lo t,.int hi u,.int 1 v] }
 | .frz o u=>h.get? a=some o∧c9 H h a u
 | .tbl qs=>∃ ps:Array Value,h.get? a=some { cls:=.none,data:=.fields ps }∧TriplesOk ps.toList∧∀ (q:Str) (t0:Tok) (pos:Pos) (cv:Value),qs[0]? = some (.str q t0)->codeAmong pos ps.toList=some cv ->
   ∃ c' oc u vs t,cv=.ref c' ∧ H c' = some (.frz oc u)∧oc.data=.fields vs∧vs[1]? = some (.str q t)
 | .met f x=>h.get? a=some (PySem.W.methodObj (.ref f) (.ref x))
 | .ext φ=>φ h∧(∃ o,h.get? a=some o)∧∀ h1 h2:Heap,φ h1->(∀ o,h1.get? a=some o->h2.get? a=some o)->φ h2
def jS (H:Hp) (h:Heap):Prop:=∀ a o,H a=some o->c9 P w H h a o
end
section
variable {P:Program} {w:World} {H H':Hp} {h h':Heap} {a:Addr} {o:HO}
theorem c9.lt (x:c9 P w H h a o):a < h.objs.size:= by
 cases o with
 | lst xs=>obtain ⟨_,_,_,_,e⟩:=x;exact Heap.lt_size e
 | tup xs=>obtain ⟨_,_,_,p⟩:=x;exact p.1.lt
 | dK kvs=>obtain ⟨_,_,_,_,o,_,_,e,_⟩:=x;exact Heap.lt_size e
 | dT kvs=>obtain ⟨_,_,_,_,o,_,_,e,_⟩:=x;exact Heap.lt_size e
 | set S n=>obtain ⟨o,_,_,_,e,_⟩:=x;exact Heap.lt_size e
 | ins C dx fs=>obtain ⟨_,_,_,e,_⟩:=x;exact Heap.lt_size e
 | own y=>obtain ⟨_,e⟩:=x;exact Heap.lt_size e
 | xd fs=>obtain ⟨_,⟨_,_,_,e,_⟩,_⟩:=x;exact Heap.lt_size e
 | rng lo hi=>obtain ⟨_,_,_,e⟩:=x;exact Heap.lt_size e
 | frz ob u=>obtain ⟨e,_⟩:=x;exact Heap.lt_size e
 | tbl ps=>obtain ⟨_,e,_⟩:=x;exact Heap.lt_size e
 | met f y=>exact Heap.lt_size (show h.get? a=some _ from x)
 | ext φ=>obtain ⟨_,⟨_,e⟩,_⟩:=x;exact Heap.lt_size e
theorem Paired.mapP {α β:Type} {F G:α->β->Prop}:∀ {l₁:List α} {l₂:List β},Paired F l₁ l₂->(∀ a b,F a b->G a b)->Paired G l₁ l₂
 | _,_,.nil,_=>.nil
 | _,_,.cons r t,f=>.cons (f _ _ r) (Paired.mapP t f)
theorem c9.stay (x:c9 P w H h a o) (k:∀ b u,(b=a ∨ H b=some (.own a))->h.get? b=some u->h'.get? b=some u)
  (ho:∀ b,H b=some (.own a)->H' b=some (.own a)) (ht:∀ b xs,H b=some (.tup xs)->H' b=some (.tup xs)) (hf:∀ b o u,H b=some (.frz o u)->H' b=some (.frz o u):=by exact fun _ _ _ h=>h):c9 P w H' h' a o:= by
 induction o with
 | lst xs=>obtain ⟨z,its,n,r,e⟩:=x;exact ⟨z,its,n,r,k _ _ (.inl rfl) e⟩
 | tup xs=>obtain ⟨z,its,r,⟨ob,e,c⟩,ob2,e2,d⟩:=x;exact ⟨z,its,r,⟨ob,k _ _ (.inl rfl) e,c⟩,ob2,k _ _ (.inl rfl) e2,d⟩
 | dK kvs=>obtain ⟨z,y,vs,r,ob,es,ep,e,c⟩:=x;exact ⟨z,y,vs,r,ob,es,ep,k _ _ (.inl rfl) e,c⟩
 | dT kvs=>
  obtain ⟨z,y,xs,r,ob,es,ep,e,c⟩:=x
  exact ⟨z,y,xs,Paired.mapP r fun p q z=>⟨z.1,ht _ _ z.2.1,z.2.2⟩,ob,es,ep,k _ _ (.inl rfl) e,c⟩
 | set S n=>obtain ⟨ob,es,ep,t,e,c⟩:=x;exact ⟨ob,es,ep,t,k _ _ (.inl rfl) e,c⟩
 | ins C dx fs=>
  obtain ⟨d,z,ne,e,mA,⟨od,es,ep,e2,c⟩,r⟩:=x
  exact ⟨ho _ d,z,ne,k _ _ (.inl rfl) e,mA,⟨od,es,ep,k _ _ (.inr d) e2,c⟩,r⟩
 | own y=>obtain ⟨ob,e⟩:=x;exact ⟨ob,k _ _ (.inl rfl) e⟩
 | xd fs=>obtain ⟨mA,⟨od,es,ep,e,c⟩,r⟩:=x;exact ⟨mA,⟨od,es,ep,k _ _ (.inl rfl) e,c⟩,r⟩
 | rng lo hi=>obtain ⟨t,u,v,e⟩:=x;exact ⟨t,u,v,k _ _ (.inl rfl) e⟩
 | frz ob u ih=>obtain ⟨e,q⟩:=x;exact ⟨k _ _ (.inl rfl) e,ih q⟩
 | tbl ps=>
  obtain ⟨qs,e,tr,c⟩:=x
  refine ⟨qs,k a _ (.inl rfl) e,tr,fun q t0 pos cv h1 h2=>?_⟩
  obtain ⟨c',oc,u,vs,t,z1,z2,z3⟩:=c q t0 pos cv h1 h2
  exact ⟨c',oc,u,vs,t,z1,hf _ _ _ z2,z3⟩
 | met f y=>
  have e:h.get? a=some (PySem.W.methodObj (.ref f) (.ref y)):=x
  show h'.get? a=some (PySem.W.methodObj (.ref f) (.ref y))
  exact k a _ (.inl rfl) e
 | ext φ=>obtain ⟨p,⟨o,e⟩,st⟩:=x;exact ⟨st _ _ p fun o q=>k _ _ (.inl rfl) q,⟨o,k _ _ (.inl rfl) e⟩,st⟩
theorem jS.lt (x:jS P w H h) (e:H a=some o):a < h.objs.size:=(x a o e).lt
theorem jS.fresh (x:jS P w H h) (e:h.objs.size ≤ a):H a=none:= by
 cases q:H a with
 | none=>rfl
 | some u=>exact absurd (Nat.lt_of_lt_of_le (x.lt q) e) (Nat.lt_irrefl _)
theorem jS.kept (x:jS P w H h) (k:∀ b u,h.get? b=some u->h'.get? b=some u):jS P w H h':=fun a o e=>
 (x a o e).stay (fun b u _ q=>k b u q) (fun _ q=>q) fun _ _ q=>q
theorem jS.laid (x:jS P w H h) (k:∀ b u,h.get? b=some u->h'.get? b=some u) (hp:h.objs.size ≤ a) (new:c9 P w (upd H a o) h' a o):jS P w (upd H a o) h':=fun b u e=>by
 have hn:=x.fresh hp
 by_cases hb:b=a
 ·subst hb;rw [aI] at e;cases e;exact new
 ·rw [ax hb] at e
  exact (x b u e).stay (fun c v _ q=>k c v q) (fun c q=>by rw [ax (bB q hn)];exact q) (fun c xs q=>by rw [ax (bB q hn)];exact q) fun c ob u q=>by rw [ax (bB q hn)];exact q
end
def Rd (H:Hp) (a:Addr) (u:HO):Prop:=H a=some u ∨ ∃ o,H a=some (.frz o u)
theorem Rd.ok {P:Program} {w:World} {H:Hp} {h:Heap} {a:Addr} {u:HO} (r:Rd H a u) (x:jS P w H h):c9 P w H h a u:= by
 rcases r with r | ⟨o,r⟩
 ·exact x a u r
 ·obtain ⟨_,q⟩:=x a _ r
  exact q
def H_:Option HO->Prop
 | some (.lst _)=>True
 | some (.dK _)=>True
 | some (.dT _)=>True
 | some (.set _ _)=>True
 | some (.ins _ _ _)=>True
 | some (.ext _)=>True
 | _=>False
section
variable {P:Program} {w:World} {H:Hp} {h h':Heap} {x e:Addr} {o':HO}
theorem jS.write (ok:jS P w H h) (mu:H_ (H x)) (he:e=x ∨ H e=some (.own x)) (k:∀ b u,b ≠ e->h.get? b=some u->h'.get? b=some u) (heo:∃ u,h'.get? e=some u)
  (new:c9 P w (upd H x o') h' x o'):jS P w (upd H x o') h':=fun b u q=>by
 have nown:∀ c y,H c=some (.own y)->c ≠ x:=fun c y r z=>by subst z;rw [r] at mu;exact mu
 have ntup:∀ c xs,H c=some (.tup xs)->c ≠ x:=fun c xs r z=>by subst z;rw [r] at mu;exact mu
 have nfrz:∀ c ob u,H c=some (.frz ob u)->c ≠ x:=fun c ob u r z=>by subst z;rw [r] at mu;exact mu
 by_cases hb:b=x
 ·subst hb;rw [aI] at q;cases q;exact new
 ·rw [ax hb] at q
  by_cases hbe:b=e
  ·have q':H b=some (.own x):= by
    rcases he with z | z
    ·exact absurd (hbe.trans z) hb
    ·rw [hbe];exact z
   rw [q] at q';cases q'
   obtain ⟨v,hv⟩:=heo
   exact ⟨v,by rw [hbe];exact hv⟩
  ·refine (ok b u q).stay (fun c v hc r=>k c v ?_ r) (fun c r=>by rw [ax (nown c b r)];exact r) (fun c xs r=>by rw [ax (ntup c xs r)];exact r) fun c ob v r=>by rw [ax (nfrz c ob v r)];exact r
   rcases hc with rfl | hc
   ·exact hbe
   ·rintro rfl
    rcases he with z | z
    ·exact nown c b hc z
    ·rw [hc] at z;cases z;exact hb rfl
end
structure Un (fs ex:List Addr) (H H':Hp) (h h':Heap):Prop where
 keep:∀ b o,h.get? b=some o->H b=none->b ∉ fs->b ∉ ex->h'.get? b=some o
 slot:∀ b o,h.get? b=some o->H b=none->b ∈ fs->b ∉ ex->∃ sl,h'.get? b=some { o with slots:=sl }
 free:∀ b o,h.get? b=some o->H b=none->b ∉ ex->H' b=none
 there:∀ b o,h.get? b=some o->b ∉ ex->∃ o',h'.get? b=some o'
 tups:∀ b xs,H b=some (.tup xs)->H' b=some (.tup xs)
 frzs:∀ b o u,H b=some (.frz o u)->H' b=some (.frz o u)
 tbls:∀ b ps,H b=some (.tbl ps)->∃ more,H' b=some (.tbl (ps ++ more))
section
variable {fs fs' ex ex':List Addr} {H H1 H2:Hp} {h h1 h2 h':Heap} {a x e:Addr} {o:HO}
theorem Un.any (u:Un fs ex H H1 h h1) {b:Addr} {ob:Obj} (q:h.get? b=some ob) (n:H b=none) (hx:b ∉ ex):∃ sl,h1.get? b=some { ob with slots:=sl }:= by
 by_cases hb:b ∈ fs
 ·exact u.slot b ob q n hb hx
 ·exact ⟨ob.slots,u.keep b ob q n hb hx⟩
theorem Un.kept (k:∀ b u,h.get? b=some u->h'.get? b=some u):Un fs ex H H h h' :=
 ⟨fun b ob q _ _ _=>k b ob q,fun b ob q _ _ _=>⟨ob.slots,k b ob q⟩,fun _ _ _ n _=>n,fun b ob q _=>⟨ob,k b ob q⟩,fun _ _ q=>q,fun _ _ _ q=>q,fun _ ps q=>⟨#[],by rw [q];simp⟩⟩
theorem Un.refl:Un fs ex H H h h:=Un.kept fun _ _ q=>q
theorem Un.laid (k:∀ b u,h.get? b=some u->h'.get? b=some u) (hp:h.objs.size ≤ a) (hn:H a=none):Un fs ex H (upd H a o) h h' where
 keep:=fun b u q _ _ _=>k b u q
 slot:=fun b u q _ _ _=>⟨u.slots,k b u q⟩
 free:=fun b u q n _=>by rw [ax (Nat.ne_of_lt (Nat.lt_of_lt_of_le (Heap.lt_size q) hp))];exact n
 there:=fun b u q _=>⟨u,k b u q⟩
 tups:=fun b xs q=>by rw [ax (bB q hn)];exact q
 frzs:=fun b u xs q=>by rw [ax (bB q hn)];exact q
 tbls:=fun b ps q=>⟨#[],by rw [ax (bB q hn),q];simp⟩
theorem Un.write (mu:H_ (H x)) (he:e=x ∨ H e=some (.own x)) (k:∀ b u,b ≠ e->h.get? b=some u->h'.get? b=some u) (heo:∃ u,h'.get? e=some u):Un fs ex H (upd H x o) h h':= by
 have hx:∀ b,H b=none->b ≠ x:=fun b n z=>by subst z;rw [n] at mu;exact mu
 have hb:∀ b,H b=none->b ≠ e:=fun b n z=>by
  subst z
  rcases he with r | r
  ·exact hx b n r
  ·rw [n] at r;cases r
 have hm:∀ b u,H b=some u->¬ H_ (some u)->b ≠ x:=fun b u q nm z=>by subst z;rw [q] at mu;exact nm mu
 refine ⟨fun b u q n _ _=>k b u (hb b n) q,fun b u q n _ _=>⟨u.slots,k b u (hb b n) q⟩,fun b u q n _=>by rw [ax (hx b n)];exact n,fun b u q _=>?_,
  fun b xs q=>by rw [ax (hm b _ q fun z=>z)];exact q,fun b u xs q=>by rw [ax (hm b _ q fun z=>z)];exact q,fun b ps q=>⟨#[],by rw [ax (hm b _ q fun z=>z),q];simp⟩⟩
 by_cases hbe:b=e
 ·subst hbe;exact heo
 ·exact ⟨u,k b u hbe q⟩
end
def HQ (h:Heap) (H:Hp):List Addr:=(List.range h.objs.size).filter fun a=>(H a).isSome
def nX (h:Heap) (H:Hp):Heap:=PySem.W.hideAll h (HQ h H)
theorem uX (h:Heap) (H:Hp):(nX h H).objs.size=h.objs.size:=PySem.W.hideAll_size _ _
theorem xj {h:Heap} {H:Hp} {b:Addr} {o:Obj} (e:h.get? b=some o) (n:H b=none):(nX h H).get? b=some o :=
 PySem.W.hideAll_get _ e fun hm=>by
  have q:(H b).isSome=true:=(List.mem_filter.mp hm).2
  rw [n] at q;simp at q
theorem B_ {h:Heap} {H:Hp} {b:Addr} {o:Obj} (e:(nX h H).get? b=some o):h.get? b=some o∧H b=none:= by
 have e':h.get? b=some o:=PySem.W.of_hideAll (HQ h H) e
 refine ⟨e',?_⟩
 cases q:H b with
 | none=>rfl
 | some x=>
  have hm:b ∈ HQ h H:=List.mem_filter.mpr ⟨List.mem_range.mpr (Heap.lt_size e'),by simp [q]⟩
  have z:(nX h H).get? b=none:=PySem.W.hideAll_none (HQ h H) hm
  rw [z] at e;cases e
def BF (g h:Heap) (L:Addr):List (Addr × Obj):=(List.range h.objs.size).filterMap fun a=>if a=L ∨ (g.get? a).isSome=true then none else (h.get? a).map fun o=>(a,o)
def rest (g h:Heap) (L d:Addr):List (Addr × Obj):=(BF g h L).filter fun p=>decide (p.1 ≠ d)
end L2
namespace L2
open PySem PySem.Spec PyProof.Rows
structure Mod (K:PySem.W.Frag) (mg:Str->Option Value) (base:Heap):Prop where
 kin:K.In base
 glob:base.Ns mainGlobals mg
 blt:∃ mb,base.Ns builtinsNs mb∧∀ x:Str,x ≠ "__name__" -> mb x=bootBuiltins x
 nolimit:base.NoLimit
structure Cx where
 prog:Program
 w:World
 K:PySem.W.Frag
 mg:Str->Option Value
 base:Heap
 A:Around
 N:List Str
 s₀:Shared
 H₀:Hp
 env:Env
 outer:List Env
 stack:List Env
 ex:List Addr
 fn:Str->Bool
 calm:Bool
 pn:List (Addr × Obj)
 xe:Value->Shared->Prop
def ou:Str:="most_more"
def B3:Str:="most_more.<locals>.<lambda>"
def u7 (K:PySem.W.Frag) (H:Hp):Prop:=∀ c P,PySem.W.tabIn K ou=some (c,P)->∃ qs t0,H P=some (.tbl qs)∧qs[0]? = some (.str B3 t0)
theorem u7.un {K:PySem.W.Frag} {fs ex:List Addr} {H H':Hp} {h h':Heap} (t:u7 K H) (u:Un fs ex H H' h h'):u7 K H':=fun c P e=>by
 obtain ⟨qs,t0,h1,h2⟩:=t c P e
 obtain ⟨more,h3⟩:=u.tbls P qs h1
 refine ⟨qs ++ more,t0,h3,?_⟩
 have hz:0 < qs.size:= by
  cases hq:qs.size with
  | zero=>rw [Array.getElem?_eq_none (by omega)] at h2;cases h2
  | succ n=>exact Nat.succ_pos n
 rw [Array.getElem?_append_left hz];exact h2
def vV (l:List Env):List Addr:=l.filterMap (·.frame)
abbrev Cx.fs (X:Cx):List Addr:=vV X.outer
def qT (sc:Scope) (x:Str):Prop:=sc.names.lookup x=some .local ∨ sc.names.lookup x=some .cell ∨ sc.names.lookup x=some .free
def Loc (sc:Scope) (x:Str):Prop:=sc.names.lookup x=some .local ∨ sc.names.lookup x=some .cell
def Look (env:Env) (h:Heap) (m:Str->Option Value) (x:Str) (u:Value):Prop :=
 (env.kindOf x=some .local∧m x=some u) ∨ ((env.kindOf x=some .cell ∨ env.kindOf x=some .free)∧∃ c,env.cells.lookup x=some c∧h.IsCell c (some u))
structure Cx.Ok (X:Cx):Prop where
 mod:Mod X.K X.mg X.base
 kind:X.env.scope.kind=.function
 glob:X.env.globals=mainGlobals
 blt:X.env.builtins=builtinsNs
 above:X.s₀.heap.objs.size ≤ X.env.locals
 inj:∀ x y c,X.env.cells.lookup x=some c->X.env.cells.lookup y=some c->x=y
 has:∀ x,(X.env.kindOf x=some .cell ∨ X.env.kindOf x=some .free)->∃ c,X.env.cells.lookup x=some c
 cab:∀ x c,X.fn x=true->X.env.cells.lookup x=some c->X.s₀.heap.objs.size ≤ c
 hd:X.calm=true->X.A.handled=none
 frames:X.A.frames=some X.stack
 stk:X.stack=X.outer ∨ (X.stack=X.env :: X.outer∧X.env.frame=some X.env.locals)
 exf:∀ b ∈ X.ex,b ≠ X.env.locals∧∀ x c,X.env.cells.lookup x=some c->c ≠ b
 bs:∀ b o,X.base.get? b=some o->X.s₀.heap.get? b=some o∧X.H₀ b=none
 bsz:X.base.objs.size ≤ X.s₀.heap.objs.size
 noex:∀ b o,X.base.get? b=some o->b ∉ X.ex
 exfs:∀ b ∈ X.ex,b ∉ X.fs
 funs:X.s₀.heap.FunFrames X.base X.outer
 frf:∀ b ∈ X.fs,X.H₀ b=none
 tb:u7 X.K X.H₀
structure Inv (X:Cx) (pins:List (Addr × Obj)) (σ:List (Option V)) (H:Hp) (s:Shared):Prop where
 ok:X.Ok
 os:s.os=X.s₀.os
 bare:AllBare s.gens
 base:Un X.fs X.ex X.H₀ H X.s₀.heap s.heap
 loc:∃ m,s.heap.Ns X.env.locals m∧∀ (i:Nat) (x:Str) (v:V),X.N[i]? = some x->σ[i]? = some (some v)->qT X.env.scope x->∃ u,RelV v u∧Look X.env s.heap m x u
 cell:∀ x c,X.env.cells.lookup x=some c->∃ v,s.heap.IsCell c v
 free:H X.env.locals=none
 freeC:∀ x c,X.env.cells.lookup x=some c->H c=none
 pin:∀ p ∈ X.pn ++ pins,s.heap.get? p.1=some p.2∧H p.1=none∧p.1 ≠ X.env.locals∧p.1 ∉ X.fs∧∀ v,p.2.data ≠ .cell v
 hok:jS X.prog X.w H s.heap
 len:σ.length=X.N.length
section
variable {X:Cx} {pins:List (Addr × Obj)} {σ:List (Option V)} {H H':Hp} {s:Shared} {h':Heap}
theorem Cx.Ok.nofr (ok:X.Ok) {b:Addr} {o:Obj} (e:X.base.get? b=some o):b ∉ X.fs:=fun hb=>by
 have:=(ok.funs.mem hb).1
 rw [e] at this;cases this
theorem Inv.bs (I:Inv X pins σ H s):∀ b o,X.base.get? b=some o->s.heap.get? b=some o∧H b=none:=fun b o e=>
 ⟨I.base.keep b o (I.ok.bs b o e).1 (I.ok.bs b o e).2 (I.ok.nofr e) (I.ok.noex b o e),I.base.free b o (I.ok.bs b o e).1 (I.ok.bs b o e).2 (I.ok.noex b o e)⟩
theorem Inv.bk (I:Inv X pins σ H s):∀ b o,X.base.get? b=some o->s.heap.get? b=some o:=fun b o e=>(I.bs b o e).1
theorem Inv.tb (I:Inv X pins σ H s):u7 X.K H:=I.ok.tb.un I.base
theorem Inv.mod (I:Inv X pins σ H s):Mod X.K X.mg X.base:=I.ok.mod
theorem Inv.kIn (I:Inv X pins σ H s):X.K.In s.heap:=I.ok.mod.kin.keeps I.bk
theorem Inv.lt (I:Inv X pins σ H s):X.env.locals < s.heap.objs.size:=let ⟨_,hn,_⟩:=I.loc;hn.lt
theorem Inv.sz (I:Inv X pins σ H s):X.s₀.heap.objs.size ≤ s.heap.objs.size:=Nat.le_trans I.ok.above (Nat.le_of_lt I.lt)
theorem Inv.nofs (I:Inv X pins σ H s) {a:Addr} (h:s.heap.objs.size ≤ a):a ∉ X.fs:=fun hb=>by
 obtain ⟨_,o,ho,_⟩:=I.ok.funs.mem hb
 exact absurd (Nat.lt_of_lt_of_le (Heap.lt_size ho) (Nat.le_trans I.sz h)) (Nat.lt_irrefl _)
theorem Inv.cne (I:Inv X pins σ H s):∀ x c,X.env.cells.lookup x=some c->c ≠ X.env.locals:=fun x c e z=>by
 obtain ⟨v,o,ho,hd⟩:=I.cell x c e
 obtain ⟨m,⟨o',es,ep,ho',hd',_⟩,_⟩:=I.loc
 rw [z,ho'] at ho;cases ho;rw [hd'] at hd;cases hd
theorem Inv.funs (I:Inv X pins σ H s):s.heap.FunFrames X.base X.outer:= by
 have all:∀ (l:List Env),(∀ b ∈ vV l,b ∈ X.fs)->X.s₀.heap.FunFrames X.base l->s.heap.FunFrames X.base l:= by
  intro l
  induction l with
  | nil=>intro _ _;trivial
  | cons env r ih=>
   intro hs hl
   obtain ⟨hk,⟨L,o,hf,hn,ho,hd⟩,hr⟩:=hl
   have hL:L ∈ X.fs:=hs L (by unfold vV;rw [List.filterMap_cons,hf];exact List.mem_cons_self)
   obtain ⟨sl,e⟩:=I.base.slot L o ho (I.ok.frf L hL) hL fun z=>I.ok.exfs L z hL
   exact ⟨hk,⟨L,_,hf,hn,e,hd⟩,ih (fun b hb=>hs b (by unfold vV;rw [List.filterMap_cons,hf];exact List.mem_cons_of_mem _ hb)) hr⟩
 exact all X.outer (fun _ hb=>hb) I.ok.funs
theorem Inv.stack (I:Inv X pins σ H s):s.heap.FunFrames X.base X.stack:= by
 rcases I.ok.stk with e | ⟨e,hf⟩
 ·rw [e];exact I.funs
 ·rw [e]
  obtain ⟨m,hn,_⟩:=I.loc
  refine .cons (by rw [I.ok.kind];decide) hf hn ?_ I.funs
  exact Heap.get?_none_of_le (Nat.le_trans I.ok.bsz I.ok.above)
theorem Inv.stkSub (I:Inv X pins σ H s):∀ b ∈ vV X.stack,b ∈ X.env.locals :: X.fs:=fun b hb=>by
 rcases I.ok.stk with e | ⟨e,hf⟩
 ·rw [e] at hb;exact List.mem_cons_of_mem _ hb
 ·rw [e] at hb
  unfold vV at hb
  rw [List.filterMap_cons,hf] at hb
  exact hb
theorem Inv.stkFree (I:Inv X pins σ H s):∀ b ∈ vV X.stack,H b=none:=fun b hb=>by
 rcases List.mem_cons.mp (I.stkSub b hb) with e | hb
 ·rw [e];exact I.free
 ·obtain ⟨_,o,ho,_⟩:=I.ok.funs.mem hb
  exact I.base.free b o ho (I.ok.frf b hb) fun z=>I.ok.exfs b z hb
theorem Inv.step {g':Array GenState} {t':Nat} {d':Drawn} {ch:List Addr} (I:Inv X pins σ H s)
  (hch:∀ b ∈ ch,(b ∈ X.ex ∨ X.s₀.heap.objs.size ≤ b)∧b ≠ X.env.locals∧(∀ x c,X.env.cells.lookup x=some c->c ≠ b)∧∀ p ∈ X.pn ++ pins,p.1 ≠ b)
  (keep:∀ b o,b ≠ X.env.locals->b ∉ X.fs->b ∉ ch->s.heap.get? b=some o->H b=none->h'.get? b=some o)
  (slot:∀ b o,b ≠ X.env.locals->b ∈ X.fs->b ∉ ch->s.heap.get? b=some o->H b=none->∃ sl,h'.get? b=some { o with slots:=sl }) (free:∀ b o,b ∉ ch->s.heap.get? b=some o->H b=none->H' b=none)
  (there:∀ b o,b ∉ ch->s.heap.get? b=some o->∃ o',h'.get? b=some o')
  (tups:∀ b xs,H b=some (.tup xs)->H' b=some (.tup xs)) (frzs:∀ b o u,H b=some (.frz o u)->H' b=some (.frz o u)) (tbls:∀ b ps,H b=some (.tbl ps)->∃ more,H' b=some (.tbl (ps ++ more)))
  (ns:∀ m,s.heap.Ns X.env.locals m->h'.Ns X.env.locals m) (hok:jS X.prog X.w H' h') (hg:AllBare g') :
  Inv X pins σ H' { s with heap:=h',gens:=g',drawn:=d',toks:=t' }:= by
 have neL:∀ b o,X.s₀.heap.get? b=some o->b ≠ X.env.locals:=fun b o e=>Nat.ne_of_lt (Nat.lt_of_lt_of_le (Heap.lt_size e) I.ok.above)
 have neC:∀ b o,X.s₀.heap.get? b=some o->b ∉ X.ex->b ∉ ch:=fun b o e hx hb=>by
  rcases (hch b hb).1 with z | z
  ·exact hx z
  ·exact absurd (Nat.lt_of_lt_of_le (Heap.lt_size e) z) (Nat.lt_irrefl _)
 have cellK:∀ x c,X.env.cells.lookup x=some c->∀ v,s.heap.IsCell c v->h'.IsCell c v:=fun x c e v ⟨o,ho,hd⟩=>by
  have nch:c ∉ ch:=fun z=>(hch c z).2.2.1 x c e rfl
  by_cases hc:c ∈ X.fs
  ·obtain ⟨sl,q⟩:=slot c o (I.cne x c e) hc nch ho (I.freeC x c e)
   exact ⟨_,q,hd⟩
  ·exact ⟨o,keep c o (I.cne x c e) hc nch ho (I.freeC x c e),hd⟩
 refine ⟨I.ok,I.os,hg,⟨fun b o e n hb hx=>?_,fun b o e n hb hx=>?_,fun b o e n hx=>?_,fun b o e hx=>?_,fun b xs e=>tups b xs (I.base.tups b xs e),fun b o xs e=>frzs b o xs (I.base.frzs b o xs e),fun b ps e=>?_⟩,?_,fun x c e=>?_,?_,fun x c e=>?_,fun p hp=>?_,hok,I.len⟩
 ·exact keep b o (neL b o e) hb (neC b o e hx) (I.base.keep b o e n hb hx) (I.base.free b o e n hx)
 ·obtain ⟨sl,e1⟩:=I.base.slot b o e n hb hx
  obtain ⟨sl',e2⟩:=slot b _ (neL b o e) hb (neC b o e hx) e1 (I.base.free b o e n hx)
  exact ⟨sl',e2⟩
 ·obtain ⟨o',e1⟩:=I.base.there b o e hx
  exact free b o' (neC b o e hx) e1 (I.base.free b o e n hx)
 ·obtain ⟨o',e1⟩:=I.base.there b o e hx
  exact there b o' (neC b o e hx) e1
 ·obtain ⟨m1,e1⟩:=I.base.tbls b ps e
  obtain ⟨m2,e2⟩:=tbls b _ e1
  exact ⟨m1 ++ m2,by rw [e2,Array.append_assoc]⟩
 ·obtain ⟨m,hn,hl⟩:=I.loc
  refine ⟨m,ns m hn,fun i x v e1 e2 e3=>?_⟩
  obtain ⟨u,r,l⟩:=hl i x v e1 e2 e3
  refine ⟨u,r,?_⟩
  rcases l with l | ⟨k,c,e,z⟩
  ·exact .inl l
  ·exact .inr ⟨k,c,e,cellK x c e _ z⟩
 ·obtain ⟨v,z⟩:=I.cell x c e
  exact ⟨v,cellK x c e v z⟩
 ·obtain ⟨m,⟨o,_,_,ho,_⟩,_⟩:=I.loc
  exact free _ o (fun z=>(hch _ z).2.1 rfl) ho I.free
 ·obtain ⟨v,o,ho,hd⟩:=I.cell x c e
  exact free c o (fun z=>(hch c z).2.2.1 x c e rfl) ho (I.freeC x c e)
 ·obtain ⟨e,n,ne,nf,d⟩:=I.pin p hp
  have nch:p.1 ∉ ch:=fun z=>(hch p.1 z).2.2.2 p hp rfl
  exact ⟨keep p.1 p.2 ne nf nch e n,free p.1 p.2 nch e n,ne,nf,d⟩
theorem Inv.un {t':Nat} (I:Inv X pins σ H s) (u:Un X.fs [] H H' s.heap h') (hok:jS X.prog X.w H' h'):Inv X pins σ H' { s with heap:=h',toks:=t' }:= by
 obtain ⟨m,⟨o,es,ep,ho,r⟩,_⟩:=id I.loc
 obtain ⟨sl,hL⟩:=u.any ho I.free (by simp)
 exact I.step (g':=s.gens) (d':=s.drawn) (ch:=[]) (fun _ z=>nomatch z) (fun b o _ hb _ e n=>u.keep b o e n hb (by simp)) (fun b o _ hb _ e n=>u.slot b o e n hb (by simp)) (fun b o _ e n=>u.free b o e n (by simp)) (fun b o _ e=>u.there b o e (by simp)) u.tups u.frzs u.tbls (fun m' hm=>by
  obtain ⟨o',es',ep',ho',r'⟩:=hm
  rw [ho] at ho';cases ho'
  exact ⟨_,es',ep',hL,r'⟩) hok I.bare
theorem Inv.call {g':Array GenState} {t':Nat} {d':Drawn} {ch:List Addr} (I:Inv X pins σ H s) (u:Un (vV X.stack) ch H H' s.heap h') (hok:jS X.prog X.w H' h') (hg:AllBare g')
  (hch:∀ b ∈ ch,(b ∈ X.ex ∨ X.s₀.heap.objs.size ≤ b)∧b ≠ X.env.locals∧(∀ x c,X.env.cells.lookup x=some c->c ≠ b)∧∀ p ∈ X.pn ++ pins,p.1 ≠ b) :
  Inv X pins σ H' { s with heap:=h',gens:=g',drawn:=d',toks:=t' }:= by
 obtain ⟨m,⟨o,es,ep,ho,r⟩,_⟩:=id I.loc
 obtain ⟨sl,hL⟩:=u.any ho I.free fun z=>(hch _ z).2.1 rfl
 exact I.step (ch:=ch) hch (fun b o hL hb hc e n=>u.keep b o e n (fun z=>(List.mem_cons.mp (I.stkSub b z)).elim hL hb) hc) (fun b o _ _ hc e n=>u.any e n hc) (fun b o hc e n=>u.free b o e n hc) (fun b o hc e=>u.there b o e hc) u.tups u.frzs u.tbls (fun m' hm=>by
  obtain ⟨o',es',ep',ho',r'⟩:=hm
  rw [ho] at ho';cases ho'
  exact ⟨_,es',ep',hL,r'⟩) hok hg
theorem Inv.turned {t':Nat} {it:Addr} (I:Inv X pins σ H s) (k:∀ b o,b ≠ it->s.heap.get? b=some o->h'.get? b=some o) (hn:H it=none) (hL:it ≠ X.env.locals)
  (h1:it ∈ X.ex ∨ X.s₀.heap.objs.size ≤ it) (h2:∀ x c,X.env.cells.lookup x=some c->c ≠ it) (h3:∀ p ∈ X.pn ++ pins,p.1 ≠ it):Inv X pins σ H { s with heap:=h',toks:=t' }:= by
 have nit:∀ b u,H b=some u->b ≠ it:=fun b u e z=>by rw [z,hn] at e;cases e
 refine I.step (g':=s.gens) (d':=s.drawn) (ch:=[it]) (fun b hb=>?_) (fun b o _ _ hc e _=>k b o (fun z=>hc (by simp [z])) e) (fun b o _ _ hc e _=>⟨o.slots,k b o (fun z=>hc (by simp [z])) e⟩) (fun _ _ _ _ n=>n)
  (fun b o hc e=>⟨o,k b o (fun z=>hc (by simp [z])) e⟩) (fun _ _ e=>e) (fun _ _ _ e=>e) (fun b ps e=>⟨#[],by rw [e];simp⟩) (fun m hm=>?_) (fun b u e=>?_) I.bare
 ·have e:b=it:=by simpa using hb
  subst e
  exact ⟨h1,hL,h2,h3⟩
 ·obtain ⟨o,es,ep,ho,r⟩:=hm
  exact ⟨o,es,ep,k _ o (Ne.symm hL) ho,r⟩
 ·refine (I.hok b u e).stay (fun c v hc q=>k c v ?_ q) (fun _ q=>q) fun _ _ q=>q
  rcases hc with z | z
  ·rw [z];exact nit b u e
  ·exact nit c _ z
theorem Inv.tok (I:Inv X pins σ H s) (t:Nat):Inv X pins σ H { s with toks:=t }:=I.un (h':=s.heap) (t':=t) Un.refl I.hok
theorem Inv.kept {t':Nat} (I:Inv X pins σ H s) (k:∀ b u,s.heap.get? b=some u->h'.get? b=some u):Inv X pins σ H { s with heap:=h',toks:=t' }:=I.un (Un.kept k) (I.hok.kept k)
theorem Inv.laid {a:Addr} {o:HO} {t':Nat} (I:Inv X pins σ H s) (k:∀ b u,s.heap.get? b=some u->h'.get? b=some u) (hp:s.heap.objs.size ≤ a) (new:c9 X.prog X.w (upd H a o) h' a o) :
  Inv X pins σ (upd H a o) { s with heap:=h',toks:=t' }:=I.un (Un.laid k hp (I.hok.fresh hp)) (I.hok.laid k hp new)
theorem Inv.write {x e:Addr} {o:HO} {t':Nat} (I:Inv X pins σ H s) (mu:H_ (H x)) (he:e=x ∨ H e=some (.own x)) (k:∀ b u,b ≠ e->s.heap.get? b=some u->h'.get? b=some u) (heo:∃ u,h'.get? e=some u)
  (new:c9 X.prog X.w (upd H x o) h' x o):Inv X pins σ (upd H x o) { s with heap:=h',toks:=t' }:=I.un (Un.write mu he k heo) (I.hok.write mu he k heo new)
theorem Inv.weak {σ':List (Option V)} (I:Inv X pins σ H s) (hl:σ'.length=σ.length) (w:∀ (i:Nat) v,σ'[i]? = some (some v)->σ[i]? = some (some v)):Inv X pins σ' H s :=
 ⟨I.ok,I.os,I.bare,I.base,let ⟨m,hn,hl'⟩:=I.loc;⟨m,hn,fun i x v e1 e2 e3=>hl' i x v e1 (w i v e2) e3⟩,I.cell,I.free,I.freeC,I.pin,I.hok,hl.trans I.len⟩
theorem Inv.pins_of {pins':List (Addr × Obj)} (I:Inv X pins σ H s) (h:∀ p ∈ pins',s.heap.get? p.1=some p.2∧H p.1=none∧p.1 ≠ X.env.locals∧p.1 ∉ X.fs∧∀ v,p.2.data ≠ .cell v):Inv X pins' σ H s :=
 ⟨I.ok,I.os,I.bare,I.base,I.loc,I.cell,I.free,I.freeC,fun p hp=>(List.mem_append.mp hp).elim (fun z=>I.pin p (List.mem_append_left _ z)) (h p),I.hok,I.len⟩
theorem qO {N:List Str} (hN:N.Nodup) {i j:Nat} {x:Str} (a:N[i]? = some x) (b:N[j]? = some x):i=j:= by
 obtain ⟨h1,e1⟩:=List.getElem?_eq_some_iff.mp a
 obtain ⟨h2,e2⟩:=List.getElem?_eq_some_iff.mp b
 exact (List.getElem_inj hN).mp (e1.trans e2.symm)
theorem l9 {M:Model} {A:Around} {E:Value->Shared->Prop} {i:Nat} {x:Str} {v:V} {u:Value} {Q:Unit->Shared->Prop} (I:Inv X pins σ H s) (hN:X.N.Nodup) (hi:X.N[i]? = some x) (hx:Loc X.env.scope x) (r:RelV v u)
  (h:∀ s',Inv X pins (σ.set i (some v)) H s' -> (∃ a,Heap.SameBut a s.heap s'.heap∧(a=X.env.locals ∨ X.env.cells.lookup x=some a))->Q () s') (hf:X.fn x=true ∨ X.env.scope.names.lookup x=some .local:=by first | exact .inl rfl | exact .inr rfl | assumption):wpAny M A (storeName X.env x u) Q E s:= by
 obtain ⟨m,hn,hl⟩:=id I.loc
 have hcls:(X.env.scope.kind == .class || (X.env.scope.kind == .module && X.env.locals != X.env.globals))=false:=by rw [I.ok.kind];rfl
 have hiσ:i < σ.length:=by rw [I.len];exact (List.getElem?_eq_some_iff.mp hi).1
 have cne:=I.cne
 have tracked:∀ {a:Addr} {h':Heap},(∃ o,s.heap.get? a=some o∧H a=none)->Heap.SameBut a s.heap h' -> jS X.prog X.w H h':=fun {a h'} ha hs b ob e=>by
  obtain ⟨_,_,hfree⟩:=ha
  refine (I.hok b ob e).stay (fun c w' hc q=>(hs.2 c ?_).trans q) (fun _ q=>q) fun _ _ q=>q
  rintro rfl
  rcases hc with rfl | hc
  ·rw [hfree] at e;cases e
  ·rw [hfree] at hc;cases hc
 rcases hx with hk | hk
 ·refine wpAny_storeName_local hk hn (fun h' hn' hs=>?_) hcls
  obtain ⟨oL,_,_,hoL,_⟩:=id hn
  refine h _ ⟨I.ok,I.os,I.bare,⟨fun b o e n hb hx=>?_,fun b o e n hb hx=>?_,I.base.free,fun b o e hx=>?_,I.base.tups,I.base.frzs,I.base.tbls⟩,⟨_,hn',fun j y v' e1 e2 e3=>?_⟩,fun y c e=>?_,I.free,I.freeC,fun p hp=>?_,tracked ⟨oL,hoL,I.free⟩ hs,by simpa using I.len⟩ ⟨_,hs,.inl rfl⟩
  ·exact (hs.2 b (Nat.ne_of_lt (Nat.lt_of_lt_of_le (Heap.lt_size e) I.ok.above))).trans (I.base.keep b o e n hb hx)
  ·obtain ⟨sl,e1⟩:=I.base.slot b o e n hb hx
   exact ⟨sl,(hs.2 b (Nat.ne_of_lt (Nat.lt_of_lt_of_le (Heap.lt_size e) I.ok.above))).trans e1⟩
  ·obtain ⟨o',e1⟩:=I.base.there b o e hx
   exact ⟨o',(hs.2 b (Nat.ne_of_lt (Nat.lt_of_lt_of_le (Heap.lt_size e) I.ok.above))).trans e1⟩
  ·by_cases hj:j=i
   ·subst hj
    rw [hi] at e1;cases e1
    rw [List.getElem?_set_self hiσ] at e2
    cases e2
    exact ⟨u,r,.inl ⟨hk,by simp⟩⟩
   ·rw [List.getElem?_set_ne (Ne.symm hj)] at e2
    obtain ⟨u',r',q⟩:=hl j y v' e1 e2 e3
    refine ⟨u',r',?_⟩
    rcases q with ⟨k,e⟩ | ⟨k,c,e,z⟩
    ·refine .inl ⟨k,?_⟩
     have:y ≠ x:=fun e=>hj (qO hN e1 (e ▸ hi))
     simp [this,e]
    ·exact .inr ⟨k,c,e,z.sameBut hs (cne y c e)⟩
  ·obtain ⟨w',z⟩:=I.cell y c e
   exact ⟨w',z.sameBut hs (cne y c e)⟩
  ·obtain ⟨e,n,ne,nf,d⟩:=I.pin p hp
   exact ⟨(hs.2 p.1 ne).trans e,n,ne,nf,d⟩
 ·have hfn:X.fn x=true:= by
   rcases hf with z | z
   ·exact z
   ·rw [z] at hk;cases hk
  obtain ⟨c,hc⟩:=I.ok.has x (.inl hk)
  obtain ⟨w',z⟩:=I.cell x c hc
  refine wpAny_storeName_cell I.ok.kind hk hc z (fun h' hc' hs=>?_)
  obtain ⟨oc,hoc,hocd⟩:=id z
  refine h { s with heap:=h' } ⟨I.ok,I.os,I.bare,⟨fun b o e n hb hx=>?_,fun b o e n hb hx=>?_,I.base.free,fun b o e hx=>?_,I.base.tups,I.base.frzs,I.base.tbls⟩,⟨m,hn.sameBut hs (Ne.symm (cne x c hc)),fun j y v' e1 e2 e3=>?_⟩,fun y c' e=>?_,I.free,I.freeC,fun p hp=>?_,tracked ⟨oc,hoc,I.freeC x c hc⟩ hs,by simpa using I.len⟩ ⟨c,hs,.inr hc⟩
  ·exact (hs.2 b (Nat.ne_of_lt (Nat.lt_of_lt_of_le (Heap.lt_size e) (I.ok.cab x c hfn hc)))).trans (I.base.keep b o e n hb hx)
  ·obtain ⟨sl,e1⟩:=I.base.slot b o e n hb hx
   exact ⟨sl,(hs.2 b (Nat.ne_of_lt (Nat.lt_of_lt_of_le (Heap.lt_size e) (I.ok.cab x c hfn hc)))).trans e1⟩
  ·obtain ⟨o',e1⟩:=I.base.there b o e hx
   exact ⟨o',(hs.2 b (Nat.ne_of_lt (Nat.lt_of_lt_of_le (Heap.lt_size e) (I.ok.cab x c hfn hc)))).trans e1⟩
  ·by_cases hj:j=i
   ·subst hj
    rw [hi] at e1;cases e1
    rw [List.getElem?_set_self hiσ] at e2
    cases e2
    exact ⟨u,r,.inr ⟨.inl hk,c,hc,hc'⟩⟩
   ·rw [List.getElem?_set_ne (Ne.symm hj)] at e2
    obtain ⟨u',r',q⟩:=hl j y v' e1 e2 e3
    refine ⟨u',r',?_⟩
    rcases q with q | ⟨k,c',e,z'⟩
    ·exact .inl q
    ·refine .inr ⟨k,c',e,z'.sameBut hs ?_⟩
     rintro rfl
     exact hj (qO hN e1 (I.ok.inj _ _ _ e hc ▸ hi))
  ·by_cases hcc:c' = c
   ·subst hcc;exact ⟨_,hc'⟩
   ·obtain ⟨w2,z2⟩:=I.cell y c' e
    exact ⟨w2,z2.sameBut hs hcc⟩
  ·obtain ⟨e,n,ne,nf,d⟩:=I.pin p hp
   refine ⟨(hs.2 p.1 ?_).trans e,n,ne,nf,d⟩
   intro q
   rw [q,hoc] at e
   have q':oc=p.2:=Option.some.inj e
   exact d w' (by rw [<- q'];exact hocd)
theorem i_ {M:Model} {A:Around} {E:Value->Shared->Prop} {i:Nat} {x:Str} {v:V} {u:Value} {Q:Unit->Shared->Prop} (I:Inv X pins σ H s) (hN:X.N.Nodup) (hi:X.N[i]? = some x) (hx:Loc X.env.scope x) (r:RelV v u)
  (h:∀ s',Inv X pins (σ.set i (some v)) H s' -> Q () s') (hf:X.fn x=true ∨ X.env.scope.names.lookup x=some .local:=by first | exact .inl rfl | exact .inr rfl | assumption):wpAny M A (storeName X.env x u) Q E s :=
 l9 I hN hi hx r (fun s' I' _=>h s' I') hf
theorem Inv.call' {s':Shared} {ch:List Addr} (I:Inv X pins σ H s) (ho:s'.os=s.os) (u:Un (vV X.stack) ch H H' s.heap s'.heap) (hok:jS X.prog X.w H' s'.heap) (hg:AllBare s'.gens)
  (hch:∀ b ∈ ch,(b ∈ X.ex ∨ X.s₀.heap.objs.size ≤ b)∧b ≠ X.env.locals∧(∀ x c,X.env.cells.lookup x=some c->c ≠ b)∧∀ p ∈ X.pn ++ pins,p.1 ≠ b):Inv X pins σ H' s':= by
 obtain ⟨h',g',d',t',o'⟩:=s'
 have e:o' = s.os:=ho
 subst e
 exact I.call (g':=g') (t':=t') (d':=d') u hok hg hch
end
abbrev XK:=Value->Option Addr->Hp->Prop
abbrev St:=List (Option V)
abbrev VK:=V->Hp->Prop
abbrev TE:=St->Hp->VK->Prop
abbrev TT:=St->Hp->(Bool->Hp->Prop)->Prop
abbrev TA:=St->Hp->(List V->Hp->Prop)->Prop
structure Ends where
 nx:St->Hp->Prop
 rt:VK
 bk:St->Hp->Prop:=fun _ _=>False
 ct:St->Hp->Prop:=fun _ _=>False
abbrev TS:=Ends->St->Hp->Prop
def EP (X:Cx) (pins:List (Addr × Obj)) (σ:St) (Q:VK) (u:Value) (s':Shared):Prop:=∃ v H',Inv X pins σ H' s' ∧ RelV v u∧Q v H'
def TP (X:Cx) (pins:List (Addr × Obj)) (σ:St) (Q:Bool->Hp->Prop) (b:Bool) (s':Shared):Prop:=∃ H',Inv X pins σ H' s' ∧ Q b H'
def AP (X:Cx) (pins:List (Addr × Obj)) (σ:St) (Q:List V->Hp->Prop) (us:List Value) (s':Shared):Prop:=∃ vs H',Inv X pins σ H' s' ∧ Vals vs us∧Q vs H'
def SP (X:Cx) (pins:List (Addr × Obj)) (D:Ends) (f:Flow) (s':Shared):Prop :=
 match f with
 | .next=>∃ σ' H',Inv X pins σ' H' s' ∧ D.nx σ' H'
 | .brk=>∃ σ' H',Inv X pins σ' H' s' ∧ D.bk σ' H'
 | .cont=>∃ σ' H',Inv X pins σ' H' s' ∧ D.ct σ' H'
 | .ret u=>∃ v σ' H',Inv X pins σ' H' s' ∧ RelV v u∧D.rt v H'
def PE (X:Cx) (e:Expr) (t:TE):Prop :=
 ∀ (pins:List (Addr × Obj)) (s:Shared) (σ:St) (H:Hp) (Q:VK),Inv X pins σ H s->t σ H Q->wpAny (model X.prog X.w) X.A (eval e X.env) (EP X pins σ Q) X.xe s
def PT (X:Cx) (e:Expr) (t:TT):Prop :=
 ∀ (pins:List (Addr × Obj)) (s:Shared) (σ:St) (H:Hp) (Q:Bool->Hp->Prop),Inv X pins σ H s->t σ H Q->wpAny (model X.prog X.w) X.A (isTrue e X.env (eval e X.env)) (TP X pins σ Q) X.xe s
def PW (X:Cx) (e:Expr) (t:TT):Prop :=
 ∀ (whole:Sem Value) (pins:List (Addr × Obj)) (s:Shared) (σ:St) (H:Hp) (Q:Bool->Hp->Prop),Inv X pins σ H s->t σ H Q->wpAny (model X.prog X.w) X.A (isTrue e X.env whole) (TP X pins σ Q) X.xe s
theorem PW.pt {X:Cx} {e:Expr} {t:TT} (h:PW X e t):PT X e t:=h _
def PA (X:Cx) (es:List Expr) (t:TA):Prop :=
 ∀ (pos:Pos) (pins:List (Addr × Obj)) (s:Shared) (σ:St) (H:Hp) (Q:List V->Hp->Prop),Inv X pins σ H s->t σ H Q->wpAny (model X.prog X.w) X.A (spliced (backTo pos (starEach es X.env))) (AP X pins σ Q) X.xe s
def PS (X:Cx) (st:Stmt) (t:TS):Prop :=
 ∀ (pins:List (Addr × Obj)) (s:Shared) (σ:St) (H:Hp) (D:Ends),Inv X pins σ H s->t D σ H->wpAny (model X.prog X.w) X.A (exec st X.env) (SP X pins D) X.xe s
def qV (X:Cx) (st:List Stmt) (t:TS):Prop :=
 ∀ (pins:List (Addr × Obj)) (s:Shared) (σ:St) (H:Hp) (D:Ends),Inv X pins σ H s->t D σ H->wpAny (model X.prog X.w) X.A (execs st X.env) (SP X pins D) X.xe s
theorem cg {α:Type} {t:Sem α} {Q Q':α->Shared->Prop} {M:Model} {A:Around} {E:Value->Shared->Prop} {s:Shared} (h:wpAny M A t Q E s) (hQ:∀ a s,Q a s->Q' a s):wpAny M A t Q' E s:=wpAny_mono h hQ fun _ _ x=>x
end L2
namespace L2
open PySem PySem.Spec PyProof.Rows
section
variable {X:Cx}
def I_ (i:Nat):TE:=fun σ H Q=>∃ v,σ[i]? = some (some v)∧Q v H
def tC (v:V):TE:=fun _ H Q=>Q v H
theorem dm {i:Nat} {x:Str} {pos:Pos} (hN:X.N[i]? = some x) (hv:qT X.env.scope x) (hd:(x == ("__debug__":Str))=false:=by decide) (hcd:(x == ("__classdict__":Str))=false:=by decide):PE X (.Name x pos) (I_ i):= by
 intro pins s σ H Q I h
 obtain ⟨v,e,h⟩:=h
 obtain ⟨m,hn,hl⟩:=I.loc
 obtain ⟨u,r,l⟩:=hl i x v hN e hv
 have fin:EP X pins σ Q u s:=⟨v,H,I,r,h⟩
 rcases l with ⟨hk,hm⟩ | ⟨hk,c,hc,hcell⟩
 ·exact wpAny_Name (wpAny_loadName_local I.ok.kind hk hn hm fin) hd
 ·rcases hk with hk | hk
  ·exact wpAny_Name (wpAny_loadName_cell I.ok.kind hk hc hcell fin) hd
  ·exact wpAny_Name (wpAny_loadName_free I.ok.kind hk hc hcell fin hcd) hd
theorem rH {i j pos}:PE X (.Constant (.int i) j pos) (tC (.int i)):=fun _ _ _ H _ I h=>wpAny_Constant_int ⟨.int i,H,I.tok _,⟨_,rfl⟩,h⟩
theorem Gv {b j pos}:PE X (.Constant (.bool b) j pos) (tC (.bl b)):=fun _ _ _ H _ I h=>Constant_bool ⟨.bl b,H,I,rfl,h⟩
theorem Fb {j pos}:PE X (.Constant .none j pos) (tC .non):=fun _ _ _ H _ I h=>Constant_none ⟨.non,H,I,rfl,h⟩
theorem EO {x j pos}:PE X (.Constant (.str x) j pos) (tC (.str x)):=fun _ _ _ H _ I h=>Calls.Constant_str ⟨.str x,H,I.tok _,⟨_,rfl⟩,h⟩
def Gl (X:Cx) (x:Str):Prop:=X.env.kindOf x=some .globalImplicit
theorem Cb {E:Value->Shared->Prop} {pins:List (Addr × Obj)} {s:Shared} {σ:St} {H:Hp} {x:Str} {u:Value} {pos:Pos} {Q:Value->Shared->Prop} (I:Inv X pins σ H s) (hg:Gl X x) (hm:X.mg x=some u) (h:Q u s)
  (hd:(x == ("__debug__":Str))=false:=by decide):wpAny (model X.prog X.w) X.A (eval (.Name x pos) X.env) Q E s :=
 Calls.Name_function_global I.ok.kind hg (Calls.loadGlobal_global (by rw [I.ok.glob];exact I.mod.glob.keeps I.bk) hm h) hd
theorem gD {E:Value->Shared->Prop} {pins:List (Addr × Obj)} {s:Shared} {σ:St} {H:Hp} {x:Str} {u:Value} {pos:Pos} {Q:Value->Shared->Prop} (I:Inv X pins σ H s) (hg:Gl X x) (hm:X.mg x=none) (hv:bootBuiltins x=some u) (h:Q u s)
  (hn:x ≠ "__name__":=by decide) (hd:(x == ("__debug__":Str))=false:=by decide):wpAny (model X.prog X.w) X.A (eval (.Name x pos) X.env) Q E s:= by
 obtain ⟨mb,h1,h2⟩:=I.mod.blt
 exact Calls.Name_function_global I.ok.kind hg (Calls.loadGlobal_builtin (by rw [I.ok.glob];exact I.mod.glob.keeps I.bk) hm (by rw [I.ok.blt];exact h1.keeps I.bk) ((h2 x hn).trans hv) h) hd
theorem AR {x:Str} {v:V} {u:Value} {pos:Pos} (hg:Gl X x) (hm:X.mg x=none) (hv:bootBuiltins x=some u) (r:RelV v u) (hn:x ≠ "__name__":=by decide) (hd:(x == ("__debug__":Str))=false:=by decide):PE X (.Name x pos) (tC v) :=
 fun _ _ _ H _ I h=>gD I hg hm hv ⟨v,H,I,r,h⟩ hn hd
variable {a b:Expr} {ta tb:TE} {pos:Pos}
variable {tA tB':TT} {rest:List Expr}
def IJ (t u:TT):TT:=fun σ H Q=>t σ H fun c H1=>if c=true then u σ H1 Q else Q false H1
def JJ (t u:TT):TT:=fun σ H Q=>t σ H fun c H1=>if c=true then Q true H1 else u σ H1 Q
def Jo (t:TT):TT:=fun σ H Q=>t σ H fun c H1=>Q (!c) H1
theorem A9 (ha:PT X a tA):PW X (.BoolOp .And [a] pos) tA:= by
 intro wh pins s σ H Q I h
 refine isTrue_and (cg (ha pins s σ H Q I h) fun c s1 e=>?_)
 cases c with
 | true=>exact isTrue_and_nil e
 | false=>exact e
theorem DN (ha:PT X a tA):PW X (.BoolOp .Or [a] pos) tA:= by
 intro wh pins s σ H Q I h
 refine isTrue_or (cg (ha pins s σ H Q I h) fun c s1 e=>?_)
 cases c with
 | false=>exact isTrue_or_nil e
 | true=>exact e
theorem EG (ha:PT X a tA) (hb:PW X (.BoolOp .And (b :: rest) pos) tB'):PW X (.BoolOp .And (a :: b :: rest) pos) (IJ tA tB'):= by
 intro wh pins s σ H Q I h
 refine isTrue_and (cg (ha pins s σ H _ I h) fun c s1 ⟨H1,I1,q1⟩=>?_)
 cases c with
 | true=>exact hb wh pins s1 σ H1 Q I1 q1
 | false=>exact ⟨H1,I1,q1⟩
theorem Gq (ha:PT X a tA) (hb:PW X (.BoolOp .Or (b :: rest) pos) tB'):PW X (.BoolOp .Or (a :: b :: rest) pos) (JJ tA tB'):= by
 intro wh pins s σ H Q I h
 refine isTrue_or (cg (ha pins s σ H _ I h) fun c s1 ⟨H1,I1,q1⟩=>?_)
 cases c with
 | true=>exact ⟨H1,I1,q1⟩
 | false=>exact hb wh pins s1 σ H1 Q I1 q1
theorem Dm (ha:PT X a tA):PT X (.UnaryOp .Not a pos) (Jo tA):= by
 intro pins s σ H Q I h
 exact isTrue_not (ha pins s σ H (fun c H1=>Q (!c) H1) I h)
def GZ (ta tb:TE):TE:=fun σ H Q=>ta σ H fun x H1=>∃ c,x=.bl c∧if c=true then tb σ H1 Q else Q (.bl false) H1
def Gi (ta:TE):TE:=fun σ H Q=>ta σ H fun x H1=>∃ c,x=.bl c∧Q (.bl (!c)) H1
theorem D_ {op} {t:TE} (h:PE X a t):PE X (.BoolOp op [a] pos) t:=fun pins s σ H Q I hw=>BoolOp_one (h pins s σ H Q I hw)
theorem EF (ha:PE X a ta) (hb:PE X (.BoolOp .And (b :: rest) pos) tb):PE X (.BoolOp .And (a :: b :: rest) pos) (GZ ta tb):= by
 intro pins s σ H Q I h
 refine BoolOp_and (cg (ha pins s σ H _ I h) fun v s1 ⟨x,H1,I1,r1,q1⟩=>?_)
 obtain ⟨c,rfl,q1⟩:=q1
 cases r1
 refine wpAny_truthy_bool ?_
 cases c with
 | true=>exact hb pins s1 σ H1 Q I1 q1
 | false=>exact ⟨.bl false,H1,I1,rfl,q1⟩
theorem D4 (ha:PE X a ta):PE X (.UnaryOp .Not a pos) (Gi ta):= by
 intro pins s σ H Q I h
 refine UnaryOp_ (cg (ha pins s σ H _ I h) fun v s1 ⟨x,H1,I1,r1,q1⟩=>?_)
 obtain ⟨c,rfl,q1⟩:=q1
 cases r1
 exact not_of (wpAny_truthy_bool ⟨.bl (!c),H1,I1,rfl,q1⟩)
def JE (t:TT) (ta tb:TE):TE:=fun σ H Q=>t σ H fun c H1=>if c=true then ta σ H1 Q else tb σ H1 Q
theorem wO {c:Expr} (hc:PT X c tA) (ha:PE X a ta) (hb:PE X b tb):PE X (.IfExp c a b pos) (JE tA ta tb):= by
 intro pins s σ H Q I h
 refine wpAny_IfExp (cg (hc pins s σ H _ I h) fun d s1 ⟨H1,I1,q1⟩=>?_)
 cases d with
 | true=>exact ha pins s1 σ H1 Q I1 q1
 | false=>exact hb pins s1 σ H1 Q I1 q1
end
end L2
namespace L2
open PySem PySem.Spec PyProof.Rows
def gn (K:PySem.W.Frag) (H:Hp) (a:Addr) (xs:List V):Prop :=
 Rd H a (.lst xs) ∨
  ∃ (o:Obj) (its:Array Value) (n:Nat),K.lookup a=some o∧o.cls=.type "list" ∧ o.dict=none∧o.data=.seq its n∧its.size ≤ sizeLine∧Vals xs its.toList
def fI (K:PySem.W.Frag) (H:Hp) (a:Addr) (xs:List V):Prop :=
 Rd H a (.tup xs) ∨
  ∃ (o:Obj) (its:Array Value) (n:Nat),K.lookup a=some o∧o.cls=.type "tuple" ∧ o.data=.seq its n∧its.size ≤ sizeLine∧Vals xs its.toList
def IQ:Value->Option V
 | .none=>some .non
 | .bool b=>some (.bl b)
 | .int i _=>some (.int i)
 | .str x _=>some (.str x)
 | .bytes b _=>some (.byt b)
 | .float b _=>some (.flt b)
 | .ref a=>some (.ref a)
 | .type n=>some (.ty n)
 | _=>none
theorem RelV.abs {x:V} {u:Value} (r:RelV x u):IQ u=some x:= by
 cases x with
 | non=>cases r;rfl
 | bl _=>cases r;rfl
 | int _=>obtain ⟨t,rfl⟩:=r;rfl
 | str _=>obtain ⟨t,rfl⟩:=r;rfl
 | byt _=>obtain ⟨t,rfl⟩:=r;rfl
 | flt _=>obtain ⟨t,rfl⟩:=r;rfl
 | ref _=>cases r;rfl
 | ty _=>cases r;rfl
theorem RelV.inj {x y:V} {u:Value} (r:RelV x u) (q:RelV y u):x=y:=Option.some.inj (r.abs.symm.trans q.abs)
theorem Vals.inj:∀ {xs ys:List V} {us:List Value},Vals xs us->Vals ys us->xs=ys
 | _,_,_,.nil,.nil=>rfl
 | _,_,_,.cons r t,.cons r' t'=>by rw [r.inj r',Vals.inj t t']
section
variable {X:Cx} {pins:List (Addr × Obj)} {σ:St} {H:Hp} {s:Shared} {a:Addr} {xs ys:List V}
theorem gn.of {K:PySem.W.Frag} (h:H a=some (.lst xs)):gn K H a xs:=.inl (.inl h)
theorem fI.of {K:PySem.W.Frag} (h:H a=some (.tup xs)):fI K H a xs:=.inl (.inl h)
theorem Inv.list (I:Inv X pins σ H s) (h:gn X.K H a xs):∃ its:List Value,Vals xs its∧PlainL s.heap a its.toArray∧xs.length ≤ sizeLine:= by
 rcases h with h | ⟨o,its,n,hk,hc,hd,hs,hz,r⟩
 ·obtain ⟨z,its,n,r,e⟩:=h.ok I.hok
  exact ⟨its,r,⟨_,n,e,rfl,rfl,rfl⟩,z⟩
 ·refine ⟨its.toList,r,⟨o,n,I.kIn a o hk,hc,hd,by simpa using hs⟩,?_⟩
  have e:=r.length
  simp only [Array.length_toList] at e
  omega
theorem Inv.tuple (I:Inv X pins σ H s) (h:fI X.K H a xs):∃ its:List Value,Vals xs its∧IsTup s.heap a its.toArray∧xs.length ≤ sizeLine:= by
 rcases h with h | ⟨o,its,n,hk,hc,hs,hz,r⟩
 ·obtain ⟨z,its,r,p⟩:=h.ok I.hok
  exact ⟨its,r,p.1,z⟩
 ·refine ⟨its.toList,r,⟨o,I.kIn a o hk,hc,n,by simpa using hs⟩,?_⟩
  have e:=r.length
  simp only [Array.length_toList] at e
  omega
theorem Inv.list_inj (I:Inv X pins σ H s) (h:gn X.K H a xs) (h':gn X.K H a ys):xs=ys:= by
 obtain ⟨its,r,⟨o,n,e,_,_,d⟩,_⟩:=I.list h
 obtain ⟨its',r',⟨o',n',e',_,_,d'⟩,_⟩:=I.list h'
 rw [e] at e';cases e'
 rw [d] at d'
 injection d' with d1 _
 have:its=its':=by simpa using congrArg Array.toList d1
 subst this
 exact r.inj r'
theorem Inv.tuple_inj (I:Inv X pins σ H s) (h:fI X.K H a xs) (h':fI X.K H a ys):xs=ys:= by
 obtain ⟨its,r,⟨o,e,_,n,d⟩,_⟩:=I.tuple h
 obtain ⟨its',r',⟨o',e',_,n',d'⟩,_⟩:=I.tuple h'
 rw [e] at e';cases e'
 rw [d] at d'
 injection d' with d1 _
 have:its=its':=by simpa using congrArg Array.toList d1
 subst this
 exact r.inj r'
end
abbrev Cx.wish (X:Cx) (E:Value->Shared->Prop):Cx:={ X with xe:=E }
abbrev Cx.nox (X:Cx):Cx:=X.wish fun _ _=>False
theorem Cx.Ok.wish {X:Cx} (ok:X.Ok) (E:Value->Shared->Prop):(X.wish E).Ok :=
 ⟨ok.mod,ok.kind,ok.glob,ok.blt,ok.above,ok.inj,ok.has,ok.cab,ok.hd,ok.frames,ok.stk,ok.exf,ok.bs,ok.bsz,ok.noex,ok.exfs,ok.funs,ok.frf,ok.tb⟩
theorem Cx.Ok.unwish {X:Cx} {E:Value->Shared->Prop} (ok:(X.wish E).Ok):X.Ok :=
 ⟨ok.mod,ok.kind,ok.glob,ok.blt,ok.above,ok.inj,ok.has,ok.cab,ok.hd,ok.frames,ok.stk,ok.exf,ok.bs,ok.bsz,ok.noex,ok.exfs,ok.funs,ok.frf,ok.tb⟩
section
variable {X:Cx} {pins:List (Addr × Obj)} {σ:St} {H:Hp} {s:Shared} {E:Value->Shared->Prop}
theorem Inv.wish (I:Inv X pins σ H s) (E:Value->Shared->Prop):Inv (X.wish E) pins σ H s:=⟨I.ok.wish E,I.os,I.bare,I.base,I.loc,I.cell,I.free,I.freeC,I.pin,I.hok,I.len⟩
theorem Inv.unwish (I:Inv (X.wish E) pins σ H s):Inv X pins σ H s:=⟨I.ok.unwish,I.os,I.bare,I.base,I.loc,I.cell,I.free,I.freeC,I.pin,I.hok,I.len⟩
theorem SP.unwish {D:Ends} {f:Flow} {s':Shared} (h:SP (X.wish E) pins D f s'):SP X pins D f s':= by
 cases f with
 | next=>obtain ⟨σ',H',I,q⟩:=h;exact ⟨σ',H',I.unwish,q⟩
 | brk=>obtain ⟨σ',H',I,q⟩:=h;exact ⟨σ',H',I.unwish,q⟩
 | cont=>obtain ⟨σ',H',I,q⟩:=h;exact ⟨σ',H',I.unwish,q⟩
 | ret u=>obtain ⟨v,σ',H',I,r,q⟩:=h;exact ⟨v,σ',H',I.unwish,r,q⟩
theorem qV.nox {st:List Stmt} {t:TS} (h:qV X.nox st t):qV X st t:=fun pins s σ H D I hw=>
 wpAny_mono (h pins s σ H D (I.wish _) hw) (fun _ _ q=>q.unwish) fun _ _ z=>False.elim z
end
section
variable {X:Cx} {st:Stmt} {rest:List Stmt} {t u:TS} {e:Expr} {te:TE} {pos:Pos}
def FX:TS:=fun D σ H=>D.nx σ H
def Iv (t u:TS):TS:=fun D σ H=>t { D with nx:=u D } σ H
theorem Af:qV X [] FX:=fun _ _ σ H _ I h=>wpAny_execs_nil ⟨σ,H,I,h⟩
theorem yp (h1:PS X st t) (h2:qV X rest u):qV X (st :: rest) (Iv t u):= by
 intro pins s σ H D I h
 refine wpAny_execs_cons (cg (h1 pins s σ H { D with nx:=u D } I h) fun f s1 q=>?_)
 cases f with
 | next=>
  obtain ⟨σ',H',I',q⟩:=q
  exact h2 pins s1 σ' H' D I' q
 | ret v=>exact q
 | brk=>exact q
 | cont=>exact q
theorem BW (h1:PS X st t):qV X [st] t:= by
 intro pins s σ H D I h
 refine wpAny_execs_cons (cg (h1 pins s σ H D I h) fun f s1 q=>?_)
 cases f with
 | next=>exact wpAny_execs_nil q
 | ret v=>exact q
 | brk=>exact q
 | cont=>exact q
theorem Inv.quiet {pins:List (Addr × Obj)} {σ:St} {H:Hp} {s:Shared} (I:Inv X pins σ H s):interactive X.env=false:=by simp [interactive,I.ok.kind]
def F5 (te:TE):TS:=fun D σ H=>te σ H fun _ H1=>D.nx σ H1
theorem BX (he:PE X e te) (hs:swapsWith e none pos.line X.env=pure false:=by rfl):PS X (.Expr e pos) (F5 te):= by
 intro pins s σ H D I h
 exact wpAny_Expr_any (cg (he pins s σ H _ I h) fun v s1 ⟨x,H1,I1,r1,q1⟩=>⟨σ,H1,I1,q1⟩) I.quiet hs
def Ip (te:TE):TS:=fun D σ H=>te σ H D.rt
theorem yB (he:PE X e te):PS X (.Return (some e) pos) (Ip te):= by
 intro pins s σ H D I h
 exact wpAny_Return_some (cg (he pins s σ H _ I h) fun v s1 ⟨x,H1,I1,r1,q1⟩=>⟨x,σ,H1,I1,r1,q1⟩)
def IH (c:TT) (t u:TS):TS:=fun D σ H=>c σ H fun b H1=>if b=true then t D σ H1 else u D σ H1
theorem GR {c:Expr} {a b:List Stmt} {tc:TT} (hc:PT X c tc) (ha:qV X a t) (hb:qV X b u):PS X (.If c a b pos) (IH tc t u):= by
 intro pins s σ H D I h
 refine wpAny_If (cg (hc pins s σ H _ I h) fun d s1 ⟨H1,I1,q1⟩=>?_)
 cases d with
 | true=>exact ha pins s1 σ H1 D I1 q1
 | false=>exact hb pins s1 σ H1 D I1 q1
end
abbrev TG:=V->St->Hp->(St->Hp->Prop)->Prop
abbrev CF:=List V->St->Hp->(St->Hp->Prop)->Prop
def PG (X:Cx) (target:Expr) (t:TG):Prop :=
 ∀ (pins:List (Addr × Obj)) (s:Shared) (σ:St) (H:Hp) (v:V) (u:Value) (Q:St->Hp->Prop),Inv X pins σ H s->RelV v u->t v σ H Q ->
  wpAny (model X.prog X.w) X.A (assign target X.env u) (fun _ s'=>∃ σ' H',Inv X pins σ' H' s' ∧ Q σ' H') X.xe s
def E_ (X:Cx) (ts:List Expr) (t:CF):Prop :=
 ∀ (pins:List (Addr × Obj)) (s:Shared) (σ:St) (H:Hp) (vs:List V) (us:List Value) (Q:St->Hp->Prop),Inv X pins σ H s->Vals vs us->t vs σ H Q ->
  wpAny (model X.prog X.w) X.A (assignInOrder ((assignEach ts X.env).map (·.2)) us) (fun _ s'=>∃ σ' H',Inv X pins σ' H' s' ∧ Q σ' H') X.xe s
abbrev DX:=V->V->V->Hp->(Hp->Prop)->Prop
def Hl (X:Cx) (t:DX):Prop :=
 ∀ (pins:List (Addr × Obj)) (s:Shared) (σ:St) (H:Hp) (o i v:V) (ov iv u:Value) (Q:Hp->Prop),Inv X pins σ H s->RelV o ov->RelV i iv->RelV v u->t o i v H Q ->
  wpAny (model X.prog X.w) X.A (setItem ov iv u) (fun _ s'=>∃ H',Inv X pins σ H' s' ∧ Q H') X.xe s
section
variable {X:Cx} {pos:Pos}
def pL (i:Nat):TG:=fun v σ H Q=>Q (σ.set i (some v)) H
theorem B1 {i:Nat} {x:Str} (hN:X.N.Nodup) (hi:X.N[i]? = some x) (hx:Loc X.env.scope x) (hf:X.fn x=true ∨ X.env.scope.names.lookup x=some .local:=by first | exact .inl rfl | exact .inr rfl | assumption):PG X (.Name x pos) (pL i):= by
 intro pins s σ H v u Q I r h
 exact wpAny_assign_Name (i_ I hN hi hx r (fun s' I'=>⟨_,H,I',h⟩) hf)
def Ir:CF:=fun vs σ H Q=>vs=[]∧Q σ H
def Hr (t:TG) (u:CF):CF:=fun vs σ H Q=>∃ v r,vs=v :: r∧t v σ H fun σ' H'=>u r σ' H' Q
theorem z4:E_ X [] Ir:= by
 intro pins s σ H vs us Q I r h
 obtain ⟨e,h⟩:=h
 subst e
 cases r
 exact assignInOrder_nil ⟨σ,H,I,h⟩
theorem wy {e:Expr} {es:List Expr} {t:TG} {u:CF} (h1:PG X e t) (h2:E_ X es u)
  (hs:(assignEach (e :: es) X.env).map (·.2)=assign e X.env :: (assignEach es X.env).map (·.2):=by rfl):E_ X (e :: es) (Hr t u):= by
 intro pins s σ H vs us Q I r h
 obtain ⟨v,vr,e1,h⟩:=h
 subst e1
 cases r with
 | cons r rr=>
  rw [hs]
  refine assignInOrder_cons (cg (h1 pins s σ H _ _ _ I r h) fun _ s1 ⟨σ1,H1,I1,q1⟩=>?_)
  exact h2 pins s1 σ1 H1 _ _ Q I1 rr q1
def Jh (K:PySem.W.Frag) (n:Nat) (t:CF):TG:=fun v σ H Q=>∃ a xs,v=.ref a∧fI K H a xs∧xs.length=n∧t xs σ H Q
theorem Fx {es:List Expr} {k:Nat} {t:CF} {n:Nat} (hc:X.calm=true) (h:E_ X es t)
  (hn:(assignEach es X.env).length=n:=by rfl) (hst:(assignEach es X.env).findIdx? (·.1)=none:=by rfl):PG X (.Tuple es k pos) (Jh X.K n t):= by
 intro pins s σ H v u Q I r hw
 obtain ⟨a,xs,e1,hq,hl,hw⟩:=hw
 subst e1
 cases r
 obtain ⟨its,rv,ht,hz⟩:=I.tuple hq
 refine assign_Tuple_tuple (I.ok.hd hc) ht (by simp [hn,<- hl,rv.length]) hst fun h' hx=>?_
 have I1:Inv X pins σ H { s with heap:=h' }:=I.kept (t':=s.toks) fun b o e=>hx b o (Nat.ne_of_lt (Heap.lt_size e)) e
 exact h pins _ σ H xs _ Q I1 (by simpa using rv) hw
def IE (to ti:TE) (t:DX):TG:=fun v σ H Q=>to σ H fun o H1=>ti σ H1 fun i H2=>t o i v H2 fun H3=>Q σ H3
theorem yu {o i:Expr} {to ti:TE} {t:DX} (ho:PE X o to) (hi:PE X i ti) (hs:Hl X t)
  (ha:∀ v,assign (.Subscript o i pos) X.env v=(do
   let ov <- holding [v] (eval o X.env)
   let iv <- holding [v,ov] (eval i X.env)
   standAt pos
   holding [v,ov,iv] (setItem ov iv v)
   release [v,ov,iv] []):=by intro _;rfl):PG X (.Subscript o i pos) (IE to ti t):= by
 intro pins s σ H v u Q I r h
 rw [ha]
 refine wpAny_bind (wpAny_holding (cg (ho pins s σ H _ I h) fun ov s1 ⟨x,H1,I1,r1,q1⟩=>?_))
 refine wpAny_bind (wpAny_holding (cg (hi pins s1 σ H1 _ I1 q1) fun iv s2 ⟨y,H2,I2,r2,q2⟩=>?_))
 refine wpAny_bind (wpAny_standAt (wpAny_bind (wpAny_holding (cg (hs pins s2 σ H2 x y v ov iv u _ I2 r1 r2 r q2) fun _ s3 ⟨H3,I3,q3⟩=>?_))))
 exact wpAny_release ⟨σ,H3,I3,q3⟩
def yU (te:TE) (g:TG):TS:=fun D σ H=>te σ H fun x H1=>g x σ H1 D.nx
theorem x8 {tg e:Expr} {te:TE} {g:TG} (he:PE X e te) (hg:PG X tg g) (hs:swapsWithSole [tg] e pos.line X.env=pure false:=by rfl) (hw:swappedStores [tg] e X.env=pure none:=by rfl)
  (h1:(assignEach [tg] X.env).map (·.2)=[assign tg X.env]:=by rfl):PS X (.Assign [tg] e pos) (yU te g):= by
 intro pins s σ H D I h
 refine wpAny_Assign_stores (cg (he pins s σ H _ I h) fun v s1 ⟨x,H1,I1,r1,q1⟩=>?_) hs hw
 rw [h1]
 exact cg (hg pins s1 σ H1 x v _ I1 r1 q1) fun _ s2 q=>q
theorem yc {i:Nat} {x:Str} {e:Expr} {te:TE} {pos':Pos} (hN:X.N.Nodup) (hi:X.N[i]? = some x) (hx:Loc X.env.scope x) (he:PE X e te) (hs:swapsWith e (some (.Name x pos')) pos.line X.env=pure false:=by rfl) (hf:X.fn x=true ∨ X.env.scope.names.lookup x=some .local:=by first | exact .inl rfl | exact .inr rfl | assumption) :
  PS X (.Assign [.Name x pos'] e pos) (yU te (pL i)):= by
 intro pins s σ H D I h
 refine wpAny_Assign_Name (cg (he pins s σ H _ I h) fun v s1 ⟨y,H1,I1,r1,q1⟩=>?_) hs
 exact i_ I1 hN hi hx r1 (fun s2 I2=>⟨_,H1,I2,q1⟩) hf
def Ik (i j:Nat) (ta:TA):TS:=fun D σ H=>ta σ H fun vs H1=>∃ v w,vs=[v,w]∧D.nx ((σ.set i (some v)).set j (some w)) H1
theorem EN {i j:Nat} {x y:Str} {a b:Expr} {ta:TA} {px py pt:Pos} {kt k2 pt2} (hc:X.calm=true) (hN:X.N.Nodup) (hi:X.N[i]? = some x) (hj:X.N[j]? = some y) (hij:i ≠ j)
  (hx:X.env.scope.names.lookup x=some .local) (hy:X.env.scope.names.lookup y=some .local) (ha:PA X [a,b] ta)
  (hw:swappedStores [.Tuple [.Name x px,.Name y py] kt pt] (.Tuple [a,b] k2 pt2) X.env=pure (some [x,y]))
  (hs:swapsWithSole [.Tuple [.Name x px,.Name y py] kt pt] (.Tuple [a,b] k2 pt2) pos.line X.env=pure false:=by rfl) :
  PS X (.Assign [.Tuple [.Name x px,.Name y py] kt pt] (.Tuple [a,b] k2 pt2) pos) (Ik i j ta):= by
 intro pins s σ H D I h
 rw [exec_Assign_arm]
 refine wpAny_bind (wpAny_standAt ?_)
 rw [hs]
 refine wpAny_bind (wpAny_pure ?_)
 rw [if_neg (by decide)]
 refine wpAny_bind (Tuple_ (cg (ha _ pins s σ H _ I h) fun us s1 ⟨vs,H1,I1,r1,q1⟩=>?_))
 obtain ⟨v,w,e1,q1⟩:=q1
 subst e1
 obtain ⟨u1,u2,rfl,rv,rw'⟩:∃ u1 u2,us=[u1,u2]∧RelV v u1∧RelV w u2:= by
  cases r1 with
  | cons p q=>
   cases q with
   | cons p' q'=>
    cases q'
    exact ⟨_,_,rfl,p,p'⟩
 refine wpAny_newObj_type ?_ (by show 2 ≤ sizeLine;decide)
 have I2:Inv X pins σ H1 { s1 with heap:=s1.heap.push { cls:=.type "tuple",data:=.seq [u1,u2].toArray } }:=I1.kept (t':=s1.toks) fun b o e=>Heap.get?_push_of_some _ e
 rw [hw]
 refine wpAny_bind (wpAny_pure ?_)
 show wpAny (model X.prog X.w) X.A (do rule "assign.swapped-stores";let items <- unpackItems (.ref s1.heap.objs.size) 2 none;assignInOrder [fun v=>bindName X.env y v,fun v=>bindName X.env x v] items.reverse;pure Flow.next) _ _ _
 refine wpAny_bind (wpAny_rule (wpAny_bind (unpackItems_tuple (items:=#[u1,u2]) (I.ok.hd hc) (IsTup.new s1.heap _) fun h' hx'=>?_)))
 have I3:=I2.kept (h':=h') (t':=s1.toks) fun b o e=>hx' b o (Nat.ne_of_lt (Heap.lt_size e)) e
 show wpAny _ _ (assignInOrder [fun v=>bindName X.env y v,fun v=>bindName X.env x v] [u2,u1] >>= fun _=>pure Flow.next) _ _ _
 refine wpAny_bind (assignInOrder_cons (wpAny_bindName (i_ I3 hN hj (.inl hy) rw' (fun s2 I4=>?_) (.inr hy))))
 refine assignInOrder_cons (wpAny_bindName (i_ I4 hN hi (.inl hx) rv (fun s3 I5=>assignInOrder_nil (wpAny_pure ?_)) (.inr hx)))
 rw [List.set_comm _ _ (Ne.symm hij)] at I5
 exact ⟨_,H1,I5,q1⟩
end
section
variable {X:Cx} {pos:Pos}
def EZ (c:TT) (tb:TS):TS:=fun D σ H=>∃ W:Nat->St->Hp->Prop,(∃ m,W m σ H)∧∀ m σ H,W m σ H ->
 c σ H fun b H1=>if b=true then ∃ N:St->Hp->Prop,(∀ σ' H',N σ' H' -> ∃ m',m' < m∧W m' σ' H')∧tb { D with nx:=N,ct:=N,bk:=D.nx } σ H1 else D.nx σ H1
theorem v5 {c:Expr} {body:List Stmt} {tc:TT} {tb:TS} (hp:PassesOwn (model X.prog X.w) X.A X.env X.xe) (hc:PT X c tc) (hb:qV X body tb):PS X (.While c body [] pos) (EZ tc tb):= by
 intro pins s σ H D I h
 obtain ⟨W,⟨m0,w0⟩,turn⟩:=h
 refine wpAny_While (codeAny_whileLoop (fun n s'=>∃ σ' H',Inv X pins σ' H' s' ∧ W n σ' H') ?_ m0 ⟨σ,H,I,w0⟩)
 rintro n s1 ⟨σ1,H1,I1,w1⟩
 refine wpAny_passesOwn hp (cg (hc pins s1 σ1 H1 _ I1 (turn n σ1 H1 w1)) fun b s2 ⟨H2,I2,q2⟩=>?_)
 cases b with
 | true=>
  obtain ⟨N,hN,q2⟩:=q2
  rw [if_pos rfl]
  refine wpAny_passesOwn hp (cg (hb pins s2 σ1 H2 _ I2 q2) fun f s3 q3=>?_)
  cases f with
  | next=>
   obtain ⟨σ3,H3,I3,n3⟩:=q3
   obtain ⟨m',hm,w3⟩:=hN σ3 H3 n3
   exact ⟨m',hm,σ3,H3,I3,w3⟩
  | cont=>
   obtain ⟨σ3,H3,I3,n3⟩:=q3
   obtain ⟨m',hm,w3⟩:=hN σ3 H3 n3
   exact ⟨m',hm,σ3,H3,I3,w3⟩
  | brk=>exact q3
  | ret v=>exact q3
 | false=>
  rw [if_neg Bool.false_ne_true]
  exact wpAny_execs_nil ⟨σ1,H2,I2,q2⟩
end
structure It where
 go:Nat->Hp->Prop
 yld:Nat->Hp->V->Hp->Prop
 stop:Nat->Hp->Prop
def iw (X:Cx) (pins:List (Addr × Obj)) (H:Hp) (b:Addr):Prop :=
 H b=none∧b ≠ X.env.locals∧b ∉ X.fs∧(b ∈ X.ex ∨ X.s₀.heap.objs.size ≤ b)∧(∀ x c,X.env.cells.lookup x=some c->c ≠ b)∧∀ p ∈ X.pn ++ pins,p.1 ≠ b
theorem Inv.fpOk {X:Cx} {pins:List (Addr × Obj)} {σ:St} {H H':Hp} {s:Shared} {b:Addr} (I:Inv X pins σ H s) (hb:s.heap.objs.size ≤ b) (hn:H' b=none):iw X pins H' b:= by
 refine ⟨hn,Nat.ne_of_gt (Nat.lt_of_lt_of_le I.lt hb),I.nofs hb,.inr (Nat.le_trans I.sz hb),fun x c e z=>?_,fun p hp z=>?_⟩
 ·obtain ⟨v,q⟩:=I.cell x c e
  exact absurd (Nat.lt_of_lt_of_le q.lt (by rw [z];exact hb)) (Nat.lt_irrefl _)
 ·exact absurd (Nat.lt_of_lt_of_le (Heap.lt_size (I.pin p hp).1) (by rw [z];exact hb)) (Nat.lt_irrefl _)
structure Turn (P:Program) (w:World) (K:PySem.W.Frag) (tg:Expr) (J:It) (fp:List Addr) (it:Addr) (tn:Nat->Heap->Prop):Prop where
 mem:it ∈ fp
 obj:∀ i h,tn i h->∀ b ∈ fp,∃ o,h.get? b=some o∧∀ v,o.data ≠ .cell v
 keep:∀ i h h',tn i h->(∀ b ∈ fp,∀ o,h.get? b=some o->h'.get? b=some o)->tn i h'
 item:∀ (X:Cx),X.prog=P->X.w=w->X.K=K->X.calm=true->∀ (i:Nat) (pins:List (Addr × Obj)) (s:Shared) (σ:St) (H:Hp) (E:Value->Shared->Prop),Inv X pins σ H s->(∀ b ∈ fp,iw X pins H b)->tn i s.heap->J.go i H ->
  wpAny (model P w) X.A (pyNext (.ref it)) (fun r s1=>∃ u,r=some u ∧
   wpAny (model P w) X.A (letOwnedTupleGo tg (.ref it) u) (fun _ s2=>∃ x H',Inv X pins σ H' s2∧RelV x u∧J.yld i H x H' ∧ tn (i + 1) s2.heap∧∀ b ∈ fp,H' b=none) E s1) E s
 done:∀ (X:Cx),X.prog=P->X.w=w->X.K=K->X.calm=true->∀ (i:Nat) (pins:List (Addr × Obj)) (s:Shared) (σ:St) (H:Hp) (E:Value->Shared->Prop),Inv X pins σ H s->(∀ b ∈ fp,iw X pins H b)->tn i s.heap->J.stop i H ->
  wpAny (model P w) X.A (pyNext (.ref it)) (fun r s1=>r=none∧Inv X pins σ H s1) E s
 self:∀ (A:Around) (i:Nat) (s:Shared) (Q:Value->Shared->Prop) (E:Value->Shared->Prop),tn i s.heap->Q (.ref it) s->wpAny (model P w) A (pyIter (.ref it)) Q E s
abbrev TI:=St->Hp->(It->Hp->Prop)->Prop
def Jw (X:Cx) (pins:List (Addr × Obj)) (σ:St) (tg:Expr) (R:It->Hp->Prop) (itv:Value) (s2:Shared):Prop :=
 ∃ (it:Addr) (fp:List Addr) (tn:Nat->Heap->Prop) (J:It) (H':Hp),itv=.ref it∧Inv X pins σ H' s2∧Turn X.prog X.w X.K tg J fp it tn∧tn 0 s2.heap∧(∀ b ∈ fp,iw X pins H' b)∧R J H'
def PI (X:Cx) (tg iter:Expr) (wi:TI):Prop :=
 ∀ (pins:List (Addr × Obj)) (s:Shared) (σ:St) (H:Hp) (R:It->Hp->Prop),Inv X pins σ H s->wi σ H R ->
  wpAny (model X.prog X.w) X.A (eval iter X.env) (fun v s1=>wpAny (model X.prog X.w) X.A (pyIter v) (Jw X pins σ tg R) X.xe s1) X.xe s
theorem x3 {M:Model} {A:Around} {E:Value->Shared->Prop} {s:Shared} {tg:Expr} {it:Addr} {u:Value} {o:Obj} {n:String} {vs:Array Value} {Q:Unit->Shared->Prop} (ho:s.heap.get? it=some o) (hc:o.cls=.type n) (hd:o.data=.fields vs)
  (hn:["enumerate","zip","dict_itemiterator","dict_reverseitemiterator","odict_iterator","itertools.zip_longest","itertools.pairwise"].contains n=false) (hQ:Q () s):wpAny M A (letOwnedTupleGo tg (.ref it) u) Q E s:= by
 unfold letOwnedTupleGo
 cases tg <;> first
  | exact wpAny_pure hQ
  | (cases u <;> first
    | exact wpAny_pure hQ
    | (refine wpAny_bind (wpAny_load ho ?_)
       rw [hc,hd]
       show wpAny M A (if (["enumerate","zip","dict_itemiterator","dict_reverseitemiterator","odict_iterator","itertools.zip_longest","itertools.pairwise"].contains n && vs[0]? == some (rawInt _))=true then _ else _) Q E s
       rw [if_neg (by intro h;rw [hn,Bool.false_and] at h;cases h)]
       exact wpAny_pure hQ))
def HX (K:PySem.W.Frag) (a:Addr):It :=
 ⟨fun i H=>∃ xs x,gn K H a xs∧xs[i]? = some x,fun i H x H'=>H' = H∧∀ xs,gn K H a xs->xs[i]? = some x,fun i H=>∃ xs,gn K H a xs∧xs.length ≤ i⟩
def Jf (K:PySem.W.Frag) (a:Addr):It :=
 ⟨fun i H=>∃ xs x,fI K H a xs∧xs[i]? = some x,fun i H x H'=>H' = H∧∀ xs,fI K H a xs->xs[i]? = some x,fun i H=>∃ xs,fI K H a xs∧xs.length ≤ i⟩
def GV (lo:Int) (n:Nat):It:=⟨fun i _=>i < n,fun i H x H'=>H' = H∧x=.int (lo + i),fun i _=>n ≤ i⟩
theorem ny {P:Program} {w:World} {K:PySem.W.Frag} {tg:Expr} (a it:Addr):Turn P w K tg (HX K a) [it] it (fun i h=>h.IsListIter it a i) where
 mem:=by simp
 obj:=fun i h st b hb=>by
  have e:b=it:=by simpa using hb
  subst e
  obtain ⟨o,e,c,d⟩:=st
  exact ⟨o,e,fun v z=>by rw [d] at z;cases z⟩
 keep:=fun i h h' st k=>st.at fun o e=>k it (by simp) o e
 item:= by
  intro X hP hw hK hc i pins s σ H E I hf st hg
  subst hP hw hK
  obtain ⟨xs,x,hq,hx⟩:=hg
  obtain ⟨its,rv,p,hz⟩:=I.list hq
  obtain ⟨u,hu,ru⟩:=rv.get hx
  obtain ⟨f0,f1,f2,f3,f4,f5⟩:=hf it (by simp)
  refine wpAny_pyNext_list_item st p.isList (x:=u) (by simpa using hu) fun h' st' sb=>?_
  have I1:Inv X pins σ H { s with heap:=h' }:=I.turned (t':=s.toks) (fun b o hb e=>(sb.2 b hb).trans e) f0 f1 f3 f4 f5
  obtain ⟨o,e,c,d⟩:=id st'
  exact ⟨u,rfl,x3 (s:={ s with heap:=h' }) e c d (by decide) ⟨x,H,I1,ru,⟨rfl,fun ys hy=>by rw [I.list_inj hy hq];exact hx⟩,st',fun b hb=>(hf b hb).1⟩⟩
 done:= by
  intro X hP hw hK hc i pins s σ H E I hf st hg
  subst hP hw hK
  obtain ⟨xs,hq,hx⟩:=hg
  obtain ⟨its,rv,p,hz⟩:=I.list hq
  obtain ⟨f0,f1,f2,f3,f4,f5⟩:=hf it (by simp)
  have hl:=rv.length
  exact wpAny_pyNext_list_end (I.ok.hd hc) st p.isList (by simp;omega) fun h' eb=>⟨rfl,I.turned (t':=s.toks) (fun b o hb e=>eb b o hb e) f0 f1 f3 f4 f5⟩
 self:=fun _ _ _ _ _ st h=>wpAny_pyIter_listiter st h
theorem sL {P:Program} {w:World} {K:PySem.W.Frag} {tg:Expr} (a it:Addr):Turn P w K tg (Jf K a) [it] it (fun i h=>h.IsTupleIter it a i) where
 mem:=by simp
 obj:=fun i h st b hb=>by
  have e:b=it:=by simpa using hb
  subst e
  obtain ⟨o,e,c,d⟩:=st
  exact ⟨o,e,fun v z=>by rw [d] at z;cases z⟩
 keep:=fun i h h' st k=>st.at fun o e=>k it (by simp) o e
 item:= by
  intro X hP hw hK hc i pins s σ H E I hf st hg
  subst hP hw hK
  obtain ⟨xs,x,hq,hx⟩:=hg
  obtain ⟨its,rv,p,hz⟩:=I.tuple hq
  obtain ⟨u,hu,ru⟩:=rv.get hx
  obtain ⟨f0,f1,f2,f3,f4,f5⟩:=hf it (by simp)
  refine wpAny_pyNext_tuple_item st (show s.heap.IsTuple a its.toArray from p) (x:=u) (by simpa using hu) fun h' st' sb=>?_
  have I1:Inv X pins σ H { s with heap:=h' }:=I.turned (t':=s.toks) (fun b o hb e=>(sb.2 b hb).trans e) f0 f1 f3 f4 f5
  obtain ⟨o,e,c,d⟩:=id st'
  exact ⟨u,rfl,x3 (s:={ s with heap:=h' }) e c d (by decide) ⟨x,H,I1,ru,⟨rfl,fun ys hy=>by rw [I.tuple_inj hy hq];exact hx⟩,st',fun b hb=>(hf b hb).1⟩⟩
 done:= by
  intro X hP hw hK hc i pins s σ H E I hf st hg
  subst hP hw hK
  obtain ⟨xs,hq,hx⟩:=hg
  obtain ⟨its,rv,p,hz⟩:=I.tuple hq
  obtain ⟨f0,f1,f2,f3,f4,f5⟩:=hf it (by simp)
  have hl:=rv.length
  exact wpAny_pyNext_tuple_end (I.ok.hd hc) st (show s.heap.IsTuple a its.toArray from p) (by simp;omega) fun h' eb=>⟨rfl,I.turned (t':=s.toks) (fun b o hb e=>eb b o hb e) f0 f1 f3 f4 f5⟩
 self:=fun _ _ _ _ _ st h=>wpAny_pyIter_tupleiter st h
theorem sY {P:Program} {w:World} {K:PySem.W.Frag} {tg:Expr} (it:Addr) (lo:Int) (n:Nat):Turn P w K tg (GV lo n) [it] it (fun i h=>IsRangeIter h it (lo + (i:Nat) * 1) ((n:Int) - (i:Nat)) 1) where
 mem:=by simp
 obj:=fun i h st b hb=>by
  have e:b=it:=by simpa using hb
  subst e
  exact ⟨_,st,fun v z=>by
   have z':Data.fields _=Data.cell v:=z
   cases z'⟩
 keep:=fun i h h' st k=>k it (by simp) _ st
 item:= by
  intro X hP hw hK hc i pins s σ H E I hf st hg
  subst hP hw hK
  obtain ⟨f0,f1,f2,f3,f4,f5⟩:=hf it (by simp)
  have W:=Walks.range (prog:=X.prog) (w:=X.w) (I.ok.hd hc) it lo 1 n
  refine W.item i s _ _ hg st fun v h' tk hv st' kk=>?_
  obtain ⟨t,rfl⟩:=hv
  have I1:Inv X pins σ H { s with heap:=h',toks:=tk }:=I.turned (fun b o hb e=>kk b o (by simpa using hb) e) f0 f1 f3 f4 f5
  refine ⟨_,rfl,x3 (s:={ s with heap:=h',toks:=tk }) (n:="range_iterator") st' rfl rfl (by decide) ⟨.int (lo + i),H,I1,⟨t,?_⟩,⟨rfl,rfl⟩,st',fun b hb=>(hf b hb).1⟩⟩
  rw [Int.mul_one]
 done:= by
  intro X hP hw hK hc i pins s σ H E I hf st hg
  subst hP hw hK
  obtain ⟨f0,f1,f2,f3,f4,f5⟩:=hf it (by simp)
  exact wpAny_pyNext_range_end (I.ok.hd hc) st (by have:n ≤ i:=hg;omega) fun h' eb=>⟨rfl,I.turned (t':=s.toks) (fun b o hb e=>eb b o hb e) f0 f1 f3 f4 f5⟩
 self:=fun _ _ _ _ _ st h=>wpAny_pyIter_rangeiter st h
end L2
namespace L2
open PySem PySem.Spec PyProof.Rows
section
variable {X:Cx} {tg:Expr}
def Gr (K:PySem.W.Frag) (tl:TE):TI:=fun σ H R=>tl σ H fun x H1=>∃ a,x=.ref a∧(∃ xs,gn K H1 a xs)∧R (HX K a) H1
theorem AZ {l:Expr} {tl:TE} (hl:PE X l tl):PI X tg l (Gr X.K tl):= by
 intro pins s σ H R I h
 refine cg (hl pins s σ H _ I h) fun v s1 ⟨x,H1,I1,r1,q1⟩=>?_
 obtain ⟨a,e,⟨xs,hq⟩,q⟩:=q1
 subst e
 cases r1
 obtain ⟨its,rv,p,hz⟩:=I1.list hq
 refine wpAny_pyIter_list p.isList ?_
 refine ⟨s1.heap.objs.size,[s1.heap.objs.size],_,_,H1,rfl,I1.kept (t':=s1.toks) fun b o e=>Heap.get?_push_of_some _ e,ny a _,⟨_,Heap.get?_push_size _ rfl,rfl,rfl⟩,fun b hb=>?_,q⟩
 have e:b=s1.heap.objs.size:=by simpa using hb
 subst e
 exact I1.fpOk (Nat.le_refl _) (I1.hok.fresh (Nat.le_refl _))
theorem pk {pins:List (Addr × Obj)} {σ:St} {H:Hp} {s:Shared} {R:It->Hp->Prop} {E:Value->Shared->Prop} {lo hi:Int} {t u v:Tok} {tk:Nat} (I:Inv X pins σ H s) (h1:-(2 ^ 62) ≤ lo) (h2:lo < 2 ^ 62) (h3:-(2 ^ 62) ≤ hi) (h4:hi < 2 ^ 62)
  (q:R (GV lo (hi - lo).toNat) H):wpAny (model X.prog X.w) X.A (pyIter (.ref s.heap.objs.size)) (Jw X pins σ tg R) E { s with heap:=s.heap.push { cls:=.type "range",data:=.fields #[.int lo t,.int hi u,.int 1 v] },toks:=tk }:= by
 refine wpAny_pyIter_range (IsRange.new ..) (small_one h1 h2 h3 h4) ?_
 have I1:Inv X pins σ H { s with heap:=s.heap.push { cls:=.type "range",data:=.fields #[.int lo t,.int hi u,.int 1 v] },toks:=tk }:=I.kept fun b o e=>Heap.get?_push_of_some _ e
 refine ⟨(s.heap.push { cls:=.type "range",data:=.fields #[.int lo t,.int hi u,.int 1 v] }).objs.size,[(s.heap.push { cls:=.type "range",data:=.fields #[.int lo t,.int hi u,.int 1 v] }).objs.size],_,_,H,rfl,
  I1.kept (t':=tk) fun b o e=>Heap.get?_push_of_some _ e,sY _ lo (hi - lo).toNat,?_,fun b hb=>?_,q⟩
 ·have e1:lo + ((0:Nat):Int) * 1=lo:=by simp
  have e2:(((hi - lo).toNat:Nat):Int) - ((0:Nat):Int)=Builtin.Range.rangeSize lo hi 1:=by rw [rangeSize_one];split <;> omega
  show IsRangeIter _ _ (lo + ((0:Nat):Int) * 1) ((((hi - lo).toNat:Nat):Int) - ((0:Nat):Int)) 1
  rw [e1,e2]
  exact Heap.get?_push_size _ rfl
 ·have e:b=(s.heap.push { cls:=.type "range",data:=.fields #[.int lo t,.int hi u,.int 1 v] }).objs.size:=by simpa using hb
  subst e
  exact I1.fpOk (Nat.le_refl _) (I1.hok.fresh (Nat.le_refl _))
def HC (ta:TA):TI:=fun σ H R=>ta σ H fun vs H1=>∃ j:Int,vs=[.int j] ∧ -(2 ^ 62) ≤ j∧j < 2 ^ 62∧R (GV 0 j.toNat) H1
def Hc (ta:TA):TI:=fun σ H R=>ta σ H fun vs H1=>∃ i j:Int,vs=[.int i,.int j]∧(-(2 ^ 62) ≤ i∧i < 2 ^ 62 ∧ -(2 ^ 62) ≤ j∧j < 2 ^ 62)∧R (GV i (j - i).toNat) H1
theorem vf {a:Expr} {ta:TA} {p pos:Pos} (hg:Gl X "range") (hm:X.mg "range" = none) (ha:PA X [a] ta) (hs:starEach [a] X.env=[(false,eval a X.env)]:=by rfl):PI X tg (.Call (.Name "range" p) [a] [] pos) (HC ta):= by
 intro pins s σ H R I h
 refine Call_ (gD I hg hm boot_range (PyProof.Rows.callWith_type1 (cg (ha pos pins s σ H _ I h) fun us s1 ⟨vs,H1,I1,r1,q1⟩=>?_) hs rfl))
 obtain ⟨j,e,q1,q2,q⟩:=q1
 subst e
 cases r1 with
 | cons r rr=>
  cases rr
  obtain ⟨t,rfl⟩:=r
  exact call_range_1 (pk I1 (by omega) (by omega) q1 q2 (by simpa using q))
theorem vK {a b:Expr} {ta:TA} {p pos:Pos} (hg:Gl X "range") (hm:X.mg "range" = none) (ha:PA X [a,b] ta) (hs:starEach [a,b] X.env=[(false,eval a X.env),(false,eval b X.env)]:=by rfl) (hs2:starEach [b] X.env=[(false,eval b X.env)]:=by rfl) :
  PI X tg (.Call (.Name "range" p) [a,b] [] pos) (Hc ta):= by
 intro pins s σ H R I h
 refine Call_ (gD I hg hm boot_range (PyProof.Rows.callWith_type1 (cg (ha pos pins s σ H _ I h) fun us s1 ⟨vs,H1,I1,r1,q1⟩=>?_) (by rw [hs,hs2]) (by rw [hs2];rfl)))
 obtain ⟨i,j,e,⟨q1,q2,q3,q4⟩,q⟩:=q1
 subst e
 cases r1 with
 | cons r rr=>
  cases rr with
  | cons r' rr=>
   cases rr
   obtain ⟨t,rfl⟩:=r
   obtain ⟨t',rfl⟩:=r'
   exact call_range_2 (pk I1 q1 q2 q3 q4 q)
def Jm (wi:TI) (g:TG) (tb:TS):TS:=fun D σ H=>wi σ H fun J H1=>∃ W:Nat->Nat->St->Hp->Prop,(∃ m,W 0 m σ H1)∧∀ i m σ H,W i m σ H ->
 (J.stop i H∧D.nx σ H) ∨ (J.go i H∧∃ N:St->Hp->Prop,(∀ σ' H',N σ' H' -> ∃ m',m' < m∧W (i + 1) m' σ' H')∧∀ x H',J.yld i H x H' -> g x σ H' fun σ2 H2=>tb { D with nx:=N,ct:=N,bk:=D.nx } σ2 H2)
def kX (fp:List Addr) (h:Heap):List (Addr × Obj):=fp.filterMap fun b=>(h.get? b).map fun o=>(b,o)
theorem fY {fp:List Addr} {h:Heap} {b:Addr} {o:Obj} (hb:b ∈ fp) (e:h.get? b=some o):(b,o) ∈ kX fp h:=List.mem_filterMap.mpr ⟨b,hb,by rw [e];rfl⟩
theorem vo {fp:List Addr} {h:Heap} {p:Addr × Obj} (hp:p ∈ kX fp h):p.1 ∈ fp∧h.get? p.1=some p.2:= by
 obtain ⟨b,hb,e⟩:=List.mem_filterMap.mp hp
 cases q:h.get? b with
 | none=>rw [q] at e;cases e
 | some o=>
  rw [q] at e
  have e':(b,o)=p:=Option.some.inj e
  subst e'
  exact ⟨hb,q⟩
theorem Inv.pinned {pins:List (Addr × Obj)} {σ:St} {H:Hp} {s:Shared} {fp:List Addr} (I:Inv X pins σ H s) (hf:∀ b ∈ fp,iw X pins H b) (ho:∀ b ∈ fp,∃ o,s.heap.get? b=some o∧∀ v,o.data ≠ .cell v):Inv X (pins ++ kX fp s.heap) σ H s :=
 I.pins_of fun p hp=>(List.mem_append.mp hp).elim (fun z=>I.pin p (List.mem_append_right _ z)) fun z=>by
  obtain ⟨hb,e⟩:=vo z
  obtain ⟨f0,f1,f2,_⟩:=hf p.1 hb
  obtain ⟨o,e',d⟩:=ho p.1 hb
  rw [e] at e';cases e'
  exact ⟨e,f0,f1,f2,d⟩
theorem Inv.unpinned {pins pl:List (Addr × Obj)} {σ:St} {H:Hp} {s:Shared} (I:Inv X (pins ++ pl) σ H s):Inv X pins σ H s:=I.pins_of fun p hp=>I.pin p (List.mem_append_right _ (List.mem_append_left _ hp))
theorem E4 {iter:Expr} {body:List Stmt} {wi:TI} {g:TG} {tb:TS} {pos:Pos} (hp:PassesOwn (model X.prog X.w) X.A X.env X.xe) (hc:X.calm=true) (hi:PI X tg iter wi) (hg:PG X tg g) (hb:qV X body tb)
  (hs:∀ x,foldedSetIterable iter X.env x=pure x:=by intro _;rfl):PS X (.For tg iter body [] pos) (Jm wi g tb):= by
 intro pins s σ H D I h
 refine wpAny_For (cg (hi pins s σ H _ I h) fun v s1 h1=>cg h1 fun itv s2 h2=>?_) hs
 obtain ⟨it,fp,tn,J,H2,e,I2,T,st2,f2,W,⟨m0,w0⟩,turn⟩:=h2
 subst e
 have stat:∀ {H':Hp},(∀ b ∈ fp,H' b=none)->∀ b ∈ fp,iw X pins H' b:=fun hn b hb=>⟨hn b hb,(f2 b hb).2⟩
 refine codeAny_forLoop_any (fun n s'=>∃ i σ' H',Inv X pins σ' H' s' ∧ tn i s'.heap∧(∀ b ∈ fp,H' b=none)∧W i n σ' H') ?_ m0 ⟨0,σ,H2,I2,st2,fun b hb=>(f2 b hb).1,w0⟩
 rintro n s3 ⟨i,σ3,H3,I3,st3,fr3,w3⟩
 rcases turn i n σ3 H3 w3 with ⟨stop,qn⟩ | ⟨go,N,hN,step⟩
 ·refine wpAny_passesOwn hp (cg (T.done X rfl rfl rfl hc i pins s3 σ3 H3 X.xe I3 (stat fr3) st3 stop) fun r s4 ⟨hr,I4⟩=>?_)
  subst hr
  exact wpAny_execs_nil ⟨σ3,H3,I4,qn⟩
 ·refine wpAny_passesOwn hp (cg (T.item X rfl rfl rfl hc i pins s3 σ3 H3 X.xe I3 (stat fr3) st3 go) fun r s4 ⟨u,hr,h4⟩=>?_)
  subst hr
  refine wpAny_passesOwn hp (cg h4 fun _ s5 ⟨x,H5,I5,r5,y5,st5,fr5⟩=>?_)
  have I5':=I5.pinned (stat fr5) (T.obj _ _ st5)
  refine wpAny_passesOwn hp (cg (hg _ s5 σ3 H5 x u _ I5' r5 (step x H5 y5)) fun _ s6 ⟨σ6,H6,I6,q6⟩=>?_)
  refine wpAny_passesOwn hp (cg (hb _ s6 σ6 H6 _ I6 q6) fun f s7 q7=>?_)
  have again:∀ {σ7:St} {H7:Hp},Inv X (pins ++ kX fp s5.heap) σ7 H7 s7->N σ7 H7->∃ m,m < n∧∃ i σ' H',Inv X pins σ' H' s7∧tn i s7.heap∧(∀ b ∈ fp,H' b=none)∧W i m σ' H':=fun {σ7 H7} I7 n7=>by
   obtain ⟨m',hm,w7⟩:=hN σ7 H7 n7
   refine ⟨m',hm,i + 1,σ7,H7,I7.unpinned,T.keep _ _ _ st5 fun b hb o e=>(I7.pin (b,o) (List.mem_append_right _ (List.mem_append_right _ (fY hb e)))).1,fun b hb=>?_,w7⟩
   obtain ⟨o,e,d⟩:=T.obj _ _ st5 b hb
   exact (I7.pin (b,o) (List.mem_append_right _ (List.mem_append_right _ (fY hb e)))).2.1
  cases f with
  | next=>obtain ⟨σ7,H7,I7,n7⟩:=q7;exact again I7 n7
  | cont=>obtain ⟨σ7,H7,I7,n7⟩:=q7;exact again I7 n7
  | brk=>obtain ⟨σ7,H7,I7,q7⟩:=q7;exact ⟨σ7,H7,I7.unpinned,q7⟩
  | ret v=>obtain ⟨x7,σ7,H7,I7,r7,q7⟩:=q7;exact ⟨x7,σ7,H7,I7.unpinned,r7,q7⟩
end
end L2
namespace L2
open PySem PySem.Spec PyProof.Rows
abbrev R2:=V->V->Hp->VK->Prop
def gc (X:Cx) (f:Value->Value->Sem Value) (r:R2):Prop :=
 ∀ (pins:List (Addr × Obj)) (s:Shared) (σ:St) (H:Hp) (x y:V) (v u:Value) (Q:VK),Inv X pins σ H s->RelV x v->RelV y u->r x y H Q ->
  wpAny (model X.prog X.w) X.A (f v u) (EP X pins σ Q) X.xe s
def IA (X:Cx) (f:Value->Sem Value) (r:V->Hp->VK->Prop):Prop :=
 ∀ (pins:List (Addr × Obj)) (s:Shared) (σ:St) (H:Hp) (x:V) (v:Value) (Q:VK),Inv X pins σ H s->RelV x v->r x H Q ->
  wpAny (model X.prog X.w) X.A (f v) (EP X pins σ Q) X.xe s
def cP (X:Cx) (f:Value) (r:List V->Hp->VK->Prop):Prop :=
 ∀ (pins:List (Addr × Obj)) (s:Shared) (σ:St) (H:Hp) (xs:List V) (us:List Value) (Q:VK),Inv X pins σ H s->Vals xs us->r xs H Q ->
  wpAny (model X.prog X.w) X.A (call f us) (EP X pins σ Q) X.xe s
def IZ (X:Cx) (r:V->Hp->(Bool->Hp->Prop)->Prop):Prop :=
 ∀ (pins:List (Addr × Obj)) (s:Shared) (σ:St) (H:Hp) (x:V) (v:Value) (Q:Bool->Hp->Prop),Inv X pins σ H s->RelV x v->r x H Q ->
  wpAny (model X.prog X.w) X.A (truthy v) (TP X pins σ Q) X.xe s
def C1 (r:R2) (ta tb:TE):TE:=fun σ H Q=>ta σ H fun x H1=>tb σ H1 fun y H2=>r x y H2 Q
def JF (r:V->Hp->VK->Prop) (ta:TE):TE:=fun σ H Q=>ta σ H fun x H1=>r x H1 Q
def rI (C:Int->Int->Prop) (g:Int->Int->V):R2:=fun x y H Q=>∃ i j,x=.int i∧y=.int j∧C i j∧Q (g i j) H
def vW (g:Int->Int->V):R2:=fun x y H Q=>∃ i j,x=.int i∧y=.int j∧Q (g i j) H
def rU (g:Int->V):V->Hp->VK->Prop:=fun x H Q=>∃ i,x=.int i∧Q (g i) H
section
variable {X:Cx} {a b c:Expr} {ta tb tc:TE} {pos:Pos}
theorem E9 (ha:PE X a ta) (hb:PE X b tb) {pins:List (Addr × Obj)} {s:Shared} {σ:St} {H:Hp} {R:V->V->Hp->Prop} (I:Inv X pins σ H s)
  (h:ta σ H fun x H1=>tb σ H1 fun y H2=>R x y H2) {Q:Value->Shared->Prop} {f:Value->Value->Sem Value}
  (hf:∀ v u s2 x y H2,Inv X pins σ H2 s2->RelV x v->RelV y u->R x y H2->wpAny (model X.prog X.w) X.A (f v u) Q X.xe s2) :
  wpAny (model X.prog X.w) X.A (eval a X.env) (fun v s₁=>wpAny (model X.prog X.w) X.A (eval b X.env) (fun u s₂=>wpAny (model X.prog X.w) X.A (f v u) Q X.xe s₂) X.xe s₁) X.xe s:= by
 refine cg (ha pins s σ H _ I h) fun v s1 ⟨x,H1,I1,r1,q1⟩=>?_
 refine cg (hb pins s1 σ H1 _ I1 q1) fun u s2 ⟨y,H2,I2,r2,q2⟩=>?_
 exact hf v u s2 x y H2 I2 r1 r2 q2
theorem CJ {op:Operator} {r:R2} (ho:gc X (binaryOp op) r) (ha:PE X a ta) (hb:PE X b tb):PE X (.BinOp a op b pos) (C1 r ta tb):= by
 intro pins s σ H Q I h
 exact wpAny_BinOp (E9 ha hb I h fun v u s2 x y H2 I2 rx ry q=>ho pins s2 σ H2 x y v u Q I2 rx ry q)
theorem Cy {op:UnaryOp} {r:V->Hp->VK->Prop} (ho:IA X (unaryOp op) r) (ha:PE X a ta):PE X (.UnaryOp op a pos) (JF r ta):= by
 intro pins s σ H Q I h
 exact UnaryOp_ (cg (ha pins s σ H _ I h) fun v s1 ⟨x,H1,I1,r1,q1⟩=>ho pins s1 σ H1 x v Q I1 r1 q1)
theorem HJ {f:Value->Value->Sem Value} {C:Int->Int->Prop} {g:Int->Int->Int}
  (rule:∀ (i j:Int) (t u:Tok) (s:Shared) (Q:Value->Shared->Prop) (E:Value->Shared->Prop),C i j->Q (.int (g i j) s.toks) { s with toks:=s.toks + 1 }->wpAny (model X.prog X.w) X.A (f (.int i t) (.int j u)) Q E s) :
  gc X f (rI C fun i j=>.int (g i j)):= by
 intro pins s σ H x y v u Q I rx ry h
 obtain ⟨i,j,rfl,rfl,hc,q⟩:=h
 obtain ⟨t,rfl⟩:=rx
 obtain ⟨t',rfl⟩:=ry
 exact rule i j t t' s _ _ hc ⟨.int (g i j),H,I.tok _,⟨_,rfl⟩,q⟩
theorem G8 {f:Value->Value->Sem Value} {g:Int->Int->Int}
  (rule:∀ (i j:Int) (t u:Tok) (s:Shared) (Q:Value->Shared->Prop) (E:Value->Shared->Prop),Q (.int (g i j) s.toks) { s with toks:=s.toks + 1 }->wpAny (model X.prog X.w) X.A (f (.int i t) (.int j u)) Q E s) :
  gc X f (vW fun i j=>.int (g i j)):= by
 intro pins s σ H x y v u Q I rx ry h
 obtain ⟨i,j,rfl,rfl,q⟩:=h
 obtain ⟨t,rfl⟩:=rx
 obtain ⟨t',rfl⟩:=ry
 exact rule i j t t' s _ _ ⟨.int (g i j),H,I.tok _,⟨_,rfl⟩,q⟩
theorem zD {f:Value->Value->Sem Value} {g:Int->Int->Bool}
  (rule:∀ (i j:Int) (t u:Tok) (s:Shared) (Q:Value->Shared->Prop) (E:Value->Shared->Prop),Q (.bool (g i j)) s->wpAny (model X.prog X.w) X.A (f (.int i t) (.int j u)) Q E s) :
  gc X f (vW fun i j=>.bl (g i j)):= by
 intro pins s σ H x y v u Q I rx ry h
 obtain ⟨i,j,rfl,rfl,q⟩:=h
 obtain ⟨t,rfl⟩:=rx
 obtain ⟨t',rfl⟩:=ry
 exact rule i j t t' s _ _ ⟨.bl (g i j),H,I,rfl,q⟩
def D3 (i j:Int):Prop:=0 < j∧j < 1073741824
def IG (i j:Int):Prop:=0 ≤ j∧j ≤ 1000000∧i.natAbs < 2 ^ 64
def E3 (i j:Int):Prop:=(-(2 ^ 64) < i∧i < 2 ^ 64) ∨ (-(2 ^ 64) < j∧j < 2 ^ 64)
theorem E3.ok {i j:Int} (h:E3 i j):IntMulOk i j:= by
 rcases h with ⟨h1,h2⟩ | ⟨h1,h2⟩
 ·exact .of_left (intBits_le_64 h1 h2)
 ·exact .of_right (intBits_le_64 h1 h2)
theorem Dv:gc X (binaryOp .Add) (vW fun i j=>.int (i + j)):=G8 fun _ _ _ _ _ _ _ q=>add_int q
theorem E7:gc X (binaryOp .Sub) (vW fun i j=>.int (i - j)):=G8 fun _ _ _ _ _ _ _ q=>sub_int q
theorem Ej:gc X (binaryOp .Mult) (rI E3 fun i j=>.int (i * j)):=HJ fun _ _ _ _ _ _ _ hc q=>mul_int q hc.ok
theorem Bu:gc X (binaryOp .FloorDiv) (rI D3 fun i j=>.int (i / j)):=HJ fun i j _ _ _ _ _ hc q=>by
 have h1:(0:Int) < j:=hc.1
 have h2:j < 1073741824:=hc.2
 exact floordiv_int (by omega) (by rw [Int.fdiv_eq_ediv_of_nonneg i (by omega)];exact q) (.inl (PyProof.noPylong_small (by omega)))
theorem Dw:gc X (binaryOp .Mod) (rI (fun _ j=>0 < j) fun i j=>.int (i % j)):=HJ fun i j _ _ _ _ _ hc q=>by
 have h1:(0:Int) < j:=hc
 exact mod_int' (by omega) (by rw [Int.fmod_eq_emod_of_nonneg i (by omega)];exact q)
theorem Dx:gc X (binaryOp .Pow) (rI IG fun i j=>.int (i ^ j.toNat)):=HJ fun _ _ _ _ _ _ _ hc q=>pow_int_small hc.1 hc.2.1 hc.2.2 q
theorem JU {f:Value->Sem Value} {g:Int->Int}
  (rule:∀ (i:Int) (t:Tok) (s:Shared) (Q:Value->Shared->Prop) (E:Value->Shared->Prop),Q (.int (g i) s.toks) { s with toks:=s.toks + 1 }->wpAny (model X.prog X.w) X.A (f (.int i t)) Q E s) :
  IA X f (rU fun i=>.int (g i)):= by
 intro pins s σ H x v Q I rx h
 obtain ⟨i,rfl,q⟩:=h
 obtain ⟨t,rfl⟩:=rx
 exact rule i t s _ _ ⟨.int (g i),H,I.tok _,⟨_,rfl⟩,q⟩
theorem yQ:IA X (unaryOp .USub) (rU fun i=>.int (-i)):=JU fun _ _ _ _ _ q=>neg_int q
end
def l0:V->V->Bool
 | .non,.non=>true | .non,.int _=>true | .int _,.non=>true | .non,.bl _=>true | .bl _,.non=>true | .non,.str _=>true | .str _,.non=>true
 | .int _,.int _=>true | .bl _,.bl _=>true | .str _,.str _=>true | .byt _,.byt _=>true
 | .int _,.str _=>true | .str _,.int _=>true | .bl _,.str _=>true | .str _,.bl _=>true
 | _,_=>false
def Iz:R2:=fun x y H Q=>l0 x y=true∧Q (.bl (decide (x=y))) H
def Jk:R2:=fun x y H Q=>l0 x y=true∧Q (.bl (!decide (x=y))) H
theorem uB {i j:Int}:decide (V.int i=V.int j)=(i == j):= by
 rw [Bool.eq_iff_iff]
 simp
theorem yx {i j:Bool}:decide (V.bl i=V.bl j)=(i == j):= by
 rw [Bool.eq_iff_iff]
 simp
theorem uE {i j:Str}:decide (V.str i=V.str j)=(i == j):= by
 rw [Bool.eq_iff_iff]
 simp
theorem tw {i j:Array UInt8}:decide (V.byt i=V.byt j)=(i.toList == j.toList):= by
 rw [Bool.eq_iff_iff]
 cases i
 cases j
 simp
section
variable {X:Cx} {a b c:Expr} {ta tb tc:TE} {pos:Pos}
theorem bt {pins:List (Addr × Obj)} {σ:St} {H:Hp} {s:Shared} {Q:VK} {k k':Bool} (I:Inv X pins σ H s) (q:Q (.bl k) H) (e:k=k'):EP X pins σ Q (.bool k') s:= by
 subst e
 exact ⟨.bl k,H,I,rfl,q⟩
theorem wq:gc X (compareOp .Eq) Iz:= by
 intro pins s σ H x y v u Q I rx ry h
 obtain ⟨hs,q⟩:=h
 cases x with
 | non=>
  cases rx
  cases y with
  | non=>cases ry;exact PySem.EqNone.eq_none_none (bt I q (by simp))
  | bl j=>cases ry;exact PySem.EqNone.eq_none_bool (bt I q (by simp))
  | int j=>obtain ⟨t',rfl⟩:=ry;exact PySem.EqNone.eq_none_int (bt I q (by simp))
  | str j=>obtain ⟨t',rfl⟩:=ry;exact PySem.EqNone.eq_none_str (bt I q (by simp))
  | _=>exact absurd (show false=true from hs) Bool.false_ne_true
 | bl i=>
  cases rx
  cases y with
  | non=>cases ry;exact PySem.EqNone.eq_bool_none (bt I q (by simp))
  | bl j=>cases ry;exact eq_bool (bt I q yx)
  | str j=>obtain ⟨t',rfl⟩:=ry;exact PySem.EqMixed.eq_bool_str (bt I q (by simp))
  | _=>exact absurd (show false=true from hs) Bool.false_ne_true
 | int i=>
  obtain ⟨t,rfl⟩:=rx
  cases y with
  | non=>cases ry;exact PySem.EqNone.eq_int_none (bt I q (by simp))
  | int j=>obtain ⟨t',rfl⟩:=ry;exact eq_int (bt I q uB)
  | str j=>obtain ⟨t',rfl⟩:=ry;exact PySem.EqMixed.eq_int_str (bt I q (by simp))
  | _=>exact absurd (show false=true from hs) Bool.false_ne_true
 | str i=>
  obtain ⟨t,rfl⟩:=rx
  cases y with
  | non=>cases ry;exact PySem.EqNone.eq_str_none (bt I q (by simp))
  | bl j=>cases ry;exact PySem.EqMixed.eq_str_bool (bt I q (by simp))
  | int j=>obtain ⟨t',rfl⟩:=ry;exact PySem.EqMixed.eq_str_int (bt I q (by simp))
  | str j=>obtain ⟨t',rfl⟩:=ry;exact eq_str (bt I q uE)
  | _=>exact absurd (show false=true from hs) Bool.false_ne_true
 | byt i=>
  obtain ⟨t,rfl⟩:=rx
  cases y with
  | byt j=>obtain ⟨t',rfl⟩:=ry;exact PySem.W.eq_bytes (bt I q tw)
  | _=>exact absurd (show false=true from hs) Bool.false_ne_true
 | _=>cases y <;> exact absurd (show false=true from hs) Bool.false_ne_true
theorem CU:gc X (compareOp .NotEq) Jk:= by
 intro pins s σ H x y v u Q I rx ry h
 obtain ⟨hs,q⟩:=h
 cases x with
 | non=>
  cases rx
  cases y with
  | non=>cases ry;exact PySem.EqNone.ne_none_none (bt I q (by simp))
  | bl j=>cases ry;exact PySem.EqNone.ne_none_bool (bt I q (by simp))
  | int j=>obtain ⟨t',rfl⟩:=ry;exact PySem.EqNone.ne_none_int (bt I q (by simp))
  | str j=>obtain ⟨t',rfl⟩:=ry;exact PySem.EqNone.ne_none_str (bt I q (by simp))
  | _=>exact absurd (show false=true from hs) Bool.false_ne_true
 | bl i=>
  cases rx
  cases y with
  | non=>cases ry;exact PySem.EqNone.ne_bool_none (bt I q (by simp))
  | bl j=>cases ry;exact ne_bool (bt I q (congrArg not yx))
  | str j=>obtain ⟨t',rfl⟩:=ry;exact PySem.EqMixed.ne_bool_str (bt I q (by simp))
  | _=>exact absurd (show false=true from hs) Bool.false_ne_true
 | int i=>
  obtain ⟨t,rfl⟩:=rx
  cases y with
  | non=>cases ry;exact PySem.EqNone.ne_int_none (bt I q (by simp))
  | int j=>obtain ⟨t',rfl⟩:=ry;exact ne_int (bt I q (congrArg not uB))
  | str j=>obtain ⟨t',rfl⟩:=ry;exact PySem.EqMixed.ne_int_str (bt I q (by simp))
  | _=>exact absurd (show false=true from hs) Bool.false_ne_true
 | str i=>
  obtain ⟨t,rfl⟩:=rx
  cases y with
  | non=>cases ry;exact PySem.EqNone.ne_str_none (bt I q (by simp))
  | bl j=>cases ry;exact PySem.EqMixed.ne_str_bool (bt I q (by simp))
  | int j=>obtain ⟨t',rfl⟩:=ry;exact PySem.EqMixed.ne_str_int (bt I q (by simp))
  | str j=>obtain ⟨t',rfl⟩:=ry;exact ne_str (bt I q (congrArg not uE))
  | _=>exact absurd (show false=true from hs) Bool.false_ne_true
 | byt i=>
  obtain ⟨t,rfl⟩:=rx
  cases y with
  | byt j=>obtain ⟨t',rfl⟩:=ry;exact PySem.W.ne_bytes (bt I q (congrArg not tw))
  | _=>exact absurd (show false=true from hs) Bool.false_ne_true
 | _=>cases y <;> exact absurd (show false=true from hs) Bool.false_ne_true
theorem ng:gc X (compareOp .Lt) (vW fun i j=>.bl (decide (i < j))):=zD fun _ _ _ _ _ _ _ q=>lt_int q
theorem Cj:gc X (compareOp .LtE) (vW fun i j=>.bl (decide (i ≤ j))):=zD fun _ _ _ _ _ _ _ q=>le_int q
theorem CB:gc X (compareOp .Gt) (vW fun i j=>.bl (decide (j < i))):=zD fun _ _ _ _ _ _ _ q=>gt_int q
theorem GK:gc X (compareOp .GtE) (vW fun i j=>.bl (decide (j ≤ i))):=zD fun _ _ _ _ _ _ _ q=>ge_int q
theorem sJ (b:Expr) {op:CmpOp} (h:op ≠ .In:=by decide) (h2:op ≠ .NotIn:=by decide):behindInMarks op b=false:= by
 have e1:(op == CmpOp.In)=false:=by cases op <;> first | rfl | exact absurd rfl h
 have e2:(op == CmpOp.NotIn)=false:=by cases op <;> first | rfl | exact absurd rfl h2
 cases b <;> simp [behindInMarks,e1,e2]
theorem zu {op:CmpOp} {r:R2} (ho:gc X (compareOp op) r) (ha:PE X a ta) (hb:PE X b tb) (hm:behindInMarks op b=false):PE X (.Compare a [op] [b] pos) (C1 r ta tb):= by
 intro pins s σ H Q I h
 exact wpAny_Compare1 (E9 ha hb I h fun v u s2 x y H2 I2 rx ry q=>ho pins s2 σ H2 x y v u Q I2 rx ry q) hm
def C2 (t:TE):TT:=fun σ H Q=>t σ H fun x H'=>∃ k,x=.bl k∧Q k H'
theorem tq {op:CmpOp} {r:R2} (ho:gc X (compareOp op) r) (ha:PE X a ta) (hb:PE X b tb) (hm:behindInMarks op b=false):PT X (.Compare a [op] [b] pos) (C2 (C1 r ta tb)):= by
 intro pins s σ H Q I h
 refine wpAny_isTrue_Compare1 (cg (ha pins s σ H _ I h) fun v s1 ⟨x,H1,I1,r1,q1⟩=>cg (hb pins s1 σ H1 _ I1 q1) fun u s2 ⟨y,H2,I2,r2,q2⟩=>
  cg (ho pins s2 σ H2 x y v u _ I2 r1 r2 q2) fun c s3 ⟨z,H3,I3,r3,k,e,q3⟩=>?_) hm
 subst e
 cases r3
 exact wpAny_truthy_bool ⟨H3,I3,q3⟩
def Ey (r r':R2) (ta tb tc:TE):TE:=fun σ H Q=>ta σ H fun x H1=>tb σ H1 fun y H2=>r x y H2 fun z H3=>∃ k,z=.bl k ∧
 (if k=true then tc σ H3 fun w' H4=>r' y w' H4 Q else Q (.bl false) H3)
theorem yL {op op':CmpOp} {r r':R2} (ho:gc X (compareOp op) r) (ho':gc X (compareOp op') r') (ha:PE X a ta) (hb:PE X b tb) (hc:PE X c tc)
  (hm:lastMarks [op,op'] [b,c]=false:=by with_unfolding_all rfl):PE X (.Compare a [op,op'] [b,c] pos) (Ey r r' ta tb tc):= by
 intro pins s σ H Q I h
 refine Compare_chain (cg (ha pins s σ H _ I h) fun v s1 ⟨x,H1,I1,r1,q1⟩=>chain_link (cg (hb pins s1 σ H1 _ I1 q1) fun u s2 ⟨y,H2,I2,r2,q2⟩=>
  cg (ho pins s2 σ H2 x y v u _ I2 r1 r2 q2) fun d s3 ⟨z,H3,I3,r3,k,e,q3⟩=>?_)) hm
 subst e
 cases r3
 refine wpAny_truthy_bool ?_
 cases k with
 | false=>exact ite_ff ⟨.bl false,H3,I3,rfl,q3⟩
 | true=>exact ite_tt (chain_last (cg (hc pins s3 σ H3 _ I3 q3) fun w' s4 ⟨z',H4,I4,r4,q4⟩=>ho' pins s4 σ H4 y z' u w' Q I4 r2 r4 q4))
def D8 (K:PySem.W.Frag) (x:V) (H:Hp) (k:Bool):Prop :=
 match x with
 | .non=>k=false
 | .bl b=>k=b
 | .int i=>k=(i != 0)
 | .str y=>y.length ≤ sizeLine∧k=((y.length:Int) != 0)
 | .byt y=>y.size ≤ sizeLine∧k=((y.size:Int) != 0)
 | .ref p=>(∃ xs,gn K H p xs∧k = !xs.isEmpty) ∨ (∃ xs,fI K H p xs∧k = !xs.isEmpty) ∨ ∃ kvs,H p=some (.dK kvs)∧k = !kvs.isEmpty
 | _=>False
theorem r_ {κ:Type} {kvs:List (κ × V)} {vs:List (κ × Value)} (r:KV kvs vs):(!vs.isEmpty) = !kvs.isEmpty:= by
 cases r <;> rfl
theorem kr {xs:List V} {its:List Value} (r:Vals xs its):(!its.toArray.isEmpty) = !xs.isEmpty:= by
 cases r <;> simp
theorem jb:(sizeLine:Nat) < 2 ^ 63:=by rw [sizeLine_eq];decide
theorem Dz:IZ X (fun x H Q=>∃ k,D8 X.K x H k∧Q k H):= by
 intro pins s σ H x v Q I rx h
 obtain ⟨k,e,q⟩:=h
 have hl:=jb
 have hs:sizeLine=16777216:=sizeLine_eq
 cases x with
 | non=>
  cases rx
  have e':k=false:=e
  subst e'
  exact truthy_none ⟨H,I,q⟩
 | bl b=>
  cases rx
  have e':k=b:=e
  subst e'
  exact wpAny_truthy_bool ⟨H,I,q⟩
 | int i=>
  obtain ⟨t,rfl⟩:=rx
  have e':k=(i != 0):=e
  subst e'
  exact PySem.P.truthy_int ⟨H,I,q⟩
 | str y=>
  obtain ⟨t,rfl⟩:=rx
  obtain ⟨hy,e'⟩:y.length ≤ sizeLine∧k=((y.length:Int) != 0):=e
  subst e'
  exact PySem.P.truthy_str (by omega) ⟨H,I.tok _,q⟩
 | byt y=>
  obtain ⟨t,rfl⟩:=rx
  obtain ⟨hy,e'⟩:y.size ≤ sizeLine∧k=((y.size:Int) != 0):=e
  subst e'
  exact PySem.W.truthy_bytes (by omega) ⟨H,I.tok _,q⟩
 | ref p=>
  cases rx
  have e':(∃ xs,gn X.K H p xs∧k = !xs.isEmpty) ∨ (∃ xs,fI X.K H p xs∧k = !xs.isEmpty) ∨ ∃ kvs,H p=some (.dK kvs)∧k = !kvs.isEmpty:=e
  rcases e' with ⟨xs,hx,e'⟩ | ⟨xs,hx,e'⟩ | ⟨kvs,hx,e'⟩
  ·subst e'
   obtain ⟨its,r,pl,hz⟩:=I.list hx
   have hlen:=r.length
   exact wpAny_truthy_list pl.isList (by simp only [List.size_toArray];omega) ⟨H,I.tok _,by rw [kr r];exact q⟩
  ·subst e'
   obtain ⟨its,r,pl,hz⟩:=I.tuple hx
   have hlen:=r.length
   exact truthy_tuple pl (by simp only [List.size_toArray];omega) ⟨H,I.tok _,by rw [kr r];exact q⟩
  ·subst e'
   obtain ⟨hz,hS,vs,r,m⟩:kvs.length ≤ sizeLine∧(p == sysModules)=false∧∃ vs,KV kvs vs∧s.heap.DictOf (nI X.prog X.w) p vs:=I.hok p _ hx
   have hlen:kvs.length=vs.length:=Paired.length r
   exact wpAny_truthy_dict hS m (by omega) ⟨H,I.tok _,by rw [r_ r];exact q⟩
 | _=>exact (show False from e).elim
theorem xq (ha:PE X a ta) (he:∀ whole,isTrue a X.env whole=(do let v <- whole;standAt a.pos;holding [v] (truthy v))) :
  PT X a (fun σ H Q=>ta σ H fun x H'=>∃ k,D8 X.K x H' k∧Q k H'):= by
 intro pins s σ H Q I h
 exact isTrue_plain (cg (ha pins s σ H _ I h) fun v s1 ⟨x,H1,I1,r1,q1⟩=>Dz pins s1 σ H1 x v Q I1 r1 q1) (he _)
theorem vals1 {x:V} {us:List Value} (r:Vals [x] us):∃ u,us=[u]∧RelV x u:= by
 cases r with
 | cons r1 r2=>cases r2;exact ⟨_,rfl,r1⟩
theorem vals2 {x y:V} {us:List Value} (r:Vals [x,y] us):∃ u w',us=[u,w']∧RelV x u∧RelV y w':= by
 cases r with
 | cons r1 r2=>
  cases r2 with
  | cons r3 r4=>cases r4;exact ⟨_,_,rfl,r1,r3⟩
theorem vb (hc:X.calm=true):cP X (.builtin "max") (fun xs H Q=>∃ i j,xs=[.int i,.int j]∧Q (.int (if j > i then j else i)) H):= by
 intro pins s σ H xs us Q I r h
 obtain ⟨i,j,rfl,q⟩:=h
 obtain ⟨u,w',rfl,⟨t,rfl⟩,⟨t',rfl⟩⟩:=vals2 r
 refine max_two_ints (I.ok.hd hc) fun h' tk k=>⟨_,H,I.kept k,?_,q⟩
 by_cases hj:j > i
 ·rw [if_pos hj,if_pos hj];exact ⟨_,rfl⟩
 ·rw [if_neg hj,if_neg hj];exact ⟨_,rfl⟩
theorem vD (hc:X.calm=true):cP X (.builtin "min") (fun xs H Q=>∃ i j,xs=[.int i,.int j]∧Q (.int (if j < i then j else i)) H):= by
 intro pins s σ H xs us Q I r h
 obtain ⟨i,j,rfl,q⟩:=h
 obtain ⟨u,w',rfl,⟨t,rfl⟩,⟨t',rfl⟩⟩:=vals2 r
 refine min_two_ints (I.ok.hd hc) fun h' tk k=>⟨_,H,I.kept k,?_,q⟩
 by_cases hj:j < i
 ·rw [if_pos hj,if_pos hj];exact ⟨_,rfl⟩
 ·rw [if_neg hj,if_neg hj];exact ⟨_,rfl⟩
theorem vA:cP X (.type "int") (fun xs H Q=>(∃ i,xs=[.int i]∧Q (.int i) H) ∨ ∃ k,xs=[.bl k]∧Q (.int (if k then 1 else 0)) H):= by
 intro pins s σ H xs us Q I r h
 rcases h with ⟨i,rfl,q⟩ | ⟨k,rfl,q⟩
 ·obtain ⟨u,rfl,t,rfl⟩:=vals1 r
  exact call_int_int ⟨.int i,H,I,⟨_,rfl⟩,q⟩
 ·obtain ⟨u,rfl,r1⟩:=vals1 r
  cases r1
  exact call_int_bool ⟨.int (if k then 1 else 0),H,I.tok _,⟨_,rfl⟩,q⟩
theorem qb:cP X (.builtin "divmod") (fun xs H Q=>∃ i j,xs=[.int i,.int j]∧D3 i j∧∀ p,H p=none->Q (.ref p) (upd H p (.tup [.int (i / j),.int (i % j)]))):= by
 intro pins s σ H xs us Q I r h
 obtain ⟨i,j,rfl,⟨h1,h2⟩,q⟩:=h
 obtain ⟨u,w',rfl,⟨t,rfl⟩,⟨t',rfl⟩⟩:=vals2 r
 refine divmod_int (by omega) ?_ (.inl (PyProof.noPylong_small (by omega)))
 rw [Int.fdiv_eq_ediv_of_nonneg i (by omega),Int.fmod_eq_emod_of_nonneg i (by omega)]
 have hn:H s.heap.objs.size=none:=I.hok.fresh (Nat.le_refl _)
 refine ⟨.ref s.heap.objs.size,_,?_,rfl,q _ hn⟩
 refine I.laid (fun b o e=>Heap.get?_push_of_some _ e) (Nat.le_refl _) ⟨by simp only [List.length_cons,List.length_nil];rw [sizeLine_eq];decide,[.int (i / j) s.toks,.int (i % j) (s.toks + 1)],.cons ⟨_,rfl⟩ (.cons ⟨_,rfl⟩ .nil),?_⟩
 exact ⟨⟨_,Heap.get?_push_size s.heap rfl,rfl,0,rfl⟩,_,Heap.get?_push_size s.heap rfl,rfl⟩
end
end L2
namespace L2
open PySem PySem.Spec PyProof.Rows
section
variable {prog:Program} {w:World} {A:Around} {E:Value->Shared->Prop} {s:Shared} {K:PySem.W.Frag} {x dx C f:Addr} {mA:Str->Option Value} {name:Str} {v:Value}
end
section
variable {P:Program} {w:World} {H H':Hp} {h h':Heap} {a C dx:Addr} {fs fs':List (Str × V)}
end
structure Ht (K:PySem.W.Frag) (C:Addr) (f:Str) (v:V) (u:Value):Prop where
 at_:PySem.W.findIn K (.ref C) f=some (some u)
 rel:RelV v u
 get:PySem.W.specialIn K u "__get__" = some none
 cp:PySem.W.copiedNames.contains f=false
section
variable {X:Cx} {pins:List (Addr × Obj)} {σ:St} {H:Hp} {s:Shared} {a C dx:Addr} {fs:List (Str × V)} {f:Str} {v:V} {A:Around} {E:Value->Shared->Prop}
end
section
variable {X:Cx} {o e value:Expr} {f:Str} {pos pos' tpos:Pos} {ta tv:TE}
end
section
variable {X:Cx} {pins:List (Addr × Obj)} {σ:St} {H:Hp} {s:Shared} {A:Around} {E:Value->Shared->Prop} {Q:Value->Shared->Prop} {c:Value} {b:Bool}
end
end L2
namespace L2
open PySem PySem.Spec PyProof.Rows
structure cm (k:Nat) (A:Around):Prop where
 hd:A.handled=none
 dp:A.depth + 3 * k + 5 < recursionLimit
 un:A.units + 16 * k + 200 < cLine
 gd:A.guards=some []
theorem cm.mono {j k:Nat} {A:Around} (r:cm k A) (h:j ≤ k):cm j A:=⟨r.hd,by have:=r.dp;omega,by have:=r.un;omega,r.gd⟩
theorem cm.deeper {k:Nat} {A:Around} (r:cm (k + 1) A) (env:Env):cm k (A.deeper env) :=
 ⟨r.hd,by have:=r.dp;show A.depth + 1 + 3 * k + 5 < _;omega,by have:=r.un;show A.units + 3 + 16 * k + 200 < _;omega,r.gd⟩
theorem cm.depth {k:Nat} {A:Around} (r:cm k A):A.depth < recursionLimit:=by have:=r.dp;omega
def Iu:TA:=fun _ H Q=>Q [] H
def Gj (ta:TE) (tr:TA):TA:=fun σ H Q=>ta σ H fun x H1=>tr σ H1 fun xs H2=>Q (x :: xs) H2
section
variable {X:Cx} {e:Expr} {es:List Expr} {te:TE} {t:TA} {pos:Pos}
theorem fm:PA X [] Iu:=fun _ _ _ _ H Q I h=>Calls.spliced_nil ⟨[],H,I,.nil,h⟩
theorem cY (ha:PE X e te) (hr:PA X es t) (hs:starEach (e :: es) X.env=(false,eval e X.env) :: starEach es X.env:=by rfl):PA X (e :: es) (Gj te t):= by
 intro pos pins s σ H Q I h
 rw [hs]
 show wpAny _ _ (spliced ((false,eval e X.env) :: backTo pos (starEach es X.env))) _ _ s
 refine Calls.spliced_cons (cg (ha pins s σ H _ I h) fun u s1 ⟨x,H1,I1,r1,q1⟩=>?_)
 exact cg (hr pos pins s1 σ H1 _ I1 q1) fun us s2 ⟨xs,H2,I2,r2,q2⟩=>⟨x :: xs,H2,I2,.cons r1 r2,q2⟩
def IP (t:TA):TE:=fun σ H Q=>t σ H fun xs H1=>xs.length ≤ sizeLine∧∀ p,H1 p=none->Q (.ref p) (upd H1 p (.tup xs))
def Jb (t:TA):TE:=fun σ H Q=>t σ H fun xs H1=>xs.length ≤ sizeLine∧∀ p,H1 p=none->Q (.ref p) (upd H1 p (.lst xs))
theorem Ee {x1} (h:PA X es t):PE X (.Tuple es x1 pos) (IP t):= by
 intro pins s σ H Q I hq
 refine wpAny_Tuple_spliced (cg (h pos pins s σ H _ I hq) fun us s1 ⟨xs,H1,I1,r,z,q⟩=>⟨by rw [<- r.length];exact z,?_⟩)
 have hf:H1 s1.heap.objs.size=none:=I1.hok.fresh (Nat.le_refl _)
 refine ⟨.ref s1.heap.objs.size,upd H1 s1.heap.objs.size (.tup xs),I1.laid (t':=s1.toks) (fun b u e=>Heap.get?_push_of_some _ e) (Nat.le_refl _) ?_,rfl,q _ hf⟩
 exact ⟨z,us,r,⟨_,Heap.get?_push_size _ rfl,rfl,_,rfl⟩,_,Heap.get?_push_size _ rfl,rfl⟩
theorem Di (h:PA X es t):PE X (.List es pos) (Jb t):= by
 intro pins s σ H Q I hq
 refine wpAny_List_spliced (cg (h pos pins s σ H _ I hq) fun us s1 ⟨xs,H1,I1,r,z,q⟩=>⟨by rw [<- r.length];exact z,?_⟩)
 have hf:H1 s1.heap.objs.size=none:=I1.hok.fresh (Nat.le_refl _)
 refine ⟨.ref s1.heap.objs.size,upd H1 s1.heap.objs.size (.lst xs),I1.laid (t':=s1.toks) (fun b u e=>Heap.get?_push_of_some _ e) (Nat.le_refl _) ?_,rfl,q _ hf⟩
 exact ⟨z,us,0,r,Heap.get?_push_size _ rfl⟩
end
abbrev Sp:=List V->Hp->VK->XK->Prop
abbrev qW:=List Env->Hp->Shared->XK->Value->Shared->Prop
structure Ar (P:Program) (w:World) (K:PySem.W.Frag) (mg:Str->Option Value) (base:Heap) (A:Around) (outer:List Env) (s:Shared) (H:Hp):Prop where
 frames:A.frames=some outer
 mod:Mod K mg base
 bs:∀ b o,base.get? b=some o->s.heap.get? b=some o∧H b=none
 bsz:base.objs.size ≤ s.heap.objs.size
 funs:s.heap.FunFrames base outer
 frf:∀ b ∈ vV outer,H b=none
 hok:jS P w H s.heap
 bare:AllBare s.gens
 tb:u7 K H
def CE (outer:List Env) (P:Program) (w:World) (H:Hp) (s:Shared) (Q:VK) (u:Value) (s':Shared):Prop :=
 ∃ v H',s'.os=s.os∧AllBare s'.gens∧Un (vV outer) [] H H' s.heap s'.heap∧jS P w H' s'.heap∧RelV v u∧Q v H'
def CR (CX:qW) (outer:List Env) (P:Program) (w:World) (H:Hp) (s:Shared) (Q:VK) (E:XK) (r:Result) (s':Shared):Prop :=
 match r with
 | .ok (.ret u)=>CE outer P w H s Q u s'
 | .ok _=>False
 | .error e=>CX outer H s E e s'
structure dF (P:Program) (w:World) (K:PySem.W.Frag) (mg:Str->Option Value) (base:Heap) (CX:qW) (k:Nat) (f:Addr) (fd:FuncData) (ps:List Str) (sp:Sp):Prop where
 len:∀ vs H Q E,sp vs H Q E->vs.length=ps.length
 run:∀ (A:Around) (outer:List Env) (s:Shared) (H:Hp) (args:Args) (us:List Value) (vs:List V) (Q:VK) (E:XK),cm k A->Ar P w K mg base A outer s H->BindsTo s fd args (ps.zip us)->Vals vs us->sp vs H Q E ->
  codeAny (model P w) A (.call (.ref f) args) (CR CX outer P w H s Q E) s
theorem dF.mono {P:Program} {w:World} {K:PySem.W.Frag} {mg:Str->Option Value} {base:Heap} {CX:qW} {j k:Nat} {f:Addr} {fd:FuncData} {ps:List Str} {sp:Sp} (F:dF P w K mg base CX j f fd ps sp) (h:j ≤ k) :
  dF P w K mg base CX k f fd ps sp:=⟨F.len,fun A outer s H args us vs Q E hr=>F.run A outer s H args us vs Q E (hr.mono h)⟩
theorem dF.imp {P:Program} {w:World} {K:PySem.W.Frag} {mg:Str->Option Value} {base:Heap} {CX:qW} {k:Nat} {f:Addr} {fd:FuncData} {ps:List Str} {sp sp':Sp} (F:dF P w K mg base CX k f fd ps sp)
  (h:∀ vs H Q E,sp' vs H Q E->sp vs H Q E):dF P w K mg base CX k f fd ps sp' :=
 ⟨fun vs H Q E q=>F.len vs H Q E (h _ _ _ _ q),fun A outer s H args us vs Q E hr he hb hv hs=>F.run A outer s H args us vs Q E hr he hb hv (h _ _ _ _ hs)⟩
section
variable {X:Cx} {pins:List (Addr × Obj)} {σ:St} {H:Hp} {s s':Shared}
theorem Inv.env0 (I:Inv X pins σ H s):Ar X.prog X.w X.K X.mg X.base X.A X.stack s H :=
 ⟨I.ok.frames,I.ok.mod,I.bs,Nat.le_trans I.ok.bsz I.sz,I.stack,I.stkFree,I.hok,I.bare,I.tb⟩
theorem Inv.after {Q:VK} {u:Value} (I:Inv X pins σ H s) (h:CE X.stack X.prog X.w H s Q u s'):EP X pins σ Q u s':= by
 obtain ⟨v,H',os,bare,un,hok,r,q⟩:=h
 obtain ⟨hh,g,d,t,os'⟩:=s'
 obtain rfl:os' = s.os:=os
 exact ⟨v,H',I.call (h':=hh) (g':=g) (d':=d) (t':=t) (ch:=[]) un hok bare (fun b z=>absurd z (by simp)),r,q⟩
end
def Gf (sp:Sp) (dvs:List V) (E:XK) (t:TA):TE:=fun σ H Q=>t σ H fun vs H1=>sp (vs ++ dvs) H1 Q E
def Binds (K:PySem.W.Frag) (fd:FuncData) (ps:List Str) (ds:List Value):Prop :=
 ∀ (s:Shared) (us:List Value),K.In s.heap->(us ++ ds).length=ps.length->BindsTo s fd ⟨us,[]⟩ (ps.zip (us ++ ds))
theorem Binds.all {K:PySem.W.Frag} {fd:FuncData} {ps:List Str} (h:∀ us:List Value,us.length=ps.length->bindArgs fd ⟨us,[]⟩=pure (ps.zip us)):Binds K fd ps []:=fun s us _ hl=>by
 rw [List.append_nil] at hl ⊢
 exact .of_eq (h us hl)
def Passes (CX:qW) (X:Cx) (E:XK):Prop:=∀ (pins:List (Addr × Obj)) (σ:St) (H:Hp) (s:Shared) (e:Value) (s':Shared),Inv X pins σ H s->CX X.stack H s E e s' -> X.xe e s'
section
variable {X:Cx} {CX:qW} {k:Nat} {f C:Addr} {fd:FuncData} {ps:List Str} {sp:Sp} {dvs:List V} {ds:List Value} {E:XK} {x m:Str} {p pos apos:Pos} {e o:Expr} {es:List Expr} {ta:TE} {t:TA}
theorem Dc {pins:List (Addr × Obj)} {σ:St} {H:Hp} {s:Shared} {Q:VK} {us:List Value} {vs:List V} (F:dF X.prog X.w X.K X.mg X.base CX k f fd ps sp) (hr:cm k X.A) (hb:Binds X.K fd ps ds) (hd:Vals dvs ds) (hx:Passes CX X E)
  (I:Inv X pins σ H s) (r:Vals vs us) (h:sp (vs ++ dvs) H Q E):wpAny (model X.prog X.w) X.A (call (.ref f) us) (EP X pins σ Q) X.xe s:= by
 have r2:Vals (vs ++ dvs) (us ++ ds):=r.append hd
 have hl:(us ++ ds).length=ps.length:=by rw [<- r2.length];exact F.len _ _ _ _ h
 refine wpAny_call (codeAny_mono (F.run X.A X.stack s H ⟨us,[]⟩ (us ++ ds) (vs ++ dvs) Q E hr I.env0 (hb s us I.kIn hl) r2 h) fun r s' hq=>?_)
 cases r with
 | error e=>exact hx pins σ H s e s' I hq
 | ok fl=>
  cases fl with
  | ret u=>exact I.after hq
  | next=>exact False.elim hq
  | brk=>exact False.elim hq
  | cont=>exact False.elim hq
theorem nU (F:dF X.prog X.w X.K X.mg X.base CX k f fd ps sp) (hr:cm k X.A) (hg:Gl X x) (hm:X.mg x=some (.ref f)) (hk:PySem.W.keepIn X.K (.ref f)=true) (hb:Binds X.K fd ps ds) (hd:Vals dvs ds) (hx:Passes CX X E)
  (ha:PA X (e :: es) t) (hdb:(x == ("__debug__":Str))=false:=by decide) (he:starEach (e :: es) X.env=(false,eval e X.env) :: starEach es X.env:=by rfl) (hpl:(backTo pos (starEach es X.env)).any (·.1)=false:=by rfl) :
  PE X (.Call (.Name x p) (e :: es) [] pos) (Gf sp dvs E t):= by
 intro pins s σ H Q I h
 refine wpAny_Call_Name_kw (Cb I hg hm ?_ hdb)
 refine PySem.W.callWith_K (h₀:=X.base) I.ok.mod.kin hk (cg (ha pos pins s σ H _ I h) fun us s1 ⟨vs,H1,I1,r,q⟩=>⟨I1.kIn,?_⟩) he hpl
 exact Dc F hr hb hd hx I1 r q
structure Mk (K:PySem.W.Frag) (C f:Addr):Prop where
 makes:PySem.W.makesIn K C=true
 init:PySem.W.findIn K (.ref C) "__init__" = some (some (.ref f))
 fn:PySem.W.isFn K (.ref f)=true
 kp:PySem.W.keepIn K (.ref C)=true
end
section
variable {X:Cx} {CX:qW} {k:Nat} {f C:Addr} {fd:FuncData} {ps ks:List Str} {sp:Sp} {E:XK} {x m:Str} {p pos apos kpos:Pos} {e o:Expr} {es:List Expr} {kws:List Keyword} {te ta:TE} {t tk:TA} {nm:Option Str}
variable {g:List Value->List Value->List Value} {gV:List V->List V->List V}
end
structure aF (N P:List Str) (sc:Scope):Prop where
 kind:sc.kind=.function
 co:sc.isCoroutine=false
 gen:sc.isGenerator=false
 nd:N.Nodup
 pre:N.take P.length=P
 par:∀ x ∈ P,sc.names.lookup x=some .local ∨ sc.names.lookup x=some .cell
 nofree:∀ y ∈ sc.names,y.2 ≠ .free
theorem mY {kindOf:Str->Option NameKind} {x:Str}:∀ {binds:List (Str × Value)} {m:Str->Option Value},(∀ v,(x,v) ∉ binds)->bindL kindOf binds m x=m x
 | [],_,_=>rfl
 | (n,v) :: r,m,h=>by
  unfold bindL
  rw [mY fun w hw=>h w (List.mem_cons_of_mem _ hw)]
  split
  ·have:x ≠ n:=by rintro rfl;exact h v List.mem_cons_self
   simp [this]
  ·rfl
theorem mh {kindOf:Str->Option NameKind} {x:Str}:∀ {binds:List (Str × Value)} {m:Str->Option Value},(∀ v,(x,v) ∉ binds)->bindC kindOf binds m x=m x
 | [],_,_=>rfl
 | (n,v) :: r,m,h=>by
  unfold bindC
  rw [mh fun w hw=>h w (List.mem_cons_of_mem _ hw)]
  split
  ·rfl
  ·have:x ≠ n:=by rintro rfl;exact h v List.mem_cons_self
   simp [this]
theorem nu {kindOf:Str->Option NameKind} {x:Str} {v:Value}:∀ {P:List Str} {vs:List Value} {i:Nat} {m:Str->Option Value},P.Nodup->P[i]? = some x->vs[i]? = some v->kindOf x=some .local ->
  bindL kindOf (P.zip vs) m x=some v
 | [],_,_,_,_,h,_,_=>by simp at h
 | _ :: _,[],_,_,_,_,h,_=>by simp at h
 | p :: P,w :: vs,0,m,nd,h1,h2,hk=>by
  simp at h1 h2;subst h1;subst h2
  show bindL kindOf ((p,w) :: P.zip vs) m p=_
  unfold bindL
  rw [mY fun v hv=>(List.nodup_cons.mp nd).1 (List.of_mem_zip hv).1,if_pos hk]
  simp
 | p :: P,w :: vs,i + 1,m,nd,h1,h2,hk=>by
  show bindL kindOf ((p,w) :: P.zip vs) m x=_
  unfold bindL
  exact nu (i:=i) (List.nodup_cons.mp nd).2 (by simpa using h1) (by simpa using h2) hk
theorem mW {kindOf:Str->Option NameKind} {x:Str} {v:Value}:∀ {P:List Str} {vs:List Value} {i:Nat} {m:Str->Option Value},P.Nodup->P[i]? = some x->vs[i]? = some v->kindOf x ≠ some .local ->
  bindC kindOf (P.zip vs) m x=some v
 | [],_,_,_,_,h,_,_=>by simp at h
 | _ :: _,[],_,_,_,_,h,_=>by simp at h
 | p :: P,w :: vs,0,m,nd,h1,h2,hk=>by
  simp at h1 h2;subst h1;subst h2
  show bindC kindOf ((p,w) :: P.zip vs) m p=_
  unfold bindC
  rw [mh fun v hv=>(List.nodup_cons.mp nd).1 (List.of_mem_zip hv).1,if_neg hk]
  simp
 | p :: P,w :: vs,i + 1,m,nd,h1,h2,hk=>by
  show bindC kindOf ((p,w) :: P.zip vs) m x=_
  unfold bindC
  exact mW (i:=i) (List.nodup_cons.mp nd).2 (by simpa using h1) (by simpa using h2) hk
def start (N:List Str) (vs:List V):St:=vs.map some ++ List.replicate (N.length - vs.length) none
def iZ (CX:qW) (P:Program) (w:World) (K:PySem.W.Frag) (mg:Str->Option Value) (base:Heap) (N:List Str) (qual:Str) (scope:Scope) (f:Addr) (cd:Value) (A:Around) (outer:List Env) (s:Shared) (H:Hp) (E:XK):Cx where
 prog:=P
 w:=w
 K:=K
 mg:=mg
 base:=base
 A:=A.deeper (envOfC qual scope s.heap.objs.size f cd)
 N:=N
 s₀:=s
 H₀:=H
 env:=envOfC qual scope s.heap.objs.size f cd
 outer:=outer
 stack:=envOfC qual scope s.heap.objs.size f cd :: outer
 ex:=[]
 calm:=true
 fn:=fun _=>true
 pn:=[]
 xe:=fun e s'=>wpAny (model P w) (A.deeper (envOfC qual scope s.heap.objs.size f cd)) (leaving (envOfC qual scope s.heap.objs.size f cd) e) (fun _ s''=>CX outer H s E e s'') (fun e' s''=>CX outer H s E e' s'') s'
theorem p7 {sc:Scope} {n:Nat} {x:Str} (h:sc.names.lookup x=some .cell):∃ c,(cellsFrom n sc.names []).lookup x=some c:= by
 have q:=PySem.W.cellsFrom_some sc.names n [] (.inl h)
 exact Option.isSome_iff_exists.mp q
theorem uW {CX:qW} {P:Program} {w:World} {K:PySem.W.Frag} {mg:Str->Option Value} {base:Heap} {N ps:List Str} {qual:Str} {scope:Scope} {f:Addr} {cd:Value} {A:Around} {outer:List Env} {s s1:Shared} {H:Hp} {E:XK} {us:List Value} {vs:List V}
  (S:aF N ps scope) (hd:A.handled=none) (e0:Ar P w K mg base A outer s H) (hl:vs.length=ps.length) (r:Vals vs us)
  (x:InCallC s s.heap.objs.size (bindL (envOfC qual scope s.heap.objs.size f cd).kindOf (ps.zip us) fun _=>none) (cellsFrom (s.heap.objs.size + 1) scope.names []) (bindC (envOfC qual scope s.heap.objs.size f cd).kindOf (ps.zip us) fun _=>none) s1) :
  Inv (iZ CX P w K mg base N qual scope f cd A outer s H E) [] (start N vs) H s1:= by
 have hpl:ps.length ≤ N.length:=by have:=congrArg List.length S.pre;rw [List.length_take] at this;omega
 obtain ⟨h1,tk,rfl,hk⟩:=x.done
 have noA:∀ b:Addr,b ∉ (iZ CX P w K mg base N qual scope f cd A outer s H E).ex:=fun b z=>absurd (show b ∈ ([]:List Addr) from z) (by simp)
 refine ⟨⟨e0.mod,S.kind,rfl,rfl,Nat.le_refl _,fun y z c h1 h2=>?_,fun y hy=>?_,fun y c _ h=>?_,fun _=>hd,Around.frames_deeper e0.frames,.inr ⟨rfl,rfl⟩,fun b z=>absurd z (noA b),e0.bs,e0.bsz,fun b _ _=>noA b,fun b z=>absurd z (noA b),e0.funs,e0.frf,e0.tb⟩,
  rfl,e0.bare,Un.kept hk,⟨_,x.toInCall.ns,fun i y v h1 h2 h3=>?_⟩,fun y c h=>⟨_,x.cell y c h⟩,e0.hok.fresh (Nat.le_refl _),fun y c h=>?_,fun p hp=>absurd (show p ∈ ([]:List (Addr × Obj)) from hp) (by simp),e0.hok.kept hk,?_⟩
 ·exact name_of_addr x.apart (PySem.mem_of_lookup h1) (PySem.mem_of_lookup h2)
 ·have hy:scope.names.lookup y=some .cell ∨ scope.names.lookup y=some .free:=hy
  rcases hy with hy | hy
  ·exact p7 hy
  ·exact absurd rfl (S.nofree _ (PySem.mem_of_lookup hy))
 ·exact Nat.le_of_lt (x.above y c (PySem.mem_of_lookup h))
 ·have hi:i < vs.length:= by
   unfold start at h2
   by_cases hi:i < vs.length
   ·exact hi
   ·rw [List.getElem?_append_right (by simpa using hi)] at h2
    rw [List.getElem?_replicate] at h2
    split at h2 <;> cases h2
  have ha:vs[i]? = some v:= by
   unfold start at h2
   rw [List.getElem?_append_left (by simpa using hi),List.getElem?_map] at h2
   cases e:vs[i]? with
   | none=>rw [e] at h2;cases h2
   | some a=>rw [e] at h2;cases h2;rfl
  obtain ⟨u,hu,rv⟩:=r.get ha
  have hp:ps[i]? = some y:= by
   rw [<- S.pre,List.getElem?_take_of_lt (by omega)];exact h1
  have ndP:ps.Nodup:=by rw [<- S.pre];exact S.nd.sublist (List.take_sublist _ _)
  refine ⟨u,rv,?_⟩
  rcases S.par y (List.mem_of_getElem? hp) with k | k
  ·exact .inl ⟨k,nu ndP hp hu k⟩
  ·obtain ⟨c,e⟩:=p7 (n:=s.heap.objs.size + 1) k
   refine .inr ⟨.inl k,c,e,?_⟩
   have q:=x.cell y c e
   rw [mW ndP hp hu (by show scope.names.lookup y ≠ _;rw [k];decide)] at q
   exact q
 ·exact e0.hok.fresh (Nat.le_of_lt (x.above y c (PySem.mem_of_lookup h)))
 ·unfold start
  show _=N.length
  rw [List.length_append,List.length_map,List.length_replicate]
  omega
theorem F3 {CX:qW} {P:Program} {w:World} {K:PySem.W.Frag} {mg:Str->Option Value} {base:Heap} {k:Nat} {f:Addr} {name qual:Str} {params:Arguments} {body:List Stmt} {scope:Scope} {dV kV doc pm cdv ct oc:Value} {an od:Option Addr}
  {osl:Array (Option Value)} {N ps:List Str} {sp:Sp} (lk:K.lookup f=some ⟨oc,od,.func (PySem.W.fnOf name qual params body scope dV kV doc pm an cdv ct),osl⟩) (hcd:PySem.W.codeIn K cdv qual=true) (S:aF N ps scope)
  (len:∀ vs H Q E,sp vs H Q E->vs.length=ps.length)
  (hbody:∀ (A:Around) (outer:List Env) (s:Shared) (H:Hp) (vs:List V) (Q:VK) (E:XK),cm k (A.deeper (envOfC qual scope s.heap.objs.size f cdv))->sp vs H Q E ->
   ∃ t,qV (iZ CX P w K mg base N qual scope f cdv A outer s H E) body t∧t { nx:=fun _ H'=>Q .non H',rt:=Q } (start N vs) H) :
  dF P w K mg base CX (k + 1) f (PySem.W.fnOf name qual params body scope dV kV doc pm an cdv ct) ps sp:= by
 refine ⟨len,fun A outer s H args us vs Q E hr e0 hb r hsp=>?_⟩
 have hl:=len _ _ _ _ hsp
 have KX:K.In s.heap:=e0.mod.kin.keeps fun b o e=>(e0.bs b o e).1
 have lim:s.heap.NoLimit:=e0.mod.nolimit.keeps fun b o e=>(e0.bs b o e).1
 have hkind:∀ y ∈ ps.zip us,scope.names.lookup y.1=some .local ∨ (scope.names.lookup y.1=some .cell∧((cellsFrom (s.heap.objs.size + 1) scope.names []).lookup y.1).isSome=true):=fun ⟨n,v⟩ hy=>by
  rcases S.par n (List.of_mem_zip hy).1 with q | q
  ·exact .inl q
  ·exact .inr ⟨q,PySem.W.cellsFrom_some _ _ _ (.inl q)⟩
 refine codeAny_call_function hr.depth (KX _ _ lk) rfl S.co S.gen rfl (PySem.W.codeRec_of KX hcd) (hb _ _ _ _ ?_)
 refine wpAny_newFunctionEnv_cells S.kind hkind fun env he s1 x=>?_
 subst he
 refine ⟨lim.keeps x.toInCall.keep,codeAny_func ?_⟩
 obtain ⟨t,ht,hq⟩:=hbody A outer s H vs Q E (hr.deeper _) hsp
 have I:Inv (iZ CX P w K mg base N qual scope f cdv A outer s H E) [] (start N vs) H s1:=uW S hr.hd e0 hl r x
 refine wpAny_mono (ht [] s1 (start N vs) H _ I hq) (fun fl s' hs=>?_) fun e s' hs=>hs
 have fin:∀ {σ':St} {H':Hp} {v:V} {u:Value},Inv (iZ CX P w K mg base N qual scope f cdv A outer s H E) [] σ' H' s' -> RelV v u->Q v H' -> CE outer P w H s Q u s' :=
  fun {σ' H' v u} J rv q=>⟨v,H',J.os,J.bare,J.base,J.hok,rv,q⟩
 cases fl with
 | ret u=>
  obtain ⟨v,σ',H',J,rv,q⟩:=hs
  exact fin J rv q
 | next=>
  obtain ⟨σ',H',J,q⟩:=hs
  exact fin (v:=V.non) (u:=Value.none) J rfl q
 | brk=>
  obtain ⟨_,_,_,q⟩:=hs
  exact False.elim q
 | cont=>
  obtain ⟨_,_,_,q⟩:=hs
  exact False.elim q
end L2
namespace L2
open PySem PySem.Spec PyProof.Rows
section
variable {X:Cx} {x:Str} {p pos:Pos} {e:Expr} {es:List Expr} {t:TA} {id T:String} {r:List V->Hp->VK->Prop}
def HS (r:List V->Hp->VK->Prop) (t:TA):TE:=fun σ H Q=>t σ H fun vs H1=>r vs H1 Q
theorem fE (hc:cP X (.builtin id) r) (hg:Gl X x) (hm:X.mg x=none) (hv:bootBuiltins x=some (.builtin id)) (ha:PA X (e :: es) t) (hn:x ≠ "__name__":=by decide) (hdb:(x == ("__debug__":Str))=false:=by decide)
  (he:starEach (e :: es) X.env=(false,eval e X.env) :: starEach es X.env:=by rfl) (hpl:(backTo pos (starEach es X.env)).any (·.1)=false:=by rfl):PE X (.Call (.Name x p) (e :: es) [] pos) (HS r t):= by
 intro pins s σ H Q I h
 refine wpAny_Call_Name_kw (gD I hg hm hv ?_ hn hdb)
 exact PyProof.Rows.callWith_builtin1 (cg (ha pos pins s σ H _ I h) fun us s1 ⟨vs,H1,I1,r1,q1⟩=>hc pins s1 σ H1 vs us Q I1 r1 q1) he hpl
theorem dX (hc:cP X (.type T) r) (hg:Gl X x) (hm:X.mg x=none) (hv:bootBuiltins x=some (.type T)) (ha:PA X (e :: es) t) (hn:x ≠ "__name__":=by decide) (hdb:(x == ("__debug__":Str))=false:=by decide)
  (he:starEach (e :: es) X.env=(false,eval e X.env) :: starEach es X.env:=by rfl) (hpl:(backTo pos (starEach es X.env)).any (·.1)=false:=by rfl):PE X (.Call (.Name x p) (e :: es) [] pos) (HS r t):= by
 intro pins s σ H Q I h
 refine wpAny_Call_Name_kw (gD I hg hm hv ?_ hn hdb)
 exact PyProof.Rows.callWith_type1 (cg (ha pos pins s σ H _ I h) fun us s1 ⟨vs,H1,I1,r1,q1⟩=>hc pins s1 σ H1 vs us Q I1 r1 q1) he hpl
end
end L2
namespace HT
open PySem PyProof.Rows
section
open PySem.SeqAt
open PySem.AutoSeq1 (wpAny_loadPart')
open PySem.MeetsSeq PySem.MeetsSeq2 PySem.MeetsSeq3
end
section
variable {prog:Program} {w:World} {A:Around} {E:Value->Shared->Prop} {s:Shared}
theorem cat_tup {t b:Addr} {vs ws:List Value} {Q:Value->Shared->Prop} (ht:IsTup s.heap t vs.toArray) (hb:IsTup s.heap b ws.toArray) (hv:vs ≠ [])
  (h1:ws=[]->Q (.ref t) s) (h2:ws ≠ []->Q (.ref s.heap.objs.size) { s with heap:=s.heap.push { cls:=.type "tuple",data:=.seq (vs ++ ws).toArray } })
  (hsz:vs.length + ws.length ≤ sizeLine):wpAny (model prog w) A (binaryOp .Add (.ref t) (.ref b)) Q E s:= by
 obtain ⟨⟨cls,dd,data,sl⟩,ho,hc,n,hd⟩:=id ht
 obtain ⟨⟨cls2,dd2,data2,sl2⟩,ho2,hc2,n2,hd2⟩:=id hb
 simp only at hc hd hc2 hd2
 subst hc hd hc2 hd2
 have e:vs.toArray ++ ws.toArray=(vs ++ ws).toArray:=by simp
 by_cases hw:ws=[]
 ·exact concat_meets ⟨_,ho,rfl⟩ ⟨_,ho2,rfl⟩ noFill_tuple_add seq_tuple_add PySem.F.slot_tuple_add PySem.F.entry_tuple_add (PySem.F.args_tuple_add_2 _ _)
   (tuple_addW1 t b vs.toArray ws.toArray n n2 dd dd2 sl sl2 (by simpa using hv) (by simp [hw])) ⟨ho,ho2,h1 hw⟩
 ·refine concat_meets ⟨_,ho,rfl⟩ ⟨_,ho2,rfl⟩ noFill_tuple_add seq_tuple_add PySem.F.slot_tuple_add PySem.F.entry_tuple_add (PySem.F.args_tuple_add_2 _ _)
   (tuple_addW2 t b vs.toArray ws.toArray n n2 dd dd2 sl sl2 (by simpa using hv) (by simpa using hw) (by rw [List.size_toArray,List.size_toArray];exact hsz)) ⟨ho,ho2,?_⟩
  rw [e]
  exact h2 hw
def sIx (n d:Nat):Option Int->Nat
 | none=>d
 | some v=>if v < 0 then (v + (n:Int)).toNat else min v.toNat n
theorem sIx_none (n d:Nat):sIx n d none=d:=rfl
theorem sIx_nat (n d k:Nat):sIx n d (some (k:Int))=min k n:= by
 show (if (k:Int) < 0 then ((k:Int) + (n:Int)).toNat else min (k:Int).toNat n)=min k n
 rw [if_neg (by omega),Int.toNat_natCast]
theorem Dk (n d:Nat) (hd:d ≤ n) (o:Option Int):sIx n d o ≤ n:= by
 cases o with
 | none=>exact hd
 | some v=>
  show (if v < 0 then (v + (n:Int)).toNat else min v.toNat n) ≤ n
  by_cases hv:v < 0
  ·rw [if_pos hv];omega
  ·rw [if_neg hv];exact Nat.min_le_right _ _
theorem uM (v:Int) (n d:Nat):(if v < 0 then max (v + (n:Int)) 0 else min v (n:Int))=((sIx n d (some v):Nat):Int):= by
 show (if v < 0 then max (v + (n:Int)) 0 else min v (n:Int))=(((if v < 0 then (v + (n:Int)).toNat else min v.toNat n):Nat):Int)
 by_cases hv:v < 0
 ·simp only [if_pos hv];omega
 ·simp only [if_neg hv];omega
theorem sy (lo hi:Option Int) (n:Nat):Builtin.Slice.sliceAdjust lo hi 1 (n:Int)=(((sIx n 0 lo:Nat):Int),((sIx n n hi:Nat):Int)):= by
 have h1:¬ ((1:Int) < 0):=by omega
 unfold Builtin.Slice.sliceAdjust
 simp only [h1,if_false]
 refine Prod.ext ?_ ?_
 ·cases lo with
  | none=>rfl
  | some v=>exact uM v n 0
 ·cases hi with
  | none=>rfl
  | some v=>exact uM v n n
theorem rP (i j:Nat):Builtin.Slice.slicePlaces (i:Int) (j:Int) 1=j - i:= by
 unfold Builtin.Slice.slicePlaces
 have h1:(1:Int) > 0:=by omega
 simp only [h1,if_true,Int.ediv_one]
 split <;> omega
theorem slicePart_ {v:Value} {o:Option Int} {Q:Option Int->Shared->Prop} (p:IsPart v o) (h:Q o s):wpAny (model prog w) A (Builtin.Slice.slicePartIndex v) Q E s:= by
 cases p with
 | none=>exact slicePart_none h
 | int i t=>exact slicePart_int h
theorem sliceApplied_gen {sl:Addr} {vl vu:Value} {lo hi:Option Int} {n:Nat} {Q:Int × Int × Nat->Shared->Prop} (hs:s.heap.IsSliceOf sl vl vu .none) (pl:IsPart vl lo) (pu:IsPart vu hi)
  (h:Q (((sIx n 0 lo:Nat):Int),1,sIx n n hi - sIx n 0 lo) s):wpAny (model prog w) A (Builtin.Slice.sliceApplied (.ref sl) (pure (n:Int))) Q E s:= by
 obtain ⟨os,hos,hcs,hds⟩:=id hs
 unfold Builtin.Slice.sliceApplied Builtin.Slice.sliceFields
 refine wpAny_bind (wpAny_bind (wpAny_field hos hds (x:=vl) rfl (wpAny_bind (wpAny_field hos hds (x:=vu) rfl (wpAny_bind (wpAny_field hos hds (x:=.none) rfl (wpAny_pure ?_)))))))
 refine wpAny_bind (slicePart_none ?_)
 show wpAny _ _ (if ((1:Int) == 0)=true then _ else _) _ _ s
 rw [if_neg (by decide)]
 refine wpAny_bind (slicePart_ pl (wpAny_bind (slicePart_ pu (wpAny_bind (wpAny_pure ?_)))))
 show wpAny _ _ (match Builtin.Slice.sliceAdjust lo hi 1 (n:Int) with | (lo,hi)=>pure (lo,(1:Int),Builtin.Slice.slicePlaces lo hi 1)) _ _ s
 rw [sy lo hi n]
 show wpAny _ _ (pure (((sIx n 0 lo:Nat):Int),(1:Int),Builtin.Slice.slicePlaces ((sIx n 0 lo:Nat):Int) ((sIx n n hi:Nat):Int) 1)) _ _ s
 rw [rP]
 exact wpAny_pure h
theorem yr (xs:Array Value) (i k:Nat):((List.range k).filterMap fun (m:Nat)=>xs[((i:Int) + (m:Int) * 1).toNat]?).toArray=((xs.toList.drop i).take k).toArray:= by
 have e:(fun (m:Nat)=>xs[((i:Int) + (m:Int) * 1).toNat]?)=fun m=>xs[i + m]?:= by
  funext m
  have:((i:Int) + (m:Int) * 1).toNat=i + m:=by omega
  rw [this]
 rw [e]
 have:=pick_run xs i k
 rw [List.filterMap_map] at this
 have e2:((fun x=>xs[x]?) ∘ fun x=>i + x)=fun m=>xs[i + m]?:=rfl
 rw [e2] at this
 rw [this]
theorem getItem_tuple_cut {t sl:Addr} {items:Array Value} {vl vu:Value} {lo hi:Option Int} {Q:Value->Shared->Prop} (ht:IsTup s.heap t items) (hs:s.heap.IsSliceOf sl vl vu .none) (pl:IsPart vl lo) (pu:IsPart vu hi)
  (hw:¬ (sIx items.size 0 lo=0∧sIx items.size items.size hi=items.size))
  (h:Q (.ref s.heap.objs.size) { s with heap:=s.heap.push { cls:=.type "tuple",data:=.seq ((items.toList.drop (sIx items.size 0 lo)).take (sIx items.size items.size hi - sIx items.size 0 lo)).toArray } })
  (hsz:items.size ≤ sizeLine):wpAny (model prog w) A (getItem (.ref t) (.ref sl)) Q E s:= by
 have htake:sizeOk (.seq ((items.toList.drop (sIx items.size 0 lo)).take (sIx items.size items.size hi - sIx items.size 0 lo)).toArray):= by
  show ((items.toList.drop (sIx items.size 0 lo)).take (sIx items.size items.size hi - sIx items.size 0 lo)).toArray.size ≤ sizeLine
  rw [List.size_toArray,List.length_take,List.length_drop,Array.length_toList]
  omega
 have hj:sIx items.size items.size hi ≤ items.size:=Dk _ _ (Nat.le_refl _) hi
 obtain ⟨os,hos,hcs,hds⟩:=id hs
 have hTs:s.TypeIs (.ref sl) "slice":=⟨os,hos,hcs⟩
 unfold getItem
 try with_reducible refine wpAny_holding ?_
 first | refine wpAny_bind (wpAny_pure ?_) | skip
 refine wpAny_bind (wpAny_sequenceKey ht.typeIs (by decide) ?_)
 refine wpAny_bind (wpAny_callSpecial?_slot (name:=Str.ofString "__getitem__") ht.typeIs PyProof.Rows.slot_tuple_getitem
  (wpAny_call_entry PyProof.Rows.slot_tuple_getitem ht.typeIs entry_tuple_getitem ?_ (args_tuple_getitem _ _)))
 show wpAny _ _ (Builtin.Tuple.tupleItemsOf (.ref t) >>= _) _ _ s
 refine wpAny_bind (tupleItemsOf_ ht ?_)
 refine wpAny_bind (wpAny_typeOf hTs ?_)
 rw [if_pos (by decide)]
 refine wpAny_bind (sliceApplied_gen hs pl pu ?_)
 have hno:¬ ((((sIx items.size 0 lo:Nat):Int) == 0 && (1:Int) == 1 && (sIx items.size items.size hi - sIx items.size 0 lo) == items.size)=true):= by
  intro q
  rw [Bool.and_eq_true,Bool.and_eq_true] at q
  have q1:((sIx items.size 0 lo:Nat):Int)=0:=eq_of_beq q.1.1
  have q2:sIx items.size items.size hi - sIx items.size 0 lo=items.size:=eq_of_beq q.2
  exact hw ⟨by omega,by omega⟩
 show wpAny _ _ (if (((sIx items.size 0 lo:Nat):Int) == 0 && (1:Int) == 1 && (sIx items.size items.size hi - sIx items.size 0 lo) == items.size)=true then _ else _) _ _ s
 rw [if_neg hno,yr]
 first
  | exact wpAny_bind (m:=Builtin.Tuple.tupleExact _) (wpAny_newObj_type (wpAny_pure ⟨_,rfl,wpAny_pure h⟩) htake)
  | exact wpAny_bind (m:=Builtin.Tuple.tupleExact _) (wpAny_newObj_type (wpAny_bind (wpAny_pure (wpAny_pure ⟨_,rfl,wpAny_pure h⟩))) htake)
  | exact wpAny_bind (wpAny_bind (m:=Builtin.Tuple.tupleExact _) (wpAny_newObj_type (wpAny_pure (wpAny_pure ⟨_,rfl,wpAny_pure h⟩)) htake))
  | exact wpAny_bind (wpAny_bind (m:=Builtin.Tuple.tupleExact _) (wpAny_newObj_type (wpAny_pure ⟨_,rfl,wpAny_pure h⟩) htake))
end
end HT
namespace L2
open PySem PySem.Spec PyProof.Rows
abbrev TO:=St->Hp->(Option Int->Hp->Prop)->Prop
def PO (X:Cx) (e:Option Expr) (t:TO):Prop :=
 ∀ (pins:List (Addr × Obj)) (s:Shared) (σ:St) (H:Hp) (Q:Option Int->Hp->Prop),Inv X pins σ H s->t σ H Q ->
  wpAny (model X.prog X.w) X.A (evalPart e X.env) (fun u s'=>∃ o H',Inv X pins σ H' s' ∧ IsPart u o∧Q o H') X.xe s
def BU:TO:=fun _ H Q=>Q none H
def F6 (t:TE):TO:=fun σ H Q=>t σ H fun x H1=>∃ i,x=.int i∧Q (some i) H1
theorem intsAre_of {ns:List Int}:∀ {us:List Value},Vals (ns.map V.int) us->IntsAre us ns:= by
 induction ns with
 | nil=>intro us r;rw [List.map_nil] at r;cases r;exact .nil
 | cons n ns ih=>
  intro us r
  rw [List.map_cons] at r
  cases r with
  | cons r1 r2=>
   obtain ⟨t,e⟩:=r1
   subst e
   exact .cons n t (ih r2)
section
variable {X:Cx} {e:Expr} {te:TE} {lo hi:Option Expr} {tl th:TO} {pos p2:Pos}
theorem zX:PO X none BU:= by
 intro pins s σ H Q I h
 rw [evalPart_none]
 exact wpAny_pure ⟨none,H,I,.none,h⟩
theorem zL (h:PE X e te):PO X (some e) (F6 te):= by
 intro pins s σ H Q I hw
 rw [evalPart_some]
 refine cg (h pins s σ H _ I hw) fun u s1 ⟨x,H1,I1,r1,q1⟩=>?_
 obtain ⟨i,rfl,q⟩:=q1
 obtain ⟨t,rfl⟩:=r1
 exact ⟨some i,H1,I1,.int i t,q⟩
def C4 (X:Cx) (r:V->Option Int->Option Int->Hp->VK->Prop):Prop :=
 ∀ (pins:List (Addr × Obj)) (s:Shared) (σ:St) (H:Hp) (x:V) (v vl vu:Value) (lo hi:Option Int) (sl:Addr) (Q:VK),Inv X pins σ H s->RelV x v->s.heap.IsSliceOf sl vl vu .none->IsPart vl lo->IsPart vu hi->r x lo hi H Q ->
  ∃ T id,typeLookup (.type T) "__getitem__" = pure (some (.builtin id))∧s.TypeIs v T∧wpAny (model X.prog X.w) X.A (getItem v (.ref sl)) (EP X pins σ Q) X.xe s
theorem C4.or {r r':V->Option Int->Option Int->Hp->VK->Prop} (h:C4 X r) (h':C4 X r'):C4 X (fun x lo hi H Q=>r x lo hi H Q ∨ r' x lo hi H Q):= by
 intro pins s σ H x v vl vu lo hi sl Q I rx hs pl pu q
 rcases q with q | q
 ·exact h pins s σ H x v vl vu lo hi sl Q I rx hs pl pu q
 ·exact h' pins s σ H x v vl vu lo hi sl Q I rx hs pl pu q
def JL (r:V->Option Int->Option Int->Hp->VK->Prop) (te:TE) (tl th:TO):TE:=fun σ H Q=>te σ H fun x H1=>tl σ H1 fun l H2=>th σ H2 fun u H3=>r x l u H3 Q
theorem yJ {r:V->Option Int->Option Int->Hp->VK->Prop} (hr:C4 X r) (he:PE X e te) (hl:PO X lo tl) (hu:PO X hi th):PE X (.Subscript e (.Slice lo hi none p2) pos) (JL r te tl th):= by
 intro pins s σ H Q I h
 refine Subscript_ (cg (he pins s σ H _ I h) fun v s1 ⟨x,H1,I1,r1,q1⟩=>?_)
 refine wpAny_Slice (cg (hl pins s1 σ H1 _ I1 q1) fun vl s2 ⟨l,H2,I2,pl,q2⟩=>cg (hu pins s2 σ H2 _ I2 q2) fun vu s3 ⟨u,H3,I3,pu,q3⟩=>?_)
 rw [evalPart_none]
 refine wpAny_pure ?_
 have I4:Inv X pins σ H3 { s3 with heap:=s3.heap.push { cls:=.type "slice",data:=.fields #[vl,vu,.none] } }:=I3.kept (t':=s3.toks) fun b ob q=>Heap.get?_push_of_some _ q
 obtain ⟨T,id,hT,ht,hg⟩:=hr pins { s3 with heap:=s3.heap.push { cls:=.type "slice",data:=.fields #[vl,vu,.none] } } σ H3 x v vl vu l u s3.heap.objs.size Q I4 r1 (Heap.IsSliceOf.new ..) pl pu q3
 show wpAny (model X.prog X.w) X.A (subscriptTail e (.Slice lo hi none p2) v (.ref s3.heap.objs.size)) (EP X pins σ Q) X.xe { s3 with heap:=s3.heap.push { cls:=.type "slice",data:=.fields #[vl,vu,.none] } }
 exact tail_any (ops:=[.ref s3.heap.objs.size,v]) ht hT hg (by with_unfolding_all rfl)
def oD (xs:List V) (lo hi:Option Int):List V:=(xs.drop (HT.sIx xs.length 0 lo)).take (HT.sIx xs.length xs.length hi - HT.sIx xs.length 0 lo)
theorem jE (xs:List V) (lo hi:Option Int):(oD xs lo hi).length ≤ xs.length:= by
 unfold oD
 rw [List.length_take,List.length_drop]
 omega
def Jd (K:PySem.W.Frag):V->Option Int->Option Int->Hp->VK->Prop:=fun x lo hi H Q=>∃ a xs,x=.ref a∧fI K H a xs ∧
 ¬ (HT.sIx xs.length 0 lo=0∧HT.sIx xs.length xs.length hi=xs.length)∧∀ p,H p=none->Q (.ref p) (upd H p (.tup (oD xs lo hi)))
theorem D6:C4 X (Jd X.K):= by
 intro pins s σ H x v vl vu lo hi sl Q I rx hs pl pu h
 obtain ⟨a,xs,rfl,hx,hw,q⟩:=h
 cases rx
 obtain ⟨its,r,ht,hz⟩:=I.tuple hx
 have hlen:its.toArray.size=xs.length:=by rw [List.size_toArray];exact r.length.symm
 refine ⟨"tuple",_,PyProof.Rows.slot_tuple_getitem.lookup,ht.typeIs,?_⟩
 refine HT.getItem_tuple_cut ht hs pl pu (by rw [hlen];exact hw) ?_ (by rw [hlen];exact hz)
 rw [hlen]
 refine ⟨.ref s.heap.objs.size,_,I.laid (t':=s.toks) (o:=.tup (oD xs lo hi)) (fun b ob q=>Heap.get?_push_of_some _ q) (Nat.le_refl _) ?_,rfl,q _ (I.hok.fresh (Nat.le_refl _))⟩
 exact ⟨Nat.le_trans (jE xs lo hi) hz,_,(r.drop (HT.sIx xs.length 0 lo)).take (HT.sIx xs.length xs.length hi - HT.sIx xs.length 0 lo),pw.new _ _⟩
def xw (K:PySem.W.Frag):R2:=fun x y H Q=>∃ a b xs ys,x=.ref a∧y=.ref b∧fI K H a xs∧fI K H b ys∧xs ≠ []∧xs.length + ys.length ≤ sizeLine ∧
 (ys=[]->Q (.ref a) H)∧(ys ≠ []->∀ p,H p=none->Q (.ref p) (upd H p (.tup (xs ++ ys))))
theorem Vals.nil_iff {xs:List V} {us:List Value} (r:Vals xs us):us=[] ↔ xs=[]:= by
 cases r with
 | nil=>simp
 | cons _ _=>simp
theorem AJ:gc X (binaryOp .Add) (xw X.K):= by
 intro pins s σ H x y v u Q I rx ry h
 obtain ⟨a,b,xs,ys,rfl,rfl,ha,hb,hx,hz,q1,q2⟩:=h
 cases rx
 cases ry
 obtain ⟨its,r1,p1,_⟩:=I.tuple ha
 obtain ⟨its2,r2,p2,_⟩:=I.tuple hb
 refine HT.cat_tup p1 p2 (fun z=>hx (r1.nil_iff.mp z)) (fun z=>⟨.ref a,H,I,rfl,q1 (r2.nil_iff.mp z)⟩) (fun z=>?_) (by rw [<- r1.length,<- r2.length];exact hz)
 refine ⟨.ref s.heap.objs.size,_,I.laid (t':=s.toks) (o:=.tup (xs ++ ys)) (fun b ob q=>Heap.get?_push_of_some _ q) (Nat.le_refl _) ?_,rfl,q2 (fun w=>z (r2.nil_iff.mpr w)) _ (I.hok.fresh (Nat.le_refl _))⟩
 exact ⟨by rw [List.length_append];exact hz,_,r1.append r2,pw.new _ _⟩
end
end L2
namespace L2
open PySem PySem.Spec PyProof.Rows
def q0 (n:Nat) (i:Int):Option Nat:=if 0 ≤ i then (if i < n then some i.toNat else none) else if -(n:Int) ≤ i then some (i + n).toNat else none
def ju {α:Type} (xs:List α) (i:Int):Option α:=(q0 xs.length i).bind fun j=>xs[j]?
theorem uG {n:Nat} {i:Int} {j:Nat} (h:q0 n i=some j):seqIndex? i n=some j∧j < n ∧ -(n:Int) ≤ i∧i < n:= by
 unfold q0 at h
 by_cases h0:0 ≤ i
 ·rw [if_pos h0] at h
  by_cases h1:i < n
  ·rw [if_pos h1] at h
   have e:i.toNat=j:=Option.some.inj h
   exact ⟨by rw [seqIndex_of h0 h1,e],by omega,by omega,h1⟩
  ·rw [if_neg h1] at h;cases h
 ·rw [if_neg h0] at h
  by_cases h1:-(n:Int) ≤ i
  ·rw [if_pos h1] at h
   have e:(i + n).toNat=j:=Option.some.inj h
   exact ⟨by rw [seqIndex_neg (by omega) h1,e],by omega,h1,by omega⟩
  ·rw [if_neg h1] at h;cases h
theorem oO {α:Type} {xs:List α} {i:Int} {v:α} (h:ju xs i=some v):∃ j,seqIndex? i xs.length=some j∧xs[j]? = some v∧j < xs.length ∧ -(xs.length:Int) ≤ i∧i < xs.length:= by
 unfold ju at h
 cases e:q0 xs.length i with
 | none=>rw [e] at h;cases h
 | some j=>
  rw [e] at h
  obtain ⟨h1,h2,h3,h4⟩:=uG e
  exact ⟨j,h1,h,h2,h3,h4⟩
theorem cV {α:Type} {xs:List α} {j:Nat} {v:α} (h:xs[j]? = some v):ju xs (j:Int)=some v:= by
 have hj:j < xs.length:=(List.getElem?_eq_some_iff.mp h).1
 have e:q0 xs.length (j:Int)=some j:= by
  unfold q0
  rw [if_pos (by omega),if_pos (by omega)];simp
 unfold ju;rw [e];exact h
def jU (b:Expr):Prop:=∀ o i,subscripted b false o i=operate [o,i] (getItem o i)
def zp (X:Cx) (r:R2):Prop :=
 ∀ (value slice:Expr) (pins:List (Addr × Obj)) (s:Shared) (σ:St) (H:Hp) (x y:V) (v u:Value) (Q:VK),Inv X pins σ H s->RelV x v->RelV y u->r x y H Q ->
  subscripted slice false v u=operate [v,u] (getItem v u)->wpAny (model X.prog X.w) X.A (subscriptTail value slice v u) (EP X pins σ Q) X.xe s
def JK (X:Cx) (id:String) (r:V->List V->Hp->VK->Prop):Prop :=
 ∀ (pins:List (Addr × Obj)) (s:Shared) (σ:St) (H:Hp) (x:V) (xs:List V) (v:Value) (us:List Value) (Q:VK),Inv X pins σ H s->RelV x v->Vals xs us->r x xs H Q ->
  wpAny (model X.prog X.w) X.A (call (.builtin id) (v :: us)) (EP X pins σ Q) X.xe s
section
variable {X:Cx} {a b:Expr} {ta tb:TE} {pos:Pos}
theorem zp.or {r r':R2} (h:zp X r) (h':zp X r'):zp X (fun x y H Q=>r x y H Q ∨ r' x y H Q):= by
 intro value slice pins s σ H x y v u Q I rx ry q hs
 rcases q with q | q
 ·exact h value slice pins s σ H x y v u Q I rx ry q hs
 ·exact h' value slice pins s σ H x y v u Q I rx ry q hs
theorem Cz {r:R2} (hr:zp X r) (ha:PE X a ta) (hb:PE X b tb) (hs:jU b):PE X (.Subscript a b pos) (C1 r ta tb):= by
 intro pins s σ H Q I h
 exact Subscript_ (E9 ha hb I h fun v u s2 x y H2 I2 rx ry q=>hr a b pins s2 σ H2 x y v u Q I2 rx ry q (hs _ _))
def Hi (K:PySem.W.Frag):R2:=fun x y H Q=>∃ p xs i v,x=.ref p∧y=.int i∧gn K H p xs∧ju xs i=some v∧Q v H
def G5 (K:PySem.W.Frag):R2:=fun x y H Q=>∃ p xs i v,x=.ref p∧y=.int i∧fI K H p xs∧ju xs i=some v∧Q v H
def Hq:R2:=fun x y H Q=>∃ z i c,x=.str z∧y=.int i∧z.length ≤ sizeLine∧ju z.cps.toList i=some c∧Q (.str ⟨#[c]⟩) H
theorem ui:zp X (Hi X.K):= by
 intro value slice pins s σ H x y v u Q I rx ry h hs
 obtain ⟨p,xs,i,z,rfl,rfl,hq,he,q⟩:=h
 cases rx
 obtain ⟨t,rfl⟩:=ry
 obtain ⟨its,r,pl,hz⟩:=I.list hq
 obtain ⟨j,h1,h2,h3,h4,h5⟩:=oO he
 obtain ⟨w,ew,rw'⟩:=r.get h2
 have hl:=r.length
 have hn:=jb
 have fin:EP X pins σ Q w s:=⟨z,H,I,rw',q⟩
 by_cases h0:0 ≤ i
 ·have hj:i.toNat=j:= by
   rw [seqIndex_of h0 h5] at h1
   exact Option.some.inj h1
  exact item_listR pl.isList h0 (by omega) (by rw [hj];simpa using ew) fin hs
 ·have hj:(i + (its.toArray.size:Int)).toNat=j:= by
   rw [seqIndex_neg (by omega) h4] at h1
   rw [List.size_toArray,<- hl]
   exact Option.some.inj h1
  exact subscriptTail_builtinR (x:=w) pl.isList.typeIs slot_list_getitem.lookup
   (wpAny_getItem_list_neg (Q:=fun r s'=>r=w∧EP X pins σ Q r s') pl.isList (by omega) (by rw [List.size_toArray] <;> omega) (by omega) (by rw [hj];simpa using ew) ⟨rfl,fin⟩) hs
theorem D1:zp X (G5 X.K):= by
 intro value slice pins s σ H x y v u Q I rx ry h hs
 obtain ⟨p,xs,i,z,rfl,rfl,hq,he,q⟩:=h
 cases rx
 obtain ⟨t,rfl⟩:=ry
 obtain ⟨its,r,pl,hz⟩:=I.tuple hq
 obtain ⟨j,h1,h2,h3,h4,h5⟩:=oO he
 obtain ⟨w,ew,rw'⟩:=r.get h2
 have hl:=r.length
 have hn:=jb
 have fin:EP X pins σ Q w s:=⟨z,H,I,rw',q⟩
 exact subscriptTail_builtinR (x:=w) pl.typeIs slot_tuple_getitem.lookup
  (getItem_tuple (j:=j) (Q:=fun r s'=>r=w∧EP X pins σ Q r s') pl (by omega) (by omega) (by rw [List.size_toArray,<- hl];exact h1) (by simpa using ew) ⟨rfl,fin⟩) hs
theorem Eb:zp X Hq:= by
 intro value slice pins s σ H x y v u Q I rx ry h hs
 obtain ⟨z,i,c,rfl,rfl,hz,he,q⟩:=h
 obtain ⟨t,rfl⟩:=rx
 obtain ⟨t',rfl⟩:=ry
 obtain ⟨j,h1,h2,h3,h4,h5⟩:=oO he
 have hl:z.cps.toList.length=z.length:=by simp [Str.length]
 rw [hl] at h1 h4 h5
 have hn:=jb
 exact tail_any (typeIs_str s z t) slot_str_getitem.lookup (getItem_str (c:=c) (by
  have e1:decide (i < -(2 ^ 63:Int))=false:=decide_eq_false (by omega)
  have e2:decide (i ≥ 2 ^ 63)=false:=decide_eq_false (by omega)
  rw [e1,e2,Bool.or_false]) (by rw [h1];simpa using h2) ⟨.str ⟨#[c]⟩,H,I.tok _,⟨_,rfl⟩,q⟩) hs
def Jx (K:PySem.W.Frag):R2:=fun x y H Q=>Hi K x y H Q ∨ G5 K x y H Q ∨ Hq x y H Q
theorem Eu:zp X (Jx X.K):=ui.or (D1.or Eb)
theorem rh (its:List Value) (n j:Nat) (u:Value):Obj.mapSeq (·.setIfInBounds j u) { cls:=.type "list",data:=.seq its.toArray n }={ cls:=.type "list",data:=.seq (its.set j u).toArray n }:= by
 simp [Obj.mapSeq]
theorem Inv.lst {pins:List (Addr × Obj)} {σ:St} {H:Hp} {s:Shared} {p:Addr} {xs:List V} (I:Inv X pins σ H s) (h:H p=some (.lst xs)) :
  ∃ (its:List Value) (n:Nat),Vals xs its∧s.heap.get? p=some { cls:=.type "list",data:=.seq its.toArray n }∧xs.length ≤ sizeLine:= by
 obtain ⟨z,its,n,r,e⟩:=I.hok p _ h
 exact ⟨its,n,r,e,z⟩
theorem Inv.lstUpd {pins:List (Addr × Obj)} {σ:St} {H:Hp} {s:Shared} {p:Addr} {xs ys:List V} {its its':List Value} {n n':Nat} {f:Obj->Obj} (I:Inv X pins σ H s) (h:H p=some (.lst xs))
  (ho:s.heap.get? p=some { cls:=.type "list",data:=.seq its.toArray n }) (hf:f { cls:=.type "list",data:=.seq its.toArray n }={ cls:=.type "list",data:=.seq its'.toArray n' }) (r:Vals ys its') (hz:ys.length ≤ sizeLine) (t:Nat) :
  Inv X pins σ (upd H p (.lst ys)) { s with heap:=s.heap.update p f,toks:=t }:= by
 have e:(s.heap.update p f).get? p=some { cls:=.type "list",data:=.seq its'.toArray n' }:= by
  rw [Heap.get?_update_self f ho (by rw [hf] <;> rfl),hf]
 refine I.write (x:=p) (e:=p) (by rw [h];trivial) (.inl rfl) (fun b u hb q=>(Heap.get?_update_other _ _ (Ne.symm hb)).trans q) ⟨_,e⟩ ?_
 exact ⟨hz,its',n',r,e⟩
def FT:V->V->V->Hp->(Hp->Prop)->Prop:=fun o i v H Q=>∃ p xs k j,o=.ref p∧i=.int k∧H p=some (.lst xs)∧q0 xs.length k=some j∧Q (upd H p (.lst (xs.set j v)))
theorem set_list:Hl X FT:= by
 intro pins s σ H o i v ov iv u Q I ro ri rv h
 obtain ⟨p,xs,k,j,rfl,rfl,hp,hj,q⟩:=h
 cases ro
 obtain ⟨t,rfl⟩:=ri
 obtain ⟨its,n,r,ho,hz⟩:=I.lst hp
 obtain ⟨h1,h2,h3,h4⟩:=uG hj
 have hl:=r.length
 have hn:=jb
 have I':Inv X pins σ (upd H p (.lst (xs.set j v))) { s with heap:=s.heap.update p (Obj.mapSeq (·.setIfInBounds j u)) } :=
  I.lstUpd hp ho (rh its n j u) (r.set rv j) (by rw [List.length_set];exact hz) s.toks
 by_cases h0:0 ≤ k
 ·have hk:k.toNat=j:= by
   rw [seqIndex_of h0 h4] at h1
   exact Option.some.inj h1
  exact PySem.W.ki_setAt ho h0 (by omega) (by rw [List.size_toArray,<- hl];exact h4) (by rw [hk];exact ⟨_,I',q⟩)
 ·have hk:(k + (its.toArray.size:Int)).toNat=j:= by
   rw [seqIndex_neg (by omega) h3] at h1
   rw [List.size_toArray,<- hl]
   exact Option.some.inj h1
  exact PySem.W.ki_setBack ho (by omega) (by rw [List.size_toArray,<- hl];exact h3) (by omega) (by rw [hk];exact ⟨_,I',q⟩)
theorem oX (lo hi:Option Int) (n:Nat):(sliceBounds lo hi none n).1=((HT.sIx n 0 lo:Nat):Int)∧(sliceBounds lo hi none n).2.1=((HT.sIx n n hi:Nat):Int)∧(sliceBounds lo hi none n).2.2=1:= by
 refine ⟨?_,?_,rfl⟩
 ·cases lo with
  | none=>simp [sliceBounds,HT.sIx]
  | some i=>
   simp only [sliceBounds,HT.sIx,Option.getD_none,show (1:Int) > 0 by decide,if_true]
   by_cases h:i < 0
   ·simp only [h,if_true] <;> omega
   ·simp only [h,if_false] <;> omega
 ·cases hi with
  | none=>simp [sliceBounds,HT.sIx]
  | some i=>
   simp only [sliceBounds,HT.sIx,Option.getD_none,show (1:Int) > 0 by decide,if_true]
   by_cases h:i < 0
   ·simp only [h,if_true] <;> omega
   ·simp only [h,if_false] <;> omega
theorem lQ (its:List Value) (lo hi:Option Int):slicePick its.toArray lo hi none=((its.drop (HT.sIx its.length 0 lo)).take (HT.sIx its.length its.length hi - HT.sIx its.length 0 lo)).toArray:= by
 obtain ⟨h1,h2,h3⟩:=oX lo hi its.toArray.size
 unfold slicePick
 rw [h1,h2,h3]
 simp only [sliceRange_one,pick_run,List.size_toArray] <;> rfl
def Iq (K:PySem.W.Frag):V->Option Int->Option Int->Hp->VK->Prop:=fun x lo hi H Q=>∃ a xs,x=.ref a∧gn K H a xs∧∀ p,H p=none->Q (.ref p) (upd H p (.lst (oD xs lo hi)))
theorem Ag:C4 X (Iq X.K):= by
 intro pins s σ H x v vl vu lo hi sl Q I rx hs pl pu h
 obtain ⟨a,xs,rfl,hx,q⟩:=h
 cases rx
 obtain ⟨its,r,ht,hz⟩:=I.list hx
 have hlen:=r.length
 refine ⟨"list",_,slot_list_getitem.lookup,ht.isList.typeIs,?_⟩
 refine wpAny_getItem_list_slice ht.isList hs pl pu .none (by simp) ?_ (by rw [List.size_toArray] <;> omega)
 rw [lQ,<- hlen]
 refine ⟨.ref s.heap.objs.size,_,I.laid (t':=s.toks) (o:=.lst (oD xs lo hi)) (fun b ob q=>Heap.get?_push_of_some _ q) (Nat.le_refl _) ?_,rfl,q _ (I.hok.fresh (Nat.le_refl _))⟩
 exact ⟨Nat.le_trans (jE xs lo hi) hz,_,0,(r.drop (HT.sIx xs.length 0 lo)).take (HT.sIx xs.length xs.length hi - HT.sIx xs.length 0 lo),Heap.get?_push_size _ rfl⟩
def gH:V->Bool
 | .non=>true
 | .bl _=>true
 | .int _=>true
 | .str _=>true
 | _=>false
def vN:V->V->Bool
 | .non,.non=>true
 | .bl a,.bl b=>a == b
 | .bl a,.int b=>(if a then 1 else 0) == b
 | .int a,.bl b=>a == (if b then 1 else 0)
 | .int a,.int b=>a == b
 | .str a,.str b=>a == b
 | _,_=>false
theorem xm {A:Around} {s:Shared} {y x:V} {u v:Value} (ry:RelV y u) (rx:RelV x v) (fy:gH y=true) (fx:gH x=true):SeqAt.EqAt A s u v (vN y x):= by
 cases y with
 | non=>
  cases ry
  cases x with
  | non=>cases rx;exact SeqAt.EqAt.same _
  | bl b=>cases rx;exact SeqAt.EqAt.none_bool b
  | int b=>obtain ⟨t,rfl⟩:=rx;exact SeqAt.EqAt.none_int b t
  | str b=>obtain ⟨t,rfl⟩:=rx;exact SeqAt.EqAt.none_str b t
  | _=>exact absurd (show false=true from fx) Bool.false_ne_true
 | bl a=>
  cases ry
  cases x with
  | non=>cases rx;exact SeqAt.EqAt.bool_none a
  | bl b=>cases rx;exact SeqAt.EqAt.bool_bool a b
  | int b=>obtain ⟨t,rfl⟩:=rx;exact SeqAt.EqAt.bool_int a b t
  | str b=>obtain ⟨t,rfl⟩:=rx;exact SeqAt.EqAt.bool_str a b t
  | _=>exact absurd (show false=true from fx) Bool.false_ne_true
 | int a=>
  obtain ⟨t',rfl⟩:=ry
  cases x with
  | non=>cases rx;exact SeqAt.EqAt.int_none a t'
  | bl b=>cases rx;exact SeqAt.EqAt.int_bool a t' b
  | int b=>obtain ⟨t,rfl⟩:=rx;exact SeqAt.EqAt.int_int a t' b t
  | str b=>obtain ⟨t,rfl⟩:=rx;exact SeqAt.EqAt.int_str a t' b t
  | _=>exact absurd (show false=true from fx) Bool.false_ne_true
 | str a=>
  obtain ⟨t',rfl⟩:=ry
  cases x with
  | non=>cases rx;exact SeqAt.EqAt.str_none a t'
  | bl b=>cases rx;exact SeqAt.EqAt.str_bool a t' b
  | int b=>obtain ⟨t,rfl⟩:=rx;exact SeqAt.EqAt.str_int a t' b t
  | str b=>obtain ⟨t,rfl⟩:=rx;exact SeqAt.EqAt.str_str a t' b t
  | _=>exact absurd (show false=true from fx) Bool.false_ne_true
 | _=>exact absurd (show false=true from fy) Bool.false_ne_true
def rJ (x:V) (u:Value):Bool:=match u with
 | .none=>vN .non x
 | .bool b=>vN (.bl b) x
 | .int i _=>vN (.int i) x
 | .str z _=>vN (.str z) x
 | _=>false
theorem w6 {x y:V} {u:Value} (r:RelV y u) (f:gH y=true):rJ x u=vN y x:= by
 cases y with
 | non=>cases r;rfl
 | bl b=>cases r;rfl
 | int i=>obtain ⟨t,rfl⟩:=r;rfl
 | str z=>obtain ⟨t,rfl⟩:=r;rfl
 | _=>exact absurd (show false=true from f) Bool.false_ne_true
theorem iU {x:V}:∀ {xs:List V} {us:List Value},Vals xs us->xs.all gH=true->us.any (rJ x)=xs.any fun y=>vN y x
 | _,_,.nil,_=>rfl
 | y :: xs,u :: us,.cons r t,f=>by
  rw [List.all_cons,Bool.and_eq_true] at f
  rw [List.any_cons,List.any_cons,w6 r f.1,iU t f.2]
theorem gQ {A:Around} {s:Shared} {x:V} {v:Value} (rx:RelV x v) (fx:gH x=true):∀ {xs:List V} {us:List Value},Vals xs us->xs.all gH=true->∀ u ∈ us,SeqAt.EqAt A s u v (rJ x u)
 | _,_,.nil,_=>fun u hu=>by cases hu
 | y :: xs,u :: us,.cons r t,f=>fun u' hu=>by
  rw [List.all_cons,Bool.and_eq_true] at f
  rcases List.mem_cons.mp hu with rfl | hu
  ·rw [w6 r f.1];exact xm r rx f.1 fx
  ·exact gQ rx fx t f.2 u' hu
def FJ (x:V) (xs:List V):Bool:=xs.any fun y=>vN y x
def Jc (K:PySem.W.Frag) (neg:Bool):R2:=fun x y H Q=>∃ p xs,y=.ref p∧(gn K H p xs ∨ fI K H p xs)∧gH x=true∧xs.all gH=true∧Q (.bl (if neg then !FJ x xs else FJ x xs)) H
theorem mz:gc X (compareOp .In) (Jc X.K false):= by
 intro pins s σ H x y v u Q I rx ry h
 obtain ⟨p,xs,rfl,hq,fx,fs,q⟩:=h
 cases ry
 rcases hq with hq | hq
 ·obtain ⟨its,r,pl,hz⟩:=I.list hq
  refine SeqAt.in_listAt (rJ x) pl.isList (fun w hw=>gQ rx fx r fs w (by simpa using hw)) ⟨.bl _,H,I,rfl,?_⟩
  rw [show its.toArray.any (rJ x)=its.any (rJ x) by simp,iU r fs]
  exact q
 ·obtain ⟨its,r,pl,hz⟩:=I.tuple hq
  refine SeqAt.in_tupleAt (rJ x) pl (fun w hw=>gQ rx fx r fs w (by simpa using hw)) ⟨.bl _,H,I,rfl,?_⟩
  rw [show its.toArray.any (rJ x)=its.any (rJ x) by simp,iU r fs]
  exact q
theorem oB:gc X (compareOp .NotIn) (Jc X.K true):= by
 intro pins s σ H x y v u Q I rx ry h
 obtain ⟨p,xs,rfl,hq,fx,fs,q⟩:=h
 cases ry
 rcases hq with hq | hq
 ·obtain ⟨its,r,pl,hz⟩:=I.list hq
  refine SeqAt.notIn_listAt (rJ x) pl.isList (fun w hw=>gQ rx fx r fs w (by simpa using hw)) ⟨.bl _,H,I,rfl,?_⟩
  rw [show its.toArray.any (rJ x)=its.any (rJ x) by simp,iU r fs]
  exact q
 ·obtain ⟨its,r,pl,hz⟩:=I.tuple hq
  refine SeqAt.notIn_tupleAt (rJ x) pl (fun w hw=>gQ rx fx r fs w (by simpa using hw)) ⟨.bl _,H,I,rfl,?_⟩
  rw [show its.toArray.any (rJ x)=its.any (rJ x) by simp,iU r fs]
  exact q
theorem i6:cP X (.builtin "len") (fun xs H Q=>∃ p ys,xs=[.ref p]∧(gn X.K H p ys ∨ fI X.K H p ys)∧Q (.int ys.length) H):= by
 intro pins s σ H xs us Q I r h
 obtain ⟨p,ys,rfl,hq,q⟩:=h
 obtain ⟨u,rfl,rx⟩:=vals1 r
 cases rx
 have hn:=jb
 rcases hq with hq | hq
 ·obtain ⟨its,r',pl,hz⟩:=I.list hq
  have hlen:=r'.length
  exact Calls.call_len_list pl.isList (by simp only [List.size_toArray] <;> omega) ⟨.int ys.length,H,I.tok _,⟨s.toks + 1,by rw [List.size_toArray,hlen]⟩,q⟩
 ·obtain ⟨its,r',pl,hz⟩:=I.tuple hq
  have hlen:=r'.length
  exact len_tuple pl (by simp only [List.size_toArray] <;> omega) ⟨.int ys.length,H,I.tok _,⟨s.toks + 1,by rw [List.size_toArray,hlen]⟩,q⟩
theorem nF:cP X (.type "list") (fun xs H Q=>∃ p ys,xs=[.ref p]∧(gn X.K H p ys ∨ fI X.K H p ys)∧∀ l,H l=none->Q (.ref l) (upd H l (.lst ys))):= by
 intro pins s σ H xs us Q I r h
 obtain ⟨p,ys,rfl,hq,q⟩:=h
 obtain ⟨u,rfl,rx⟩:=vals1 r
 cases rx
 have fin:∀ (its:List Value),Vals ys its->ys.length ≤ sizeLine->∀ (h':Heap) (c':Nat),(∀ b o',s.heap.get? b=some o' -> h'.get? b=some o') ->
   h'.get? s.heap.objs.size=some { cls:=.type "list",dict:=none,data:=.seq its.toArray c',slots:=#[] }->EP X pins σ Q (.ref s.heap.objs.size) { s with heap:=h' }:=fun its r' hz h' c' kp e=>
  ⟨.ref s.heap.objs.size,_,I.laid (t':=s.toks) kp (Nat.le_refl _) (show c9 X.prog X.w _ h' _ (.lst ys) from ⟨hz,its,c',r',e⟩),rfl,q _ (I.hok.fresh (Nat.le_refl _))⟩
 rcases hq with hq | hq
 ·obtain ⟨its,r',pl,hz⟩:=I.list hq
  have hlen:=r'.length
  obtain ⟨o,ho,hc,n,hd⟩:=pl.isList
  exact call_list_seq p (.inl rfl) ho hc hd (fun h' c' kp e=>fin its r' hz h' c' kp e) (by simp only [List.size_toArray] <;> omega)
 ·obtain ⟨its,r',pl,hz⟩:=I.tuple hq
  have hlen:=r'.length
  obtain ⟨o,ho,hc,n,hd⟩:=pl
  exact call_list_seq p (.inr rfl) ho hc hd (fun h' c' kp e=>fin its r' hz h' c' kp e) (by simp only [List.size_toArray] <;> omega)
theorem ij:cP X (.type "tuple") (fun xs H Q=>∃ p ys,xs=[.ref p]∧((gn X.K H p ys∧∀ l,H l=none->Q (.ref l) (upd H l (.tup ys))) ∨ (fI X.K H p ys∧Q (.ref p) H))):= by
 intro pins s σ H xs us Q I r h
 obtain ⟨p,ys,rfl,h⟩:=h
 obtain ⟨u,rfl,rx⟩:=vals1 r
 cases rx
 rcases h with ⟨hq,q⟩ | ⟨hq,q⟩
 ·obtain ⟨its,r',pl,hz⟩:=I.list hq
  have hlen:=r'.length
  refine call_tuple_list pl.isList (fun h' kp=>?_) (by simp only [List.size_toArray] <;> omega)
  have I1:Inv X pins σ H { s with heap:=h' }:=I.kept (t':=s.toks) kp
  have I2:Inv X pins σ (upd H h'.objs.size (.tup ys)) { s with heap:=h'.push { cls:=.type "tuple",data:=.seq its.toArray } } :=
   I1.laid (t':=s.toks) (fun b o e=>Heap.get?_push_of_some _ e) (Nat.le_refl _) (show c9 X.prog X.w _ _ _ (.tup ys) from ⟨hz,its,r',pw.new _ _⟩)
  exact ⟨.ref h'.objs.size,_,I2,rfl,q _ (I1.hok.fresh (Nat.le_refl _))⟩
 ·obtain ⟨its,r',pl,hz⟩:=I.tuple hq
  exact call_tuple_same pl ⟨.ref p,H,I,rfl,q⟩
def Js (K:PySem.W.Frag) (T:String) (x:V) (H:Hp):Prop:=match x with
 | .str _=>T = "str"
 | .int _=>T = "int"
 | .ref p=>(T = "list" ∧ ∃ xs,gn K H p xs) ∨ (T = "tuple" ∧ ∃ o,K.lookup p=some o∧o.cls=.type "tuple" ∧ o.dict=none) ∨
   (T = "dict" ∧ ((∃ kvs,H p=some (.dK kvs)) ∨ ∃ kvs,H p=some (.dT kvs))) ∨ (T = "set" ∧ ∃ S n,H p=some (.set S n))
 | _=>False
theorem EA {pins:List (Addr × Obj)} {σ:St} {H:Hp} {s:Shared} {T:String} {x:V} {v:Value} (I:Inv X pins σ H s) (r:RelV x v) (ty:Js X.K T x H) :
  s.TypeIs v T∧∀ a,v=.ref a->∃ ob,s.heap.get? a=some ob∧ob.dict=none:= by
 cases x with
 | str z=>
  obtain ⟨t,rfl⟩:=r
  cases (show T = "str" from ty)
  exact ⟨typeIs_str s z t,fun _ e=>nomatch e⟩
 | int i=>
  obtain ⟨t,rfl⟩:=r
  cases (show T = "int" from ty)
  exact ⟨typeIs_int s i t,fun _ e=>nomatch e⟩
 | ref p=>
  cases r
  rcases ty with ⟨rfl,xs,hq⟩ | ⟨rfl,o,hk,hc,hd⟩ | ⟨rfl,hk⟩ | ⟨rfl,S,n,hk⟩
  ·obtain ⟨its,_,pl,_⟩:=I.list hq
   refine ⟨pl.isList.typeIs,fun a e=>?_⟩
   cases e
   obtain ⟨o,n,e,c,hd,_⟩:=pl
   exact ⟨o,e,hd⟩
  ·refine ⟨⟨o,I.kIn p o hk,hc⟩,fun a e=>?_⟩
   cases e
   exact ⟨o,I.kIn _ o hk,hd⟩
  ·have z:∃ o,s.heap.get? p=some o∧o.ExactDict:= by
    rcases hk with ⟨kvs,hk⟩ | ⟨kvs,hk⟩
    ·obtain ⟨_,_,_,_,o,_,_,e,ex,_⟩:=I.hok p _ hk
     exact ⟨o,e,ex⟩
    ·obtain ⟨_,_,_,_,o,_,_,e,ex,_⟩:=I.hok p _ hk
     exact ⟨o,e,ex⟩
   obtain ⟨o,e,ex⟩:=z
   refine ⟨⟨o,e,ex.1⟩,fun a e2=>?_⟩
   cases e2
   exact ⟨o,e,ex.2.1⟩
  ·obtain ⟨o,_,_,_,e,ex,_⟩:=I.hok p _ hk
   refine ⟨⟨o,e,ex.1⟩,fun a e2=>?_⟩
   cases e2
   exact ⟨o,e,ex.2.1⟩
 | _=>exact False.elim ty
def JQ (K:PySem.W.Frag) (T:String) (r:V->List V->Hp->VK->Prop) (to:TE) (t:TA):TE:=fun σ H Q=>to σ H fun x H1=>Js K T x H1∧t σ H1 fun xs H2=>r x xs H2 Q
variable {o e:Expr} {es:List Expr} {to:TE} {t:TA} {name:Str} {apos cpos:Pos} {T id:String} {r:V->List V->Hp->VK->Prop}
theorem yW (pa:PlainAttrs T) (slot:Slot T name id) (hty:typeOf (.builtin id)=pure (.type "method_descriptor")) (hm:JK X id r) (ho:PE X o to) (ha:PA X (e :: es) t)
  (hbase:attributeBase o name X.env (eval o X.env)=eval o X.env:=by rfl)
  (hfew:((backTo cpos (starEach (e :: es) X.env)).all (fun x=>!x.1) && (backToKw cpos (keywordEach [] X.env)).all (fun x=>x.1.isSome)
   && decide ((e :: es).length + ([]:List Keyword).length + (if ([]:List Keyword).isEmpty then 0 else 1) < 30))=true:=by rfl)
  (hline:(apos.endLine == cpos.line)=true:=by rfl) (hs:starEach (e :: es) X.env=(false,eval e X.env) :: starEach es X.env:=by rfl) (hplain:(backTo cpos (starEach es X.env)).any (·.1)=false:=by rfl) :
  PE X (.Call (.Attribute o name apos) (e :: es) [] cpos) (JQ X.K T r to t):= by
 intro pins s σ H Q I h
 refine wpAny_Call_method_late hbase hfew hline rfl (cg (ho pins s σ H _ I h) fun v s1 ⟨x,H1,I1,r1,ty,q1⟩=>?_)
 obtain ⟨h1,h2⟩:=EA I1 r1 ty
 refine ⟨T,id,pa,slot,hty,h1,h2,?_⟩
 have hA:=ha cpos pins s1 σ H1 _ I1 q1
 rw [hs] at hA ⊢
 refine Calls.callWith_builtin (by show (false || (backTo cpos (starEach es X.env)).any (·.1))=false;rw [hplain] <;> rfl) (Calls.evalArgs_plain ?_)
 exact cg hA fun us s2 ⟨vs,H2,I2,r2,q2⟩=>hm pins s2 σ H2 x vs v us Q I2 r1 r2 q2
end
end L2
namespace L2
open PySem PySem.Spec PyProof.Rows
def Jn (X:Cx) (id:String) (r:V->List V->Hp->VK->Prop):Prop :=
 ∀ (pins:List (Addr × Obj)) (s:Shared) (σ:St) (H:Hp) (x:V) (xs:List V) (v:Value) (us:List Value) (Q:VK),Inv X pins σ H s->RelV x v->Vals xs us->r x xs H Q ->
  wpAny (model X.prog X.w) X.A (call (.builtin id) (v :: us)) (EP X pins σ Q) X.xe s
theorem Vals.one:∀ {x:V} {us:List Value},Vals [x] us->∃ u,us=[u]∧RelV x u
 | _,_,.cons r .nil=>⟨_,rfl,r⟩
theorem Vals.two:∀ {x y:V} {us:List Value},Vals [x,y] us->∃ u v,us=[u,v]∧RelV x u∧RelV y v
 | _,_,_,.cons r (.cons q .nil)=>⟨_,_,rfl,r,q⟩
theorem Vals.eraseIdx:∀ {xs:List V} {us:List Value} (i:Nat),Vals xs us->Vals (xs.eraseIdx i) (us.eraseIdx i)
 | _,_,_,.nil=>.nil
 | _,_,0,.cons _ t=>t
 | _,_,i + 1,.cons r t=>.cons r (Vals.eraseIdx i t)
theorem nz {α:Type}:∀ (l:List α) (i:Nat),(l.eraseIdx i).length ≤ l.length
 | [],_=>Nat.le_refl _
 | _ :: _,0=>Nat.le_succ _
 | _ :: r,i + 1=>Nat.succ_le_succ (nz r i)
section
variable {X:Cx} {pins:List (Addr × Obj)} {σ:St} {H:Hp} {s:Shared} {l b:Addr} {xs ys zs:List V}
theorem Inv.lset {its its':List Value} {n:Nat} {f:Array Value->Array Value} {t':Nat} (I:Inv X pins σ H s) (hH:H l=some (.lst xs))
  (e:s.heap.get? l=some { cls:=.type "list",data:=.seq its.toArray n }) (hf:f its.toArray=its'.toArray) (hv:Vals ys its') (hz:ys.length ≤ sizeLine) :
  Inv X pins σ (upd H l (.lst ys)) { s with heap:=s.heap.update l (Obj.mapSeq f),toks:=t' }:= by
 have q:=PySem.IsL.update e f
 rw [hf] at q
 refine I.write (x:=l) (e:=l) (by rw [hH];exact trivial) (.inl rfl) (fun b' u hb hu=>(Heap.get?_update_other s.heap (Obj.mapSeq f) (Ne.symm hb)).trans hu) ⟨_,q⟩ ?_
 exact ⟨hz,its',_,hv,q⟩
theorem Inv.lnew {its:List Value} {t':Nat} (I:Inv X pins σ H s) (hv:Vals ys its) (hz:ys.length ≤ sizeLine) :
  Inv X pins σ (upd H s.heap.objs.size (.lst ys)) { s with heap:=s.heap.push { cls:=.type "list",data:=.seq its.toArray },toks:=t' } :=
 I.laid (fun _ _ q=>Heap.get?_push_of_some _ q) (Nat.le_refl _) ⟨hz,its,0,hv,Heap.get?_push_size _ rfl⟩
theorem Inv.fresh (I:Inv X pins σ H s):H s.heap.objs.size=none:=I.hok.fresh (Nat.le_refl _)
theorem Inv.lstM (I:Inv X pins σ H s) (hH:H l=some (.lst xs)):xs.length ≤ sizeLine∧∃ (its:List Value) (n:Nat),Vals xs its∧xs.length=its.length∧s.heap.get? l=some { cls:=.type "list",data:=.seq its.toArray n }:= by
 obtain ⟨z,its,n,r,e⟩:=I.hok l _ hH
 exact ⟨z,its,n,r,r.length,e⟩
end
section
variable {X:Cx}
def zR:V->List V->Hp->VK->Prop:=fun x vs H Q=>∃ l xs y,x=.ref l∧vs=[y]∧H l=some (.lst xs)∧xs.length < sizeLine∧Q .non (upd H l (.lst (xs ++ [y])))
theorem mL:Jn X "list.append" zR:= by
 intro pins s σ H x vs v us Q I rx rv h
 obtain ⟨l,xs,y,rfl,rfl,hH,hz,q⟩:=h
 cases rx
 obtain ⟨u,rfl,ru⟩:=rv.one
 obtain ⟨z,its,n,r,hl,e⟩:=I.lstM hH
 refine call_meets F.slot_list_append ⟨_,e,rfl⟩ F.entry_list_append (F.args_list_append_2 _ _) (PySem.list_append l its.toArray n u (by rw [List.size_toArray];omega)) ⟨e,?_⟩
 refine ⟨.non,_,I.lset (its':=its ++ [u]) hH e (by simp) (r.append (.cons ru .nil)) ?_,rfl,q⟩
 rw [List.length_append,List.length_singleton]
 omega
def Fm:V->List V->Hp->VK->Prop:=fun x vs H Q=>∃ l xs i k y,x=.ref l∧vs=[.int i]∧H l=some (.lst xs) ∧ -(2 ^ 63) ≤ i∧i < 2 ^ 63∧seqIndex? i xs.length=some k∧xs[k]? = some y∧Q y (upd H l (.lst (xs.eraseIdx k)))
theorem xi:Jn X "list.pop" Fm:= by
 intro pins s σ H x vs v us Q I rx rv h
 obtain ⟨l,xs,i,k,y,rfl,rfl,hH,h1,h2,hk,hy,q⟩:=h
 cases rx
 obtain ⟨u,rfl,ru⟩:=rv.one
 obtain ⟨t,rfl⟩:=ru
 obtain ⟨z,its,n,r,hl,e⟩:=I.lstM hH
 obtain ⟨w,hw,rw'⟩:=r.get hy
 refine call_meets F.slot_list_pop ⟨_,e,rfl⟩ F.entry_list_pop (F.args_list_pop_2 _ _)
  (MeetsSeq.list_pop_at l its.toArray n i t k w (fitsIndex_both h1 h2) (by rw [List.size_toArray,<- hl];exact hk) (by rw [<- Array.getElem?_toList];exact hw) (by rw [List.size_toArray];omega)) ⟨e,?_⟩
 refine ⟨y,_,I.lset (its':=its.eraseIdx k) hH e ?_ (r.eraseIdx k) ?_,rw',q⟩
 ·show its.toArray.eraseIdxIfInBounds k=(its.eraseIdx k).toArray
  rw [List.eraseIdxIfInBounds_toArray]
 ·have:=nz xs k
  omega
end
section
variable {prog:Program} {w:World} {A:Around} {E:Value->Shared->Prop} {s:Shared}
set_option maxRecDepth 100000 in
end
section
variable {X:Cx}
end
end L2
namespace Att
open PySem PySem.W PySem.Calls PyProof.Rows
theorem jK {P:Params} {h:Heap}:∀ (ns:List Int) (vs:List Value),WellAll P h vs (ns.map WData.int)->IntsAre vs ns:= by
 intro ns
 induction ns with
 | nil=>
  intro vs w
  rw [List.map_nil] at w
  cases w
  exact .nil
 | cons n ns ih=>
  intro vs w
  rw [List.map_cons] at w
  cases w with
  | cons a b=>
   cases a
   exact .cons _ _ (ih _ b)
theorem script_of {l:OpenLaw} {n:Nat} (hn:l.most=some n) {P:Params} {h:Heap} {args:List WData} {vals:List Value}
  (hpre:l.row.toRowW.claim.pre args=true) (hwl:WellAll P h vals args) :
  ∃ a vs ns,vals=[Value.ref a]∧args=[WData.list (ns.map WData.int)]∧h.get? a=some { cls:=.type "list",data:=.seq vs.toArray }∧IntsAre vs ns∧ns.length ≤ n:= by
 have hsh:WShape.hasAll [] args [.list .int]=true:=(pre_splitW hpre).1
 have hc:l.pre.holds [] { args:=args }=true:=(pre_splitW hpre).2
 obtain ⟨d,r,rfl,h1,h2⟩:=hasAllW_cons hsh
 obtain rfl:=hasAllW_nil h2
 obtain ⟨xs,rfl,h3⟩:=hasW_list h1
 obtain ⟨ns,rfl⟩:=items_int h3
 have hlen:ns.length ≤ n:= by
  unfold OpenLaw.pre at hc
  have h4:(WTm.not (.lt (.lit (.int (n:Int))) (.len (.arg 0)))).holds [] { args:=[.list (ns.map .int)] }=true:= by
   have h4:=(holds_andW hc).1
   rw [hn] at h4
   exact h4
  have h5:=condW_of h4 (w_not (w_lt w_lit (w_len_list (w_arg rfl))))
  rw [List.length_map] at h5
  refine Nat.le_of_not_lt fun q=>?_
  have q':(n:Int) < ((ns.length:Nat):Int):=by omega
  first
   | (rw [decide_eq_true q'] at h5;exact absurd h5 (by decide))
   | (simp at h5;omega)
 cases hwl with
 | cons w1 w2=>
  cases w2
  cases w1 with
  | list ho hall=>exact ⟨_,_,ns,rfl,rfl,ho,jK ns _ hall,hlen⟩
theorem post_true (l:OpenLaw) (args:List WData):l.row.toRowW.claim.post args (.bool true) args=true :=
 postW_of (r:=l.row.toRowW) (X:=(true == true))
  (show WShape.has [] (.bool true) .bool=true by first | rfl | decide | simp [WShape.has,WShape.arms,WShape.armsAll])
  (show (WTm.eq .res (.lit (.bool true))).value [] { args:=args,res:=some (.bool true),after:=args }=some (.bool (true == true)) from w_eq_bool (w_res rfl) w_lit) rfl
theorem attach_call {l:OpenLaw} {n:Nat} {q:Program} {loose:List Str} {XP:(Str->Option Value)->Heap->Prop} {YP:World->Heap->Prop} {d:DefRec}
  (hn:l.most=some n) (hdf:d.params.defaults=[])
  (call:∀ (w:World) (s₀ s₁:Shared) (mg mb:Str->Option Value) (fa:Addr) (o:Obj) (pm cd doc:Value) (a:Addr) (vs:List Value) (ns:List Int),
   Ground q loose [] XP w s₀ mg mb s₁.heap->YP w s₁.heap ->
   s₁.heap.get? fa=some o->o.data=.func (docDef d.name d.params d.body d.scope pm cd doc)->s₁.heap.CodeRec cd d.name->mg d.name=some (.ref fa) ->
   s₁.heap.get? a=some { cls:=.type "list",data:=.seq vs.toArray }->IntsAre vs ns->ns.length ≤ n->s₁.gens = #[] ->
   codeAny (model l.prog w) callerA (.call (.ref fa) ⟨[.ref a],[]⟩) (fun r s'=>r=.ok (.ret (.bool true))∧OldK s₁.heap s'.heap∧s'.os=s₁.os∧AllBare s'.gens) s₁) :
  WalkO q loose XP YP l.row.toRowW d [] (fun f vs=>PySem.call f vs):= by
 intro w s₀ s₁ mg mb G Y fa o pm cd doc dV kV ho hd hcd hD hmg hg args vals as hpre hlay hrd hwl hlo
 obtain rfl:dV=.none:=Dflts.none hD hdf
 obtain rfl:kV=.none:=Dflts.noKw hD
 obtain ⟨a,vs,ns,rfl,rfl,hobj,hints,hlen⟩:=script_of hn hpre hwl
 refine enter_call (codeAny_mono (call w s₀ s₁ mg mb fa o pm cd doc a vs ns G Y ho (fd_plain hd) hcd hmg hobj hints hlen hg) fun r s' hq=>?_)
 obtain ⟨rfl,h2,h3,h4⟩:=hq
 exact ⟨.inl ⟨.bool true,.bool true,[],rfl,fun _=>rfl,.bool true,post_true l _,fun _=>⟨List.Pairwise.nil,fun _ hm=>(nomatch hm)⟩⟩,h2,h3,h4⟩
section
variable {prog:Program} {w:World} {A:Around} {E:Value->Shared->Prop} {s:Shared} {K:Frag}
end
end Att
namespace L2
open PySem PySem.Spec PyProof.Rows
theorem gX:∀ {vs:List Value} {ns:List Int},IntsAre vs ns->Vals (ns.map V.int) vs
 | _,_,.nil=>.nil
 | _,_,.cons n t h=>.cons ⟨t,rfl⟩ (gX h)
def DK (H:Hp):Prop:=∀ b,H b=none ∨ ∃ o xs,H b=some (.frz o (.lst xs))
theorem pH {P:Program} {w:World} {K:PySem.W.Frag} {mg mb:Str->Option Value} {CX:qW} {k:Nat} {fa a:Addr} {fd:FuncData} {x:Str} {sp:Sp} {s₁:Shared} {vs:List Value} {ns:List Int}
  (KX:K.In s₁.heap) (hns:s₁.heap.Ns mainGlobals mg) (hb:s₁.heap.Ns builtinsNs mb) (hbb:∀ x:Str,x ≠ "__name__" -> mb x=bootBuiltins x) (hlim:s₁.heap.NoLimit) (hg:s₁.gens = #[])
  (ha:s₁.heap.get? a=some { cls:=.type "list",data:=.seq vs.toArray }) (hi:IntsAre vs ns) (hl:ns.length ≤ sizeLine) (hr:cm k callerA)
  (F:∀ base:Heap,K.In base->base.Ns mainGlobals mg->dF P w K mg base CX k fa fd [x] sp) (hbind:∀ (s:Shared) (u:Value),BindsTo s fd ⟨[u],[]⟩ [(x,u)])
  (hntab:PySem.W.tabIn K ou=none)
  (hsp:∀ H:Hp,DK H->gn K H a (ns.map V.int)->sp [.ref a] H (fun v _=>v=.bl true) fun _ _ _=>False)
  (hCX:∀ H e s',CX [] H s₁ (fun _ _ _=>False) e s' -> False) :
  codeAny (model P w) callerA (.call (.ref fa) ⟨[.ref a],[]⟩) (fun r s'=>r=.ok (.ret (.bool true))∧OldK s₁.heap s'.heap∧s'.os=s₁.os∧AllBare s'.gens) s₁:= by
 have rv:=gX hi
 have lenV:=hi.length
 have core:∀ H:Hp,DK H->gn K H a (ns.map V.int)->jS P w H s₁.heap->(∀ b,H b ≠ none->b=a)->(H a ≠ none->K.lookup a=none) ->
   codeAny (model P w) callerA (.call (.ref fa) ⟨[.ref a],[]⟩) (fun r s'=>r=.ok (.ret (.bool true))∧OldK s₁.heap s'.heap∧s'.os=s₁.os∧AllBare s'.gens) s₁:= by
  intro H hO hS hok hA hK
  have base_of:∀ {b:Addr} {o:Obj},s₁.heap.get? b=some o->H b=none->(nX s₁.heap H).get? b=some o:=fun e n=>xj e n
  have noA:∀ {b:Addr} {o:Obj} {es:Array DictEntry} {ep:Nat},s₁.heap.get? b=some o->o.data=.dict es ep->H b=none:=fun {b o es ep} e d=>by
   cases q:H b with
   | none=>rfl
   | some u=>
    have e':b=a:=hA b (by rw [q];simp)
    subst e'
    rw [ha] at e;cases e
    have d':Data.seq vs.toArray _=Data.dict es ep:=d
    cases d'
  have nsK:∀ {b:Addr} {m:Str->Option Value},s₁.heap.Ns b m->(nX s₁.heap H).Ns b m:=fun {b m} ⟨o,es,ep,e,d,r⟩=>⟨o,es,ep,base_of e (noA e d),d,r⟩
  have hKb:K.In (nX s₁.heap H):=fun b o e=>base_of (KX b o e) (by
   cases q:H b with
   | none=>rfl
   | some u=>
    have e':b=a:=hA b (by rw [q];simp)
    subst e'
    rw [hK (by rw [q];simp)] at e;cases e)
  have hM:Mod K mg (nX s₁.heap H):=⟨hKb,nsK hns,⟨mb,nsK hb,hbb⟩,let ⟨mc,h1,h2⟩:=hlim;⟨mc,nsK h1,h2⟩⟩
  have e0:Ar P w K mg (nX s₁.heap H) callerA [] s₁ H:=⟨rfl,hM,fun b o e=>B_ e,Nat.le_of_eq (uX _ _),trivial,fun b hb=>absurd (show b ∈ ([]:List Addr) from hb) (by simp),hok,.of_eq hg,fun c P e=>by rw [hntab] at e;cases e⟩
  refine codeAny_mono ((F _ hKb (nsK hns)).run callerA [] s₁ H ⟨[.ref a],[]⟩ [.ref a] [.ref a] _ _ hr e0 (hbind s₁ (.ref a)) (.cons rfl .nil) (hsp H hO hS)) fun r s' h=>?_
  cases r with
  | error e=>exact (hCX H e s' h).elim
  | ok fl=>
   cases fl with
   | next=>exact False.elim h
   | brk=>exact False.elim h
   | cont=>exact False.elim h
   | ret u=>
    obtain ⟨v,H',os,bare,un,hok',r',q⟩:=h
    have q':v=.bl true:=q
    subst q'
    obtain rfl:u=Value.bool true:=r'
    refine ⟨rfl,OldK.of_keep fun b o e=>?_,os,bare⟩
    cases q:H b with
    | none=>exact un.keep b o e q (by intro z;exact absurd (show b ∈ ([]:List Addr) from z) (by simp)) (by simp)
    | some u=>
     rcases hO b with z | ⟨ob,xs,z⟩
     ·rw [q] at z;cases z
     ·have z2:=un.frzs b ob _ z
      obtain ⟨e1,_⟩:=hok b _ z
      obtain ⟨e2,_⟩:=hok' b _ z2
      rw [e] at e1;cases e1
      exact e2
 cases hk:K.lookup a with
 | some o=>
  have e:=KX a o hk
  rw [ha] at e
  cases e
  refine core (fun _=>none) (fun _=>.inl rfl) (.inr ⟨_,vs.toArray,_,hk,rfl,rfl,rfl,by rw [List.size_toArray,lenV];exact hl,by simpa using rv⟩) (fun b u z=>by have z':(none:Option HO)=some u:=z;cases z') (fun b z=>absurd rfl z) fun z=>absurd rfl z
 | none=>
  refine core (fun b=>if b=a then some (.frz { cls:=.type "list",data:=.seq vs.toArray } (.lst (ns.map V.int))) else none) (fun b=>?_) (.inl (.inr ⟨{ cls:=.type "list",data:=.seq vs.toArray },if_pos rfl⟩)) (fun b u z=>?_) (fun b z=>?_) fun _=>hk
  ·by_cases hb:b=a
   ·exact .inr ⟨_,_,if_pos hb⟩
   ·exact .inl (if_neg hb)
  ·by_cases hb:b=a
   ·have z':=(if_pos hb).symm.trans z
    cases z'
    subst hb
    exact ⟨ha,by rw [List.length_map];exact hl,vs,_,rv,ha⟩
   ·have z':=(if_neg hb).symm.trans z
    cases z'
  ·by_cases hb:b=a
   ·exact hb
   ·exact absurd (if_neg hb) z
end L2
namespace L2
open PySem PySem.Spec PyProof.Rows
abbrev JV {K:PySem.W.Frag} {h:Heap} (_:K.In h):PySem.W.Frag:=K
theorem Ie {l:PySem.W.OpenLaw} {n k:Nat} {q:Program} {loose:List Str} {XP:(Str->Option Value)->Heap->Prop} {YP:World->Heap->Prop} {d:DefRec} {K:Params->PySem.W.Frag} {CX:World->qW} {sp:World->Sp} {x:Str}
  (hn:l.most=some n) (hn2:n ≤ sizeLine) (hdf:d.params.defaults=[]) (hr:cm k callerA)
  (hY:∀ (w:World) (h:Heap),YP w h->(K w.params).In h) (hT:∀ w:World,PySem.W.tabIn (K w.params) ou=none)
  (F:∀ (w:World) (mg:Str->Option Value) (fa:Addr) (h:Heap),(K w.params).In h->h.Ns mainGlobals mg->mg d.name=some (.ref fa) ->
   ∃ fd:FuncData,(∀ (s:Shared) (u:Value),BindsTo s fd ⟨[u],[]⟩ [(x,u)]) ∧
    ∀ base:Heap,(K w.params).In base->base.Ns mainGlobals mg->dF l.prog w (K w.params) mg base (CX w) k fa fd [x] (sp w))
  (hsp:∀ (w:World) (H:Hp) (a:Addr) (ns:List Int),ns.length ≤ n->DK H->gn (K w.params) H a (ns.map V.int)->sp w [.ref a] H (fun v _=>v=.bl true) fun _ _ _=>False)
  (hCX:∀ (w:World) (H:Hp) (s:Shared) (e:Value) (s':Shared),CX w [] H s (fun _ _ _=>False) e s' -> False) :
  PySem.W.WalkO q loose XP YP l.row.toRowW d [] (fun f vs=>PySem.call f vs):= by
 refine Att.attach_call hn hdf fun w s₀ s₁ mg mb fa o pm cd doc a vs ns G Y ho hd hcd hmg hobj hints hlen hg=>?_
 have KX:=hY w _ Y
 obtain ⟨fd,hb,hF⟩:=F w mg fa _ KX G.T.g hmg
 exact pH KX G.T.g G.T.b G.T.builtins G.T.nolimit hg hobj hints (Nat.le_trans hlen hn2) hr hF hb (hT w) (fun H hO hS=>hsp w H a ns hlen hO hS) fun H e s'=>hCX w H s₁ e s'
end L2
namespace L2
open PySem PySem.Spec PyProof.Rows
def eI (s:Stmt):Arguments:=match s with
 | .FunctionDef _ a _ _ _ _ _ _ _ _=>a
 | _=>{ posonlyargs:=[],args:=[],vararg:=none,kwonlyargs:=[],kw_defaults:=[],kwarg:=none,defaults:=[] }
def bX (s:Stmt):List Stmt:=match s with
 | .FunctionDef _ _ b _ _ _ _ _ _ _=>b
 | _=>[]
def ak (s:Stmt):Scope:=match s with
 | .FunctionDef _ _ _ _ _ _ sc _ _ _=>sc
 | _=>{ kind:=.function,names:=[],isGenerator:=false,isCoroutine:=false }
abbrev di:qW:=fun _ _ _ _ _ _=>False
abbrev E0:XK:=fun _ _ _=>False
theorem w_ {X:Cx}:Passes di X E0:=fun _ _ _ _ _ _ _ h=>h.elim
structure zq (K:PySem.W.Frag) (x qual:Str) (st:Stmt) (f:Addr) (fd:FuncData):Prop where
 ex:∃ (oc:Value) (od:Option Addr) (kV doc pm:Value) (an:Option Addr) (cdv ct:Value) (osl:Array (Option Value)),
  fd=PySem.W.fnOf x qual (eI st) (bX st) (ak st) .none kV doc pm an cdv ct∧K.lookup f=some ⟨oc,od,.func fd,osl⟩∧PySem.W.codeIn K cdv qual=true
 kp:PySem.W.keepIn K (.ref f)=true
section
variable {P:Program} {w:World} {K:PySem.W.Frag} {mg:Str->Option Value} {base:Heap}
theorem zq.ok {x qual:Str} {st:Stmt} {f:Addr} {fd:FuncData} {N ps:List Str} {k:Nat} {sp:Sp} (F:zq K x qual st f fd) (S:aF N ps (ak st)) (len:∀ vs H Q E,sp vs H Q E->vs.length=ps.length)
  (hbody:∀ (cdv:Value) (A:Around) (outer:List Env) (s:Shared) (H:Hp) (vs:List V) (Q:VK) (E:XK),cm k (A.deeper (envOfC qual (ak st) s.heap.objs.size f cdv))->sp vs H Q E ->
   ∃ t,qV (iZ di P w K mg base N qual (ak st) f cdv A outer s H E).nox (bX st) t∧t { nx:=fun _ H'=>Q .non H',rt:=Q } (start N vs) H):dF P w K mg base di (k + 1) f fd ps sp:= by
 obtain ⟨oc,od,kV,doc,pm,an,cdv,ct,osl,rfl,lk,hcd⟩:=F.ex
 refine F3 lk hcd S len fun A outer s H vs Q E hr hsp=>?_
 obtain ⟨t,h,q⟩:=hbody cdv A outer s H vs Q E hr hsp
 exact ⟨t,h.nox,q⟩
theorem zq.binds {x qual:Str} {st:Stmt} {f:Addr} {fd:FuncData} {ps:List Str} (F:zq K x qual st f fd)
  (h:∀ (kV doc pm:Value) (an:Option Addr) (cdv ct:Value) (us:List Value),us.length=ps.length->bindArgs (PySem.W.fnOf x qual (eI st) (bX st) (ak st) .none kV doc pm an cdv ct) ⟨us,[]⟩=pure (ps.zip us)):Binds K fd ps []:= by
 obtain ⟨oc,od,kV,doc,pm,an,cdv,ct,osl,rfl,lk,hcd⟩:=F.ex
 exact .all (h kV doc pm an cdv ct)
theorem yF {x qual:Str} {st:Stmt} {f:Addr} {oc:Value} {od an:Option Addr} {osl:Array (Option Value)} {kV doc pm cdv ct:Value} (l:K.lookup f=some ⟨oc,od,.func (PySem.W.fnOf x qual (eI st) (bX st) (ak st) .none kV doc pm an cdv ct),osl⟩)
  (c:PySem.W.codeIn K cdv qual=true) (k:PySem.W.keepIn K (.ref f)=true):zq K x qual st f (PySem.W.fnOf x qual (eI st) (bX st) (ak st) .none kV doc pm an cdv ct):=⟨⟨oc,od,kV,doc,pm,an,cdv,ct,osl,rfl,l,c⟩,k⟩
end
section
variable {X:Cx}
end
theorem GJ {A B:Prop} (h:B):if false=true then A else B:= by
 rw [if_neg Bool.false_ne_true]
 exact h
theorem HG {A B:Prop} (h:A):if true=true then A else B:= by
 rw [if_pos rfl]
 exact h
def vZ (H H':Hp):Prop:=∀ b o,H b=some o->H' b=some o
end L2
namespace L2
open PySem
theorem nG {prog:Program} {w:World} {A:Around} {R:Result->Shared->Prop} {s:Shared} {elt target iter:Expr} {ifs:List Expr} {scope:Scope} {pos:Pos} {it acc:Value} {env:Env} (I:Nat->Shared->Prop)
  (turn:∀ n s,I n s->wpAny (model prog w) A (pyNext it) (fun r s1=>match r with
   | none=>R (.ok .next) s1
   | some v=>wpAny (model prog w) A (letOwnedTupleGo target it v) (fun _ s2=>wpAny (model prog w) A (assign target env v) (fun _ s3=>
     wpAny (model prog w) A (forIn ifs true fun c r=>if r=true then do let ok <- isTrue c env (eval c env);pure (ForInStep.yield ok) else pure (ForInStep.yield r)) (fun ok s4=>
      if ok=true then wpAny (model prog w) A (eval elt env) (fun x s5=>
       wpAny (model prog w) A (call (.builtin "list.append") [acc,x]) (fun _ s6=>∃ m,m < n∧I m s6) (fun _ _=>False) s5) (fun _ _=>False) s4
      else ∃ m,m < n∧I m s4) (fun _ _=>False) s3) (fun _ _=>False) s2) (fun _ _=>False) s1) (fun _ _=>False) s)
  (n:Nat) (h:I n s) :
  codeAny (model prog w) A (.compLoop (.ListComp elt [⟨target,iter,ifs,0⟩] scope pos) 0 it acc env) R s:= by
 refine codeAny_loop rfl I (fun n s hI=>?_) n h
 show wpAny _ A ((compTurn (.ListComp elt [⟨target,iter,ifs,0⟩] scope pos) 0 it acc env).onRaise (fun x=>do noteFrame x env;theTreesLotGoes x)) _ _ s
 refine wpAny_noted ?_
 rw [compTurn_list]
 refine wpAny_bind (wpAny_standAt (wpAny_bind (wpAny_mono (turn n s hI) (fun r s₁ h₁=>?_) fun _ _ h'=>h'.elim)))
 cases r with
 | none=>exact wpAny_pure h₁
 | some v=>
  refine wpAny_bind (wpAny_mono h₁ (fun _ s₂ h₂=>?_) fun _ _ h'=>h'.elim)
  refine wpAny_bind (wpAny_mono h₂ (fun _ s₃ h₃=>wpAny_bind (wpAny_mono h₃ (fun ok s₄ h₄=>?_) fun _ _ h'=>h'.elim)) fun _ _ h'=>h'.elim)
  cases ok with
  | false=>exact wpAny_pure ⟨rfl,h₄⟩
  | true=>
   exact wpAny_bind (wpAny_bind (wpAny_mono h₄ (fun x s₅ h₅=>wpAny_bind (wpAny_mono h₅ (fun _ s₆ h₆=>wpAny_pure (wpAny_pure ⟨rfl,h₆⟩)) fun _ _ h'=>h'.elim)) fun _ _ h'=>h'.elim))
def ir (cells:List (Str × Addr)):List (Str × NameKind)->List (Str × Addr)->List (Str × Addr)
 | [],acc=>acc
 | (n,k) :: r,acc=>if k == .free then (match cells.lookup n with | some c=>ir cells r ((n,c) :: acc) | none=>ir cells r acc) else ir cells r acc
theorem lR {scope:Scope} {env:Env} (h:∀ n,(n,NameKind.free) ∈ scope.names->∃ c,env.cells.lookup n=some c):closureFor scope env=pure (ir env.cells scope.names []):= by
 have gen:∀ (names:List (Str × NameKind)) (acc:List (Str × Addr)),(∀ n,(n,NameKind.free) ∈ names->∃ c,env.cells.lookup n=some c) ->
   (forIn names acc (fun (x:Str × NameKind) (r:List (Str × Addr))=>match x with
    | (name,kind)=>if (kind == .free)=true then do let a <- cellOf env name;pure (ForInStep.yield ((name,a) :: r)) else pure (ForInStep.yield r)):Sem (List (Str × Addr)))=pure (ir env.cells names acc):= by
  intro names
  induction names with
  | nil=>intro acc _;rfl
  | cons x r ih=>
   intro acc hx
   obtain ⟨n,k⟩:=x
   rw [List.forIn_cons]
   unfold ir
   by_cases hk:(k == NameKind.free)=true
   ·have e:k=.free:=by simpa using hk
    subst e
    obtain ⟨c,hc⟩:=hx n List.mem_cons_self
    dsimp only
    rw [if_pos hk,if_pos hk,hc]
    have:cellOf env n=pure c:=by unfold cellOf;rw [hc]
    rw [this]
    show (pure c >>= fun a=>_) >>= _=_
    rw [pure_bind,pure_bind]
    exact ih _ fun m hm=>hx m (List.mem_cons_of_mem _ hm)
   ·dsimp only
    rw [if_neg hk,if_neg hk,pure_bind]
    exact ih _ fun m hm=>hx m (List.mem_cons_of_mem _ hm)
 have g0:=gen scope.names [] h
 unfold closureFor
 refine Eq.trans (congrArg (fun z:Sem (List (Str × Addr))=>z >>= fun r=>pure r) g0) ?_
 exact pure_bind _ _
theorem ja {cells:List (Str × Addr)}:∀ {names:List (Str × NameKind)} {acc:List (Str × Addr)} {x:Str} {c:Addr},(x,c) ∈ ir cells names acc->(x,c) ∈ acc ∨ (cells.lookup x=some c∧(x,NameKind.free) ∈ names)
 | [],_,_,_,h=>.inl h
 | (n,k) :: r,acc,x,c,h=>by
  unfold ir at h
  split at h
  ·rename_i hk
   have e:k=NameKind.free:=by simpa using hk
   subst e
   split at h
   ·rename_i d hd
    rcases ja h with h | ⟨h1,h2⟩
    ·rcases List.mem_cons.mp h with e | h
     ·cases e;exact .inr ⟨hd,List.mem_cons_self⟩
     ·exact .inl h
    ·exact .inr ⟨h1,List.mem_cons_of_mem _ h2⟩
   ·rcases ja h with h | ⟨h1,h2⟩
    ·exact .inl h
    ·exact .inr ⟨h1,List.mem_cons_of_mem _ h2⟩
  ·rcases ja h with h | ⟨h1,h2⟩
   ·exact .inl h
   ·exact .inr ⟨h1,List.mem_cons_of_mem _ h2⟩
theorem h_ {cells:List (Str × Addr)}:∀ {names:List (Str × NameKind)} {acc:List (Str × Addr)} {x:Str},((x,NameKind.free) ∈ names∧(cells.lookup x).isSome=true) ∨ (acc.lookup x).isSome=true->((ir cells names acc).lookup x).isSome=true
 | [],_,_,h=>h.elim (fun z=>nomatch z.1) id
 | (n,k) :: r,acc,x,h=>by
  unfold ir
  by_cases hk:(k == NameKind.free)=true
  ·rw [if_pos hk]
   cases hd:cells.lookup n with
   | none=>
    dsimp only
    refine h_ ?_
    rcases h with ⟨h1,h2⟩ | h
    ·rcases List.mem_cons.mp h1 with e | h1
     ·cases e;rw [hd] at h2;cases h2
     ·exact .inl ⟨h1,h2⟩
    ·exact .inr h
   | some d=>
    dsimp only
    refine h_ ?_
    by_cases hx:(x == n)=true
    ·exact .inr (by rw [List.lookup_cons,hx];rfl)
    ·have hx':(x == n)=false:=by simpa using hx
     rcases h with ⟨h1,h2⟩ | h
     ·rcases List.mem_cons.mp h1 with e | h1
      ·cases e;simp at hx'
      ·exact .inl ⟨h1,h2⟩
     ·exact .inr (by rw [List.lookup_cons,hx'];exact h)
  ·rw [if_neg hk]
   refine h_ ?_
   rcases h with ⟨h1,h2⟩ | h
   ·rcases List.mem_cons.mp h1 with e | h1
    ·cases e;simp at hk
    ·exact .inl ⟨h1,h2⟩
   ·exact .inr h
theorem cQ:∀ (names:List (Str × NameKind)) (n:Nat) (acc:List (Str × Addr)),cellsFrom n names acc=cellsFrom n names [] ++ acc
 | [],_,_=>rfl
 | (x,k) :: r,n,acc=>by
  unfold cellsFrom
  split
  ·rw [cQ r (n + 1) ((x,n) :: acc),cQ r (n + 1) [(x,n)],List.append_assoc];rfl
  ·exact cQ r n acc
theorem d9:∀ (names:List (Str × NameKind)) (n:Nat) (x:Str) (c:Addr),(x,c) ∈ cellsFrom n names []->(x,NameKind.cell) ∈ names
 | [],_,_,_,h=>nomatch h
 | (y,k) :: r,n,x,c,h=>by
  unfold cellsFrom at h
  split at h
  ·rename_i hk
   have e:k=NameKind.cell:=by simpa using hk
   subst e
   rw [cQ] at h
   rcases List.mem_append.mp h with h | h
   ·exact List.mem_cons_of_mem _ (d9 r (n + 1) x c h)
   ·have e:(x,c)=(y,n):=by simpa using h
    cases e;exact List.mem_cons_self
  ·exact List.mem_cons_of_mem _ (d9 r n x c h)
theorem qx {M:Model} {A:Around} {E:Value->Shared->Prop} {s:Shared} {scope:Scope} {globals:Addr} {cl:List (Str × Addr)} {qual:Str} {outer:Env} {Q:Env->Shared->Prop}
  (hQ:Q (newEnv scope s.heap.objs.size globals (cellsFrom (s.heap.objs.size + 1) scope.names cl) qual none .none (some outer) builtinsNs) { s with heap:=pushCells (s.heap.push { cls:=.type "dict",data:=.dict #[] }) scope.names }) :
  wpAny M A (newFunctionEnv scope globals cl [] qual none .none (some outer)) Q E s:= by
 simp only [newFunctionEnv,Option.isSome_some,if_true]
 refine wpAny_bind (wpAny_alloc ?_)
 refine wpAny_bind (wpAny_layCells _ (fun name kind cells=>by cases hkc:kind == NameKind.cell <;> simp [hkc]) _ _ _ _ ?_)
 rw [show ({ s with heap:=s.heap.push { cls:=.type "dict",data:=.dict #[] } }:Shared).heap.objs.size=s.heap.objs.size + 1 from Heap.size_push ..]
 exact wpAny_bind (wpAny_pure (wpAny_pure hQ))
end L2
namespace L2
open PySem PySem.Spec PyProof.Rows
def gF (N own:List Str) (sc0 scope:Scope):Bool :=
 scope.names.all (fun x=>!(x.2 == .local) || (scope.names.lookup x.1 == some .local)) &&
 (scope.names.all (fun x=>!(x.2 == .free) || (sc0.names.lookup x.1 == some .cell || sc0.names.lookup x.1 == some .free)) &&
 (scope.names.all (fun x=>!(x.2 == .local || x.2 == .cell) || !(N.contains x.1)) &&
 (own.all (fun x=>scope.names.all fun y=>!(y.1 == x) || !(y.2 == .free)) &&
 scope.names.all (fun x=>!(x.2 == .free) || scope.names.all fun y=>!(y.1 == x.1) || (y.2 == .free)))))
structure rX (N own:List Str) (sc0 scope:Scope):Prop where
 loc:∀ x ∈ scope.names,x.2=.local->scope.names.lookup x.1=some .local
 free:∀ n,(n,NameKind.free) ∈ scope.names->sc0.names.lookup n=some .cell ∨ sc0.names.lookup n=some .free
 out:∀ n k,(n,k) ∈ scope.names->(k=.local ∨ k=.cell)->n ∉ N
 own:∀ x ∈ own,(x,NameKind.free) ∉ scope.names
 one:∀ n k,(n,NameKind.free) ∈ scope.names->(n,k) ∈ scope.names->k=.free
theorem vv {N own:List Str} {sc0 scope:Scope} (h:gF N own sc0 scope=true):rX N own sc0 scope:= by
 unfold gF at h
 simp only [Bool.and_eq_true,List.all_eq_true,Bool.or_eq_true,Bool.not_eq_true',beq_iff_eq,Bool.or_eq_false_iff] at h
 obtain ⟨h1,h2,h3,h4,h5⟩:=h
 refine ⟨fun x hx e=>?_,fun n hn=>?_,fun n k hn e hN=>?_,fun x hx hn=>?_,fun n k hn hk=>?_⟩
 ·rcases h1 x hx with z | z
  ·rw [e] at z;simp at z
  ·exact z
 ·rcases h2 _ hn with z | z
  ·simp at z
  ·exact z
 ·rcases h3 _ hn with ⟨z1,z2⟩ | z
  ·rcases e with e | e
   ·rw [e] at z1;simp at z1
   ·rw [e] at z2;simp at z2
  ·have:N.contains n=true:=by simpa using hN
   dsimp only at z
   rw [this] at z;cases z
 ·rcases h4 x hx _ hn with z | z
  ·simp at z
  ·simp at z
 ·rcases h5 _ hn with z | z
  ·simp at z
  ·rcases z _ hk with y | y
   ·simp at y
   ·exact y
def gw (N N':List Str) (scope:Scope):Bool:=(N'.length == N.length) && (N'.zip N).all fun p=>p.1 == p.2 || (scope.names.lookup p.1).isNone
structure xO (N N':List Str) (scope:Scope):Prop where
 len:N'.length=N.length
 same:∀ (i:Nat) x,N'[i]? = some x->N[i]? = some x ∨ scope.names.lookup x=none
theorem uY {N N':List Str} {scope:Scope} (h:gw N N' scope=true):xO N N' scope:= by
 unfold gw at h
 simp only [Bool.and_eq_true,beq_iff_eq,List.all_eq_true,Bool.or_eq_true,Option.isNone_iff_eq_none] at h
 refine ⟨h.1,fun i x e=>?_⟩
 have hi:i < N'.length:=(List.getElem?_eq_some_iff.mp e).1
 have hi2:i < N.length:=by rw [<- h.1];exact hi
 have ez:(N'.zip N)[i]? = some (x,N[i]):= by
  rw [List.getElem?_zip_eq_some]
  exact ⟨e,List.getElem?_eq_getElem hi2⟩
 rcases h.2 _ (List.mem_of_getElem? ez) with z | z
 ·left
  rw [List.getElem?_eq_getElem hi2]
  exact congrArg some z.symm
 ·exact .inr z
def blk (X:Cx) (N' own:List Str) (scope:Scope) (s:Shared) (H:Hp) (fp:List Addr) (pins:List (Addr × Obj)):Cx where
 prog:=X.prog
 w:=X.w
 K:=X.K
 mg:=X.mg
 base:=X.base
 A:=X.A
 N:=N' ++ own
 s₀:=s
 H₀:=H
 env:={ newEnv scope s.heap.objs.size X.env.globals (cellsFrom (s.heap.objs.size + 1) scope.names (ir X.env.cells scope.names [])) X.env.qual none .none (some X.env) builtinsNs with scope:=relabel scope X.env }
 outer:=X.stack
 stack:=X.stack
 ex:=fp
 fn:=fun x=>own.contains x
 calm:=X.calm
 pn:=X.pn ++ pins
 xe:=fun _ _=>False
theorem gz {env:Env}:∀ {names:List (Str × NameKind)} {x:Str},
  (names.map fun (n,k)=>if (k == NameKind.free && env.scope.kind == .function && env.kindOf n == some .cell) then (n,NameKind.cell) else (n,k)).lookup x =
   (names.lookup x).map fun k=>if (k == NameKind.free && env.scope.kind == .function && env.kindOf x == some .cell) then NameKind.cell else k
 | [],_=>rfl
 | (n,k) :: r,x=>by
  have ih:=@gz env r x
  rw [List.map_cons]
  cases hx:x == n with
  | true=>
   have e:x=n:=by simpa using hx
   subst e
   by_cases hc:(k == NameKind.free && env.scope.kind == .function && env.kindOf x == some .cell)=true
   ·dsimp only;rw [if_pos hc];simp only [List.lookup_cons,hx,Option.map_some];rw [if_pos hc]
   ·dsimp only;rw [if_neg hc];simp only [List.lookup_cons,hx,Option.map_some];rw [if_neg hc]
  | false=>
   by_cases hc:(k == NameKind.free && env.scope.kind == .function && env.kindOf n == some .cell)=true
   ·dsimp only;rw [if_pos hc];simp only [List.lookup_cons,hx];exact ih
   ·dsimp only;rw [if_neg hc];simp only [List.lookup_cons,hx];exact ih
theorem cF {scope:Scope} {env:Env} {x:Str} {k':NameKind} (h:(relabel scope env).names.lookup x=some k'):∃ k,scope.names.lookup x=some k∧(k' = k ∨ (k=.free∧k' = .cell)):= by
 have h':(scope.names.map fun (n,k)=>if (k == NameKind.free && env.scope.kind == .function && env.kindOf n == some .cell) then (n,NameKind.cell) else (n,k)).lookup x=some k':=h
 rw [gz] at h'
 cases e:scope.names.lookup x with
 | none=>rw [e] at h';cases h'
 | some k=>
  rw [e] at h'
  simp only [Option.map_some,Option.some.injEq] at h'
  refine ⟨k,rfl,?_⟩
  split at h'
  ·rename_i hc
   simp only [Bool.and_eq_true,beq_iff_eq] at hc
   exact .inr ⟨hc.1.1,h'.symm⟩
  ·exact .inl h'.symm
section
variable {X:Cx} {pins:List (Addr × Obj)} {σ:St} {H:Hp} {s:Shared} {N' own:List Str} {scope:Scope} {fp:List Addr}
theorem nC (I:Inv X pins σ H s) (S:rX N' own X.env.scope scope):∀ x c,(cellsFrom (s.heap.objs.size + 1) scope.names (ir X.env.cells scope.names [])).lookup x=some c ->
  ((x,c) ∈ cellsFrom (s.heap.objs.size + 1) scope.names []∧(pushCells (s.heap.push { cls:=.type "dict",data:=.dict #[] }) scope.names).IsCell c none∧s.heap.objs.size + 1 ≤ c∧(x,NameKind.cell) ∈ scope.names) ∨
   (X.env.cells.lookup x=some c∧(x,NameKind.free) ∈ scope.names∧c < s.heap.objs.size):= by
 intro x c h
 have ok:=cellsFrom_ok scope.names (s.heap.push { cls:=.type "dict",data:=.dict #[] }) (s.heap.objs.size + 1) [] ⟨fun _ _ hm=>(nomatch hm),List.Pairwise.nil⟩ (by rw [Heap.size_push];exact Nat.le_refl _)
 rw [Heap.size_push] at ok
 have hm:=mem_of_lookup h
 rw [cQ] at hm
 rcases List.mem_append.mp hm with hm | hm
 ·exact .inl ⟨hm,(ok.empty x c hm).1,(ok.empty x c hm).2,d9 _ _ _ _ hm⟩
 ·rcases ja hm with z | ⟨z1,z2⟩
  ·exact nomatch z
  ·obtain ⟨v,q⟩:=I.cell x c z1
   exact .inr ⟨z1,z2,q.lt⟩
theorem Inv.blkKeep {s:Shared} {scope:Scope}:∀ (b:Addr) (o:Obj),s.heap.get? b=some o->(pushCells (s.heap.push { cls:=.type "dict",data:=.dict #[] }) scope.names).get? b=some o:=fun b o e=>
 pushCells_keeps _ _ b o (Heap.get?_push_of_some _ e)
theorem Inv.blk (I:Inv X pins σ H s) (hf:∀ b ∈ fp,iw X pins H b) (ho:∀ b ∈ fp,b < s.heap.objs.size) (hk:scope.kind=.function) (S:rX N' own X.env.scope scope) (Mk:xO X.N N' scope) :
  Inv (blk X N' own scope s H fp pins) [] (σ ++ List.replicate own.length none) H { s with heap:=pushCells (s.heap.push { cls:=.type "dict",data:=.dict #[] }) scope.names }:= by
 have hcells:=nC I S
 have keep:=@Inv.blkKeep s scope
 have hasC:∀ x,((relabel scope X.env).names.lookup x=some .cell ∨ (relabel scope X.env).names.lookup x=some .free)->∃ c,(cellsFrom (s.heap.objs.size + 1) scope.names (ir X.env.cells scope.names [])).lookup x=some c:= by
  intro x hx
  have:∃ k,scope.names.lookup x=some k∧(k=.cell ∨ k=.free):= by
   rcases hx with hx | hx
   ·obtain ⟨k,e,z⟩:=cF hx
    rcases z with z | ⟨z,_⟩
    ·exact ⟨k,e,.inl z.symm⟩
    ·exact ⟨k,e,.inr z⟩
   ·obtain ⟨k,e,z⟩:=cF hx
    rcases z with z | ⟨z,_⟩
    ·exact ⟨k,e,.inr z.symm⟩
    ·exact ⟨k,e,.inr z⟩
  obtain ⟨k,e,z⟩:=this
  refine Option.isSome_iff_exists.mp (PySem.W.cellsFrom_some scope.names _ _ ?_)
  rcases z with z | z
  ·subst z;exact .inl e
  ·subst z
   have hm:=mem_of_lookup e
   obtain ⟨c,hc⟩:=I.ok.has x (S.free x hm)
   exact .inr (h_ (.inl ⟨hm,by rw [hc];rfl⟩))
 have sub:∀ b,b ∈ vV X.stack->b ∈ X.env.locals :: X.fs:=I.stkSub
 refine ⟨⟨I.ok.mod,hk,I.ok.glob,I.ok.blt,Nat.le_refl _,fun x y c h1 h2=>?_,fun x hx=>hasC x hx,fun x c hx h=>?_,I.ok.hd,I.ok.frames,.inl rfl,fun b hb=>⟨?_,fun x c h=>?_⟩,fun b o e=>I.bs b o e,?_,fun b o e hb=>?_,fun b hb hs=>?_,I.stack,I.stkFree,I.tb⟩,
  rfl,I.bare,Un.kept keep,⟨_,(Heap.Ns.new s.heap (.type "dict")).keeps (pushCells_keeps _ _),fun i x v h1 h2 h3=>?_⟩,fun x c h=>?_,I.hok.fresh (Nat.le_refl _),fun x c h=>?_,fun p hp=>?_,I.hok.kept keep,?_⟩
 ·
  have ok:=cellsFrom_ok scope.names (s.heap.push { cls:=.type "dict",data:=.dict #[] }) (s.heap.objs.size + 1) [] ⟨fun _ _ hm=>(nomatch hm),List.Pairwise.nil⟩ (by rw [Heap.size_push];exact Nat.le_refl _)
  rw [Heap.size_push] at ok
  rcases hcells x c h1 with ⟨a1,_,a3,_⟩ | ⟨a1,_,a3⟩ <;> rcases hcells y c h2 with ⟨b1,_,b3,_⟩ | ⟨b1,_,b3⟩
  ·exact name_of_addr ok.apart a1 b1
  ·exact absurd b3 (Nat.not_lt.mpr (Nat.le_of_succ_le a3))
  ·exact absurd a3 (Nat.not_lt.mpr (Nat.le_of_succ_le b3))
  ·exact I.ok.inj x y c a1 b1
 ·rcases hcells x c h with ⟨_,_,a3,_⟩ | ⟨_,a2,_⟩
  ·show s.heap.objs.size ≤ c
   exact Nat.le_of_succ_le a3
  ·have hx':own.contains x=true:=hx
   exact absurd a2 (S.own x (by simpa using hx'))
 ·exact Nat.ne_of_lt (ho b hb)
 ·rcases hcells x c h with ⟨_,_,a3,_⟩ | ⟨a1,_,_⟩
  ·intro z;subst z;exact absurd (ho _ hb) (Nat.not_lt.mpr (Nat.le_of_succ_le a3))
  ·exact (hf b hb).2.2.2.2.1 x c a1
 ·exact Nat.le_trans I.ok.bsz I.sz
 ·rcases (hf b hb).2.2.2.1 with z | z
  ·exact I.ok.noex b o e z
  ·exact absurd (Heap.lt_size e) (Nat.not_lt.mpr (Nat.le_trans I.ok.bsz z))
 ·rcases List.mem_cons.mp (sub b hs) with z | z
  ·exact (hf b hb).2.1 z
  ·exact (hf b hb).2.2.1 z
 ·
  have hi:i < σ.length:= by
   by_cases hi:i < σ.length
   ·exact hi
   ·rw [List.getElem?_append_right (by omega),List.getElem?_replicate] at h2
    split at h2 <;> cases h2
  rw [List.getElem?_append_left hi] at h2
  have hN':N'[i]? = some x:= by
   have:(N' ++ own)[i]? = some x:=h1
   rwa [List.getElem?_append_left (by rw [Mk.len,<- I.len];exact hi)] at this
  have hmem:x ∈ N':=List.mem_of_getElem? hN'
  have hseen:∃ k,scope.names.lookup x=some k:= by
   rcases h3 with h3 | h3 | h3 <;> (obtain ⟨k,e,_⟩:=cF h3;exact ⟨k,e⟩)
  have hN:X.N[i]? = some x:= by
   rcases Mk.same i x hN' with z | z
   ·exact z
   ·obtain ⟨k,e⟩:=hseen
    rw [z] at e;cases e
  have hfree:scope.names.lookup x=some .free∧((relabel scope X.env).names.lookup x=some .cell ∨ (relabel scope X.env).names.lookup x=some .free):= by
   rcases h3 with h3 | h3 | h3
   ·obtain ⟨k,e,z⟩:=cF h3
    rcases z with z | ⟨_,z⟩
    ·exact absurd hmem (S.out x k (mem_of_lookup e) (.inl z.symm))
    ·cases z
   ·obtain ⟨k,e,z⟩:=cF h3
    rcases z with z | ⟨z,_⟩
    ·exact absurd hmem (S.out x k (mem_of_lookup e) (.inr z.symm))
    ·rw [z] at e;exact ⟨e,.inl h3⟩
   ·obtain ⟨k,e,z⟩:=cF h3
    rcases z with z | ⟨z,_⟩
    ·rw [<- z] at e;exact ⟨e,.inr h3⟩
    ·rw [z] at e;exact ⟨e,.inr h3⟩
  have hm:=mem_of_lookup hfree.1
  have hkX:=S.free x hm
  obtain ⟨m,hn,hl⟩:=I.loc
  obtain ⟨u,r,l⟩:=hl i x v hN h2 (.inr hkX)
  refine ⟨u,r,.inr ⟨hfree.2,?_⟩⟩
  rcases l with ⟨k,_⟩ | ⟨_,c,hc,hcell⟩
  ·have k':X.env.scope.names.lookup x=some .local:=k
   rw [k'] at hkX
   rcases hkX with z | z <;> cases z
  ·obtain ⟨c2,hc2⟩:=hasC x hfree.2
   refine ⟨c2,hc2,?_⟩
   rcases hcells x c2 hc2 with ⟨_,_,_,a4⟩ | ⟨a1,_,_⟩
   ·have:=S.one x _ hm a4;cases this
   ·rw [hc] at a1;cases a1
    exact hcell.keeps keep
 ·rcases hcells x c h with ⟨_,a2,_,_⟩ | ⟨a1,_,_⟩
  ·exact ⟨_,a2⟩
  ·obtain ⟨v,q⟩:=I.cell x c a1
   exact ⟨v,q.keeps keep⟩
 ·rcases hcells x c h with ⟨_,_,a3,_⟩ | ⟨a1,_,_⟩
  ·exact I.hok.fresh (by omega)
  ·exact I.freeC x c a1
 ·have hp':p ∈ X.pn ++ pins:= by
   rcases List.mem_append.mp hp with z | z
   ·exact z
   ·exact nomatch z
  obtain ⟨e,n,ne,nf,d⟩:=I.pin p hp'
  refine ⟨keep _ _ e,n,Nat.ne_of_lt (Heap.lt_size e),fun z=>?_,d⟩
  rcases List.mem_cons.mp (sub p.1 z) with z | z
  ·exact ne z
  ·exact nf z
 ·show (σ ++ List.replicate own.length none).length=(N' ++ own).length
  rw [List.length_append,List.length_append,List.length_replicate,I.len,Mk.len]
theorem Inv.unblk (I:Inv X pins σ H s) (hf:∀ b ∈ fp,iw X pins H b) {pins':List (Addr × Obj)} {σ':St} {H':Hp} {s':Shared} (J:Inv (L2.blk X N' own scope s H fp pins) pins' σ' H' s'):Inv X pins σ H' s' :=
 I.call' (ch:=fp) J.os J.base J.hok J.bare fun b hb=>⟨(hf b hb).2.2.2.1,(hf b hb).2.1,(hf b hb).2.2.2.2.1,(hf b hb).2.2.2.2.2⟩
end
def zd (X:Cx) (ifs:List Expr) (t:TT):Prop :=
 ∀ (pins:List (Addr × Obj)) (s:Shared) (σ:St) (H:Hp) (Q:Bool->Hp->Prop),Inv X pins σ H s->t σ H Q ->
  wpAny (model X.prog X.w) X.A (forIn ifs true fun c r=>if r=true then do let ok <- isTrue c X.env (eval c X.env);pure (ForInStep.yield ok) else pure (ForInStep.yield r)) (TP X pins σ Q) X.xe s
def Je:TT:=fun _ H Q=>Q true H
theorem BG {X:Cx}:zd X [] Je:=fun pins s σ H Q I h=>wpAny_tests_nil ⟨H,I,h⟩
theorem B5 {X:Cx} {c:Expr} {t:TT} (h:PT X c t):zd X [c] t:=fun pins s σ H Q I q=>wpAny_tests_one (h pins s σ H Q I q)
structure GQ (cal:Cx->Prop) (P:Program) (w:World) (K:PySem.W.Frag) (tg:Expr) (J:It) (fp:List Addr) (it:Addr) (tn:Nat->Heap->Prop):Prop where
 obj:∀ i h,tn i h->∀ b ∈ fp,∃ o,h.get? b=some o∧∀ v,o.data ≠ .cell v
 keep:∀ i h h',tn i h->(∀ b ∈ fp,∀ o,h.get? b=some o->h'.get? b=some o)->tn i h'
 item:∀ (X:Cx),X.prog=P->X.w=w->X.K=K->cal X->∀ (i:Nat) (pins:List (Addr × Obj)) (s:Shared) (σ:St) (H:Hp) (E:Value->Shared->Prop),Inv X pins σ H s->(∀ b ∈ fp,iw X pins H b)->tn i s.heap->J.go i H ->
  wpAny (model P w) X.A (pyNext (.ref it)) (fun r s1=>∃ u,r=some u ∧
   wpAny (model P w) X.A (letOwnedTupleGo tg (.ref it) u) (fun _ s2=>∃ x H',Inv X pins σ H' s2∧RelV x u∧J.yld i H x H' ∧ tn (i + 1) s2.heap∧∀ b ∈ fp,H' b=none) E s1) E s
 done:∀ (X:Cx),X.prog=P->X.w=w->X.K=K->cal X->∀ (i:Nat) (pins:List (Addr × Obj)) (s:Shared) (σ:St) (H:Hp) (E:Value->Shared->Prop),Inv X pins σ H s->(∀ b ∈ fp,iw X pins H b)->tn i s.heap->J.stop i H ->
  wpAny (model P w) X.A (pyNext (.ref it)) (fun r s1=>r=none∧Inv X pins σ H s1) E s
 self:∀ (A:Around) (i:Nat) (s:Shared) (Q:Value->Shared->Prop) (E:Value->Shared->Prop),tn i s.heap->Q (.ref it) s->wpAny (model P w) A (pyIter (.ref it)) Q E s
def JD (cal:Cx->Prop) (X:Cx) (tg iter:Expr) (wi:TI):Prop :=
 ∀ (pins:List (Addr × Obj)) (s:Shared) (σ:St) (H:Hp) (R:It->Hp->Prop),Inv X pins σ H s->wi σ H R ->
  wpAny (model X.prog X.w) X.A (eval iter X.env) (fun v s1=>wpAny (model X.prog X.w) X.A (pyIter v) (fun itv s2=>∃ (it:Addr) (fp:List Addr) (tn:Nat->Heap->Prop) (J:It) (H':Hp),itv=.ref it∧Inv X pins σ H' s2∧GQ cal X.prog X.w X.K tg J fp it tn∧tn 0 s2.heap∧(∀ b ∈ fp,iw X pins H' b)∧R J H') X.xe s1) X.xe s
theorem PI.g {X:Cx} {tg iter:Expr} {wi:TI} (h:PI X tg iter wi):JD (fun X=>X.calm=true) X tg iter wi:=fun pins s σ H R I q=>
 cg (h pins s σ H R I q) fun _ _ h=>cg h fun _ _ ⟨it,fp,tn,J,H',e,I',T,r⟩=>⟨it,fp,tn,J,H',e,I',⟨T.obj,T.keep,T.item,T.done,T.self⟩,r⟩
def uj (wi:TI) (own:Nat) (g:TG) (tt:TT) (te:TE):TE:=fun σ H Q=>wi σ H fun J H1=>∀ l,H1 l=none->∃ W:Nat->Nat->List V->Hp->Prop,(∃ m,W 0 m [] (upd H1 l (.lst [])))∧∀ i m acc H,W i m acc H ->
 H l=some (.lst acc)∧((J.stop i H∧Q (.ref l) H) ∨ (J.go i H∧∀ x H',J.yld i H x H' -> g x (σ ++ List.replicate own none) H' fun σ2 H2=>σ2.take σ.length=σ∧tt σ2 H2 fun b H3=>
  if b=true then te σ2 H3 fun v H4=>H4 l=some (.lst acc)∧acc.length < sizeLine∧∃ m',m' < m∧W (i + 1) m' (acc ++ [v]) (upd H4 l (.lst (acc ++ [v])))
  else ∃ m',m' < m∧W (i + 1) m' acc H3))
section
variable {X:Cx} {elt tg iter:Expr} {ifs:List Expr} {scope:Scope} {pos pos':Pos} {N' own:List Str} {wi:TI} {g:TG} {tt:TT} {te:TE}
theorem tP {cal:Cx->Prop} (hc:∀ s H fp pins,cal (blk X N' own scope s H fp pins)) (hi:JD cal X tg iter wi) (hk:scope.kind=.function) (hS:gF N' own X.env.scope scope=true) (hM:gw X.N N' scope=true)
  (hg:∀ s H fp pins,PG (blk X N' own scope s H fp pins) tg g) (ht:∀ s H fp pins,zd (blk X N' own scope s H fp pins) ifs tt) (he:∀ s H fp pins,PE (blk X N' own scope s H fp pins) elt te)
  (hs:∀ x,foldedSetIterable iter X.env x=pure x) {use:Option (Value->Sem Unit)} {Q0:Value->Shared->Prop} {pins:List (Addr × Obj)} {s:Shared} {σ:St} {H:Hp} {Q:VK}
  (I:Inv X pins σ H s) (h:uj wi own.length g tt te σ H Q)
  (fin:∀ (l:Addr) (H':Hp) (s':Shared) (C:Addr) (m:Str->Option Value),Inv X pins σ H' s' -> Q (.ref l) H' -> s'.heap.Ns C m->H' C=none->C ≠ X.env.locals->X.s₀.heap.objs.size ≤ C->(∀ x c,X.env.cells.lookup x=some c->c ≠ C)->(∀ p ∈ X.pn ++ pins,p.1 ≠ C) ->
   compPost (model X.prog X.w) X.A X.xe use Q0 (.ref l) C (.ok .next) s') :
  wpAny (model X.prog X.w) X.A (comprehension (.ListComp elt [⟨tg,iter,ifs,0⟩] scope pos) scope X.env pos' (newList []) false (eval iter X.env) use) Q0 X.xe s:= by
 have S:=vv hS
 have Mk:=uY hM
 refine wpAny_comprehension_free rfl hs (lR fun n hn=>I.ok.has n (S.free n hn)) hk S.loc (cg (hi pins s σ H _ I h) fun xv s1 h1=>cg h1 fun itv s2 h2=>?_)
 obtain ⟨it,fp,tn,J,H2,e,I2,T,st2,f2,q2⟩:=h2
 subst e
 refine wpAny_newObj_type ?_
 have hl2:H2 s2.heap.objs.size=none:=I2.fresh
 have I3:Inv X pins σ (upd H2 s2.heap.objs.size (.lst [])) { s2 with heap:=s2.heap.push { cls:=.type "list",data:=.seq ([]:List Value).toArray } }:=I2.lnew (its:=[]) (t':=s2.toks) .nil (Nat.zero_le _)
 obtain ⟨W,⟨m0,w0⟩,turn⟩:=q2 s2.heap.objs.size hl2
 generalize hl:s2.heap.objs.size=l at *
 have ob2:∀ b ∈ fp,b < l:=fun b hb=>by
  obtain ⟨o,e,_⟩:=T.obj _ _ st2 b hb
  rw [<- hl];exact Heap.lt_size e
 have st3:tn 0 (s2.heap.push { cls:=.type "list",data:=.seq ([]:List Value).toArray }):=T.keep _ _ _ st2 fun b _ o e=>Heap.get?_push_of_some _ e
 have sz3:l < (s2.heap.push { cls:=.type "list",data:=.seq ([]:List Value).toArray }).objs.size:=by rw [Heap.size_push,hl];exact Nat.lt_succ_self _
 have f3:∀ b ∈ fp,iw X pins (upd H2 l (.lst [])) b:=fun b hb=>⟨by rw [ax (Nat.ne_of_lt (ob2 b hb))];exact (f2 b hb).1,(f2 b hb).2⟩
 generalize hs3:({ s2 with heap:=s2.heap.push { cls:=.type "list",data:=.seq ([]:List Value).toArray } }:Shared)=s3 at I3
 have hh3:s3.heap=s2.heap.push { cls:=.type "list",data:=.seq ([]:List Value).toArray }:=by rw [<- hs3]
 rw [<- hh3] at st3 sz3
 have ob3:∀ b ∈ fp,b < s3.heap.objs.size:=fun b hb=>Nat.lt_trans (ob2 b hb) sz3
 generalize upd H2 l (.lst [])=H3 at *
 show wpAny _ _ (newFunctionEnv scope X.env.globals (ir X.env.cells scope.names []) [] X.env.qual none .none (some X.env)) _ _ _
 have goal:wpAny (model X.prog X.w) X.A (newFunctionEnv scope X.env.globals (ir X.env.cells scope.names []) [] X.env.qual none .none (some X.env))
   (fun cenv s₄=>codeAny (model X.prog X.w) X.A (.compStart (.ListComp elt [⟨tg,iter,ifs,0⟩] scope pos) 0 (.ref it) (.ref l) { cenv with scope:=relabel scope X.env }) (compPost (model X.prog X.w) X.A X.xe use Q0 (.ref l) cenv.locals) s₄) X.xe s3:= by
  refine qx ?_
  have IY:=I3.blk f3 ob3 hk S Mk
  have keep:=@Inv.blkKeep s3 scope
  have st4:tn 0 (pushCells (s3.heap.push { cls:=.type "dict",data:=.dict #[] }) scope.names):=T.keep _ _ _ st3 fun b _ o e=>keep b o e
  have hcells:=nC I3 S
  have stat:∀ {H':Hp},(∀ b ∈ fp,H' b=none)->∀ b ∈ fp,iw (blk X N' own scope s3 H3 fp pins) [] H' b:=fun hn b hb=>by
   refine ⟨hn b hb,Nat.ne_of_lt (ob3 b hb),fun z=>?_,.inl hb,fun x c h=>?_,fun p hp=>?_⟩
   ·rcases List.mem_cons.mp (I3.stkSub b z) with z | z
    ·exact (f3 b hb).2.1 z
    ·exact (f3 b hb).2.2.1 z
   ·rcases hcells x c h with ⟨_,_,a3,_⟩ | ⟨a1,_,_⟩
    ·intro z;subst z;exact absurd (ob3 _ hb) (Nat.not_lt.mpr (Nat.le_of_succ_le a3))
    ·exact (f3 b hb).2.2.2.2.1 x c a1
   ·have hp':p ∈ X.pn ++ pins:= by
     rcases List.mem_append.mp hp with z | z
     ·exact z
     ·exact nomatch z
    exact (f3 b hb).2.2.2.2.2 p hp'
  have loop:codeAny (model X.prog X.w) X.A (.compLoop (.ListComp elt [⟨tg,iter,ifs,0⟩] scope pos) 0 (.ref it) (.ref l) (blk X N' own scope s3 H3 fp pins).env)
    (compPost (model X.prog X.w) X.A X.xe use Q0 (.ref l) s3.heap.objs.size) { s3 with heap:=pushCells (s3.heap.push { cls:=.type "dict",data:=.dict #[] }) scope.names }:= by
   refine nG (fun n s'=>∃ i σ' H' acc,Inv (blk X N' own scope s3 H3 fp pins) [] σ' H' s' ∧ σ'.take σ.length=σ∧tn i s'.heap∧(∀ b ∈ fp,H' b=none)∧W i n acc H') ?_ m0
    ⟨0,_,H3,[],IY,by rw [List.take_left'] <;> rfl,st4,fun b hb=>(f3 b hb).1,w0⟩
   rintro n s5 ⟨i,σ5,H5,acc,I5,e5,st5,fr5,w5⟩
   obtain ⟨hacc,cs⟩:=turn i n acc H5 w5
   rcases cs with ⟨stop,q⟩ | ⟨go,step⟩
   ·refine wpAny_mono (T.done (blk X N' own scope s3 H3 fp pins) rfl rfl rfl (hc _ _ _ _) i [] s5 σ5 H5 (fun _ _=>False) I5 (stat fr5) st5 stop) (fun r s6 hr=>?_) fun _ _ z=>z
    obtain ⟨rfl,I6⟩:=hr
    obtain ⟨m,hn,_⟩:=id I6.loc
    refine fin l H5 s6 _ m (I3.unblk f3 I6) q hn I6.free (Nat.ne_of_gt I3.lt) I3.sz (fun x c e z=>?_) fun p hp z=>?_
    ·obtain ⟨v,qc⟩:=I3.cell x c e
     exact absurd qc.lt (by rw [z];exact Nat.lt_irrefl _)
    ·exact absurd (Heap.lt_size (I3.pin p hp).1) (by rw [z];exact Nat.lt_irrefl _)
   ·have lenσ:σ5.length=(σ ++ List.replicate own.length (none:Option V)).length:= by
     rw [I5.len,List.length_append,List.length_replicate,I.len]
     show (N' ++ own).length=_
     rw [List.length_append,Mk.len]
    have I5':Inv (blk X N' own scope s3 H3 fp pins) [] (σ ++ List.replicate own.length none) H5 s5:=I5.weak lenσ.symm fun j v e=>by
     have hj:j < σ.length:= by
      by_cases hj:j < σ.length
      ·exact hj
      ·rw [List.getElem?_append_right (by omega),List.getElem?_replicate] at e
       split at e <;> cases e
     rw [List.getElem?_append_left hj] at e
     rw [<- e5,List.getElem?_take_of_lt hj] at e
     exact e
    refine wpAny_mono (T.item (blk X N' own scope s3 H3 fp pins) rfl rfl rfl (hc _ _ _ _) i [] s5 _ H5 (fun _ _=>False) I5' (stat fr5) st5 go) (fun r s6 hr=>?_) fun _ _ z=>z
    obtain ⟨u,rfl,h6⟩:=hr
    refine cg h6 fun _ s7 ⟨x,H7,I7,r7,y7,st7,fr7⟩=>?_
    have I7':=I7.pinned (stat fr7) (T.obj _ _ st7)
    refine cg (hg s3 H3 fp pins _ s7 _ H7 x u _ I7' r7 (step x H7 y7)) fun _ s8 ⟨σ8,H8,I8,e8,q8⟩=>?_
    refine cg (ht s3 H3 fp pins _ s8 σ8 H8 _ I8 q8) fun b s9 ⟨H9,I9,q9⟩=>?_
    have again:∀ {Ha:Hp} {sa:Shared} {acc':List V} {m':Nat},Inv (blk X N' own scope s3 H3 fp pins) ([] ++ kX fp s7.heap) σ8 Ha sa->m' < n->W (i + 1) m' acc' Ha ->
      ∃ m,m < n∧∃ i σ' H' acc,Inv (blk X N' own scope s3 H3 fp pins) [] σ' H' sa∧σ'.take σ.length=σ∧tn i sa.heap∧(∀ b ∈ fp,H' b=none)∧W i m acc H':=fun {Ha sa acc' m'} Ia hm wa=>by
     refine ⟨m',hm,i + 1,σ8,Ha,acc',Ia.unpinned,e8,T.keep _ _ _ st7 fun b hb o e=>(Ia.pin (b,o) (List.mem_append_right _ (List.mem_append_right _ (fY hb e)))).1,fun b hb=>?_,wa⟩
     obtain ⟨o,e,d⟩:=T.obj _ _ st7 b hb
     exact (Ia.pin (b,o) (List.mem_append_right _ (List.mem_append_right _ (fY hb e)))).2.1
    cases b with
    | false=>
     rw [if_neg Bool.false_ne_true] at q9 ⊢
     obtain ⟨m',hm,wa⟩:=q9
     exact again I9 hm wa
    | true=>
     rw [if_pos rfl] at q9 ⊢
     refine cg (he s3 H3 fp pins _ s9 σ8 H9 _ I9 q9) fun y s10 ⟨v,H10,I10,rv,a10,z10,m',hm,wa⟩=>?_
     exact cg (mL _ s10 σ8 H10 (.ref l) [v] (.ref l) [y] (fun _ Hb=>Hb=upd H10 l (.lst (acc ++ [v]))) I10 rfl (.cons rv .nil) ⟨l,acc,v,rfl,rfl,a10,z10,rfl⟩) fun _ s11 ⟨_,Hb,Ib,_,eb⟩=>by
      subst eb
      exact again Ib hm wa
  exact codeAny_compStart_list loop (T.self _ 0 _ _ _ st4 loop)
 exact goal
theorem BA (hi:PI X tg iter wi) (hg:∀ s H fp pins,PG (blk X N' own scope s H fp pins) tg g) (ht:∀ s H fp pins,zd (blk X N' own scope s H fp pins) ifs tt) (he:∀ s H fp pins,PE (blk X N' own scope s H fp pins) elt te)
  (hS:gF N' own X.env.scope scope=true:=by rfl) (hM:gw X.N N' scope=true:=by rfl) (hk:scope.kind=.function:=by rfl) (hc:X.calm=true:=by rfl) (hs:∀ x,foldedSetIterable iter X.env x=pure x:=by intro _;rfl) :
  PE X (.ListComp elt [⟨tg,iter,ifs,0⟩] scope pos) (uj wi own.length g tt te):= by
 intro pins s σ H Q I h
 rw [eval_ListComp]
 refine tP (use:=none) (cal:=fun X=>X.calm=true) (fun _ _ _ _=>hc) hi.g hk hS hM hg ht he hs I h fun l H' s' C m I' q hn h1 h2 h3 h4 h5=>?_
 refine ⟨m,hn,fun h' sb=>⟨.ref l,H',?_,rfl,q⟩⟩
 exact I'.turned (t':=s'.toks) (fun b o hb e=>(sb.2 b hb).trans e) h1 h2 (.inr h3) h4 h5
theorem uu {i:Nat} {x:Str} {pos'' pos1:Pos} (hN:X.N.Nodup) (hx0:X.N[i]? = some x) (hx:X.env.scope.names.lookup x=some .local)
  (hi:PI X tg iter wi) (hg:∀ s H fp pins,PG (blk X N' own scope s H fp pins) tg g) (ht:∀ s H fp pins,zd (blk X N' own scope s H fp pins) ifs tt) (he:∀ s H fp pins,PE (blk X N' own scope s H fp pins) elt te)
  (hsw:swapsWith (.ListComp elt [⟨tg,iter,ifs,0⟩] scope pos) (some (.Name x pos'')) pos1.line X.env=pure true:=by rfl)
  (hS:gF N' own X.env.scope scope=true:=by rfl) (hM:gw X.N N' scope=true:=by rfl) (hk:scope.kind=.function:=by rfl) (hc:X.calm=true:=by rfl) (hs:∀ x,foldedSetIterable iter X.env x=pure x:=by intro _;rfl) :
  PS X (.Assign [.Name x pos''] (.ListComp elt [⟨tg,iter,ifs,0⟩] scope pos) pos1) (yU (uj wi own.length g tt te) (pL i)):= by
 intro pins s σ H D I h
 rw [exec_Assign_Name_used _ _ _ _ hsw]
 refine wpAny_bind (wpAny_standAt (wpAny_bind ?_))
 show wpAny _ _ (do let _ <- comprehension (.ListComp elt [⟨tg,iter,ifs,0⟩] scope pos) scope X.env _ (newList []) false (eval iter X.env) (some (assign (.Name x pos'') X.env))) _ _ s
 refine wpAny_bind (wpAny_mono (Q:=fun _ s'=>SP X pins D .next s') ?_ (fun _ s' hq=>wpAny_pure (wpAny_pure hq)) fun _ _ e=>e)
 refine tP (use:=some (assign (.Name x pos'') X.env)) (cal:=fun X=>X.calm=true) (fun _ _ _ _=>hc) hi.g hk hS hM hg ht he hs I h fun l H' s' C m I' q hn h1 h2 h3 h4 h5=>?_
 show wpAny _ _ (assign (.Name x pos'') X.env (.ref l)) _ _ s'
 refine wpAny_assign_Name (l9 I' hN hx0 (.inl hx) (v:=.ref l) (u:=.ref l) rfl (fun s'' I'' hsb=>?_) (.inr hx))
 obtain ⟨a,sb,ha⟩:=hsb
 have hCa:C ≠ a:= by
  rcases ha with z | z
  ·rw [z];exact h2
  ·exact Ne.symm (h4 _ _ z)
 refine ⟨m,hn.sameBut sb hCa,fun h' sb'=>⟨σ.set i (some (.ref l)),H',?_,q⟩⟩
 exact I''.turned (t':=s''.toks) (fun b o hb e=>(sb'.2 b hb).trans e) h1 h2 (.inr h3) h4 h5
end
end L2
namespace Jt
open PySem L2
inductive D where
 | non | bl (b:Bool) | int (i:Int) | str (x:Str) | tup (xs:List D) | lst (xs:List D) | dct | dic (kvs:List (Int × Int)) | dip (kvs:List ((Int × Int) × Int))
def kc (a:Addr):HO:=.ext fun h=>a ≠ sysModules∧∃ o n,h.get? a=some o∧o.cls=.type "dict" ∧ o.data=.dict #[] n
abbrev Bl (kvs:List (Int × Int)):HO:=.dK (kvs.map fun p=>(.inl p.1,.int p.2))
abbrev A0 (kvs:List ((Int × Int) × Int)):HO:=.dT (kvs.map fun p=>([.inl p.1.1,.inl p.1.2],.int p.2))
mutual
def R (H:Hp):D->V->Prop
 | .non,v=>v=.non
 | .bl b,v=>v=.bl b
 | .int i,v=>v=.int i
 | .str x,v=>v=.str x
 | .tup ds,v=>∃ a vs,v=.ref a∧H a=some (.tup vs)∧Rs H ds vs
 | .lst ds,v=>∃ a vs,v=.ref a∧Rd H a (.lst vs)∧Rs H ds vs
 | .dct,v=>∃ a,v=.ref a∧H a=some (kc a)
 | .dic kvs,v=>∃ a,v=.ref a∧H a=some (Bl kvs)
 | .dip kvs,v=>∃ a,v=.ref a∧H a=some (A0 kvs)
def Rs (H:Hp):List D->List V->Prop
 | [],vs=>vs=[]
 | d :: ds,vs=>∃ v r,vs=v :: r∧R H d v∧Rs H ds r
end
theorem Rd.mono {H H':Hp} {a:Addr} {u:HO} (m:∀ b o,H b=some o->H' b=some o) (h:Rd H a u):Rd H' a u:= by
 rcases h with h | ⟨o,h⟩
 ·exact .inl (m _ _ h)
 ·exact .inr ⟨o,m _ _ h⟩
mutual
theorem R.mono {H H':Hp} (m:∀ b o,H b=some o->H' b=some o):∀ (d:D) (v:V),R H d v->R H' d v
 | .non,v,h=>by unfold R at *;exact h
 | .bl b,v,h=>by unfold R at *;exact h
 | .int i,v,h=>by unfold R at *;exact h
 | .str x,v,h=>by unfold R at *;exact h
 | .tup ds,v,h=>by
  unfold R at *
  obtain ⟨a,vs,e,h1,h2⟩:=h
  exact ⟨a,vs,e,m _ _ h1,Rs.mono m ds vs h2⟩
 | .lst ds,v,h=>by
  unfold R at *
  obtain ⟨a,vs,e,h1,h2⟩:=h
  exact ⟨a,vs,e,Rd.mono m h1,Rs.mono m ds vs h2⟩
 | .dct,v,h=>by
  unfold R at *
  obtain ⟨a,e,h1⟩:=h
  exact ⟨a,e,m _ _ h1⟩
 | .dic kvs,v,h=>by
  unfold R at *
  obtain ⟨a,e,h1⟩:=h
  exact ⟨a,e,m _ _ h1⟩
 | .dip kvs,v,h=>by
  unfold R at *
  obtain ⟨a,e,h1⟩:=h
  exact ⟨a,e,m _ _ h1⟩
theorem Rs.mono {H H':Hp} (m:∀ b o,H b=some o->H' b=some o):∀ (ds:List D) (vs:List V),Rs H ds vs->Rs H' ds vs
 | [],vs,h=>by unfold Rs at *;exact h
 | d :: ds,vs,h=>by
  unfold Rs at *
  obtain ⟨v,r,e,h1,h2⟩:=h
  exact ⟨v,r,e,R.mono m d v h1,Rs.mono m ds r h2⟩
end
theorem Rs.nil {H:Hp}:Rs H [] []:=by unfold Rs;rfl
theorem Rs.cons {H:Hp} {d:D} {v:V} {ds:List D} {vs:List V} (h:R H d v) (t:Rs H ds vs):Rs H (d :: ds) (v :: vs):= by
 unfold Rs;exact ⟨v,vs,rfl,h,t⟩
theorem Rs.inv {H:Hp} {d:D} {ds:List D} {vs:List V} (h:Rs H (d :: ds) vs):∃ v r,vs=v :: r∧R H d v∧Rs H ds r:= by
 unfold Rs at h;exact h
theorem Rs.inv0 {H:Hp} {vs:List V} (h:Rs H [] vs):vs=[]:=by unfold Rs at h;exact h
theorem Rs.head {H:Hp} {d:D} {v:V} {ds:List D} {vs:List V} (h:Rs H (d :: ds) (v :: vs)):R H d v:= by
 obtain ⟨v',r,e,h1,h2⟩:=h.inv;cases e;exact h1
theorem Rs.tail {H:Hp} {d:D} {v:V} {ds:List D} {vs:List V} (h:Rs H (d :: ds) (v :: vs)):Rs H ds vs:= by
 obtain ⟨v',r,e,h1,h2⟩:=h.inv;cases e;exact h2
theorem Rs.length {H:Hp}:∀ {ds:List D} {vs:List V},Rs H ds vs->vs.length=ds.length
 | [],vs,h=>by rw [h.inv0];rfl
 | d :: ds,vs,h=>by
  obtain ⟨v,r,e,_,h2⟩:=h.inv
  subst e
  simp [Rs.length h2]
theorem Rs.append {H:Hp}:∀ {ds es:List D} {vs us:List V},Rs H ds vs->Rs H es us->Rs H (ds ++ es) (vs ++ us)
 | [],es,vs,us,h,t=>by rw [h.inv0];exact t
 | d :: ds,es,vs,us,h,t=>by
  obtain ⟨v,r,e,h1,h2⟩:=h.inv
  subst e
  exact .cons h1 (Rs.append h2 t)
theorem Rs.left {H:Hp}:∀ {ds es:List D} {vs us:List V},vs.length=ds.length->Rs H (ds ++ es) (vs ++ us)->Rs H ds vs
 | [],es,[],us,_,h=>.nil
 | d :: ds,es,v :: vs,us,l,h=>.cons h.head (Rs.left (by simpa using l) h.tail)
 | [],_,_ :: _,_,l,_=>by cases l
 | _ :: _,_,[],_,l,_=>by cases l
theorem Rs.right {H:Hp}:∀ {ds es:List D} {vs us:List V},vs.length=ds.length->Rs H (ds ++ es) (vs ++ us)->Rs H es us
 | [],es,[],us,_,h=>h
 | d :: ds,es,v :: vs,us,l,h=>Rs.right (ds:=ds) (vs:=vs) (by simpa using l) h.tail
 | [],_,_ :: _,_,l,_=>by cases l
 | _ :: _,_,[],_,l,_=>by cases l
theorem Rs.get {H:Hp}:∀ {ds:List D} {vs:List V} {i:Nat} {d:D},Rs H ds vs->ds[i]? = some d->∃ v,vs[i]? = some v∧R H d v
 | [],_,_,_,_,e=>by simp at e
 | d :: ds,vs,0,d',h,e=>by
  obtain ⟨v,r,e',h1,h2⟩:=h.inv
  subst e'
  simp at e;subst e
  exact ⟨v,rfl,h1⟩
 | d :: ds,vs,i + 1,d',h,e=>by
  obtain ⟨v,r,e',h1,h2⟩:=h.inv
  subst e'
  obtain ⟨v',e2,h3⟩:=Rs.get (i:=i) h2 (by simpa using e)
  exact ⟨v',by simpa using e2,h3⟩
theorem R.tup {H:Hp} {ds:List D} {v:V} (h:R H (.tup ds) v):∃ a vs,v=.ref a∧H a=some (.tup vs)∧Rs H ds vs:=by unfold R at h;exact h
theorem R.lst {H:Hp} {ds:List D} {v:V} (h:R H (.lst ds) v):∃ a vs,v=.ref a∧Rd H a (.lst vs)∧Rs H ds vs:=by unfold R at h;exact h
theorem R.dct {H:Hp} {v:V} (h:R H .dct v):∃ a,v=.ref a∧H a=some (kc a):=by unfold R at h;exact h
theorem R.dic {H:Hp} {kvs:List (Int × Int)} {v:V} (h:R H (.dic kvs) v):∃ a,v=.ref a∧H a=some (Bl kvs):=by unfold R at h;exact h
theorem R.dip {H:Hp} {kvs:List ((Int × Int) × Int)} {v:V} (h:R H (.dip kvs) v):∃ a,v=.ref a∧H a=some (A0 kvs):=by unfold R at h;exact h
theorem R.mkD {H:Hp} {a:Addr} (h:H a=some (kc a)):R H .dct (.ref a):=by unfold R;exact ⟨a,rfl,h⟩
theorem R.int {H:Hp} {i:Int} {v:V} (h:R H (.int i) v):v=.int i:=by unfold R at h;exact h
theorem R.bl {H:Hp} {i:Bool} {v:V} (h:R H (.bl i) v):v=.bl i:=by unfold R at h;exact h
theorem R.str {H:Hp} {i:Str} {v:V} (h:R H (.str i) v):v=.str i:=by unfold R at h;exact h
theorem R.non {H:Hp} {v:V} (h:R H .non v):v=.non:=by unfold R at h;exact h
theorem R.mkI {H:Hp} {i:Int}:R H (.int i) (.int i):=by unfold R;rfl
theorem R.mkB {H:Hp} {i:Bool}:R H (.bl i) (.bl i):=by unfold R;rfl
theorem R.mkS {H:Hp} {i:Str}:R H (.str i) (.str i):=by unfold R;rfl
theorem R.mkN {H:Hp}:R H .non .non:=by unfold R;rfl
theorem R.mkT {H:Hp} {a:Addr} {ds:List D} {vs:List V} (h:H a=some (.tup vs)) (t:Rs H ds vs):R H (.tup ds) (.ref a):=by unfold R;exact ⟨a,vs,rfl,h,t⟩
theorem R.mkL {H:Hp} {a:Addr} {ds:List D} {vs:List V} (h:Rd H a (.lst vs)) (t:Rs H ds vs):R H (.lst ds) (.ref a):=by unfold R;exact ⟨a,vs,rfl,h,t⟩
inductive Slot where
 | un | pu (d:D) | ow (b:Bool) (xs:List D)
abbrev DS:=List Slot
structure Ct where
 Z:Hp
 B:List Addr
 H0:Hp
def uJ (δ:DS) (σ:St) (a:Addr):Prop:=∃ (i:Nat) (b:Bool) (xs:List D),δ[i]? = some (.ow b xs)∧σ[i]? = some (some (.ref a))
open Classical in
def zh (p:Addr->Prop) (H:Hp):Hp:=fun a=>if p a then none else H a
def Hd (c:Ct) (δ:DS) (σ:St) (a:Addr):Prop:=(∃ o,c.Z a=some o) ∨ uJ δ σ a
abbrev fV (c:Ct) (δ:DS) (σ:St) (H:Hp):Hp:=zh (Hd c δ σ) H
theorem eC {p:Addr->Prop} {H:Hp} {a:Addr} {o:HO}:zh p H a=some o ↔ ¬ p a∧H a=some o:= by
 unfold zh
 by_cases h:p a
 ·rw [if_pos h];exact Iff.intro (fun z=>nomatch z) (fun z=>absurd h z.1)
 ·rw [if_neg h];exact Iff.intro (fun z=>And.intro h z) (fun z=>z.2)
theorem bf {p q:Addr->Prop} {H H':Hp} (hp:∀ a o,H a=some o->q a->p a) (hH:∀ a o,¬ p a->H a=some o->H' a=some o):∀ b o,zh p H b=some o->zh q H' b=some o:=fun b o h=>by
 obtain ⟨h1,h2⟩:=eC.mp h
 exact eC.mpr ⟨fun z=>h1 (hp b o h2 z),hH b o h1 h2⟩
def FF (Z H:Hp):Prop:=∀ a o,Z a=some o->H a=some o∧∀ xs,o ≠ .tup xs
structure Sl (c:Ct) (δ:DS) (S:List D) (σ:St) (T:List V) (H:Hp):Prop where
 len:δ.length=σ.length
 pu:∀ (i:Nat) d,δ[i]? = some (.pu d)->∃ v,σ[i]? = some (some v)∧R (fV c δ σ H) d v
 ow:∀ (i:Nat) b xs,δ[i]? = some (.ow b xs)->∃ a vs,σ[i]? = some (some (.ref a))∧H a=some (.lst vs)∧Rs (fV c δ σ H) xs vs∧(b=true->a ∈ c.B)∧(b=false->a ∉ c.B∧c.H0 a=none)∧c.Z a=none
 ne:∀ (i j:Nat) b b' xs ys a,δ[i]? = some (.ow b xs)->δ[j]? = some (.ow b' ys)->σ[i]? = some (some (.ref a))->σ[j]? = some (some (.ref a))->i=j
 st:Rs (fV c δ σ H) S T
 keep:∀ b o,b ∉ c.B->c.H0 b=some o->H b=some o
 bb:∀ b ∈ c.B,∃ o,H b=some o
 zk:FF c.Z H
section
variable {c:Ct} {δ:DS} {S:List D} {σ:St} {T:List V} {H:Hp}
theorem Sl.zz (s:Sl c δ S σ T H):∀ a o,c.Z a=some o->H a=some o:=fun a o h=>(s.zk a o h).1
theorem Sl.hdSome (s:Sl c δ S σ T H) {a:Addr} (h:Hd c δ σ a):∃ o,H a=some o:= by
 rcases h with ⟨o,h⟩ | ⟨i,b,xs,h1,h2⟩
 ·exact ⟨o,s.zz _ _ h⟩
 ·obtain ⟨a',vs,e,h3,_⟩:=s.ow i b xs h1
  rw [h2] at e;cases e
  exact ⟨_,h3⟩
theorem Sl.stk (s:Sl c δ S σ T H) {S':List D} {T':List V} (h:Rs (fV c δ σ H) S' T'):Sl c δ S' σ T' H:=⟨s.len,s.pu,s.ow,s.ne,h,s.keep,s.bb,s.zk⟩
theorem Sl.pop {d:D} {v:V} (s:Sl c δ (d :: S) σ (v :: T) H):Sl c δ S σ T H:=s.stk s.st.tail
theorem Sl.grow (s:Sl c δ S σ T H) {H':Hp} (g:vZ H H'):Sl c δ S σ T H':= by
 have m:∀ b o,fV c δ σ H b=some o->fV c δ σ H' b=some o:=bf (fun _ _ _ z=>z) fun a o _ h=>g a o h
 refine ⟨s.len,fun i d h=>?_,fun i b xs h=>?_,s.ne,s.st.mono m,fun b o h1 h2=>g _ _ (s.keep b o h1 h2),fun b hb=>?_,fun a o hz=>⟨g _ _ (s.zz a o hz),(s.zk a o hz).2⟩⟩
 ·obtain ⟨v,e,r⟩:=s.pu i d h
  exact ⟨v,e,r.mono m⟩
 ·obtain ⟨a,vs,e,h1,h2,h3⟩:=s.ow i b xs h
  exact ⟨a,vs,e,g _ _ h1,h2.mono m,h3⟩
 ·obtain ⟨o,h⟩:=s.bb b hb
  exact ⟨o,g _ _ h⟩
theorem eD {H:Hp} {p:Addr} (h:H p=none) (o:HO):vZ H (upd H p o):=fun b u q=>by rw [ax (bB q h)];exact q
theorem Sl.hdNew (s:Sl c δ S σ T H) {p:Addr} (h:H p=none):¬ Hd c δ σ p:=fun z=>by
 obtain ⟨o,e⟩:=s.hdSome z
 rw [h] at e;cases e
theorem Sl.fresh (s:Sl c δ S σ T H) {p:Addr} (h:H p=none):c.Z p=none∧p ∉ c.B∧c.H0 p=none:= by
 have hB:p ∉ c.B:=fun z=>by
  obtain ⟨o,e⟩:=s.bb p z
  rw [h] at e;cases e
 refine ⟨?_,hB,?_⟩
 ·cases e:c.Z p with
  | none=>rfl
  | some o=>have:=s.zz p o e;rw [h] at this;cases this
 ·cases e:c.H0 p with
  | none=>rfl
  | some o=>have:=s.keep p o hB e;rw [h] at this;cases this
theorem Sl.newTup {ds:List D} {vs:List V} (s:Sl c δ (ds ++ S) σ (vs ++ T) H) (l:vs.length=ds.length) {p:Addr} (h:H p=none):Sl c δ (.tup ds :: S) σ (.ref p :: T) (upd H p (.tup vs)):= by
 have s':=s.grow (eD h (.tup vs))
 exact s'.stk (.cons (.mkT (eC.mpr ⟨s.hdNew h,aI⟩) (s'.st.left l)) (s'.st.right l))
theorem Sl.hide (s:Sl c δ S σ T H) {p:Addr} {o:HO} (h:H p=none) (hn:∀ xs,o ≠ .tup xs:=by exact fun _ h=>nomatch h):Sl { c with Z:=upd c.Z p o } δ S σ T (upd H p o):= by
 have g:=eD h o
 have m:∀ b u,fV c δ σ H b=some u->fV { c with Z:=upd c.Z p o } δ σ (upd H p o) b=some u:=bf (fun a u e z=>by
  rcases z with ⟨w,z⟩ | z
  ·have:a ≠ p:=fun q=>by rw [q,h] at e;cases e
   exact .inl ⟨w,(show c.Z a=upd c.Z p o a from (ax this).symm).trans z⟩
  ·exact .inr z) fun a u _ e=>g a u e
 refine ⟨s.len,fun i d e=>?_,fun i b xs e=>?_,s.ne,s.st.mono m,fun b u h1 h2=>g _ _ (s.keep b u h1 h2),fun b hb=>?_,fun a u hz=>?_⟩
 ·obtain ⟨v,e,r⟩:=s.pu i d e
  exact ⟨v,e,r.mono m⟩
 ·obtain ⟨a,vs,e,h1,h2,h3,h4,h5⟩:=s.ow i b xs e
  refine ⟨a,vs,e,g _ _ h1,h2.mono m,h3,h4,?_⟩
  show upd c.Z p o a=none
  rw [ax fun q=>by rw [q,h] at h1;cases h1];exact h5
 ·obtain ⟨u,e⟩:=s.bb b hb
  exact ⟨u,g _ _ e⟩
 ·have hz':upd c.Z p o a=some u:=hz
  by_cases q:a=p
  ·subst q;rw [aI] at hz' ⊢;exact ⟨hz',by cases hz';exact hn⟩
  ·rw [ax q] at hz' ⊢;exact s.zk a u hz'
theorem Sl.noOw {p:Addr} {o:HO} (s:Sl { c with Z:=upd c.Z p o } δ S σ T H):¬ uJ δ σ p:=fun ⟨i,b,xs,h1,h2⟩=>by
 obtain ⟨a,vs,e,_,_,_,_,h4⟩:=s.ow i b xs h1
 rw [h2] at e;cases e
 have h4':upd c.Z p o p=none:=h4
 rw [aI] at h4';cases h4'
theorem Sl.hideSet {p:Addr} {o:HO} (o':HO) (s:Sl { c with Z:=upd c.Z p o } δ S σ T H) (hB:p ∉ c.B) (h0:c.H0 p=none) (hn:∀ xs,o' ≠ .tup xs:=by exact fun _ h=>nomatch h):Sl { c with Z:=upd c.Z p o' } δ S σ T (upd H p o'):= by
 have hpH:H p=some o:=s.zz p o aI
 have npow:=s.noOw
 have m:∀ b u,fV { c with Z:=upd c.Z p o } δ σ H b=some u->fV { c with Z:=upd c.Z p o' } δ σ (upd H p o') b=some u:=bf (fun a u e z=>by
  rcases z with ⟨w,z⟩ | z
  ·have z':upd c.Z p o' a=some w:=z
   by_cases q:a=p
   ·subst q;exact .inl ⟨o,aI⟩
   ·rw [ax q] at z';exact .inl ⟨w,by show upd c.Z p o a=some w;rw [ax q];exact z'⟩
  ·exact .inr z) fun a u ha e=>by
   have:a ≠ p:=fun z=>ha (.inl ⟨o,by rw [z];exact aI⟩)
   rw [ax this];exact e
 refine ⟨s.len,fun i d e=>?_,fun i b xs e=>?_,s.ne,s.st.mono m,fun b u h1 h2=>?_,fun b hb=>?_,fun a u hz=>?_⟩
 ·obtain ⟨v,e,r⟩:=s.pu i d e
  exact ⟨v,e,r.mono m⟩
 ·have hx:=e
  obtain ⟨a,vs,e,h1,h2,h3,h4,h5⟩:=s.ow i b xs e
  have hap:a ≠ p:=fun z=>npow ⟨i,b,xs,hx,by rw [e,z]⟩
  refine ⟨a,vs,e,by rw [ax hap];exact h1,h2.mono m,h3,h4,?_⟩
  have h5':upd c.Z p o a=none:=h5
  show upd c.Z p o' a=none
  rw [ax hap] at h5' ⊢;exact h5'
 ·have:b ≠ p:=fun z=>by
   have h2':c.H0 b=some u:=h2
   rw [z,h0] at h2';cases h2'
  rw [ax this];exact s.keep b u h1 h2
 ·have:b ≠ p:=fun z=>hB (z ▸ hb)
  rw [ax this];exact s.bb b hb
 ·have hz':upd c.Z p o' a=some u:=hz
  by_cases q:a=p
  ·subst q;rw [aI] at hz' ⊢;exact ⟨hz',by cases hz';exact hn⟩
  ·rw [ax q] at hz' ⊢;exact s.zk a u (by show upd c.Z p o a=some u;rw [ax q];exact hz')
theorem Sl.unhideL {p:Addr} {xs:List D} {vs:List V} (s:Sl { c with Z:=upd c.Z p (.lst vs) } δ (xs ++ S) σ (vs ++ T) H) (l:vs.length=xs.length) (hp:c.Z p=none):Sl c δ (.lst xs :: S) σ (.ref p :: T) H:= by
 have hpH:H p=some (.lst vs):=s.zz p _ aI
 have npow:=s.noOw
 have zc:∀ a u,c.Z a=some u->upd c.Z p (.lst vs) a=some u:=fun a u h=>by rw [ax fun q=>by rw [q,hp] at h;cases h];exact h
 have m:∀ b u,fV { c with Z:=upd c.Z p (.lst vs) } δ σ H b=some u->fV c δ σ H b=some u:=bf (fun a u e z=>by
  rcases z with ⟨w,z⟩ | z
  ·exact .inl ⟨w,zc a w z⟩
  ·exact .inr z) fun a u ha e=>e
 refine ⟨s.len,fun i d e=>?_,fun i b xs e=>?_,s.ne,.cons (.mkL (.inl (eC.mpr ⟨fun z=>?_,hpH⟩)) ((s.st.left l).mono m)) ((s.st.right l).mono m),s.keep,s.bb,fun a u hz=>s.zk a u (zc a u hz)⟩
 ·obtain ⟨v,e,r⟩:=s.pu i d e
  exact ⟨v,e,r.mono m⟩
 ·obtain ⟨a,vs',e,h1,h2,h3,h4,h5⟩:=s.ow i b xs e
  refine ⟨a,vs',e,h1,h2.mono m,h3,h4,?_⟩
  have h5':upd c.Z p (.lst vs) a=none:=h5
  by_cases q:a=p
  ·rw [q];exact hp
  ·rwa [ax q] at h5'
 ·rcases z with ⟨u,z⟩ | z
  ·rw [hp] at z;cases z
  ·exact npow z
theorem Sl.setPu {d:D} {v:V} {i:Nat} (s:Sl c δ (d :: S) σ (v :: T) H) (hi:i < δ.length):Sl c (δ.set i (.pu d)) S (σ.set i (some v)) T H:= by
 have ow':∀ a,uJ (δ.set i (.pu d)) (σ.set i (some v)) a->uJ δ σ a:=fun a ⟨j,b,xs,h1,h2⟩=>by
  by_cases e:i=j
  ·subst e;rw [List.getElem?_set_self hi] at h1;cases h1
  ·rw [List.getElem?_set_ne e] at h1 h2;exact ⟨j,b,xs,h1,h2⟩
 have m:∀ b u,fV c δ σ H b=some u->fV c (δ.set i (.pu d)) (σ.set i (some v)) H b=some u:=bf (fun a u e z=>z.elim .inl fun z=>.inr (ow' a z)) fun a u _ e=>e
 refine ⟨by simpa using s.len,fun j d' h=>?_,fun j b xs h=>?_,fun j k b b' xs ys a h1 h2 h3 h4=>?_,s.st.tail.mono m,s.keep,s.bb,s.zk⟩
 ·by_cases e:i=j
  ·subst e
   rw [List.getElem?_set_self hi] at h;cases h
   exact ⟨v,by rw [List.getElem?_set_self (by rw [<- s.len];exact hi)],s.st.head.mono m⟩
  ·rw [List.getElem?_set_ne e] at h ⊢
   obtain ⟨v',e',r⟩:=s.pu j d' h
   exact ⟨v',e',r.mono m⟩
 ·by_cases e:i=j
  ·subst e;rw [List.getElem?_set_self hi] at h;cases h
  ·rw [List.getElem?_set_ne e] at h ⊢
   obtain ⟨a,vs,e,h1,h2,h3⟩:=s.ow j b xs h
   exact ⟨a,vs,e,h1,h2.mono m,h3⟩
 ·by_cases e:i=j
  ·subst e;rw [List.getElem?_set_self hi] at h1;cases h1
  ·by_cases e':i=k
   ·subst e';rw [List.getElem?_set_self hi] at h2;cases h2
   ·rw [List.getElem?_set_ne e] at h1 h3;rw [List.getElem?_set_ne e'] at h2 h4
    exact s.ne j k b b' xs ys a h1 h2 h3 h4
theorem Sl.setOw {p:Addr} {xs:List D} {vs:List V} {i:Nat} (s:Sl { c with Z:=upd c.Z p (.lst vs) } δ (xs ++ S) σ (vs ++ T) H) (l:vs.length=xs.length) (hp:c.Z p=none) (hB:p ∉ c.B) (h0:c.H0 p=none) (hi:i < δ.length) :
  Sl c (δ.set i (.ow false xs)) S (σ.set i (some (.ref p))) T H:= by
 have hpH:H p=some (.lst vs):=s.zz p _ aI
 have npow:∀ (j:Nat) b ys,δ[j]? = some (.ow b ys)->σ[j]? ≠ some (some (.ref p)):=fun j b ys h1 h2=>s.noOw ⟨j,b,ys,h1,h2⟩
 have zc:∀ a u,c.Z a=some u->upd c.Z p (.lst vs) a=some u:=fun a u h=>by rw [ax fun q=>by rw [q,hp] at h;cases h];exact h
 have hiσ:i < σ.length:=by rw [<- s.len];exact hi
 have m:∀ b u,fV { c with Z:=upd c.Z p (.lst vs) } δ σ H b=some u->fV c (δ.set i (.ow false xs)) (σ.set i (some (.ref p))) H b=some u:=bf (fun a u e z=>by
  rcases z with ⟨w,z⟩ | ⟨j,b,ys,h1,h2⟩
  ·exact .inl ⟨w,zc a w z⟩
  ·by_cases e:i=j
   ·subst e
    rw [List.getElem?_set_self hiσ] at h2;cases h2
    exact .inl ⟨_,aI⟩
   ·rw [List.getElem?_set_ne e] at h1 h2;exact .inr ⟨j,b,ys,h1,h2⟩) fun a u _ e=>e
 refine ⟨by simpa using s.len,fun j d' h=>?_,fun j b ys h=>?_,fun j k b b' ys zs a h1 h2 h3 h4=>?_,(s.st.right l).mono m,s.keep,s.bb,fun a u hz=>s.zk a u (zc a u hz)⟩
 ·by_cases e:i=j
  ·subst e;rw [List.getElem?_set_self hi] at h;cases h
  ·rw [List.getElem?_set_ne e] at h ⊢
   obtain ⟨v',e',r⟩:=s.pu j d' h
   exact ⟨v',e',r.mono m⟩
 ·by_cases e:i=j
  ·subst e
   rw [List.getElem?_set_self hi] at h;cases h
   exact ⟨p,vs,by rw [List.getElem?_set_self hiσ],hpH,(s.st.left l).mono m,(fun z=>absurd z Bool.false_ne_true),(fun _=>⟨hB,h0⟩),hp⟩
  ·rw [List.getElem?_set_ne e] at h ⊢
   have hx:=h
   obtain ⟨a,ws,e,h1,h2,h3,h4,h5⟩:=s.ow j b ys h
   refine ⟨a,ws,e,h1,h2.mono m,h3,h4,?_⟩
   have h5':upd c.Z p (.lst vs) a=none:=h5
   rwa [ax fun q=>npow j b ys hx (by rw [e,q])] at h5'
 ·by_cases e:i=j
  ·subst e
   rw [List.getElem?_set_self hiσ] at h3;cases h3
   by_cases e':i=k
   ·exact e'
   ·rw [List.getElem?_set_ne e'] at h2 h4
    exact absurd h4 (npow k b' zs h2)
  ·rw [List.getElem?_set_ne e] at h1 h3
   by_cases e':i=k
   ·subst e'
    rw [List.getElem?_set_self hiσ] at h4;cases h4
    exact absurd h3 (npow j b ys h1)
   ·rw [List.getElem?_set_ne e'] at h2 h4
    exact s.ne j k b b' ys zs a h1 h2 h3 h4
theorem Sl.giveOw {a:Addr} {xs:List D} {i:Nat} (s:Sl c δ S σ T H) (hi:δ[i]? = some (.ow false xs)) (ha:σ[i]? = some (some (.ref a))) :
  ∃ vs,vs.length=xs.length∧Sl { c with Z:=upd c.Z a (.lst vs) } (δ.set i .un) (xs ++ S) σ (vs ++ T) H∧c.Z a=none∧a ∉ c.B∧c.H0 a=none:= by
 have hiδ:i < δ.length:=(List.getElem?_eq_some_iff.mp hi).1
 obtain ⟨a',vs,e,hH,hv,_,hB,hZ⟩:=s.ow i false xs hi
 rw [ha] at e;cases e
 have owi:∀ b,uJ (δ.set i .un) σ b->uJ δ σ b∧b ≠ a:=fun b ⟨j,bb,ys,h1,h2⟩=>by
  by_cases e:i=j
  ·subst e;rw [List.getElem?_set_self hiδ] at h1;cases h1
  ·rw [List.getElem?_set_ne e] at h1
   exact ⟨⟨j,bb,ys,h1,h2⟩,fun q=>e (s.ne i j _ _ _ _ a hi h1 ha (by rw [h2,q]))⟩
 have m:∀ b u,fV c δ σ H b=some u->fV { c with Z:=upd c.Z a (.lst vs) } (δ.set i .un) σ H b=some u:=bf (fun b u e z=>by
  rcases z with ⟨w,z⟩ | z
  ·by_cases q:b=a
   ·subst q;exact .inr ⟨i,false,xs,hi,ha⟩
   ·exact .inl ⟨w,(show c.Z b=upd c.Z a (.lst vs) b from (ax q).symm).trans z⟩
  ·exact .inr (owi b z).1) fun b u _ e=>e
 refine ⟨vs,hv.length,⟨by simpa using s.len,fun j d h=>?_,fun j b ys h=>?_,fun j k b b' ys zs x h1 h2 h3 h4=>?_,(hv.append s.st).mono m,s.keep,s.bb,fun x u hz=>?_⟩,hZ,(hB rfl).1,(hB rfl).2⟩
 ·have e:i ≠ j:=fun e=>by subst e;rw [List.getElem?_set_self hiδ] at h;cases h
  rw [List.getElem?_set_ne e] at h
  obtain ⟨v',e',r⟩:=s.pu j d h
  exact ⟨v',e',r.mono m⟩
 ·have e:i ≠ j:=fun e=>by subst e;rw [List.getElem?_set_self hiδ] at h;cases h
  rw [List.getElem?_set_ne e] at h
  obtain ⟨b1,ws,e',h1,h2,h3,h4,h5⟩:=s.ow j b ys h
  refine ⟨b1,ws,e',h1,h2.mono m,h3,h4,?_⟩
  show upd c.Z a (.lst vs) b1=none
  rw [ax fun q=>e (s.ne i j _ _ _ _ a hi h ha (by rw [e',q]))];exact h5
 ·have g:∀ (j:Nat) b ys,(δ.set i Slot.un)[j]? = some (.ow b ys)->δ[j]? = some (.ow b ys):=fun j b ys h=>by
   have e:i ≠ j:=fun e=>by subst e;rw [List.getElem?_set_self hiδ] at h;cases h
   rwa [List.getElem?_set_ne e] at h
  exact s.ne j k b b' ys zs x (g _ _ _ h1) (g _ _ _ h2) h3 h4
 ·have hz':upd c.Z a (.lst vs) x=some u:=hz
  by_cases q:x=a
  ·subst q;rw [aI] at hz';cases hz';exact ⟨hH,fun _ h=>nomatch h⟩
  ·rw [ax q] at hz';exact s.zk x u hz'
theorem Sl.mut {a:Addr} {b0:Bool} {xs xs':List D} {vs':List V} {i:Nat} (s:Sl c δ S σ T H) (hi:δ[i]? = some (.ow b0 xs)) (ha:σ[i]? = some (some (.ref a))) (hv:Rs (fV c δ σ H) xs' vs') :
  Sl c (δ.set i (.ow b0 xs')) S σ T (upd H a (.lst vs')):= by
 have hiδ:i < δ.length:=(List.getElem?_eq_some_iff.mp hi).1
 obtain ⟨a',vs,e,hH,_,hB,hB',hZ⟩:=s.ow i b0 xs hi
 rw [ha] at e;cases e
 have owi:∀ b,uJ (δ.set i (.ow b0 xs')) σ b->uJ δ σ b:=fun b ⟨j,bb,ys,h1,h2⟩=>by
  by_cases e:i=j
  ·subst e;exact ⟨i,b0,xs,hi,h2⟩
  ·rw [List.getElem?_set_ne e] at h1;exact ⟨j,bb,ys,h1,h2⟩
 have m:∀ b u,fV c δ σ H b=some u->fV c (δ.set i (.ow b0 xs')) σ (upd H a (.lst vs')) b=some u:=bf (fun b u e z=>z.elim .inl fun z=>.inr (owi b z)) fun b u hb e=>by
  have:b ≠ a:=fun z=>hb (.inr ⟨i,b0,xs,hi,by rw [z];exact ha⟩)
  rw [ax this];exact e
 refine ⟨by simpa using s.len,fun j d' h=>?_,fun j b ys h=>?_,fun j k b b' ys zs x h1 h2 h3 h4=>?_,s.st.mono m,fun b u h1 h2=>?_,fun b hb=>?_,fun x u hz=>?_⟩
 ·have e:i ≠ j:=fun e=>by subst e;rw [List.getElem?_set_self hiδ] at h;cases h
  rw [List.getElem?_set_ne e] at h
  obtain ⟨v',e',r⟩:=s.pu j d' h
  exact ⟨v',e',r.mono m⟩
 ·by_cases e:i=j
  ·subst e
   rw [List.getElem?_set_self hiδ] at h;cases h
   exact ⟨a,vs',ha,aI,hv.mono m,hB,hB',hZ⟩
  ·rw [List.getElem?_set_ne e] at h
   obtain ⟨b1,ws,e',h1,h2,h3⟩:=s.ow j b ys h
   have:b1 ≠ a:=fun z=>e (s.ne i j _ _ xs ys a hi h ha (by rw [e',z]))
   exact ⟨b1,ws,e',by rw [ax this];exact h1,h2.mono m,h3⟩
 ·have g:∀ (j:Nat) b ys,(δ.set i (.ow b0 xs'))[j]? = some (.ow b ys)->∃ b ys,δ[j]? = some (.ow b ys):=fun j b ys h=>by
   by_cases e:i=j
   ·subst e;exact ⟨b0,xs,hi⟩
   ·rw [List.getElem?_set_ne e] at h;exact ⟨b,ys,h⟩
  obtain ⟨c1,ys',h1⟩:=g j b ys h1
  obtain ⟨c2,zs',h2⟩:=g k b' zs h2
  exact s.ne j k c1 c2 ys' zs' x h1 h2 h3 h4
 ·have:b ≠ a:=fun z=>by
   subst z
   cases b0 with
   | true=>exact h1 (hB rfl)
   | false=>rw [(hB' rfl).2] at h2;cases h2
  rw [ax this];exact s.keep b u h1 h2
 ·by_cases e:b=a
  ·subst e;exact ⟨_,aI⟩
  ·rw [ax e];exact s.bb b hb
 ·have:x ≠ a:=fun e=>by rw [e,hZ] at hz;cases hz
  rw [ax this];exact s.zk x u hz
theorem Sl.ext (s:Sl c δ S σ T H) (k:Nat):Sl c (δ ++ List.replicate k .un) S (σ ++ List.replicate k none) T H:= by
 have g:∀ (i:Nat) x,(δ ++ List.replicate k Slot.un)[i]? = some x->x ≠ .un->δ[i]? = some x:=fun i x h n=>by
  by_cases hi:i < δ.length
  ·rwa [List.getElem?_append_left hi] at h
  ·rw [List.getElem?_append_right (by omega),List.getElem?_replicate] at h
   split at h
   ·exact absurd (Option.some.inj h).symm n
   ·cases h
 have gσ:∀ (i:Nat) x,δ[i]? = some x->(σ ++ List.replicate k none)[i]? = σ[i]?:=fun i x h=>by
  rw [List.getElem?_append_left (by rw [<- s.len];exact (List.getElem?_eq_some_iff.mp h).1)]
 have ow':∀ a,uJ (δ ++ List.replicate k .un) (σ ++ List.replicate k none) a->uJ δ σ a:=fun a ⟨j,b,xs,h1,h2⟩=>by
  have h1':=g j _ h1 (by simp)
  rw [gσ j _ h1'] at h2
  exact ⟨j,b,xs,h1',h2⟩
 have m:∀ b u,fV c δ σ H b=some u->fV c (δ ++ List.replicate k .un) (σ ++ List.replicate k none) H b=some u:=bf (fun a u e z=>z.elim .inl fun z=>.inr (ow' a z)) fun a u _ e=>e
 refine ⟨by simp [s.len],fun j d' h=>?_,fun j b xs h=>?_,fun j l b b' xs ys a h1 h2 h3 h4=>?_,s.st.mono m,s.keep,s.bb,s.zk⟩
 ·have h':=g j _ h (by simp)
  obtain ⟨v,e,r⟩:=s.pu j d' h'
  exact ⟨v,by rw [gσ j _ h'];exact e,r.mono m⟩
 ·have h':=g j _ h (by simp)
  obtain ⟨a,vs,e,h1,h2,h3⟩:=s.ow j b xs h'
  exact ⟨a,vs,by rw [gσ j _ h'];exact e,h1,h2.mono m,h3⟩
 ·have h1':=g j _ h1 (by simp)
  have h2':=g l _ h2 (by simp)
  rw [gσ j _ h1'] at h3;rw [gσ l _ h2'] at h4
  exact s.ne j l b b' xs ys a h1' h2' h3 h4
theorem Sl.cut (s:Sl c δ S σ T H) (n:Nat):Sl c (δ.take n) S (σ.take n) T H:= by
 have g:∀ (i:Nat) x,(δ.take n)[i]? = some x->i < n∧δ[i]? = some x:=fun i x h=>by
  have hi:i < n:= by
   have:=(List.getElem?_eq_some_iff.mp h).1
   rw [List.length_take] at this;omega
  exact ⟨hi,by rwa [List.getElem?_take_of_lt hi] at h⟩
 have ow':∀ a,uJ (δ.take n) (σ.take n) a->uJ δ σ a:=fun a ⟨j,b,xs,h1,h2⟩=>by
  obtain ⟨hj,h1'⟩:=g j _ h1
  rw [List.getElem?_take_of_lt hj] at h2
  exact ⟨j,b,xs,h1',h2⟩
 have m:∀ b u,fV c δ σ H b=some u->fV c (δ.take n) (σ.take n) H b=some u:=bf (fun a u e z=>z.elim .inl fun z=>.inr (ow' a z)) fun a u _ e=>e
 refine ⟨by simp [s.len],fun j d' h=>?_,fun j b xs h=>?_,fun j l b b' xs ys a h1 h2 h3 h4=>?_,s.st.mono m,s.keep,s.bb,s.zk⟩
 ·obtain ⟨hj,h'⟩:=g j _ h
  obtain ⟨v,e,r⟩:=s.pu j d' h'
  exact ⟨v,by rw [List.getElem?_take_of_lt hj];exact e,r.mono m⟩
 ·obtain ⟨hj,h'⟩:=g j _ h
  obtain ⟨a,vs,e,h1,h2,h3⟩:=s.ow j b xs h'
  exact ⟨a,vs,by rw [List.getElem?_take_of_lt hj];exact e,h1,h2.mono m,h3⟩
 ·obtain ⟨hj,h1'⟩:=g j _ h1
  obtain ⟨hl,h2'⟩:=g l _ h2
  rw [List.getElem?_take_of_lt hj] at h3;rw [List.getElem?_take_of_lt hl] at h4
  exact s.ne j l b b' xs ys a h1' h2' h3 h4
end
end Jt
namespace Jt
open PySem L2
def M (α:Type):=DS->Option (α × DS)
instance:Monad M where
 pure a:=fun s=>some (a,s)
 bind x f:=fun s=>match x s with
  | none=>none
  | some (a,s')=>f a s'
def lift {α:Type} (o:Option α):M α:=fun s=>match o with
 | none=>none
 | some a=>some (a,s)
theorem M.bind_def {α β:Type} (x:M α) (f:α->M β) (s:DS):(x >>= f) s=(match x s with | none=>none | some (a,s')=>f a s'):=rfl
theorem M.pure_def {α:Type} (a:α) (s:DS):(pure a:M α) s=some (a,s):=rfl
inductive Jz {α β:Type} (x:M α) (f:α->M β) (s:DS) (b:β) (s2:DS):Prop
 | mk (a:α) (s1:DS) (e1:x s=some (a,s1)) (e2:f a s1=some (b,s2)):Jz x f s b s2
theorem bind_some {α β:Type} {x:M α} {f:α->M β} {s:DS} {b:β} {s2:DS} (h:(x >>= f) s=some (b,s2)):Jz x f s b s2:= by
 rw [M.bind_def] at h
 cases e:x s with
 | none=>rw [e] at h;cases h
 | some p=>obtain ⟨a,s1⟩:=p;rw [e] at h;exact ⟨a,s1,e,h⟩
theorem ao {α:Type} {a b:α} {s s':DS} (h:(pure a:M α) s=some (b,s')):a=b∧s=s':= by
 rw [M.pure_def] at h;cases h;exact ⟨rfl,rfl⟩
theorem aw {α:Type} {o:Option α} {b:α} {s s':DS} (h:lift o s=some (b,s')):o=some b∧s=s':= by
 unfold lift at h
 cases o with
 | none=>cases h
 | some a=>cases h;exact ⟨rfl,rfl⟩
theorem aQ {p:Addr->Prop} {H:Hp}:∀ b o,zh p H b=some o->H b=some o:=fun b o h=>(eC.mp h).2
inductive tM (f:M D) (σ:St) (H:Hp) (Q:VK):Prop
 | mk (c:Ct) (δ:DS) (S:List D) (T:List V) (d:D) (δ':DS) (s:Sl c δ S σ T H) (e:f δ=some (d,δ')) (q:∀ v H',Sl c δ' (d :: S) σ (v :: T) H' -> Q v H'):tM f σ H Q
inductive y9 (f:M Bool) (σ:St) (H:Hp) (Q:Bool->Hp->Prop):Prop
 | mk (c:Ct) (δ:DS) (S:List D) (T:List V) (b:Bool) (δ':DS) (s:Sl c δ S σ T H) (e:f δ=some (b,δ')) (q:∀ H',Sl c δ' S σ T H' -> Q b H'):y9 f σ H Q
inductive HZ (f:M (List D)) (σ:St) (H:Hp) (Q:List V->Hp->Prop):Prop
 | mk (c:Ct) (δ:DS) (S:List D) (T:List V) (ds:List D) (δ':DS) (s:Sl c δ S σ T H) (e:f δ=some (ds,δ')) (q:∀ vs H',vs.length=ds.length->Sl c δ' (ds ++ S) σ (vs ++ T) H' -> Q vs H'):HZ f σ H Q
inductive FA (f:M (List D)) (σ:St) (H:Hp) (Q:VK):Prop
 | mk (c:Ct) (δ:DS) (S:List D) (T:List V) (xs:List D) (δ':DS) (s:Sl c δ S σ T H) (e:f δ=some (xs,δ')) (q:∀ l vs H',vs.length=xs.length->Sl { c with Z:=upd c.Z l (.lst vs) } δ' (xs ++ S) σ (vs ++ T) H' -> c.Z l=none->l ∉ c.B->c.H0 l=none->Q (.ref l) H'):FA f σ H Q
abbrev DE (X:Cx) (e:Expr) (f:M D):Prop:=PE X e (tM f)
abbrev DT (X:Cx) (e:Expr) (f:M Bool):Prop:=PT X e (y9 f)
abbrev DW (X:Cx) (e:Expr) (f:M Bool):Prop:=PW X e (y9 f)
abbrev DA (X:Cx) (es:List Expr) (f:M (List D)):Prop:=PA X es (HZ f)
abbrev DF (X:Cx) (e:Expr) (f:M (List D)):Prop:=PE X e (FA f)
theorem b8 {X:Cx} {e:Expr} {t t':TE} (h:PE X e t) (w:∀ σ H Q,t' σ H Q->t σ H Q):PE X e t':=fun pins s σ H Q I q=>h pins s σ H Q I (w σ H Q q)
theorem Aa {X:Cx} {e:Expr} {t t':TT} (h:PT X e t) (w:∀ σ H Q,t' σ H Q->t σ H Q):PT X e t':=fun pins s σ H Q I q=>h pins s σ H Q I (w σ H Q q)
theorem G6 {X:Cx} {e:Expr} {t t':TT} (h:PW X e t) (w:∀ σ H Q,t' σ H Q->t σ H Q):PW X e t':=fun wh pins s σ H Q I q=>h wh pins s σ H Q I (w σ H Q q)
theorem GG {X:Cx} {e:List Expr} {t t':TA} (h:PA X e t) (w:∀ σ H Q,t' σ H Q->t σ H Q):PA X e t':=fun ps pins s σ H Q I q=>h ps pins s σ H Q I (w σ H Q q)
section
variable {X:Cx} {a b e:Expr} {fa fb:M D} {pos:Pos}
def ah (i:Nat):M D:=fun δ=>match δ[i]? with
 | some (.pu d)=>some (d,δ)
 | _=>none
theorem mr {i:Nat} {δ δ':DS} {d:D} (h:ah i δ=some (d,δ')):δ[i]? = some (.pu d)∧δ=δ':= by
 unfold ah at h
 split at h
 ·rename_i d0 e;cases h;exact ⟨e,rfl⟩
 ·cases h
theorem ae (i:Nat) {x:Str} {pos:Pos} (hN:X.N[i]? = some x:=by rfl) (hv:qT X.env.scope x:=by first | exact Or.inl rfl | exact Or.inr (Or.inl rfl) | exact Or.inr (Or.inr rfl)) (hd:(x == ("__debug__":Str))=false:=by decide)
  (hcd:(x == ("__classdict__":Str))=false:=by decide):DE X (.Name x pos) (ah i):=b8 (dm hN hv hd hcd) fun σ H Q ⟨c,δ,S,T,d,δ',s,e,k⟩=>by
 obtain ⟨e',rfl⟩:=mr e
 obtain ⟨v,ev,r⟩:=s.pu i d e'
 exact ⟨v,ev,k v H (s.stk (.cons r s.st))⟩
theorem HL {e:Expr} {v:V} {d:D} (h:PE X e (tC v)) (r:∀ H,R H d v):DE X e (pure d):=b8 h fun σ H Q ⟨c,δ,S,T,d',δ',s,e,k⟩=>by
 obtain ⟨rfl,rfl⟩:=ao e
 exact k v H (s.stk (.cons (r _) s.st))
theorem ai {i:Int} {j pos}:DE X (.Constant (.int i) j pos) (pure (.int i)):=HL rH fun _=>.mkI
theorem da {i:Bool} {j pos}:DE X (.Constant (.bool i) j pos) (pure (.bl i)):=HL Gv fun _=>.mkB
theorem rA {i:Str} {j pos}:DE X (.Constant (.str i) j pos) (pure (.str i)):=HL EO fun _=>.mkS
theorem xI {j pos}:DE X (.Constant .none j pos) (pure .non):=HL Fb fun _=>.mkN
theorem aE {f:M (List D)} (h:DF X e f):DE X e (do let xs <- f;pure (.lst xs)):=b8 h fun σ H Q ⟨c,δ,S,T,d,δ',s,e,k⟩=>by
 obtain ⟨xs,δ1,e1,e2⟩:=bind_some e
 obtain ⟨rfl,rfl⟩:=ao e2
 exact ⟨c,δ,S,T,xs,δ1,s,e1,fun l vs H' hl s' hz _ _=>k _ _ (s'.unhideL hl hz)⟩
def qq (r:R2) (f:D->D->Option D):Prop:=∀ (c:Ct) (δ:DS) (S:List D) (σ:St) (T:List V) (H:Hp) (x y:D) (v u:V) (d:D) (Q:VK),Sl c δ (y :: x :: S) σ (u :: v :: T) H->f x y=some d->(∀ z H',Sl c δ (d :: S) σ (z :: T) H' -> Q z H')->r v u H Q
def m2 (f:D->D->Option D) (fa fb:M D):M D:=do
 let x <- fa
 let y <- fb
 lift (f x y)
theorem ux {r:R2} {f:D->D->Option D} (hd:qq r f):∀ σ H Q,tM (m2 f fa fb) σ H Q->C1 r (tM fa) (tM fb) σ H Q:=fun σ H Q ⟨c,δ,S,T,d,δ',s,e,k⟩=>by
 obtain ⟨x,δ1,e1,e⟩:=bind_some e
 obtain ⟨y,δ2,e2,e⟩:=bind_some e
 obtain ⟨e3,rfl⟩:=aw e
 exact ⟨c,δ,S,T,x,δ1,s,e1,fun v H1 s1=>⟨c,δ1,x :: S,v :: T,y,δ2,s1,e2,fun u H2 s2=>hd _ _ _ _ _ _ _ _ _ _ _ _ s2 e3 k⟩⟩
theorem jH {op:Operator} {r:R2} {f:D->D->Option D} (ho:gc X (binaryOp op) r) (hd:qq r f) (ha:DE X a fa) (hb:DE X b fb):DE X (.BinOp a op b pos) (m2 f fa fb):=b8 (CJ ho ha hb) (ux hd)
theorem jc {op:CmpOp} {r:R2} {f:D->D->Option D} (ho:gc X (compareOp op) r) (hd:qq r f) (ha:DE X a fa) (hb:DE X b fb) (hm:behindInMarks op b=false:=by first | exact sJ _ | rfl):DE X (.Compare a [op] [b] pos) (m2 f fa fb):=b8 (zu ho ha hb hm) (ux hd)
theorem GB {r:R2} {f:D->D->Option D} (hr:zp X r) (hd:qq r f) (ha:DE X a fa) (hb:DE X b fb) (hs:jU b:=by exact fun _ _=>rfl):DE X (.Subscript a b pos) (m2 f fa fb):=b8 (Cz hr ha hb hs) (ux hd)
def bT (C:Int->Int->Bool) (g:Int->Int->D):D->D->Option D
 | .int i,.int j=>if C i j=true then some (g i j) else none
 | _,_=>none
theorem dv {C:Int->Int->Bool} {g:Int->Int->D} {x y d:D} (h:bT C g x y=some d):∃ i j,x=.int i∧y=.int j∧C i j=true∧d=g i j:= by
 unfold bT at h
 split at h
 ·rename_i i j
  split at h
  ·cases h;exact ⟨i,j,rfl,rfl,‹_›,rfl⟩
  ·cases h
 ·cases h
theorem qu {C:Int->Int->Prop} {C':Int->Int->Bool} {g:Int->Int->V} {g':Int->Int->D} (hC:∀ i j,C' i j=true->C i j) (hg:∀ H i j,R H (g' i j) (g i j)):qq (rI C g) (bT C' g'):=fun c δ S σ T H x y v u d Q s e k=>by
 obtain ⟨i,j,rfl,rfl,e1,rfl⟩:=dv e
 have h1:=s.st.head.int
 have h2:=s.st.tail.head.int
 exact ⟨i,j,h2,h1,hC i j e1,k _ _ (s.stk (.cons (hg _ _ _) s.st.tail.tail))⟩
theorem gS {g:Int->Int->V} {g':Int->Int->D} (hg:∀ H i j,R H (g' i j) (g i j)):qq (vW g) (bT (fun _ _=>true) g'):=fun c δ S σ T H x y v u d Q s e k=>by
 obtain ⟨i,j,rfl,rfl,e1,rfl⟩:=dv e
 have h1:=s.st.head.int
 have h2:=s.st.tail.head.int
 exact ⟨i,j,h2,h1,k _ _ (s.stk (.cons (hg _ _ _) s.st.tail.tail))⟩
def cG:=bT (fun _ _=>true) fun i j=>.int (i + j)
def eR:=bT (fun _ _=>true) fun i j=>.int (i - j)
def lJ:=bT (fun i j=>(decide (-(2 ^ 64) < i) && decide (i < 2 ^ 64)) || (decide (-(2 ^ 64) < j) && decide (j < 2 ^ 64))) fun i j=>.int (i * j)
def ql:=bT (fun _ j=>decide (0 < j)) fun i j=>.int (i % j)
def Ff:=bT (fun _ j=>decide (0 < j) && decide (j < 1073741824)) fun i j=>.int (i / j)
def rb:=bT (fun _ _=>true) fun i j=>.bl (decide (i < j))
def FC:=bT (fun _ _=>true) fun i j=>.bl (decide (i ≤ j))
def uz:=bT (fun _ _=>true) fun i j=>.bl (decide (j < i))
def IB:=bT (fun _ _=>true) fun i j=>.bl (decide (j ≤ i))
theorem cy (ha:DE X a fa) (hb:DE X b fb):DE X (.BinOp a .Add b pos) (m2 cG fa fb):=jH Dv (gS fun _ _ _=>.mkI) ha hb
theorem gU (ha:DE X a fa) (hb:DE X b fb):DE X (.BinOp a .Sub b pos) (m2 eR fa fb):=jH E7 (gS fun _ _ _=>.mkI) ha hb
theorem oC (ha:DE X a fa) (hb:DE X b fb):DE X (.BinOp a .Mult b pos) (m2 lJ fa fb):=jH Ej (qu (fun i j h=>by
 simp only [Bool.or_eq_true,Bool.and_eq_true,decide_eq_true_eq] at h;exact h) fun _ _ _=>.mkI) ha hb
theorem oj (ha:DE X a fa) (hb:DE X b fb):DE X (.BinOp a .Mod b pos) (m2 ql fa fb):=jH Dw (qu (fun i j h=>of_decide_eq_true h) fun _ _ _=>.mkI) ha hb
theorem ER (ha:DE X a fa) (hb:DE X b fb):DE X (.BinOp a .FloorDiv b pos) (m2 Ff fa fb):=jH Bu (qu (fun i j h=>by
 simp only [Bool.and_eq_true,decide_eq_true_eq] at h;exact h) fun _ _ _=>.mkI) ha hb
theorem Gp (ha:DE X a fa) (hb:DE X b fb):DE X (.Compare a [.Lt] [b] pos) (m2 rb fa fb):=jc ng (gS fun _ _ _=>.mkB) ha hb
theorem Gn (ha:DE X a fa) (hb:DE X b fb):DE X (.Compare a [.Gt] [b] pos) (m2 uz fa fb):=jc CB (gS fun _ _ _=>.mkB) ha hb
theorem Hx (ha:DE X a fa) (hb:DE X b fb):DE X (.Compare a [.GtE] [b] pos) (m2 IB fa fb):=jc GK (gS fun _ _ _=>.mkB) ha hb
def cT:D->D->Option D
 | .tup ds,.int i=>ju ds i
 | .lst ds,.int i=>ju ds i
 | _,_=>none
theorem sD {H:Hp} {ds:List D} {vs:List V} {i:Int} {d:D} (h:Rs H ds vs) (e:ju ds i=some d):∃ v,ju vs i=some v∧R H d v:= by
 unfold ju at *
 rw [h.length]
 cases q:q0 ds.length i with
 | none=>rw [q] at e;cases e
 | some j=>
  rw [q] at e
  exact h.get e
theorem D7 {K:PySem.W.Frag}:qq (Jx K) cT:=fun c δ S σ T H x y v u d Q s e k=>by
 cases x with
 | tup ds=>
  cases y with
  | int i=>
   have e':ju ds i=some d:=e
   obtain ⟨p,vs,rfl,h1,h2⟩:=s.st.tail.head.tup
   obtain ⟨z,e2,r⟩:=sD h2 e'
   exact .inr (.inl ⟨p,vs,i,z,rfl,s.st.head.int,.of (aQ _ _ h1),e2,k _ _ (s.stk (.cons r s.st.tail.tail))⟩)
  | _=>cases e
 | lst ds=>
  cases y with
  | int i=>
   have e':ju ds i=some d:=e
   obtain ⟨p,vs,rfl,h1,h2⟩:=s.st.tail.head.lst
   obtain ⟨z,e2,r⟩:=sD h2 e'
   exact .inl ⟨p,vs,i,z,rfl,s.st.head.int,.inl (Rd.mono aQ h1),e2,k _ _ (s.stk (.cons r s.st.tail.tail))⟩
  | _=>cases e
 | _=>cases e
theorem aJ (ha:DE X a fa) (hb:DE X b fb) (hs:jU b:=by exact fun _ _=>rfl):DE X (.Subscript a b pos) (m2 cT fa fb):=GB Eu D7 ha hb hs
def dq:D->M Bool
 | .bl b=>pure b
 | _=>lift none
theorem kh {d:D} {b:Bool} {δ δ':DS} (h:dq d δ=some (b,δ')):d=.bl b∧δ=δ':= by
 unfold dq at h
 split at h
 ·obtain ⟨rfl,rfl⟩:=ao h;exact ⟨rfl,rfl⟩
 ·cases h
theorem fQ {op:CmpOp} {r:R2} {f:D->D->Option D} (ho:gc X (compareOp op) r) (hd:qq r f) (ha:DE X a fa) (hb:DE X b fb) (hm:behindInMarks op b=false:=by first | exact sJ _ | rfl):DT X (.Compare a [op] [b] pos) (m2 f fa fb >>= dq) :=
 Aa (tq ho ha hb hm) fun σ H Q ⟨c,δ,S,T,d,δ',s,e,k⟩=>by
  obtain ⟨x,δ1,e1,e⟩:=bind_some e
  obtain ⟨rfl,rfl⟩:=kh e
  exact ux hd σ H _ ⟨c,δ,S,T,.bl d,δ1,s,e1,fun v H' s'=>⟨d,s'.st.head.bl,k _ s'.pop⟩⟩
theorem Hj (ha:DE X a fa) (hb:DE X b fb):DT X (.Compare a [.Lt] [b] pos) (m2 rb fa fb >>= dq):=fQ ng (gS fun _ _ _=>.mkB) ha hb
theorem wI (ha:DE X a fa) (hb:DE X b fb):DT X (.Compare a [.Gt] [b] pos) (m2 uz fa fb >>= dq):=fQ CB (gS fun _ _ _=>.mkB) ha hb
def b_:D->Option Bool
 | .non=>some false
 | .bl b=>some b
 | .int i=>some (i != 0)
 | .str _=>none
 | .tup ds=>some (!ds.isEmpty)
 | .lst ds=>some (!ds.isEmpty)
 | .dct=>none
 | .dic _=>none
 | .dip _=>none
theorem kP {H:Hp} {ds:List D} {vs:List V} (h:Rs H ds vs):(!ds.isEmpty) = !vs.isEmpty:= by
 cases ds with
 | nil=>rw [h.inv0];rfl
 | cons d ds=>obtain ⟨v,r,e,_⟩:=h.inv;rw [e];rfl
theorem zA {K:PySem.W.Frag} {Hh H:Hp} {d:D} {v:V} {b:Bool} (m:∀ b o,Hh b=some o->H b=some o) (r:R Hh d v) (e:b_ d=some b):D8 K v H b:= by
 cases d with
 | non=>cases r.non;cases e;rfl
 | bl x=>cases r.bl;cases e;rfl
 | int i=>cases r.int;cases e;rfl
 | str x=>cases e
 | dct=>cases e
 | dic _=>cases e
 | dip _=>cases e
 | tup ds=>
  obtain ⟨p,vs,rfl,h1,h2⟩:=r.tup
  cases e
  exact .inr (.inl ⟨vs,.of (m _ _ h1),kP h2⟩)
 | lst ds=>
  obtain ⟨p,vs,rfl,h1,h2⟩:=r.lst
  cases e
  exact .inl ⟨vs,.inl (Rd.mono m h1),kP h2⟩
theorem cj (ha:DE X a fa) (he:∀ whole,isTrue a X.env whole=(do let v <- whole;standAt a.pos;holding [v] (truthy v)):=by intro _;rfl):DT X a (do let x <- fa;lift (b_ x)) :=
 Aa (xq ha he) fun σ H Q ⟨c,δ,S,T,d,δ',s,e,k⟩=>by
  obtain ⟨x,δ1,e1,e⟩:=bind_some e
  obtain ⟨e2,rfl⟩:=aw e
  exact ⟨c,δ,S,T,x,δ1,s,e1,fun v H' s'=>⟨d,zA aQ s'.st.head e2,k _ s'.pop⟩⟩
def pW (fa fb:M Bool):M Bool:=do
 let x <- fa
 if x=true then fb else pure false
def t_ (fa fb:M Bool):M Bool:=do
 let x <- fa
 if x=true then pure true else fb
def gB (fa:M Bool):M Bool:=do
 let x <- fa
 pure (!x)
variable {ta tb:M Bool} {rest:List Expr}
theorem jX (ha:DT X a ta):DW X (.BoolOp .And [a] pos) ta:=A9 ha
theorem iB (ha:DT X a ta):DW X (.BoolOp .Or [a] pos) ta:=DN ha
theorem ll (ha:DT X a ta) (hb:DW X (.BoolOp .And (b :: rest) pos) tb):DW X (.BoolOp .And (a :: b :: rest) pos) (pW ta tb):=G6 (EG ha hb) fun σ H Q ⟨c,δ,S,T,d,δ',s,e,k⟩=>by
 obtain ⟨x,δ1,e1,e⟩:=bind_some e
 refine ⟨c,δ,S,T,x,δ1,s,e1,fun H' s'=>?_⟩
 cases x with
 | true=>rw [if_pos rfl] at e ⊢;exact ⟨c,δ1,S,T,d,δ',s',e,k⟩
 | false=>
  rw [if_neg Bool.false_ne_true] at e ⊢
  obtain ⟨rfl,rfl⟩:=ao e
  exact k _ s'
theorem i7 (ha:DT X a ta) (hb:DW X (.BoolOp .Or (b :: rest) pos) tb):DW X (.BoolOp .Or (a :: b :: rest) pos) (t_ ta tb):=G6 (Gq ha hb) fun σ H Q ⟨c,δ,S,T,d,δ',s,e,k⟩=>by
 obtain ⟨x,δ1,e1,e⟩:=bind_some e
 refine ⟨c,δ,S,T,x,δ1,s,e1,fun H' s'=>?_⟩
 cases x with
 | false=>rw [if_neg Bool.false_ne_true] at e ⊢;exact ⟨c,δ1,S,T,d,δ',s',e,k⟩
 | true=>
  rw [if_pos rfl] at e ⊢
  obtain ⟨rfl,rfl⟩:=ao e
  exact k _ s'
theorem j7 (h:DW X a ta):DT X a ta:=h.pt
theorem dJ (ha:DT X a ta):DT X (.UnaryOp .Not a pos) (gB ta):=Aa (Dm ha) fun σ H Q ⟨c,δ,S,T,d,δ',s,e,k⟩=>by
 obtain ⟨x,δ1,e1,e⟩:=bind_some e
 obtain ⟨rfl,rfl⟩:=ao e
 exact ⟨c,δ,S,T,x,δ1,s,e1,fun H' s'=>k _ s'⟩
def jL (fa fb:M D):M D:=do
 let x <- fa
 match x with
 | .bl true=>fb
 | .bl false=>pure (.bl false)
 | _=>lift none
def yV (fa:M D):M D:=do
 let x <- fa
 match x with
 | .bl b=>pure (.bl (!b))
 | _=>lift none
theorem iH {op} (h:DE X a fa):DE X (.BoolOp op [a] pos) fa:=D_ h
theorem ix (ha:DE X a fa) (hb:DE X (.BoolOp .And (b :: rest) pos) fb):DE X (.BoolOp .And (a :: b :: rest) pos) (jL fa fb):=b8 (EF ha hb) fun σ H Q ⟨c,δ,S,T,d,δ',s,e,k⟩=>by
 obtain ⟨x,δ1,e1,e⟩:=bind_some e
 refine ⟨c,δ,S,T,x,δ1,s,e1,fun v H' s'=>?_⟩
 cases x with
 | bl q=>
  cases q with
  | true=>exact ⟨true,s'.st.head.bl,HG ⟨c,δ1,S,T,d,δ',s'.pop,e,k⟩⟩
  | false=>
   obtain ⟨rfl,rfl⟩:=ao e
   exact ⟨false,s'.st.head.bl,GJ (k _ _ (s'.stk (.cons .mkB s'.st.tail)))⟩
 | _=>cases e
theorem y4 (ha:DE X a fa):DE X (.UnaryOp .Not a pos) (yV fa):=b8 (D4 ha) fun σ H Q ⟨c,δ,S,T,d,δ',s,e,k⟩=>by
 obtain ⟨x,δ1,e1,e⟩:=bind_some e
 refine ⟨c,δ,S,T,x,δ1,s,e1,fun v H' s'=>?_⟩
 cases x with
 | bl q=>
  obtain ⟨rfl,rfl⟩:=ao e
  exact ⟨q,s'.st.head.bl,k _ _ (s'.stk (.cons .mkB s'.st.tail))⟩
 | _=>cases e
def g9 {α:Type} (t:M Bool) (fa fb:M α):M α:=do
 let x <- t
 if x=true then fa else fb
theorem Gd {t:Expr} (ht:DT X t ta) (ha:DE X a fa) (hb:DE X b fb):DE X (.IfExp t a b pos) (g9 ta fa fb):=b8 (wO ht ha hb) fun σ H Q ⟨c,δ,S,T,d,δ',s,e,k⟩=>by
 obtain ⟨x,δ1,e1,e⟩:=bind_some e
 refine ⟨c,δ,S,T,x,δ1,s,e1,fun H' s'=>?_⟩
 cases x with
 | true=>rw [if_pos rfl] at e ⊢;exact ⟨c,δ1,S,T,d,δ',s',e,k⟩
 | false=>rw [if_neg Bool.false_ne_true] at e ⊢;exact ⟨c,δ1,S,T,d,δ',s',e,k⟩
variable {es:List Expr} {fs:M (List D)}
theorem ag:DA X [] (pure []):=GG fm fun σ H Q ⟨c,δ,S,T,d,δ',s,e,k⟩=>by
 obtain ⟨rfl,rfl⟩:=ao e
 exact k [] H rfl s
def af (fa:M D) (fs:M (List D)):M (List D):=do
 let x <- fa
 let xs <- fs
 pure (x :: xs)
theorem ab (ha:DE X a fa) (hr:DA X es fs) (hs:starEach (a :: es) X.env=(false,eval a X.env) :: starEach es X.env:=by rfl):DA X (a :: es) (af fa fs):=GG (cY ha hr hs) fun σ H Q ⟨c,δ,S,T,d,δ',s,e,k⟩=>by
 obtain ⟨x,δ1,e1,e⟩:=bind_some e
 obtain ⟨xs,δ2,e2,e⟩:=bind_some e
 obtain ⟨rfl,rfl⟩:=ao e
 refine ⟨c,δ,S,T,x,δ1,s,e1,fun v H1 s1=>⟨c,δ1,x :: S,v :: T,xs,δ2,s1,e2,fun vs H2 l s2=>k (v :: vs) H2 (by simp [l]) (s2.stk ?_)⟩⟩
 have h1:=s2.st.left l
 have h2:=s2.st.right l
 exact .cons h2.head (h1.append h2.tail)
def few (n:Nat):Option Unit:=if n ≤ 100000 then some () else none
theorem iV {n:Nat} {u:Unit} (h:few n=some u):n ≤ sizeLine∧n < sizeLine:= by
 unfold few at h
 split at h
 ·have:(100000:Nat) < sizeLine:=by rw [sizeLine_eq];decide
  omega
 ·cases h
def b4 (fs:M (List D)):M D:=do
 let ds <- fs
 let _ <- lift (few ds.length)
 pure (.tup ds)
def df (fs:M (List D)):M (List D):=do
 let ds <- fs
 let _ <- lift (few ds.length)
 pure ds
theorem aU {x1} (h:DA X es fs):DE X (.Tuple es x1 pos) (b4 fs):=b8 (Ee h) fun σ H Q ⟨c,δ,S,T,d,δ',s,e,k⟩=>by
 obtain ⟨ds,δ1,e1,e⟩:=bind_some e
 obtain ⟨_,δ2,e2,e⟩:=bind_some e
 obtain ⟨e3,rfl⟩:=aw e2
 obtain ⟨rfl,rfl⟩:=ao e
 exact ⟨c,δ,S,T,ds,δ1,s,e1,fun vs H1 l s1=>⟨by rw [l];exact (iV e3).1,fun p hp=>k _ _ (s1.newTup l hp)⟩⟩
theorem bG (h:DA X es fs):DF X (.List es pos) (df fs):=b8 (Di h) fun σ H Q ⟨c,δ,S,T,d,δ',s,e,k⟩=>by
 obtain ⟨ds,δ1,e1,e⟩:=bind_some e
 obtain ⟨_,δ2,e2,e⟩:=bind_some e
 obtain ⟨e3,rfl⟩:=aw e2
 obtain ⟨rfl,rfl⟩:=ao e
 refine ⟨c,δ,S,T,ds,δ1,s,e1,fun vs H1 l s1=>⟨by rw [l];exact (iV e3).1,fun p hp=>?_⟩⟩
 obtain ⟨f1,f2,f3⟩:=s1.fresh hp
 exact k p vs _ l (s1.hide hp) f1 f2 f3
def ig (r:List V->Hp->VK->Prop) (f:List D->Option D):Prop:=∀ (c:Ct) (δ:DS) (S:List D) (σ:St) (T:List V) (H:Hp) (ds:List D) (vs:List V) (d:D) (Q:VK),vs.length=ds.length->Sl c δ (ds ++ S) σ (vs ++ T) H->f ds=some d->(∀ z H',Sl c δ (d :: S) σ (z :: T) H' -> Q z H')->r vs H Q
def xH (r:List V->Hp->VK->Prop) (f:List D->Option (List D)):Prop:=∀ (c:Ct) (δ:DS) (S:List D) (σ:St) (T:List V) (H:Hp) (ds:List D) (vs:List V) (xs:List D) (Q:VK),vs.length=ds.length->Sl c δ (ds ++ S) σ (vs ++ T) H->f ds=some xs ->
 (∀ l ws H',ws.length=xs.length->Sl { c with Z:=upd c.Z l (.lst ws) } δ (xs ++ S) σ (ws ++ T) H' -> c.Z l=none->l ∉ c.B->c.H0 l=none->Q (.ref l) H')->r vs H Q
def mC {α:Type} (f:List D->Option α) (fs:M (List D)):M α:=do
 let ds <- fs
 lift (f ds)
variable {x:Str} {p:Pos} {id T:String} {r:List V->Hp->VK->Prop} {f:List D->Option D} {g:List D->Option (List D)}
theorem CY (hd:ig r f):∀ σ H Q,tM (mC f fs) σ H Q->HS r (HZ fs) σ H Q:=fun σ H Q ⟨c,δ,S,T,d,δ',s,e,k⟩=>by
 obtain ⟨ds,δ1,e1,e⟩:=bind_some e
 obtain ⟨e2,rfl⟩:=aw e
 exact ⟨c,δ,S,T,ds,δ1,s,e1,fun vs H1 l s1=>hd _ _ _ _ _ _ _ _ _ _ l s1 e2 k⟩
theorem Dd (hd:xH r g):∀ σ H Q,FA (mC g fs) σ H Q->HS r (HZ fs) σ H Q:=fun σ H Q ⟨c,δ,S,T,d,δ',s,e,k⟩=>by
 obtain ⟨ds,δ1,e1,e⟩:=bind_some e
 obtain ⟨e2,rfl⟩:=aw e
 exact ⟨c,δ,S,T,ds,δ1,s,e1,fun vs H1 l s1=>hd _ _ _ _ _ _ _ _ _ _ l s1 e2 k⟩
def bu:List D->Option D
 | [.tup ds]=>some (.int ds.length)
 | [.lst ds]=>some (.int ds.length)
 | _=>none
theorem qX {H:Hp} {d:D} {vs:List V} (h:Rs H [d] vs):∃ v,vs=[v]∧R H d v:= by
 obtain ⟨v,r,e,h1,h2⟩:=h.inv
 rw [h2.inv0] at e
 exact ⟨v,e,h1⟩
theorem GW {H:Hp} {d d':D} {vs:List V} (h:Rs H [d,d'] vs):∃ v u,vs=[v,u]∧R H d v∧R H d' u:= by
 obtain ⟨v,r,e,h1,h2⟩:=h.inv
 obtain ⟨u,rfl,h3⟩:=qX h2
 exact ⟨v,u,e,h1,h3⟩
theorem Df {K:PySem.W.Frag}:ig (fun xs H Q=>∃ p ys,xs=[.ref p]∧(gn K H p ys ∨ fI K H p ys)∧Q (.int ys.length) H) bu:=fun c δ S σ T H ds vs d Q l s e k=>by
 have h:=s.st.left l
 have h2:=s.st.right l
 unfold bu at e
 split at e
 ·obtain ⟨v,rfl,r⟩:=qX h
  obtain ⟨p,ws,rfl,h1,h3⟩:=r.tup
  cases e
  exact ⟨p,ws,rfl,.inr (.of (aQ _ _ h1)),k _ _ (s.stk (.cons (by rw [h3.length];exact .mkI) h2))⟩
 ·obtain ⟨v,rfl,r⟩:=qX h
  obtain ⟨p,ws,rfl,h1,h3⟩:=r.lst
  cases e
  exact ⟨p,ws,rfl,.inl (.inl (Rd.mono aQ h1)),k _ _ (s.stk (.cons (by rw [h3.length];exact .mkI) h2))⟩
 ·cases e
theorem fv {f:List D->Option D} (hc:cP X (.builtin id) r) (hd:ig r f) (hg:Gl X x) (hm:X.mg x=none) (hv:bootBuiltins x=some (.builtin id)) (ha:DA X (a :: es) fs) (hn:x ≠ "__name__":=by decide) (hdb:(x == ("__debug__":Str))=false:=by decide)
  (he:starEach (a :: es) X.env=(false,eval a X.env) :: starEach es X.env:=by rfl) (hpl:(backTo pos (starEach es X.env)).any (·.1)=false:=by rfl):DE X (.Call (.Name x p) (a :: es) [] pos) (mC f fs) :=
 b8 (fE hc hg hm hv ha hn hdb he hpl) (CY hd)
end
end Jt
namespace Jt
open PySem L2
inductive Fl where
 | nx | bk | ct | rt (d:D) | rf (xs:List D)
def Fin (c:Ct) (δ:DS) (S:List D) (T:List V) (fl:Fl) (E:Ends):Prop :=
 match fl with
 | .nx=>∀ σ H,Sl c δ S σ T H->E.nx σ H
 | .bk=>∀ σ H,Sl c δ S σ T H->E.bk σ H
 | .ct=>∀ σ H,Sl c δ S σ T H->E.ct σ H
 | .rt d=>∀ v σ H,Sl c δ (d :: S) σ (v :: T) H->E.rt v H
 | .rf xs=>∀ l vs σ H,vs.length=xs.length->Sl { c with Z:=upd c.Z l (.lst vs) } δ (xs ++ S) σ (vs ++ T) H->c.Z l=none->l ∉ c.B->c.H0 l=none->E.rt (.ref l) H
inductive GC (f:M Fl) (E:Ends) (σ:St) (H:Hp):Prop
 | mk (c:Ct) (δ:DS) (S:List D) (T:List V) (fl:Fl) (δ':DS) (s:Sl c δ S σ T H) (e:f δ=some (fl,δ')) (q:Fin c δ' S T fl E):GC f E σ H
abbrev o7 (X:Cx) (st:Stmt) (f:M Fl):Prop:=PS X st (GC f)
abbrev q_ (X:Cx) (st:List Stmt) (f:M Fl):Prop:=qV X st (GC f)
theorem jm {X:Cx} {e:Stmt} {t t':TS} (h:PS X e t) (w:∀ E σ H,t' E σ H->t E σ H):PS X e t':=fun pins s σ H Q I q=>h pins s σ H Q I (w Q σ H q)
theorem Cq {X:Cx} {e:List Stmt} {t t':TS} (h:qV X e t) (w:∀ E σ H,t' E σ H->t E σ H):qV X e t':=fun pins s σ H Q I q=>h pins s σ H Q I (w Q σ H q)
section
variable {X:Cx} {a b e:Expr} {fa fb:M D} {fF:M (List D)} {pos:Pos} {st:Stmt} {rest:List Stmt} {f g:M Fl} {tt:M Bool}
theorem bw:q_ X [] (pure .nx):=Cq Af fun E σ H ⟨c,δ,S,T,fl,δ',s,e,k⟩=>by
 obtain ⟨rfl,rfl⟩:=ao e
 exact k σ H s
def aK (f g:M Fl):M Fl:=do
 let fl <- f
 match fl with
 | .nx=>g
 | fl=>pure fl
theorem aj (h1:o7 X st f) (h2:q_ X rest g):q_ X (st :: rest) (aK f g):=Cq (yp h1 h2) fun E σ H ⟨c,δ,S,T,fl,δ',s,e,k⟩=>by
 obtain ⟨fl1,δ1,e1,e⟩:=bind_some e
 refine ⟨c,δ,S,T,fl1,δ1,s,e1,?_⟩
 cases fl1 with
 | nx=>exact fun σ' H' s'=>⟨c,δ1,S,T,fl,δ',s',e,k⟩
 | bk=>obtain ⟨rfl,rfl⟩:=ao e;exact k
 | ct=>obtain ⟨rfl,rfl⟩:=ao e;exact k
 | rt d=>obtain ⟨rfl,rfl⟩:=ao e;exact k
 | rf xs=>obtain ⟨rfl,rfl⟩:=ao e;exact k
theorem au (h1:o7 X st f):q_ X [st] f:=BW h1
theorem aH (he:DE X e fa):o7 X (.Return (some e) pos) (do let d <- fa;pure (.rt d)):=jm (yB he) fun E σ H ⟨c,δ,S,T,fl,δ',s,e,k⟩=>by
 obtain ⟨d,δ1,e1,e⟩:=bind_some e
 obtain ⟨rfl,rfl⟩:=ao e
 exact ⟨c,δ,S,T,d,δ1,s,e1,fun v H' s'=>k v σ H' s'⟩
theorem ua (he:DF X e fF):o7 X (.Return (some e) pos) (do let d <- fF;pure (.rf d)):=jm (yB he) fun E σ H ⟨c,δ,S,T,fl,δ',s,e,k⟩=>by
 obtain ⟨d,δ1,e1,e⟩:=bind_some e
 obtain ⟨rfl,rfl⟩:=ao e
 exact ⟨c,δ,S,T,d,δ1,s,e1,fun l vs H' h1 h2 h3 h4 h5=>k l vs σ H' h1 h2 h3 h4 h5⟩
def mZ (i:Nat):M (List D):=fun δ=>match δ[i]? with
 | some (.ow false xs)=>some (xs,δ.set i .un)
 | _=>none
theorem Ef (i:Nat) {x:Str} {pos:Pos} (hN:X.N[i]? = some x:=by rfl) (hv:qT X.env.scope x:=by first | exact Or.inl rfl | exact Or.inr (Or.inl rfl) | exact Or.inr (Or.inr rfl)) (hd:(x == ("__debug__":Str))=false:=by decide)
  (hcd:(x == ("__classdict__":Str))=false:=by decide):DF X (.Name x pos) (mZ i):=b8 (dm hN hv hd hcd) fun σ H Q ⟨c,δ,S,T,xs,δ',s,e,k⟩=>by
 unfold mZ at e
 split at e
 ·rename_i ys hi
  cases e
  obtain ⟨a,vs0,ea,_⟩:=s.ow i _ _ hi
  obtain ⟨vs,h1,h2,h3,h4,h5⟩:=s.giveOw hi ea
  exact ⟨_,ea,k a vs H h1 h2 h3 h4 h5⟩
 ·cases e
theorem cB {t:Expr} {as bs:List Stmt} (ht:DT X t tt) (ha:q_ X as f) (hb:q_ X bs g):o7 X (.If t as bs pos) (g9 tt f g):=jm (GR ht ha hb) fun E σ H ⟨c,δ,S,T,fl,δ',s,e,k⟩=>by
 obtain ⟨x,δ1,e1,e⟩:=bind_some e
 refine ⟨c,δ,S,T,x,δ1,s,e1,fun H' s'=>?_⟩
 cases x with
 | true=>rw [if_pos rfl] at e ⊢;exact ⟨c,δ1,S,T,fl,δ',s',e,k⟩
 | false=>rw [if_neg Bool.false_ne_true] at e ⊢;exact ⟨c,δ1,S,T,fl,δ',s',e,k⟩
def bp (i:Nat) (d:D):M Unit:=fun δ=>if i < δ.length then some ((),δ.set i (.pu d)) else none
def yh (i:Nat) (xs:List D):M Unit:=fun δ=>if i < δ.length then some ((),δ.set i (.ow false xs)) else none
theorem fz {i:Nat} {d:D} {δ δ':DS} {u:Unit} (h:bp i d δ=some (u,δ')):i < δ.length∧δ' = δ.set i (.pu d):= by
 unfold bp at h;split at h
 ·cases h;exact ⟨‹_›,rfl⟩
 ·cases h
theorem my {i:Nat} {d:List D} {δ δ':DS} {u:Unit} (h:yh i d δ=some (u,δ')):i < δ.length∧δ' = δ.set i (.ow false d):= by
 unfold yh at h;split at h
 ·cases h;exact ⟨‹_›,rfl⟩
 ·cases h
def dN (i:Nat) (fa:M D):M Fl:=do
 let d <- fa
 bp i d
 pure .nx
def vE (i:Nat) (fF:M (List D)):M Fl:=do
 let d <- fF
 yh i d
 pure .nx
theorem F9 {te:TE} {i:Nat} (w:∀ σ H Q,tM fa σ H Q->te σ H Q):∀ E σ H,GC (dN i fa) E σ H->yU te (pL i) E σ H:=fun E σ H ⟨c,δ,S,T,fl,δ',s,e,k⟩=>by
 obtain ⟨d,δ1,e1,e⟩:=bind_some e
 obtain ⟨u,δ2,e2,e⟩:=bind_some e
 obtain ⟨rfl,rfl⟩:=ao e
 obtain ⟨hi,rfl⟩:=fz e2
 exact w _ _ _ ⟨c,δ,S,T,d,δ1,s,e1,fun v H' s'=>k _ _ (s'.setPu hi)⟩
theorem Hv {te:TE} {i:Nat} (w:∀ σ H Q,FA fF σ H Q->te σ H Q):∀ E σ H,GC (vE i fF) E σ H->yU te (pL i) E σ H:=fun E σ H ⟨c,δ,S,T,fl,δ',s,e,k⟩=>by
 obtain ⟨d,δ1,e1,e⟩:=bind_some e
 obtain ⟨u,δ2,e2,e⟩:=bind_some e
 obtain ⟨rfl,rfl⟩:=ao e
 obtain ⟨hi,rfl⟩:=my e2
 exact w _ _ _ ⟨c,δ,S,T,d,δ1,s,e1,fun l vs H' h1 h2 h3 h4 h5=>k _ _ (h2.setOw h1 h3 h4 h5 hi)⟩
theorem a_ (i:Nat) {x:Str} {pos':Pos} (hN:X.N.Nodup) (he:DE X e fa) (hi:X.N[i]? = some x:=by rfl) (hx:Loc X.env.scope x:=by first | exact Or.inl rfl | exact Or.inr rfl) (hs:swapsWith e (some (.Name x pos')) pos.line X.env=pure false:=by rfl)
  (hf:X.fn x=true ∨ X.env.scope.names.lookup x=some .local:=by first | exact .inl rfl | exact .inr rfl | assumption):o7 X (.Assign [.Name x pos'] e pos) (dN i fa):=jm (yc hN hi hx he hs hf) (F9 fun _ _ _ h=>h)
theorem fO (i:Nat) {x:Str} {pos':Pos} (hN:X.N.Nodup) (he:DF X e fF) (hi:X.N[i]? = some x:=by rfl) (hx:Loc X.env.scope x:=by first | exact Or.inl rfl | exact Or.inr rfl) (hs:swapsWith e (some (.Name x pos')) pos.line X.env=pure false:=by rfl)
  (hf:X.fn x=true ∨ X.env.scope.names.lookup x=some .local:=by first | exact .inl rfl | exact .inr rfl | assumption):o7 X (.Assign [.Name x pos'] e pos) (vE i fF):=jm (yc hN hi hx he hs hf) (Hv fun _ _ _ h=>h)
inductive IK (lo:Nat) (f:D->M Unit) (v:V) (σ:St) (H:Hp) (Q:St->Hp->Prop):Prop
 | mk (c:Ct) (δ:DS) (S:List D) (T:List V) (d:D) (δ':DS) (s:Sl c δ (d :: S) σ (v :: T) H) (e:f d δ=some ((),δ')) (q:∀ σ' H',(∀ n,n ≤ lo->σ'.take n=σ.take n)->Sl c δ' S σ' T H' -> Q σ' H'):IK lo f v σ H Q
inductive FP (lo:Nat) (f:List D->M Unit) (vs:List V) (σ:St) (H:Hp) (Q:St->Hp->Prop):Prop
 | mk (c:Ct) (δ:DS) (S:List D) (T:List V) (ds:List D) (δ':DS) (l:vs.length=ds.length) (s:Sl c δ (ds ++ S) σ (vs ++ T) H) (e:f ds δ=some ((),δ')) (q:∀ σ' H',(∀ n,n ≤ lo->σ'.take n=σ.take n)->Sl c δ' S σ' T H' -> Q σ' H'):FP lo f vs σ H Q
abbrev DG (X:Cx) (lo:Nat) (tg:Expr) (f:D->M Unit):Prop:=PG X tg (IK lo f)
abbrev HN (X:Cx) (lo:Nat) (tg:List Expr) (f:List D->M Unit):Prop:=E_ X tg (FP lo f)
theorem Du {X:Cx} {e:Expr} {t t':TG} (h:PG X e t) (w:∀ v σ H Q,t' v σ H Q->t v σ H Q):PG X e t':=fun pins s σ H v u Q I r q=>h pins s σ H v u Q I r (w v σ H Q q)
theorem CC {X:Cx} {e:List Expr} {t t':CF} (h:E_ X e t) (w:∀ v σ H Q,t' v σ H Q->t v σ H Q):E_ X e t':=fun pins s σ H v u Q I r q=>h pins s σ H v u Q I r (w v σ H Q q)
theorem az {lo:Nat} (i:Nat) {x:Str} {pos:Pos} (hN:X.N.Nodup) (hlo:lo ≤ i:=by decide) (hi:X.N[i]? = some x:=by rfl) (hx:Loc X.env.scope x:=by first | exact Or.inl rfl | exact Or.inr rfl)
  (hf:X.fn x=true ∨ X.env.scope.names.lookup x=some .local:=by first | exact .inl rfl | exact .inr rfl | assumption):DG X lo (.Name x pos) (bp i):=Du (B1 hN hi hx hf) fun v σ H Q ⟨c,δ,S,T,d,δ',s,e,k⟩=>by
 obtain ⟨hi,rfl⟩:=fz e
 exact k _ _ (fun n hn=>List.take_set_of_le (Nat.le_trans hn hlo)) (s.setPu hi)
def gf:List D->M Unit
 | []=>pure ()
 | _=>lift none
def bU (f:D->M Unit) (g:List D->M Unit):List D->M Unit
 | d :: ds=>do
  f d
  g ds
 | _=>lift none
theorem dU {lo:Nat}:HN X lo [] gf:=CC z4 fun v σ H Q ⟨c,δ,S,T,ds,δ',l,s,e,k⟩=>by
 cases ds with
 | nil=>
  obtain ⟨_,rfl⟩:=ao e
  have:v=[]:=List.eq_nil_of_length_eq_zero l
  subst this
  exact ⟨rfl,k σ H (fun _ _=>rfl) s⟩
 | cons d ds=>cases e
theorem bz {lo:Nat} {e:Expr} {es:List Expr} {f:D->M Unit} {g:List D->M Unit} (h1:DG X lo e f) (h2:HN X lo es g)
  (hs:(assignEach (e :: es) X.env).map (·.2)=assign e X.env :: (assignEach es X.env).map (·.2):=by rfl):HN X lo (e :: es) (bU f g):=CC (wy h1 h2 hs) fun vs σ H Q ⟨c,δ,S,T,ds,δ',l,s,e,k⟩=>by
 cases ds with
 | nil=>cases e
 | cons d ds=>
  cases vs with
  | nil=>cases l
  | cons v vs=>
   obtain ⟨u,δ1,e1,e2⟩:=bind_some e
   exact ⟨v,vs,rfl,c,δ,ds ++ S,vs ++ T,d,δ1,s,e1,fun σ1 H1 t1 s1=>⟨c,δ1,S,T,ds,δ',by simpa using l,s1,e2,fun σ2 H2 t2 s2=>k σ2 H2 (fun n hn=>(t2 n hn).trans (t1 n hn)) s2⟩⟩
def eL (n:Nat) (g:List D->M Unit):D->M Unit
 | .tup ds=>if ds.length=n then g ds else lift none
 | _=>lift none
theorem fT {lo:Nat} {es:List Expr} {k:Nat} {g:List D->M Unit} {n:Nat} (h:HN X lo es g) (hc:X.calm=true:=by rfl)
  (hn:(assignEach es X.env).length=n:=by rfl) (hst:(assignEach es X.env).findIdx? (·.1)=none:=by rfl):DG X lo (.Tuple es k pos) (eL n g):=Du (Fx hc h hn hst) fun v σ H Q ⟨c,δ,S,T,d,δ',s,e,k⟩=>by
 cases d with
 | tup ds=>
  have e':(if ds.length=n then g ds else lift none) δ=some ((),δ'):=e
  split at e'
  ·rename_i hl
   obtain ⟨p,vs,rfl,h1,h2⟩:=s.st.head.tup
   exact ⟨p,vs,rfl,.of (aQ _ _ h1),by rw [h2.length];exact hl,c,δ,S,T,ds,δ',h2.length,s.stk (h2.append s.st.tail),e',k⟩
  ·cases e'
 | _=>cases e
theorem sv {tg:Expr} {g:D->M Unit} (he:DE X e fa) (hg:DG X 0 tg g) (hs:swapsWithSole [tg] e pos.line X.env=pure false:=by rfl) (hw:swappedStores [tg] e X.env=pure none:=by rfl)
  (h1:(assignEach [tg] X.env).map (·.2)=[assign tg X.env]:=by rfl):o7 X (.Assign [tg] e pos) (do let d <- fa;g d;pure .nx):=jm (x8 he hg hs hw h1) fun E σ H ⟨c,δ,S,T,fl,δ',s,e,k⟩=>by
 obtain ⟨d,δ1,e1,e⟩:=bind_some e
 obtain ⟨u,δ2,e2,e⟩:=bind_some e
 obtain ⟨rfl,rfl⟩:=ao e
 exact ⟨c,δ,S,T,d,δ1,s,e1,fun v H' s'=>⟨c,δ1,S,T,d,δ2,s',e2,fun σ' H2 _ s2=>k _ _ s2⟩⟩
abbrev jx:=List (DS->Option D) × (DS->Bool)
def FI (J:It) (its:jx) (Sx:List D) (Tx:List V):Prop:=∀ (c:Ct) (δ:DS) (S:List D) (σ:St) (T:List V) (H:Hp) (i:Nat),Sl c δ (Sx ++ S) σ (Tx ++ T) H ->
 (∀ act d,its.1[i]? = some act->act δ=some d->J.go i H∧∀ x H',J.yld i H x H' -> Sl c δ (d :: (Sx ++ S)) σ (x :: (Tx ++ T)) H')∧(i=its.1.length->its.2 δ=true->J.stop i H)
inductive Ju (f:M jx) (σ:St) (H:Hp) (R:It->Hp->Prop):Prop
 | mk (c:Ct) (δ:DS) (S:List D) (T:List V) (it:jx) (δ':DS) (s:Sl c δ S σ T H) (e:f δ=some (it,δ')) (q:∀ J Sx Tx H',Tx.length=Sx.length->FI J it Sx Tx->Sl c δ' (Sx ++ S) σ (Tx ++ T) H' -> R J H'):Ju f σ H R
abbrev DI (X:Cx) (tg iter:Expr) (f:M jx):Prop:=PI X tg iter (Ju f)
theorem rQ {X:Cx} {tg e:Expr} {t t':TI} (h:PI X tg e t) (w:∀ σ H Q,t' σ H Q->t σ H Q):PI X tg e t':=fun pins s σ H Q I q=>h pins s σ H Q I (w σ H Q q)
def aW (ds:List D):jx:=(ds.map fun d _=>some d,fun _=>true)
theorem fA {ds:List D} {i:Nat} {act:DS->Option D} {δ:DS} {d:D} (h:(aW ds).1[i]? = some act) (e:act δ=some d):ds[i]? = some d:= by
 unfold aW at h
 rw [List.getElem?_map] at h
 cases q:ds[i]? with
 | none=>rw [q] at h;cases h
 | some d'=>rw [q] at h;cases h;exact e
theorem Az {K:PySem.W.Frag} {X:Cx} (hK:X.K=K) {a:Addr} {ds:List D}:FI (Jf K a) (aW ds) [.tup ds] [.ref a]:=fun c δ S σ T H i s=>by
 obtain ⟨p,vs,e,h1,h2⟩:=s.st.head.tup
 cases e
 have hq:fI K H a vs:=.of (aQ _ _ h1)
 refine ⟨fun act d ha hd=>?_,fun e _=>⟨vs,hq,by rw [h2.length,e];simp [aW]⟩⟩
 obtain ⟨v,hv,r⟩:=h2.get (fA ha hd)
 refine ⟨⟨vs,v,hq,hv⟩,fun x H' y=>?_⟩
 obtain ⟨rfl,y⟩:=y
 have:=y vs hq
 rw [hv] at this;cases this
 exact s.stk (.cons r s.st)
theorem zH {K:PySem.W.Frag} {a:Addr} {ds:List D}:FI (HX K a) (aW ds) [.lst ds] [.ref a]:=fun c δ S σ T H i s=>by
 obtain ⟨p,vs,e,h1,h2⟩:=s.st.head.lst
 cases e
 have hq:gn K H a vs:=.inl (Rd.mono aQ h1)
 refine ⟨fun act d ha hd=>?_,fun e _=>⟨vs,hq,by rw [h2.length,e];simp [aW]⟩⟩
 obtain ⟨v,hv,r⟩:=h2.get (fA ha hd)
 refine ⟨⟨vs,v,hq,hv⟩,fun x H' y=>?_⟩
 obtain ⟨rfl,y⟩:=y
 have:=y vs hq
 rw [hv] at this;cases this
 exact s.stk (.cons r s.st)
def bh:D->Option jx
 | .tup ds=>some (aW ds)
 | .lst ds=>some (aW ds)
 | _=>none
theorem Eo {tg l:Expr} {tl:TE} (hl:PE X l tl):PI X tg l (fun σ H R=>tl σ H fun x H1=>∃ a,x=.ref a∧(((∃ xs,gn X.K H1 a xs)∧R (HX X.K a) H1) ∨ ((∃ xs,fI X.K H1 a xs)∧R (Jf X.K a) H1))):= by
 intro pins s σ H R I h
 refine cg (hl pins s σ H _ I h) fun v s1 ⟨x,H1,I1,r1,q1⟩=>?_
 obtain ⟨a,e,q⟩:=q1
 subst e
 cases r1
 rcases q with ⟨⟨xs,hq⟩,q⟩ | ⟨⟨xs,hq⟩,q⟩
 ·obtain ⟨its,rv,p,hz⟩:=I1.list hq
  refine wpAny_pyIter_list p.isList ?_
  refine ⟨s1.heap.objs.size,[s1.heap.objs.size],_,_,H1,rfl,I1.kept (t':=s1.toks) fun b o e=>Heap.get?_push_of_some _ e,ny a _,⟨_,Heap.get?_push_size _ rfl,rfl,rfl⟩,fun b hb=>?_,q⟩
  have e:b=s1.heap.objs.size:=by simpa using hb
  subst e
  exact I1.fpOk (Nat.le_refl _) (I1.hok.fresh (Nat.le_refl _))
 ·obtain ⟨its,rv,p,hz⟩:=I1.tuple hq
  refine wpAny_pyIter_tuple (show s1.heap.IsTuple a its.toArray from p) ?_
  refine ⟨s1.heap.objs.size,[s1.heap.objs.size],_,_,H1,rfl,I1.kept (t':=s1.toks) fun b o e=>Heap.get?_push_of_some _ e,sL a _,⟨_,Heap.get?_push_size _ rfl,rfl,rfl⟩,fun b hb=>?_,q⟩
  have e:b=s1.heap.objs.size:=by simpa using hb
  subst e
  exact I1.fpOk (Nat.le_refl _) (I1.hok.fresh (Nat.le_refl _))
theorem c6 {tg l:Expr} (hl:DE X l fa):DI X tg l (do let x <- fa;lift (bh x)):=rQ (Eo hl) fun σ H R ⟨c,δ,S,T,it,δ',s,e,k⟩=>by
 obtain ⟨x,δ1,e1,e⟩:=bind_some e
 obtain ⟨e2,rfl⟩:=aw e
 refine ⟨c,δ,S,T,x,δ1,s,e1,fun v H' s'=>?_⟩
 cases x with
 | tup ds=>
  cases e2
  obtain ⟨p,vs,rfl,h1,h2⟩:=s'.st.head.tup
  exact ⟨p,rfl,.inr ⟨⟨vs,.of (aQ _ _ h1)⟩,k _ [.tup ds] [.ref p] H' rfl (Az rfl) s'⟩⟩
 | lst ds=>
  cases e2
  obtain ⟨p,vs,rfl,h1,h2⟩:=s'.st.head.lst
  exact ⟨p,rfl,.inl ⟨⟨vs,.inl (Rd.mono aQ h1)⟩,k _ [.lst ds] [.ref p] H' rfl zH s'⟩⟩
 | _=>cases e2
def bF (lo:Int) (n:Nat):List D:=(List.range n).map fun (i:Nat)=>D.int (lo + (i:Int))
theorem uF {lo:Int} {n:Nat}:FI (GV lo n) (aW (bF lo n)) [] []:=fun c δ S σ T H i s=>by
 refine ⟨fun act d ha hd=>?_,fun e _=>by
  have:(aW (bF lo n)).1.length=n:=by simp [aW,bF]
  show n ≤ i
  omega⟩
 have h:=fA ha hd
 unfold bF at h
 rw [List.getElem?_map] at h
 have hi:i < n:= by
  by_cases hi:i < n
  ·exact hi
  ·rw [List.getElem?_eq_none (by simp;omega)] at h;cases h
 rw [List.getElem?_range hi] at h
 cases h
 refine ⟨hi,fun x H' y=>?_⟩
 obtain ⟨rfl,rfl⟩:=y
 exact s.stk (.cons .mkI s.st)
def bg (i:Int):Bool:=decide (-(2 ^ 62) ≤ i) && decide (i < 2 ^ 62)
def cC:List D->Option jx
 | [.int j]=>if bg j=true then some (aW (bF 0 j.toNat)) else none
 | _=>none
def BH:List D->Option jx
 | [.int i,.int j]=>if (bg i && bg j)=true then some (aW (bF i (j - i).toNat)) else none
 | _=>none
theorem bA {tg a:Expr} {p:Pos} {fs:M (List D)} (hg:Gl X "range") (hm:X.mg "range" = none) (ha:DA X [a] fs) (hs:starEach [a] X.env=[(false,eval a X.env)]:=by rfl):DI X tg (.Call (.Name "range" p) [a] [] pos) (mC cC fs) :=
 rQ (vf hg hm ha hs) fun σ H R ⟨c,δ,S,T,it,δ',s,e,k⟩=>by
  obtain ⟨ds,δ1,e1,e⟩:=bind_some e
  obtain ⟨e2,rfl⟩:=aw e
  refine ⟨c,δ,S,T,ds,δ1,s,e1,fun vs H' l s'=>?_⟩
  unfold cC at e2
  split at e2
  ·split at e2
   ·rename_i j hj
    cases e2
    obtain ⟨v,rfl,r⟩:=qX (s'.st.left l)
    cases r.int
    simp only [bg,Bool.and_eq_true,decide_eq_true_eq] at hj
    exact ⟨j,rfl,hj.1,hj.2,k _ [] [] H' rfl uF (s'.stk (s'.st.right l))⟩
   ·cases e2
  ·cases e2
theorem ve {tg a b:Expr} {p:Pos} {fs:M (List D)} (hg:Gl X "range") (hm:X.mg "range" = none) (ha:DA X [a,b] fs) (hs:starEach [a,b] X.env=[(false,eval a X.env),(false,eval b X.env)]:=by rfl) (hs2:starEach [b] X.env=[(false,eval b X.env)]:=by rfl) :
  DI X tg (.Call (.Name "range" p) [a,b] [] pos) (mC BH fs) :=
 rQ (vK hg hm ha hs hs2) fun σ H R ⟨c,δ,S,T,it,δ',s,e,k⟩=>by
  obtain ⟨ds,δ1,e1,e⟩:=bind_some e
  obtain ⟨e2,rfl⟩:=aw e
  refine ⟨c,δ,S,T,ds,δ1,s,e1,fun vs H' l s'=>?_⟩
  unfold BH at e2
  split at e2
  ·split at e2
   ·rename_i i j hj
    cases e2
    obtain ⟨v,u,rfl,r1,r2⟩:=GW (s'.st.left l)
    cases r1.int
    cases r2.int
    simp only [bg,Bool.and_eq_true,decide_eq_true_eq] at hj
    exact ⟨i,j,rfl,⟨hj.1.1,hj.1.2,hj.2.1,hj.2.2⟩,k _ [] [] H' rfl uF (s'.stk (s'.st.right l))⟩
   ·cases e2
  ·cases e2
def cu (i n:Nat):jx:=((List.range n).map fun (j:Nat) (δ:DS)=>match δ[i]? with
 | some (.ow _ xs)=>if xs.length=n then xs[j]? else none
 | _=>none,fun δ=>match δ[i]? with
 | some (.ow _ xs)=>decide (xs.length=n)
 | _=>false)
def aA (i:Nat):M (List D):=fun δ=>match δ[i]? with
 | some (.ow _ xs)=>some (xs,δ)
 | _=>none
theorem bj {i:Nat} {xs:List D} {δ δ':DS} (h:aA i δ=some (xs,δ')):(∃ b,δ[i]? = some (.ow b xs))∧δ=δ':= by
 unfold aA at h
 split at h
 ·rename_i b ys e;cases h;exact ⟨⟨b,e⟩,rfl⟩
 ·cases h
end
end Jt
namespace Jt
open PySem L2
section
variable {X:Cx} {a b e tg iter elt:Expr} {fa fb te:M D} {fF:M (List D)} {pos:Pos} {st:Stmt} {rest:List Stmt} {f g body:M Fl} {tt:M Bool} {fi:M jx} {gt:D->M Unit}
theorem Sl.drop {c:Ct} {δ:DS} {A S:List D} {σ:St} {P T:List V} {H:Hp} (s:Sl c δ (A ++ S) σ (P ++ T) H) (l:P.length=A.length):Sl c δ S σ T H:=s.stk (s.st.right l)
theorem Sl.rot {c:Ct} {δ:DS} {A B S:List D} {σ:St} {P Q T:List V} {H:Hp} (s:Sl c δ (A ++ (B ++ S)) σ (P ++ (Q ++ T)) H) (l:P.length=A.length) (l2:Q.length=B.length):Sl c δ (B ++ (A ++ S)) σ (Q ++ (P ++ T)) H :=
 s.stk (((s.st.right l).left l2).append ((s.st.left l).append ((s.st.right l).right l2)))
def forM (gt:D->M Unit) (body:M Fl) (fin:DS->Bool):List (DS->Option D)->M Fl
 | []=>fun δ=>if fin δ=true then some (.nx,δ) else none
 | a :: r=>fun δ=>match a δ with
  | none=>none
  | some d=>(do
   gt d
   let fl <- body
   match fl with
   | .nx=>forM gt body fin r
   | .ct=>forM gt body fin r
   | .bk=>pure .nx
   | .rt d=>pure (.rt d)
   | .rf d=>pure (.rf d)) δ
theorem eZ {sts:List Stmt} (hi:DI X tg iter fi) (hg:DG X 0 tg gt) (hb:q_ X sts body) (hp:PassesOwn (model X.prog X.w) X.A X.env X.xe:=by exact PassesOwn.never) (hc:X.calm=true:=by rfl)
  (hs:∀ x,foldedSetIterable iter X.env x=pure x:=by intro _;rfl):o7 X (.For tg iter sts [] pos) (do let it <- fi;forM gt body it.2 it.1):=jm (E4 hp hc hi hg hb hs) fun E σ0 H0 ⟨c,δ0,S,T,fl,δ',s0,e,k⟩=>by
 obtain ⟨it,δ1,e1,e⟩:=bind_some e
 refine ⟨c,δ0,S,T,it,δ1,s0,e1,fun J Sx Tx H1 l hJ s1=>?_⟩
 obtain ⟨items,fin⟩:=it
 refine ⟨fun i m σ H=>∃ δi,m=items.length - i∧i ≤ items.length∧Sl c δi (Sx ++ S) σ (Tx ++ T) H∧forM gt body fin (items.drop i) δi=some (fl,δ'),⟨_,δ1,rfl,Nat.zero_le _,s1,e⟩,?_⟩
 rintro i m σ H ⟨δi,rfl,hi,s,em⟩
 by_cases hlt:i < items.length
 ·rw [List.drop_eq_getElem_cons hlt] at em
  unfold forM at em
  cases ea:items[i] δi with
  | none=>rw [ea] at em;cases em
  | some d=>
   rw [ea] at em
   dsimp only at em
   obtain ⟨u,δ2,e2,em⟩:=bind_some em
   obtain ⟨fl1,δ3,e3,em⟩:=bind_some em
   obtain ⟨go,yld⟩:=(hJ c δi S σ T H i s).1 items[i] d (List.getElem?_eq_getElem hlt) ea
   refine .inr ⟨go,fun σ' H'=>∃ δi,Sl c δi (Sx ++ S) σ' (Tx ++ T) H' ∧ forM gt body fin (items.drop (i + 1)) δi=some (fl,δ'),fun σ' H' ⟨δj,sj,ej⟩=>⟨items.length - (i + 1),by omega,δj,rfl,hlt,sj,ej⟩,fun x H' y=>?_⟩
   refine ⟨c,δi,Sx ++ S,Tx ++ T,d,δ2,yld x H' y,e2,fun σ2 H2 _ s2=>⟨c,δ2,Sx ++ S,Tx ++ T,fl1,δ3,s2,e3,?_⟩⟩
   cases fl1 with
   | nx=>exact fun σ' H' s'=>⟨δ3,s',em⟩
   | ct=>exact fun σ' H' s'=>⟨δ3,s',em⟩
   | bk=>
    obtain ⟨rfl,rfl⟩:=ao em
    exact fun σ' H' s'=>k _ _ (s'.drop l)
   | rt d'=>
    obtain ⟨rfl,rfl⟩:=ao em
    exact fun v σ' H' s'=>k v σ' H' (s'.stk (.cons s'.st.head (s'.st.tail.right l)))
   | rf xs=>
    obtain ⟨rfl,rfl⟩:=ao em
    exact fun q vs σ' H' h1 h2 h3 h4 h5=>k q vs σ' H' h1 (h2.stk ((h2.st.left h1).append ((h2.st.right h1).right l))) h3 h4 h5
 ·have ei:i=items.length:=by omega
  subst ei
  rw [List.drop_length] at em
  unfold forM at em
  by_cases hf:fin δi=true
  ·rw [if_pos hf] at em
   cases em
   exact .inl ⟨(hJ c _ S σ T H _ s).2 rfl hf,k _ _ (s.drop l)⟩
  ·rw [if_neg hf] at em;cases em
def JI (J:It) (its:jx) (Sx:List D) (Tx:List V) (σ:St):Prop:=∀ (c:Ct) (δ:DS) (S:List D) (T:List V) (H:Hp) (i:Nat),Sl c δ (Sx ++ S) σ (Tx ++ T) H ->
 (∀ act d,its.1[i]? = some act->act δ=some d->J.go i H∧∀ x H',J.yld i H x H' -> Sl c δ (d :: (Sx ++ S)) σ (x :: (Tx ++ T)) H')∧(i=its.1.length->its.2 δ=true->J.stop i H)
inductive IX (f:M jx) (σ:St) (H:Hp) (R:It->Hp->Prop):Prop
 | mk (c:Ct) (δ:DS) (S:List D) (T:List V) (it:jx) (δ':DS) (s:Sl c δ S σ T H) (e:f δ=some (it,δ')) (q:∀ J Sx Tx H',Tx.length=Sx.length->JI J it Sx Tx σ->Sl c δ' (Sx ++ S) σ (Tx ++ T) H' -> R J H'):IX f σ H R
abbrev DC (X:Cx) (tg iter:Expr) (f:M jx):Prop:=PI X tg iter (IX f)
theorem cn (h:DI X tg iter fi):DC X tg iter fi:=rQ h fun σ H R ⟨c,δ,S,T,it,δ',s,e,k⟩=>⟨c,δ,S,T,it,δ',s,e,fun J Sx Tx H' l hJ s'=>k J Sx Tx H' l (fun c δ S T H i=>hJ c δ S σ T H i) s'⟩
theorem EL (i:Nat) {x:Str} {pos:Pos} (hN:X.N[i]? = some x:=by rfl) (hv:qT X.env.scope x:=by first | exact Or.inl rfl | exact Or.inr (Or.inl rfl) | exact Or.inr (Or.inr rfl)) (hd:(x == ("__debug__":Str))=false:=by decide)
  (hcd:(x == ("__classdict__":Str))=false:=by decide):DC X tg (.Name x pos) (do let xs <- aA i;pure (cu i xs.length)):=rQ (AZ (dm hN hv hd hcd)) fun σ H R ⟨c,δ,S,T,it,δ',s,e,k⟩=>by
 obtain ⟨xs,δ1,e1,e⟩:=bind_some e
 obtain ⟨rfl,rfl⟩:=ao e
 obtain ⟨⟨b,hi⟩,rfl⟩:=bj e1
 obtain ⟨a,vs,ea,hH,hv,_⟩:=s.ow i b xs hi
 refine ⟨_,ea,a,rfl,⟨vs,.of hH⟩,k _ [] [] H rfl ?_ s⟩
 intro c δ S T H j s
 refine ⟨fun act d ha hd=>?_,fun ej hf=>?_⟩
 ·unfold cu at ha
  rw [List.getElem?_map] at ha
  have hj:j < xs.length:= by
   by_cases hj:j < xs.length
   ·exact hj
   ·rw [List.getElem?_eq_none (by simp;omega)] at ha;cases ha
  rw [List.getElem?_range hj] at ha
  cases ha
  dsimp only at hd
  split at hd
  ·rename_i b' ys hy
   split at hd
   ·obtain ⟨a',ws,ea',hH',hv',_⟩:=s.ow i b' ys hy
    rw [ea] at ea';cases ea'
    obtain ⟨v,hv2,r⟩:=hv'.get hd
    refine ⟨⟨ws,v,.of hH',hv2⟩,fun x H' y=>?_⟩
    obtain ⟨rfl,y⟩:=y
    have:=y ws (.of hH')
    rw [hv2] at this;cases this
    exact s.stk (.cons r s.st)
   ·cases hd
  ·cases hd
 ·unfold cu at hf ej
  dsimp only at hf
  split at hf
  ·rename_i b' ys hy
   obtain ⟨a',ws,ea',hH',hv',_⟩:=s.ow i b' ys hy
   rw [ea] at ea';cases ea'
   have hl:ys.length=xs.length:=of_decide_eq_true hf
   refine ⟨ws,.of hH',?_⟩
   rw [hv'.length,ej]
   simp
   omega
  ·cases hf
def bo (gt:D->M Unit) (tt:M Bool) (te:M D) (d:D):M (Option D):=do
 gt d
 let b <- tt
 if b=true then do
  let x <- te
  pure (some x)
 else pure none
def dj (own:Nat) (turn:D->M (Option D)) (fin:DS->Bool):List (DS->Option D)->M (List D)
 | []=>fun δ=>if fin δ=true then some ([],δ) else none
 | a :: r=>fun δ=>match a δ with
  | none=>none
  | some d=>match turn d (δ ++ List.replicate own .un) with
   | none=>none
   | some (o,δ2)=>match dj own turn fin r (δ2.take δ.length) with
    | none=>none
    | some (xs,δ3)=>some (o.toList ++ xs,δ3)
def ib (n:Nat):M Unit:=fun δ=>if δ.length=n then some ((),δ) else none
def aX (lo own:Nat) (fi:M jx) (turn:D->M (Option D)):M (List D):=do
 ib lo
 let it <- fi
 let _ <- lift (few it.1.length)
 dj own turn it.2 it.1
theorem kU {lo own:Nat}:∀ σ H Q,FA (aX lo own fi (bo gt tt te)) σ H Q->uj (IX fi) own (IK lo gt) (y9 tt) (tM te) σ H Q:=fun σ H Q ⟨c,δ0,S,T,xs,δ',s0,e,k⟩=>by
 obtain ⟨u,δ1,e0,e⟩:=bind_some e
 have hlo:σ.length=lo∧δ0=δ1:= by
  unfold ib at e0
  split at e0
  ·cases e0;exact ⟨by rw [<- s0.len];assumption,rfl⟩
  ·cases e0
 obtain ⟨hlo,rfl⟩:=hlo
 obtain ⟨it,δ2,e1,e⟩:=bind_some e
 obtain ⟨u',δ3,e2,e⟩:=bind_some e
 obtain ⟨e3,rfl⟩:=aw e2
 have hfew:=(iV e3).2
 refine ⟨c,δ0,S,T,it,δ2,s0,e1,fun J Sx Tx H1 l hJ s1 q hq=>?_⟩
 obtain ⟨items,fin⟩:=it
 dsimp only at e hfew
 obtain ⟨f1,f2,f3⟩:=s1.fresh hq
 refine ⟨fun i m acc H=>∃ δi accD xsR,m=items.length - i∧i ≤ items.length∧acc.length=accD.length∧acc.length ≤ i∧Sl { c with Z:=upd c.Z q (.lst acc) } δi (accD ++ (Sx ++ S)) σ (acc ++ (Tx ++ T)) H ∧
  dj own (bo gt tt te) fin (items.drop i) δi=some (xsR,δ')∧accD ++ xsR=xs,⟨_,δ2,[],xs,rfl,Nat.zero_le _,rfl,Nat.le_refl _,s1.hide hq,e,rfl⟩,?_⟩
 rintro i m acc H ⟨δi,accD,xsR,rfl,hi,la,li,s,em,ex⟩
 have hacc:H q=some (.lst acc):=s.zz q _ aI
 refine ⟨hacc,?_⟩
 have sr:=s.rot la l
 by_cases hlt:i < items.length
 ·rw [List.drop_eq_getElem_cons hlt] at em
  unfold dj at em
  cases ea:items[i] δi with
  | none=>rw [ea] at em;cases em
  | some d=>
   rw [ea] at em
   dsimp only at em
   cases et:bo gt tt te d (δi ++ List.replicate own .un) with
   | none=>rw [et] at em;cases em
   | some p=>
    obtain ⟨o,δt⟩:=p
    rw [et] at em
    dsimp only at em
    cases ec:dj own (bo gt tt te) fin (items.drop (i + 1)) (δt.take δi.length) with
    | none=>rw [ec] at em;cases em
    | some p=>
     obtain ⟨xs3,δ3⟩:=p
     rw [ec] at em
     cases em
     obtain ⟨u1,δa,ea1,et⟩:=bind_some et
     obtain ⟨b,δb,eb1,et⟩:=bind_some et
     obtain ⟨go,yld⟩:=(hJ { c with Z:=upd c.Z q (.lst acc) } δi (accD ++ S) (acc ++ T) H i sr).1 items[i] d (List.getElem?_eq_getElem hlt) ea
     refine .inr ⟨go,fun x H' y=>?_⟩
     refine ⟨{ c with Z:=upd c.Z q (.lst acc) },δi ++ List.replicate own .un,Sx ++ (accD ++ S),Tx ++ (acc ++ T),d,δa,(yld x H' y).ext own,ea1,fun σ2 H2 hn s2=>?_⟩
     have ht:σ2.take σ.length=σ:= by
      rw [hn _ (Nat.le_of_eq hlo)]
      exact List.take_left' rfl
     refine ⟨ht,{ c with Z:=upd c.Z q (.lst acc) },δa,Sx ++ (accD ++ S),Tx ++ (acc ++ T),b,δb,s2,eb1,fun H3 s3=>?_⟩
     have cutL:δi.length=σ.length:=s.len
     cases b with
     | true=>
      rw [if_pos rfl] at et
      refine HG ?_
      obtain ⟨y1,δy,ey,et⟩:=bind_some et
      obtain ⟨rfl,rfl⟩:=ao et
      refine ⟨{ c with Z:=upd c.Z q (.lst acc) },δb,Sx ++ (accD ++ S),Tx ++ (acc ++ T),y1,δy,s3,ey,fun v H4 s4=>?_⟩
      refine ⟨s4.zz q _ aI,by omega,items.length - (i + 1),by omega,δy.take δi.length,accD ++ [y1],xs3,rfl,hlt,by simp [la],by simp;omega,?_,ec,by rw [<- ex];simp⟩
      have s5:=s4.cut σ.length
      rw [ht,<- cutL] at s5
      have s6:=Sl.hideSet (.lst (acc ++ [v])) s5 f2 f3
      refine s6.stk ?_
      have h1:=s6.st.head
      have h2:=s6.st.tail.left l
      have h3:=s6.st.tail.right l
      have h4:=h3.left la
      have h5:=h3.right la
      exact (h4.append (.cons h1 .nil)).append (h2.append h5)
     | false=>
      rw [if_neg Bool.false_ne_true] at et
      refine GJ ?_
      obtain ⟨rfl,rfl⟩:=ao et
      refine ⟨items.length - (i + 1),by omega,δb.take δi.length,accD,xs3,rfl,hlt,la,by omega,?_,ec,ex⟩
      have s5:=s3.cut σ.length
      rw [ht,<- cutL] at s5
      exact s5.rot l la
 ·have ei:i=items.length:=by omega
  subst ei
  rw [List.drop_length] at em
  unfold dj at em
  by_cases hf:fin δi=true
  ·rw [if_pos hf] at em
   cases em
   rw [List.append_nil] at ex
   subst ex
   refine .inl ⟨(hJ { c with Z:=upd c.Z q (.lst acc) } _ (accD ++ S) (acc ++ T) H _ sr).2 rfl hf,k q acc H la ?_ f1 f2 f3⟩
   exact s.stk ((s.st.left la).append ((s.st.right la).right l))
  ·rw [if_neg hf] at em;cases em
theorem cc:zd X [] (y9 (pure true)):=fun pins s σ H Q I ⟨c,δ,S,T,b,δ',sl,e,k⟩=>by
 obtain ⟨rfl,rfl⟩:=ao e
 exact BG pins s σ H Q I (k H sl)
theorem dz {t:Expr} (h:DT X t tt):zd X [t] (y9 tt):=B5 h
variable {N' own:List Str} {scope:Scope} {ifs:List Expr} {lo:Nat}
theorem bQ (hi:DC X tg iter fi) (hg:∀ s H fp pins,DG (blk X N' own scope s H fp pins) lo tg gt) (ht:∀ s H fp pins,zd (blk X N' own scope s H fp pins) ifs (y9 tt)) (he:∀ s H fp pins,DE (blk X N' own scope s H fp pins) elt te)
  (hS:gF N' own X.env.scope scope=true:=by rfl) (hM:gw X.N N' scope=true:=by rfl) (hk:scope.kind=.function:=by rfl) (hc:X.calm=true:=by rfl) (hs:∀ x,foldedSetIterable iter X.env x=pure x:=by intro _;rfl) :
  DF X (.ListComp elt [⟨tg,iter,ifs,0⟩] scope pos) (aX lo own.length fi (bo gt tt te)):=b8 (BA hi hg ht he hS hM hk hc hs) kU
theorem AG (i:Nat) {x:Str} {pos'' pos1:Pos} (hN:X.N.Nodup) (hi:DC X tg iter fi) (hg:∀ s H fp pins,DG (blk X N' own scope s H fp pins) lo tg gt) (ht:∀ s H fp pins,zd (blk X N' own scope s H fp pins) ifs (y9 tt)) (he:∀ s H fp pins,DE (blk X N' own scope s H fp pins) elt te)
  (hx0:X.N[i]? = some x:=by rfl) (hx:X.env.scope.names.lookup x=some .local:=by rfl)
  (hsw:swapsWith (.ListComp elt [⟨tg,iter,ifs,0⟩] scope pos) (some (.Name x pos'')) pos1.line X.env=pure true:=by rfl)
  (hS:gF N' own X.env.scope scope=true:=by rfl) (hM:gw X.N N' scope=true:=by rfl) (hk:scope.kind=.function:=by rfl) (hc:X.calm=true:=by rfl) (hs:∀ x,foldedSetIterable iter X.env x=pure x:=by intro _;rfl) :
  o7 X (.Assign [.Name x pos''] (.ListComp elt [⟨tg,iter,ifs,0⟩] scope pos) pos1) (vE i (aX lo own.length fi (bo gt tt te))) :=
 jm (uu hN hx0 hx hi hg ht he hsw hS hM hk hc hs) (Hv kU)
theorem JS {te:TE} {f:M (List D)} (w:∀ σ H Q,FA f σ H Q->te σ H Q):∀ σ H Q,tM (do let xs <- f;pure (.lst xs)) σ H Q->te σ H Q:=fun σ H Q ⟨c,δ,S,T,d,δ',s,e,k⟩=>by
 obtain ⟨xs,δ1,e1,e2⟩:=bind_some e
 obtain ⟨rfl,rfl⟩:=ao e2
 exact w _ _ _ ⟨c,δ,S,T,xs,δ1,s,e1,fun l vs H' hl s' hz _ _=>k _ _ (s'.unhideL hl hz)⟩
theorem fC (i:Nat) {x:Str} {pos'' pos1:Pos} (hN:X.N.Nodup) (hi:DC X tg iter fi) (hg:∀ s H fp pins,DG (blk X N' own scope s H fp pins) lo tg gt) (ht:∀ s H fp pins,zd (blk X N' own scope s H fp pins) ifs (y9 tt)) (he:∀ s H fp pins,DE (blk X N' own scope s H fp pins) elt te)
  (hx0:X.N[i]? = some x:=by rfl) (hx:X.env.scope.names.lookup x=some .local:=by rfl)
  (hsw:swapsWith (.ListComp elt [⟨tg,iter,ifs,0⟩] scope pos) (some (.Name x pos'')) pos1.line X.env=pure true:=by rfl)
  (hS:gF N' own X.env.scope scope=true:=by rfl) (hM:gw X.N N' scope=true:=by rfl) (hk:scope.kind=.function:=by rfl) (hc:X.calm=true:=by rfl) (hs:∀ x,foldedSetIterable iter X.env x=pure x:=by intro _;rfl) :
  o7 X (.Assign [.Name x pos''] (.ListComp elt [⟨tg,iter,ifs,0⟩] scope pos) pos1) (dN i (do let xs <- aX lo own.length fi (bo gt tt te);pure (.lst xs))) :=
 jm (uu hN hx0 hx hi hg ht he hsw hS hM hk hc hs) (F9 (JS kU))
end
end Jt
namespace Jt
open PySem L2
def hz (Z H:Hp):Hp:=zh (fun a=>∃ o,Z a=some o) H
def jM (n:Nat) (mf:List D->Option D):Sp:=fun vs H Q _=>vs.length=n∧∃ (Z:Hp) (ds:List D) (d:D),FF Z H∧Rs (hz Z H) ds vs∧mf ds=some d∧∀ v H',vZ H H' -> R (hz Z H') d v->Q v H'
def FL (n:Nat) (mf:List D->Option (List D)):Sp:=fun vs H Q _=>vs.length=n∧∃ (Z:Hp) (ds:List D) (xs:List D),FF Z H∧Rs (hz Z H) ds vs∧mf ds=some xs ∧
 ∀ l ws H',vZ H H' -> H l=none->H' l=some (.lst ws)->Rs (hz (upd Z l (.lst ws)) H') xs ws->Q (.ref l) H'
def vy (n:Nat) (mf:List D->List D->Option (D × List D)):Sp:=fun vs H Q _=>vs.length=n∧∃ (Z:Hp) (a:Addr) (ws:List V) (xs:List D) (us:List V) (ds:List D) (d:D) (xs':List D),vs=.ref a :: us∧FF Z H∧Z a=none∧H a=some (.lst ws) ∧
 Rs (hz (upd Z a (.lst ws)) H) xs ws∧Rs (hz (upd Z a (.lst ws)) H) ds us∧mf xs ds=some (d,xs') ∧
 ∀ v ws' H',(∀ b o,b ≠ a->H b=some o->H' b=some o)->H' a=some (.lst ws')->Rs (hz (upd Z a (.lst ws')) H') xs' ws' -> R (hz (upd Z a (.lst ws')) H') d v->Q v H'
section
variable {c:Ct} {δ:DS} {S:List D} {σ:St} {T:List V} {H:Hp}
open Classical in
def BZ (c:Ct) (δ:DS) (σ:St) (H:Hp):Hp:=fun a=>if Hd c δ σ a then H a else none
theorem g8 (s:Sl c δ S σ T H) (a:Addr):(∃ o,BZ c δ σ H a=some o) ↔ Hd c δ σ a:= by
 unfold BZ
 by_cases h:Hd c δ σ a
 ·rw [if_pos h];exact Iff.intro (fun _=>h) fun _=>s.hdSome h
 ·rw [if_neg h];exact Iff.intro (fun ⟨o,z⟩=>nomatch z) fun z=>absurd z h
theorem rp (s:Sl c δ S σ T H):FF (BZ c δ σ H) H:=fun a o h=>by
 unfold BZ at h
 split at h
 ·rename_i hd
  refine ⟨h,fun xs e=>?_⟩
  subst e
  rcases hd with ⟨o,z⟩ | ⟨i,bb,ys,h1,h2⟩
  ·obtain ⟨h1,h2⟩:=s.zk a o z
   rw [h] at h1;cases h1
   exact h2 xs rfl
  ·obtain ⟨a',ws,e,h3,_⟩:=s.ow i bb ys h1
   rw [h2] at e;cases e
   rw [h] at h3;cases h3
 ·cases h
end
section
variable {X:Cx} {a b e:Expr} {fa fb:M D} {fs:M (List D)} {pos p:Pos} {es:List Expr} {x:Str} {k:Nat} {f:Addr} {fd:FuncData} {ps:List Str}
theorem A3 {mf:List D->Option D} {n:Nat} (F:dF X.prog X.w X.K X.mg X.base di k f fd ps (jM n mf)) (hr:cm k X.A) (hm:X.mg x=some (.ref f)) (hk:PySem.W.keepIn X.K (.ref f)=true) (hb:Binds X.K fd ps []) (ha:DA X (a :: es) fs)
  (hg:Gl X x:=by rfl) (hdb:(x == ("__debug__":Str))=false:=by decide) (he:starEach (a :: es) X.env=(false,eval a X.env) :: starEach es X.env:=by rfl) (hpl:(backTo pos (starEach es X.env)).any (·.1)=false:=by rfl) :
  DE X (.Call (.Name x p) (a :: es) [] pos) (mC (fun ds=>if ds.length=n then mf ds else none) fs):=b8 (nU F hr hg hm hk hb .nil w_ ha hdb he hpl) fun σ H Q ⟨c,δ,S,T,d,δ',s,e,k⟩=>by
 obtain ⟨ds,δ1,e1,e⟩:=bind_some e
 obtain ⟨e2,rfl⟩:=aw e
 refine ⟨c,δ,S,T,ds,δ1,s,e1,fun vs H1 l s1=>?_⟩
 dsimp only at e2 ⊢
 split at e2
 ·rename_i hn
  rw [List.append_nil]
  refine ⟨l.trans hn,BZ c δ1 σ H1,ds,d,rp s1,(s1.st.left l).mono (bf (fun a o _ z=>(g8 s1 a).mp z) fun _ _ _ h=>h),e2,fun v H' g r=>k v H' ?_⟩
  have s2:=s1.grow g
  exact s2.stk (.cons (r.mono (bf (fun a o _ z=>(g8 s1 a).mpr z) fun _ _ _ h=>h)) (s2.st.right l))
 ·cases e2
theorem AK {mf:List D->Option (List D)} {n:Nat} (F:dF X.prog X.w X.K X.mg X.base di k f fd ps (FL n mf)) (hr:cm k X.A) (hm:X.mg x=some (.ref f)) (hk:PySem.W.keepIn X.K (.ref f)=true) (hb:Binds X.K fd ps []) (ha:DA X (a :: es) fs)
  (hg:Gl X x:=by rfl) (hdb:(x == ("__debug__":Str))=false:=by decide) (he:starEach (a :: es) X.env=(false,eval a X.env) :: starEach es X.env:=by rfl) (hpl:(backTo pos (starEach es X.env)).any (·.1)=false:=by rfl) :
  DF X (.Call (.Name x p) (a :: es) [] pos) (mC (fun ds=>if ds.length=n then mf ds else none) fs):=b8 (nU F hr hg hm hk hb .nil w_ ha hdb he hpl) fun σ H Q ⟨c,δ,S,T,d,δ',s,e,k⟩=>by
 obtain ⟨ds,δ1,e1,e⟩:=bind_some e
 obtain ⟨e2,rfl⟩:=aw e
 refine ⟨c,δ,S,T,ds,δ1,s,e1,fun vs H1 l s1=>?_⟩
 dsimp only at e2 ⊢
 split at e2
 ·rename_i hn
  rw [List.append_nil]
  refine ⟨l.trans hn,BZ c δ1 σ H1,ds,d,rp s1,(s1.st.left l).mono (bf (fun a o _ z=>(g8 s1 a).mp z) fun _ _ _ h=>h),e2,fun q ws H' g hq hq' r=>?_⟩
  obtain ⟨f1,f2,f3⟩:=s1.fresh hq
  have s2:Sl { c with Z:=upd c.Z q (.lst ws) } δ1 S σ T H':= by
   have h0:=(s1.drop l).hide (o:=.lst ws) hq
   refine h0.grow fun b o hb=>?_
   by_cases eb:b=q
   ·subst eb;rw [aI] at hb;cases hb;exact hq'
   ·rw [ax eb] at hb;exact g b o hb
  refine k q ws H' r.length (s2.stk ((r.mono (bf (fun a o ha z=>?_) fun _ _ _ h=>h)).append s2.st)) f1 f2 f3
  rcases z with ⟨w,z⟩ | z
  ·have z':upd c.Z q (.lst ws) a=some w:=z
   by_cases ea:a=q
   ·subst ea;exact ⟨_,aI⟩
   ·rw [ax ea] at z'
    obtain ⟨o',h'⟩:=(g8 s1 a).mpr (.inl ⟨w,z'⟩)
    exact ⟨o',by rw [ax ea];exact h'⟩
  ·have ea:a ≠ q:=fun ea=>s1.hdNew hq (.inr (by rw [<- ea];exact z))
   obtain ⟨o',h'⟩:=(g8 s1 a).mpr (.inr z)
   exact ⟨o',by rw [ax ea];exact h'⟩
 ·cases e2
def bC (i n:Nat) (mf:List D->List D->Option (D × List D)) (fs:M (List D)):M D:=fun δ=>match fs δ with
 | none=>none
 | some (ds,δ1)=>match δ1[i]? with
  | some (.ow b xs)=>if ds.length + 1=n then (match mf xs ds with
   | none=>none
   | some (d,xs')=>some (d,δ1.set i (.ow b xs'))) else none
  | _=>none
theorem vq (i:Nat) {mf:List D->List D->Option (D × List D)} {n:Nat} {y:Str} {py:Pos} (F:dF X.prog X.w X.K X.mg X.base di k f fd ps (vy n mf)) (hr:cm k X.A) (hm:X.mg x=some (.ref f)) (hk:PySem.W.keepIn X.K (.ref f)=true) (hb:Binds X.K fd ps []) (ha:DA X es fs)
  (hN:X.N[i]? = some y:=by rfl) (hv:qT X.env.scope y:=by first | exact Or.inl rfl | exact Or.inr (Or.inl rfl) | exact Or.inr (Or.inr rfl)) (hd:(y == ("__debug__":Str))=false:=by decide) (hcd:(y == ("__classdict__":Str))=false:=by decide)
  (hg:Gl X x:=by rfl) (hdb:(x == ("__debug__":Str))=false:=by decide) (he:starEach (.Name y py :: es) X.env=(false,eval (.Name y py) X.env) :: starEach es X.env:=by rfl) (hpl:(backTo pos (starEach es X.env)).any (·.1)=false:=by rfl) :
  DE X (.Call (.Name x p) (.Name y py :: es) [] pos) (do let _ <- aA i;bC i n mf fs):=b8 (nU F hr hg hm hk hb .nil w_ (cY (dm hN hv hd hcd) ha he) hdb he hpl) fun σ H Q ⟨c,δ,S,T,d,δ',s,e,k⟩=>by
 obtain ⟨xs0,δ0,e0,e⟩:=bind_some e
 obtain ⟨⟨b0,hi0⟩,rfl⟩:=bj e0
 obtain ⟨a,vs0,ea,_⟩:=s.ow i b0 xs0 hi0
 unfold bC at e
 cases e1:fs δ with
 | none=>rw [e1] at e;cases e
 | some q=>
  obtain ⟨ds,δ1⟩:=q
  rw [e1] at e
  dsimp only at e
  split at e
  ·rename_i b xs hi
   split at e
   ·rename_i hn
    cases e2:mf xs ds with
    | none=>rw [e2] at e;cases e
    | some q=>
     obtain ⟨d',xs'⟩:=q
     rw [e2] at e
     cases e
     refine ⟨_,ea,c,δ,S,T,ds,δ1,s,e1,fun vs H1 l s1=>?_⟩
     dsimp only
     rw [List.append_nil]
     obtain ⟨a',ws,ea',hH,hxs,hB,hB',hZ⟩:=s1.ow i b xs hi
     rw [ea] at ea';cases ea'
     have hda:Hd c δ1 σ a:=.inr ⟨i,b,xs,hi,ea⟩
     have zi:∀ (o:HO) (y:Addr),(∃ u,upd (fun z=>if z=a then none else BZ c δ1 σ H1 z) a o y=some u) ↔ Hd c δ1 σ y:=fun o y=>by
      by_cases ey:y=a
      ·subst ey;rw [aI];exact Iff.intro (fun _=>hda) fun _=>⟨o,rfl⟩
      ·rw [ax ey,if_neg ey];exact g8 s1 y
     refine ⟨by simp [l];omega,fun z=>if z=a then none else BZ c δ1 σ H1 z,a,ws,xs,vs,ds,d,xs',rfl,fun b o h=>?_,if_pos rfl,hH,hxs.mono (bf (fun y o _ z=>(zi _ y).mp z) fun _ _ _ h=>h),
      (s1.st.left l).mono (bf (fun y o _ z=>(zi _ y).mp z) fun _ _ _ h=>h),e2,fun v ws' H' g ga r1 r2=>k v H' ?_⟩
     ·dsimp only at h;split at h
      ·cases h
      ·exact rp s1 _ _ h
     ·have gr:vZ H1 (upd H' a (.lst ws)):=fun y o hy=>by
       by_cases ey:y=a
       ·subst ey;rw [hH] at hy;cases hy;exact aI
       ·rw [ax ey];exact g y o ey hy
      have s2:=(s1.drop l).grow gr
      have m2:∀ y o,hz (upd (fun z=>if z=a then none else BZ c δ1 σ H1 z) a (.lst ws')) H' y=some o->fV c δ1 σ (upd H' a (.lst ws)) y=some o :=
       bf (fun y o _ z=>(zi _ y).mpr z) fun y o hy h=>by
        have:y ≠ a:=fun ey=>hy (by rw [ey];exact ⟨_,aI⟩)
        rw [ax this];exact h
      have s3:=(s2.stk (.cons (r2.mono m2) s2.st)).mut hi ea (r1.mono m2)
      have eH:upd (upd H' a (.lst ws)) a (.lst ws')=H':= by
       rw [Br]
       funext y
       by_cases ey:y=a
       ·subst ey;rw [aI,ga]
       ·rw [ax ey]
      rw [eH] at s3
      exact s3
   ·cases e
  ·cases e
end
def entry (N:List Str) (ds:List D):DS:=ds.map .pu ++ List.replicate (N.length - ds.length) .un
def aO (N:List Str) (body:M Fl) (ds:List D):Option D:=match body (entry N ds) with
 | some (.rt d,_)=>some d
 | some (.nx,_)=>some .non
 | _=>none
def oh (N:List Str) (body:M Fl) (ds:List D):Option (List D):=match body (entry N ds) with
 | some (.rf xs,_)=>some xs
 | _=>none
def eA (N:List Str) (xs ds:List D):DS:=.ow true xs :: (ds.map .pu ++ List.replicate (N.length - (ds.length + 1)) .un)
def aY (N:List Str) (body:M Fl) (xs ds:List D):Option (D × List D):=match body (eA N xs ds) with
 | some (.rt d,δ)=>(match (show DS from δ)[0]? with
  | some (Slot.ow true xs')=>some (d,xs')
  | _=>none)
 | _=>none
theorem dE {ds:List D} {n:Nat} {i:Nat} {x:Slot} (h:(ds.map Slot.pu ++ List.replicate n .un)[i]? = some x):(∃ d,x=.pu d∧ds[i]? = some d) ∨ x=.un:= by
 by_cases hi:i < ds.length
 ·rw [List.getElem?_append_left (by simpa using hi),List.getElem?_map] at h
  cases q:ds[i]? with
  | none=>rw [q] at h;cases h
  | some d=>rw [q] at h;cases h;exact .inl ⟨d,rfl,rfl⟩
 ·rw [List.getElem?_append_right (by simpa using hi),List.getElem?_replicate] at h
  split at h
  ·cases h;exact .inr rfl
  ·cases h
theorem ph {Z H:Hp} {N:List Str} {ds:List D} {vs:List V} (hZ:FF Z H) (r:Rs (hz Z H) ds vs) (hl:vs.length ≤ N.length):Sl ⟨Z,[],H⟩ (entry N ds) [] (L2.start N vs) [] H:= by
 have noow:∀ a,¬ uJ (entry N ds) (L2.start N vs) a:=fun a ⟨i,b,xs,h1,_⟩=>by
  rcases dE h1 with ⟨d,e,_⟩ | e <;> cases e
 have m:∀ b o,hz Z H b=some o->fV ⟨Z,[],H⟩ (entry N ds) (L2.start N vs) H b=some o:=bf (fun a o _ z=>z.elim (fun z=>z) fun z=>absurd z (noow a)) fun _ _ _ h=>h
 refine ⟨?_,fun i d h=>?_,fun i b xs h=>?_,fun i j b b' xs ys a h=>?_,.nil,fun b o _ h=>h,fun b hb=>(nomatch hb),hZ⟩
 ·have:=r.length
  simp only [entry,L2.start,List.length_append,List.length_map,List.length_replicate]
  omega
 ·rcases dE h with ⟨d',e,hd⟩ | e
  ·cases e
   obtain ⟨v,hv,rv⟩:=r.get hd
   refine ⟨v,?_,rv.mono m⟩
   have hi:i < vs.length:=(List.getElem?_eq_some_iff.mp hv).1
   unfold L2.start
   rw [List.getElem?_append_left (by simpa using hi),List.getElem?_map,hv];rfl
  ·cases e
 ·rcases dE h with ⟨d',e,hd⟩ | e <;> cases e
 ·rcases dE h with ⟨d',e,hd⟩ | e <;> cases e
section
variable {P:Program} {w:World} {K:PySem.W.Frag} {mg:Str->Option Value} {base:Heap} {x qual:Str} {st:Stmt} {f:Addr} {fd:FuncData} {N ps:List Str} {k:Nat} {body:M Fl}
theorem JB (F:zq K x qual st f fd) (S:aF N ps (ak st)) (hb:∀ (cdv:Value) (A:Around) (outer:List Env) (s:Shared) (H:Hp) (E:XK),cm k (A.deeper (PyProof.Rows.envOfC qual (ak st) s.heap.objs.size f cdv))->q_ (iZ di P w K mg base N qual (ak st) f cdv A outer s H E).nox (bX st) body) :
  dF P w K mg base di (k + 1) f fd ps (jM ps.length (aO N body)):= by
 refine F.ok S (fun vs H Q E h=>h.1) (fun cdv A outer s H vs Q E hr h=>⟨_,hb cdv A outer s H E hr,?_⟩)
 obtain ⟨hl,Z,ds,d,hZ,r,e,q⟩:=h
 have hpl:ps.length ≤ N.length:=by have:=congrArg List.length S.pre;rw [List.length_take] at this;omega
 have s0:=ph (N:=N) hZ r (by rw [hl];exact hpl)
 have fin:∀ {δ':DS} {σ':St} {v:V} {H':Hp},Sl ⟨Z,[],H⟩ δ' [d] σ' [v] H' -> Q v H':=fun {δ' σ' v H'} s'=>
  q v H' (fun b o hb=>s'.keep b o (by simp) hb) (s'.st.head.mono (bf (fun a o _ z=>.inl z) fun _ _ _ h=>h))
 unfold aO at e
 split at e
 ·rename_i d' δ' eb
  cases e
  exact ⟨_,_,_,_,_,_,s0,eb,fun v σ' H' s'=>fin s'⟩
 ·rename_i δ' eb
  cases e
  exact ⟨_,_,_,_,_,_,s0,eb,fun σ' H' s'=>fin (v:=.non) (s'.stk (.cons .mkN .nil))⟩
 ·cases e
theorem JO (F:zq K x qual st f fd) (S:aF N ps (ak st)) (hb:∀ (cdv:Value) (A:Around) (outer:List Env) (s:Shared) (H:Hp) (E:XK),cm k (A.deeper (PyProof.Rows.envOfC qual (ak st) s.heap.objs.size f cdv))->q_ (iZ di P w K mg base N qual (ak st) f cdv A outer s H E).nox (bX st) body) :
  dF P w K mg base di (k + 1) f fd ps (FL ps.length (oh N body)):= by
 refine F.ok S (fun vs H Q E h=>h.1) (fun cdv A outer s H vs Q E hr h=>⟨_,hb cdv A outer s H E hr,?_⟩)
 obtain ⟨hl,Z,ds,d,hZ,r,e,q⟩:=h
 have hpl:ps.length ≤ N.length:=by have:=congrArg List.length S.pre;rw [List.length_take] at this;omega
 have s0:=ph (N:=N) hZ r (by rw [hl];exact hpl)
 unfold oh at e
 split at e
 ·rename_i d' δ' eb
  cases e
  refine ⟨_,_,_,_,_,_,s0,eb,fun l vs' σ' H' h1 s' h3 h4 h5=>?_⟩
  refine q l vs' H' (fun b o hb=>s'.keep b o (by simp) hb) h5 (s'.zz l _ aI) ?_
  exact (s'.st.left h1).mono (bf (fun a o _ z=>.inl z) fun _ _ _ h=>h)
 ·cases e
theorem JN (F:zq K x qual st f fd) (S:aF N ps (ak st)) (hb:∀ (cdv:Value) (A:Around) (outer:List Env) (s:Shared) (H:Hp) (E:XK),cm k (A.deeper (PyProof.Rows.envOfC qual (ak st) s.heap.objs.size f cdv))->q_ (iZ di P w K mg base N qual (ak st) f cdv A outer s H E).nox (bX st) body) :
  dF P w K mg base di (k + 1) f fd ps (vy ps.length (aY N body)):= by
 refine F.ok S (fun vs H Q E h=>h.1) (fun cdv A outer s H vs Q E hr h=>⟨_,hb cdv A outer s H E hr,?_⟩)
 obtain ⟨hl,Z,a,ws,xs,us,ds,d,xs',rfl,hZ,hZa,hH,hxs,hds,e,q⟩:=h
 have hpl:ps.length ≤ N.length:=by have:=congrArg List.length S.pre;rw [List.length_take] at this;omega
 have hlu:us.length + 1 ≤ N.length:=by rw [<- hl] at hpl;simpa using hpl
 have ld:=hds.length
 have ow0:∀ b,uJ (eA N xs ds) (L2.start N (.ref a :: us)) b->b=a:=fun b ⟨i,bb,ys,h1,h2⟩=>by
  cases i with
  | zero=>cases h2;rfl
  | succ i=>
   have h1':(ds.map Slot.pu ++ List.replicate (N.length - (ds.length + 1)) .un)[i]? = some (.ow bb ys):=by simpa [eA] using h1
   rcases dE h1' with ⟨d,e,_⟩ | e <;> cases e
 have m:∀ b o,hz (upd Z a (.lst ws)) H b=some o->fV ⟨Z,[a],H⟩ (eA N xs ds) (L2.start N (.ref a :: us)) H b=some o:=bf (fun b o _ z=>by
  rcases z with ⟨o',z⟩ | z
  ·have z':Z b=some o':=z
   by_cases eb:b=a
   ·rw [eb,hZa] at z';cases z'
   ·exact ⟨o',by rw [ax eb];exact z'⟩
  ·rw [ow0 b z];exact ⟨_,aI⟩) fun _ _ _ h=>h
 have s0:Sl ⟨Z,[a],H⟩ (eA N xs ds) [] (L2.start N (.ref a :: us)) [] H:= by
  refine ⟨?_,fun i d h=>?_,fun i b ys h=>?_,fun i j b b' ys zs y h h'=>?_,.nil,fun b o _ h=>h,fun b hb=>?_,hZ⟩
  ·simp only [eA,L2.start,List.length_append,List.length_map,List.length_replicate,List.length_cons]
   omega
  ·cases i with
   | zero=>cases h
   | succ i=>
    have h':(ds.map Slot.pu ++ List.replicate (N.length - (ds.length + 1)) .un)[i]? = some (.pu d):=by simpa [eA] using h
    rcases dE h' with ⟨d',e,hd⟩ | e
    ·cases e
     obtain ⟨v,hv,rv⟩:=hds.get hd
     refine ⟨v,?_,rv.mono m⟩
     have hi:i < us.length:=(List.getElem?_eq_some_iff.mp hv).1
     have:(L2.start N (.ref a :: us))[i + 1]? = some (some v):= by
      unfold L2.start
      rw [List.getElem?_append_left (by simpa using hi),List.getElem?_map,List.getElem?_cons_succ,hv];rfl
     exact this
    ·cases e
  ·cases i with
   | zero=>
    cases h
    exact ⟨a,ws,rfl,hH,hxs.mono m,(fun _=>List.mem_singleton.mpr rfl),(fun z=>absurd z (by simp)),hZa⟩
   | succ i=>
    have h':(ds.map Slot.pu ++ List.replicate (N.length - (ds.length + 1)) .un)[i]? = some (.ow b ys):=by simpa [eA] using h
    rcases dE h' with ⟨d',e,hd⟩ | e <;> cases e
  ·intro _ _
   have z:∀ (i:Nat) b ys,(eA N xs ds)[i]? = some (.ow b ys)->i=0:=fun i b ys h=>by
    cases i with
    | zero=>rfl
    | succ i=>
     have h':(ds.map Slot.pu ++ List.replicate (N.length - (ds.length + 1)) .un)[i]? = some (.ow b ys):=by simpa [eA] using h
     rcases dE h' with ⟨d',e,hd⟩ | e <;> cases e
   rw [z i b ys h,z j b' zs h']
  ·rw [List.mem_singleton.mp hb];exact ⟨_,hH⟩
 unfold aY at e
 split at e
 ·rename_i d' δ' eb
  split at e
  ·rename_i ys hy
   cases e
   refine ⟨_,_,_,_,_,_,s0,eb,fun v σ' H' s'=>?_⟩
   obtain ⟨a',ws',ea,hH',hv',hB',_,_⟩:=s'.ow 0 true _ hy
   have ea2:a' = a:=List.mem_singleton.mp (hB' rfl)
   subst ea2
   have m':∀ b o,fV ⟨Z,[a'],H⟩ δ' σ' H' b=some o->hz (upd Z a' (.lst ws')) H' b=some o:=bf (fun b o _ z=>by
    obtain ⟨o',z⟩:=z
    by_cases eb:b=a'
    ·subst eb;exact .inr ⟨0,true,_,hy,ea⟩
    ·rw [ax eb] at z;exact .inl ⟨o',z⟩) fun _ _ _ h=>h
   exact q v ws' H' (fun b o hb h=>s'.keep b o (fun z=>hb (List.mem_singleton.mp z)) h) hH' (hv'.mono m') (s'.st.head.mono m')
  ·cases e
 ·cases e
end
end Jt
namespace Jt
open PySem L2
section
variable {X:Cx} {a b e:Expr} {fa fb:M D} {fs:M (List D)} {pos p apos cpos:Pos} {es:List Expr} {x:Str}
theorem Sl.own {c:Ct} {δ:DS} {S:List D} {σ:St} {T:List V} {H:Hp} (s:Sl c δ S σ T H) {i:Nat} {b:Bool} {xs:List D} (hi:δ[i]? = some (.ow b xs)):∃ a vs,σ[i]? = some (some (.ref a))∧H a=some (.lst vs)∧Rs (fV c δ σ H) xs vs:= by
 obtain ⟨a,vs,h1,h2,h3,_⟩:=s.ow i b xs hi
 exact ⟨a,vs,h1,h2,h3⟩
def setOw (i:Nat) (xs:List D):M Unit:=fun δ=>match δ[i]? with
 | some (.ow b _)=>some ((),δ.set i (.ow b xs))
 | _=>none
theorem eB {i:Nat} {xs:List D} {δ δ':DS} {u:Unit} (h:setOw i xs δ=some (u,δ')):∃ b ys,δ[i]? = some (.ow b ys)∧δ' = δ.set i (.ow b xs):= by
 unfold setOw at h
 split at h
 ·rename_i b ys e;cases h;exact ⟨b,ys,e,rfl⟩
 ·cases h
def eN (i:Nat) (fs:M (List D)):M Fl:=do
 let _ <- aA i
 let ds <- fs
 match ds with
 | [d]=>do
  let xs <- aA i
  let _ <- lift (few xs.length)
  setOw i (xs ++ [d])
  pure .nx
 | _=>lift none
theorem fw (i:Nat) (ha:DA X [a] fs) (hN:X.N[i]? = some x:=by rfl) (hv:qT X.env.scope x:=by first | exact Or.inl rfl | exact Or.inr (Or.inl rfl) | exact Or.inr (Or.inr rfl)) (hd:(x == ("__debug__":Str))=false:=by decide) (hcd:(x == ("__classdict__":Str))=false:=by decide)
  (hfew:((backTo cpos (starEach [a] X.env)).all (fun x=>!x.1) && (backToKw cpos (keywordEach [] X.env)).all (fun x=>x.1.isSome)
   && decide (([a]:List Expr).length + ([]:List Keyword).length + (if ([]:List Keyword).isEmpty then 0 else 1) < 30))=true:=by rfl)
  (hline:(apos.endLine == cpos.line)=true:=by rfl) (hs:starEach [a] X.env=[(false,eval a X.env)]:=by rfl) (hsw:swapsWith (.Call (.Attribute (.Name x p) "append" apos) [a] [] cpos) none pos.line X.env=pure false:=by rfl) :
  o7 X (.Expr (.Call (.Attribute (.Name x p) "append" apos) [a] [] cpos) pos) (eN i fs) :=
 jm (BX (yW PySem.F.plainAttrs_list PySem.F.slot_list_append PySem.F.type_list_append mL (dm hN hv hd hcd) ha rfl hfew hline hs rfl) hsw) fun E σ H ⟨c,δ,S,T,fl,δ',s,e,k⟩=>by
  obtain ⟨xs0,δ0,e0,e⟩:=bind_some e
  obtain ⟨⟨b0,hi0⟩,rfl⟩:=bj e0
  obtain ⟨q,vs0,eq,hq,_⟩:=s.own hi0
  obtain ⟨ds,δ1,e1,e⟩:=bind_some e
  refine ⟨_,eq,.inl ⟨rfl,vs0,.of hq⟩,c,δ,S,T,ds,δ1,s,e1,fun vs H1 l s1=>?_⟩
  split at e
  ·rename_i d
   obtain ⟨xs,δ2,e2,e⟩:=bind_some e
   obtain ⟨⟨b1,hi1⟩,rfl⟩:=bj e2
   obtain ⟨_,δ3,e3,e⟩:=bind_some e
   obtain ⟨e4,rfl⟩:=aw e3
   obtain ⟨_,δ4,e5,e⟩:=bind_some e
   obtain ⟨rfl,rfl⟩:=ao e
   obtain ⟨b2,ys,hi2,rfl⟩:=eB e5
   rw [hi1] at hi2;cases hi2
   obtain ⟨q',ws,eq',hq',hx⟩:=s1.own hi1
   rw [eq] at eq';cases eq'
   obtain ⟨v,rfl,r⟩:=qX (s1.st.left l)
   refine ⟨q,ws,v,rfl,rfl,hq',by rw [hx.length];exact (iV e4).2,k _ _ ?_⟩
   exact (s1.drop l).mut hi1 eq (hx.append (.cons r .nil))
  ·cases e
def xr (i:Nat) (fs:M (List D)):M D:=do
 let _ <- aA i
 let ds <- fs
 match ds with
 | [.int j]=>do
  let xs <- aA i
  let d <- lift (if 0 ≤ j∧j < 100000 then xs[j.toNat]? else none)
  setOw i (xs.eraseIdx j.toNat)
  pure d
 | _=>lift none
theorem Rs.erase {H:Hp}:∀ {ds:List D} {vs:List V} (i:Nat),Rs H ds vs->Rs H (ds.eraseIdx i) (vs.eraseIdx i)
 | [],vs,i,h=>by rw [h.inv0];simpa using Rs.nil
 | d :: ds,vs,0,h=>by obtain ⟨v,r,e,_,h2⟩:=h.inv;subst e;exact h2
 | d :: ds,vs,i + 1,h=>by obtain ⟨v,r,e,h1,h2⟩:=h.inv;subst e;exact .cons h1 (Rs.erase i h2)
theorem xU (i:Nat) (ha:DA X [a] fs) (hN:X.N[i]? = some x:=by rfl) (hv:qT X.env.scope x:=by first | exact Or.inl rfl | exact Or.inr (Or.inl rfl) | exact Or.inr (Or.inr rfl)) (hd:(x == ("__debug__":Str))=false:=by decide) (hcd:(x == ("__classdict__":Str))=false:=by decide)
  (hfew:((backTo cpos (starEach [a] X.env)).all (fun x=>!x.1) && (backToKw cpos (keywordEach [] X.env)).all (fun x=>x.1.isSome)
   && decide (([a]:List Expr).length + ([]:List Keyword).length + (if ([]:List Keyword).isEmpty then 0 else 1) < 30))=true:=by rfl)
  (hline:(apos.endLine == cpos.line)=true:=by rfl) (hs:starEach [a] X.env=[(false,eval a X.env)]:=by rfl) :
  DE X (.Call (.Attribute (.Name x p) "pop" apos) [a] [] cpos) (xr i fs) :=
 b8 (yW PySem.F.plainAttrs_list PySem.F.slot_list_pop PySem.F.type_list_pop xi (dm hN hv hd hcd) ha rfl hfew hline hs rfl) fun σ H Q ⟨c,δ,S,T,fl,δ',s,e,k⟩=>by
  obtain ⟨xs0,δ0,e0,e⟩:=bind_some e
  obtain ⟨⟨b0,hi0⟩,rfl⟩:=bj e0
  obtain ⟨q,vs0,eq,hq,_⟩:=s.own hi0
  obtain ⟨ds,δ1,e1,e⟩:=bind_some e
  refine ⟨_,eq,.inl ⟨rfl,vs0,.of hq⟩,c,δ,S,T,ds,δ1,s,e1,fun vs H1 l s1=>?_⟩
  split at e
  ·rename_i j
   obtain ⟨xs,δ2,e2,e⟩:=bind_some e
   obtain ⟨⟨b1,hi1⟩,rfl⟩:=bj e2
   obtain ⟨d,δ3,e3,e⟩:=bind_some e
   obtain ⟨e4,rfl⟩:=aw e3
   obtain ⟨_,δ4,e5,e⟩:=bind_some e
   obtain ⟨rfl,rfl⟩:=ao e
   obtain ⟨b2,ys,hi2,rfl⟩:=eB e5
   rw [hi1] at hi2;cases hi2
   obtain ⟨q',ws,eq',hq',hx⟩:=s1.own hi1
   rw [eq] at eq';cases eq'
   obtain ⟨v,rfl,r⟩:=qX (s1.st.left l)
   cases r.int
   split at e4
   ·rename_i hj
    obtain ⟨y,hy,ry⟩:=hx.get e4
    have hjl:j.toNat < ws.length:=(List.getElem?_eq_some_iff.mp hy).1
    refine ⟨q,ws,j,j.toNat,y,rfl,rfl,hq',by omega,by omega,?_,hy,k _ _ ?_⟩
    ·unfold seqIndex?
     have h1:¬ j < 0:=by omega
     simp only [h1,if_false]
     rw [if_pos]
     simp only [Bool.and_eq_true,decide_eq_true_eq]
     omega
    ·have s2:=s1.drop l
     exact (s2.stk (.cons ry s2.st)).mut hi1 eq (hx.erase j.toNat)
   ·cases e4
  ·cases e
def nY (i:Nat) (fa:M D) (k:Int):M Fl:=do
 let d <- fa
 let xs <- aA i
 let j <- lift (q0 xs.length k)
 setOw i (xs.set j d)
 pure .nx
theorem Rs.set {H:Hp} {d:D} {v:V} (r:R H d v):∀ {ds:List D} {vs:List V} (i:Nat),Rs H ds vs->Rs H (ds.set i d) (vs.set i v)
 | [],vs,i,h=>by rw [h.inv0];simpa using Rs.nil
 | d :: ds,vs,0,h=>by obtain ⟨v,q,e,_,h2⟩:=h.inv;subst e;exact .cons r h2
 | d :: ds,vs,i + 1,h=>by obtain ⟨v,q,e,h1,h2⟩:=h.inv;subst e;exact .cons h1 (Rs.set r i h2)
theorem yO (i:Nat) {k:Int} {j:Nat} {pc psub:Pos} (he:DE X e fa) (hN:X.N[i]? = some x:=by rfl) (hv:qT X.env.scope x:=by first | exact Or.inl rfl | exact Or.inr (Or.inl rfl) | exact Or.inr (Or.inr rfl)) (hd:(x == ("__debug__":Str))=false:=by decide) (hcd:(x == ("__classdict__":Str))=false:=by decide)
  (ha:∀ v,assign (.Subscript (.Name x p) (.Constant (.int k) j pc) psub) X.env v=(do
   let ov <- holding [v] (eval (.Name x p) X.env)
   let iv <- holding [v,ov] (eval (.Constant (.int k) j pc) X.env)
   standAt psub
   holding [v,ov,iv] (setItem ov iv v)
   release [v,ov,iv] []):=by intro _;rfl)
  (hs:swapsWithSole [.Subscript (.Name x p) (.Constant (.int k) j pc) psub] e pos.line X.env=pure false:=by rfl) (hw:swappedStores [.Subscript (.Name x p) (.Constant (.int k) j pc) psub] e X.env=pure none:=by rfl)
  (h1:(assignEach [.Subscript (.Name x p) (.Constant (.int k) j pc) psub] X.env).map (·.2)=[assign (.Subscript (.Name x p) (.Constant (.int k) j pc) psub) X.env]:=by rfl) :
  o7 X (.Assign [.Subscript (.Name x p) (.Constant (.int k) j pc) psub] e pos) (nY i fa k) :=
 jm (x8 he (yu (dm hN hv hd hcd) rH set_list ha) hs hw h1) fun E σ H ⟨c,δ,S,T,fl,δ',s,e,kk⟩=>by
  obtain ⟨d,δ1,e1,e⟩:=bind_some e
  obtain ⟨xs,δ2,e2,e⟩:=bind_some e
  obtain ⟨⟨b1,hi1⟩,rfl⟩:=bj e2
  obtain ⟨jj,δ3,e3,e⟩:=bind_some e
  obtain ⟨e4,rfl⟩:=aw e3
  obtain ⟨_,δ4,e5,e⟩:=bind_some e
  obtain ⟨rfl,rfl⟩:=ao e
  obtain ⟨b2,ys,hi2,rfl⟩:=eB e5
  rw [hi1] at hi2;cases hi2
  refine ⟨c,δ,S,T,d,δ1,s,e1,fun v H1 s1=>?_⟩
  obtain ⟨q,ws,eq,hq,hx⟩:=s1.own hi1
  refine ⟨_,eq,q,ws,k,jj,rfl,rfl,hq,by rw [hx.length];exact e4,kk _ _ ?_⟩
  exact s1.pop.mut hi1 eq (hx.set s1.st.head jj)
def lB (i:Nat) (fb:M D):M D:=do
 let _ <- aA i
 let y <- fb
 let xs <- aA i
 lift (cT (.lst xs) y)
theorem ku (i:Nat) {px:Pos} (hb:DE X b fb) (hN:X.N[i]? = some x:=by rfl) (hv:qT X.env.scope x:=by first | exact Or.inl rfl | exact Or.inr (Or.inl rfl) | exact Or.inr (Or.inr rfl)) (hd:(x == ("__debug__":Str))=false:=by decide) (hcd:(x == ("__classdict__":Str))=false:=by decide)
  (hs:jU b:=by exact fun _ _=>rfl):DE X (.Subscript (.Name x px) b pos) (lB i fb):=b8 (Cz ui (dm hN hv hd hcd) hb hs) fun σ H Q ⟨c,δ,S,T,fl,δ',s,e,k⟩=>by
 obtain ⟨xs0,δ0,e0,e⟩:=bind_some e
 obtain ⟨⟨b0,hi0⟩,rfl⟩:=bj e0
 obtain ⟨q,vs0,eq,hq,_⟩:=s.own hi0
 obtain ⟨y,δ1,e1,e⟩:=bind_some e
 obtain ⟨xs,δ2,e2,e⟩:=bind_some e
 obtain ⟨⟨b1,hi1⟩,rfl⟩:=bj e2
 obtain ⟨e3,rfl⟩:=aw e
 refine ⟨_,eq,c,δ,S,T,y,δ1,s,e1,fun u H2 s2=>?_⟩
 obtain ⟨q',ws,eq',hq',hx⟩:=s2.own hi1
 rw [eq] at eq';cases eq'
 cases y with
 | int j=>
  have e':ju xs j=some fl:=e3
  obtain ⟨z,e4,r⟩:=sD hx e'
  exact ⟨q,ws,j,z,rfl,s2.st.head.int,.of hq',e4,k _ _ (s2.stk (.cons r s2.st.tail))⟩
 | _=>cases e3
def kb (i:Nat):M D:=do
 let xs <- aA i
 pure (.int xs.length)
theorem jR (i:Nat) {px:Pos} (hm:X.mg "len" = none) (hg:Gl X "len":=by rfl) (hN:X.N[i]? = some x:=by rfl) (hv:qT X.env.scope x:=by first | exact Or.inl rfl | exact Or.inr (Or.inl rfl) | exact Or.inr (Or.inr rfl)) (hd:(x == ("__debug__":Str))=false:=by decide) (hcd:(x == ("__classdict__":Str))=false:=by decide) :
  DE X (.Call (.Name "len" p) [.Name x px] [] pos) (kb i):=b8 (fE i6 hg hm PySem.boot_len (cY (dm hN hv hd hcd) fm) (by decide) (by decide) rfl rfl) fun σ H Q ⟨c,δ,S,T,fl,δ',s,e,k⟩=>by
 obtain ⟨xs,δ1,e1,e⟩:=bind_some e
 obtain ⟨rfl,rfl⟩:=ao e
 obtain ⟨⟨b1,hi1⟩,rfl⟩:=bj e1
 obtain ⟨q,ws,eq,hq,hx⟩:=s.own hi1
 refine ⟨_,eq,q,ws,rfl,.inl (.of hq),k _ _ (s.stk (.cons ?_ s.st))⟩
 rw [hx.length];exact .mkI
theorem bH (hm:X.mg "len" = none) (ha:DA X [a] fs) (hg:Gl X "len":=by rfl) (he:starEach [a] X.env=[(false,eval a X.env)]:=by rfl):DE X (.Call (.Name "len" p) [a] [] pos) (mC bu fs) :=
 fv i6 Df hg hm PySem.boot_len ha (by decide) (by decide) he rfl
theorem vL:∀ {bs:List Bool} {its:List Value} {i:Nat} {v:Value},Vals (bs.map V.bl) its->its[i]? = some v->∃ b,bs[i]? = some b∧v=.bool b:=fun {bs its i v} h e=>by
 have hl:=h.length
 rw [List.length_map] at hl
 have hi:i < bs.length:=by rw [hl];exact (List.getElem?_eq_some_iff.mp e).1
 obtain ⟨u,eu,r⟩:=h.get (i:=i) (x:=V.bl bs[i]) (by rw [List.getElem?_map,List.getElem?_eq_getElem hi];rfl)
 rw [e] at eu;cases eu
 exact ⟨bs[i],List.getElem?_eq_getElem hi,r⟩
theorem s_ (bs:List Bool):((List.range bs.length).all fun i=>(bs[i]?).getD true)=bs.all id:= by
 rw [Bool.eq_iff_iff,List.all_eq_true,List.all_eq_true]
 constructor
 ·intro h b hb
  obtain ⟨i,hi,rfl⟩:=List.getElem_of_mem hb
  simpa [List.getElem?_eq_getElem hi] using h i (List.mem_range.mpr hi)
 ·intro h i hi
  have hi':=List.mem_range.mp hi
  simpa [List.getElem?_eq_getElem hi'] using h _ (List.getElem_mem hi')
theorem xB (hc:X.calm=true):cP X (.builtin "all") (fun xs H Q=>∃ (p:Addr) (bs:List Bool),xs=[.ref p]∧gn X.K H p (bs.map V.bl)∧Q (.bl (bs.all id)) H):= by
 intro pins s σ H xs us Q I r h
 obtain ⟨p,bs,rfl,hq,q⟩:=h
 obtain ⟨u,rfl,rx⟩:=r.one
 cases rx
 obtain ⟨its,rv,pl,hz⟩:=I.list hq
 have hlt:p < s.heap.objs.size:=by obtain ⟨_,e,_⟩:=pl.isList;exact Heap.lt_size e
 refine call_all_walk (wpAny_pyIter_list pl.isList ?_)
 refine ⟨s.heap.objs.size,[s.heap.objs.size,p],[s.heap.objs.size],its.toArray.size,_,_,fun i=>(bs[i]?).getD true,rfl,Walks.list (A:=X.A.in1) (I.ok.hd hc) _ p (Nat.ne_of_lt hlt) its.toArray,
  ⟨⟨_,Heap.get?_push_size _ rfl,rfl,rfl⟩,pl.isList.push _⟩,fun i v s' Q' E' hP hQ=>?_,fun h' tk hk=>?_⟩
 ·obtain ⟨b,e,rfl⟩:=vL rv (by simpa using hP)
  simp only [e,Option.getD_some] at hQ
  exact wpAny_truthy_bool hQ
 ·have e:((List.range its.toArray.size).all fun i=>(bs[i]?).getD true)=bs.all id:= by
   rw [List.size_toArray,<- rv.length,List.length_map];exact s_ bs
  rw [e]
  exact ⟨.bl _,H,I.kept fun b o eb=>hk b o (fun hm=>absurd (Heap.lt_size eb) (by rw [List.mem_singleton.mp hm];exact Nat.lt_irrefl _)) (Heap.get?_push_of_some _ eb),rfl,q⟩
def boolsOf:List D->Option (List Bool)
 | []=>some []
 | .bl b :: r=>(boolsOf r).map (b :: ·)
 | _=>none
theorem qm {H:Hp}:∀ {ds:List D} {vs:List V} {bs:List Bool},Rs H ds vs->boolsOf ds=some bs->vs=bs.map V.bl
 | [],vs,bs,h,e=>by cases e;exact h.inv0
 | d :: ds,vs,bs,h,e=>by
  obtain ⟨v,r,ev,h1,h2⟩:=h.inv
  cases d with
  | bl b=>
   unfold boolsOf at e
   cases q:boolsOf ds with
   | none=>rw [q] at e;cases e
   | some bs'=>
    rw [q] at e;cases e
    rw [ev,h1.bl,qm h2 q];rfl
  | _=>cases e
def gi:List D->Option D
 | [.lst ds]=>(boolsOf ds).map fun bs=>.bl (bs.all id)
 | _=>none
theorem x_ {K:PySem.W.Frag} (g:List Bool->Bool) (f:List D->Option D) (hf:∀ ds d,f ds=some d->∃ es bs,ds=[.lst es]∧boolsOf es=some bs∧d=.bl (g bs)) :
  ig (fun xs H Q=>∃ (p:Addr) (bs:List Bool),xs=[.ref p]∧gn K H p (bs.map V.bl)∧Q (.bl (g bs)) H) f:=fun c δ S σ T H ds vs d Q l s e k=>by
 obtain ⟨es,bs,rfl,e2,rfl⟩:=hf _ _ e
 have h:=s.st.left l
 have h2:=s.st.right l
 obtain ⟨v,rfl,r⟩:=qX h
 obtain ⟨p,ws,rfl,h1,h3⟩:=r.lst
 have:=qm h3 e2
 subst this
 exact ⟨p,bs,rfl,.inl (Rd.mono aQ h1),k _ _ (s.stk (.cons .mkB h2))⟩
theorem u_ (ds:List D) (d:D) (h:gi ds=some d):∃ es bs,ds=[.lst es]∧boolsOf es=some bs∧d=.bl (bs.all id):= by
 unfold gi at h
 split at h
 ·rename_i es
  cases q:boolsOf es with
  | none=>rw [q] at h;cases h
  | some bs=>rw [q] at h;cases h;exact ⟨es,bs,rfl,q,rfl⟩
 ·cases h
theorem jz (hm:X.mg "all" = none) (ha:DA X [a] fs) (hg:Gl X "all":=by rfl) (hc:X.calm=true:=by rfl) (he:starEach [a] X.env=[(false,eval a X.env)]:=by rfl):DE X (.Call (.Name "all" p) [a] [] pos) (mC gi fs) :=
 fv (xB hc) (x_ _ gi u_) hg hm PyProof.Rows.boot_all ha (by decide) (by decide) he rfl
theorem nt {T:String} {r:List V->Hp->VK->Prop} {f:List D->Option D} (hc:cP X (.type T) r) (hd:ig r f) (hg:Gl X x) (hm:X.mg x=none) (hv:bootBuiltins x=some (.type T)) (ha:DA X (a :: es) fs) (hn:x ≠ "__name__":=by decide) (hdb:(x == ("__debug__":Str))=false:=by decide)
  (he:starEach (a :: es) X.env=(false,eval a X.env) :: starEach es X.env:=by rfl) (hpl:(backTo pos (starEach es X.env)).any (·.1)=false:=by rfl):DE X (.Call (.Name x p) (a :: es) [] pos) (mC f fs) :=
 b8 (dX hc hg hm hv ha hn hdb he hpl) (CY hd)
theorem vm {T:String} {r:List V->Hp->VK->Prop} {f:List D->Option (List D)} (hc:cP X (.type T) r) (hd:xH r f) (hg:Gl X x) (hm:X.mg x=none) (hv:bootBuiltins x=some (.type T)) (ha:DA X (a :: es) fs) (hn:x ≠ "__name__":=by decide) (hdb:(x == ("__debug__":Str))=false:=by decide)
  (he:starEach (a :: es) X.env=(false,eval a X.env) :: starEach es X.env:=by rfl) (hpl:(backTo pos (starEach es X.env)).any (·.1)=false:=by rfl):DF X (.Call (.Name x p) (a :: es) [] pos) (mC f fs) :=
 b8 (dX hc hg hm hv ha hn hdb he hpl) (Dd hd)
def gm:D->Option (List D)
 | .tup ds=>some ds
 | .lst ds=>some ds
 | _=>none
def cx:List D->Option D
 | [x]=>(gm x).map .tup
 | _=>none
theorem yy {K:PySem.W.Frag}:ig (fun xs H Q=>∃ p ys,xs=[.ref p]∧((gn K H p ys∧∀ l,H l=none->Q (.ref l) (upd H l (.tup ys))) ∨ (fI K H p ys∧Q (.ref p) H))) cx:=fun c δ S σ T H ds vs d Q l s e k=>by
 unfold cx at e
 split at e
 ·rename_i x
  have h:=s.st.left l
  have h2:=s.st.right l
  obtain ⟨v,rfl,r⟩:=qX h
  cases x with
  | tup es=>
   cases e
   obtain ⟨p,ws,rfl,h1,h3⟩:=r.tup
   exact ⟨p,ws,rfl,.inr ⟨.of (aQ _ _ h1),k _ _ (s.stk (.cons (.mkT h1 h3) h2))⟩⟩
  | lst es=>
   cases e
   obtain ⟨p,ws,rfl,h1,h3⟩:=r.lst
   exact ⟨p,ws,rfl,.inl ⟨.inl (Rd.mono aQ h1),fun q hq=>k _ _ ((s.stk (h3.append h2)).newTup h3.length hq)⟩⟩
  | _=>cases e
 ·cases e
theorem dh (hm:X.mg "tuple" = none) (ha:DA X [a] fs) (hg:Gl X "tuple":=by rfl) (he:starEach [a] X.env=[(false,eval a X.env)]:=by rfl):DE X (.Call (.Name "tuple" p) [a] [] pos) (mC cx fs) :=
 nt ij yy hg hm (by decide +kernel) ha (by decide) (by decide) he rfl
def dList:List D->Option (List D)
 | [x]=>gm x
 | _=>none
theorem BJ {K:PySem.W.Frag}:xH (fun xs H Q=>∃ p ys,xs=[.ref p]∧(gn K H p ys ∨ fI K H p ys)∧∀ l,H l=none->Q (.ref l) (upd H l (.lst ys))) dList:=fun c δ S σ T H ds vs d Q l s e k=>by
 unfold dList at e
 split at e
 ·rename_i x
  have h:=s.st.left l
  have h2:=s.st.right l
  obtain ⟨v,rfl,r⟩:=qX h
  cases x with
  | tup es=>
   cases e
   obtain ⟨p,ws,rfl,h1,h3⟩:=r.tup
   refine ⟨p,ws,rfl,.inr (.of (aQ _ _ h1)),fun q hq=>?_⟩
   have s1:=s.stk (h3.append h2)
   obtain ⟨f1,f2,f3⟩:=s1.fresh hq
   exact k q ws _ h3.length (s1.hide hq) f1 f2 f3
  | lst es=>
   cases e
   obtain ⟨p,ws,rfl,h1,h3⟩:=r.lst
   refine ⟨p,ws,rfl,.inl (.inl (Rd.mono aQ h1)),fun q hq=>?_⟩
   have s1:=s.stk (h3.append h2)
   obtain ⟨f1,f2,f3⟩:=s1.fresh hq
   exact k q ws _ h3.length (s1.hide hq) f1 f2 f3
  | _=>cases e
 ·cases e
theorem jY (hm:X.mg "list" = none) (ha:DA X [a] fs) (hg:Gl X "list":=by rfl) (he:starEach [a] X.env=[(false,eval a X.env)]:=by rfl):DF X (.Call (.Name "list" p) [a] [] pos) (mC dList fs) :=
 vm nF BJ hg hm (by decide +kernel) ha (by decide) (by decide) he rfl
def flat:D->Option V
 | .non=>some .non
 | .bl b=>some (.bl b)
 | .int i=>some (.int i)
 | .str x=>some (.str x)
 | _=>none
theorem dA {H:Hp} {d:D} {v u:V} (r:R H d v) (e:flat d=some u):v=u∧gH u=true:= by
 cases d with
 | non=>cases e;exact ⟨r.non,rfl⟩
 | bl b=>cases e;exact ⟨r.bl,rfl⟩
 | int b=>cases e;exact ⟨r.int,rfl⟩
 | str b=>cases e;exact ⟨r.str,rfl⟩
 | _=>cases e
def k8:List D->Option (List V)
 | []=>some []
 | d :: ds=>match flat d,k8 ds with
  | some v,some vs=>some (v :: vs)
  | _,_=>none
theorem kL {H:Hp}:∀ {ds:List D} {vs us:List V},Rs H ds vs->k8 ds=some us->vs=us∧us.all gH=true
 | [],vs,us,h,e=>by cases e;exact ⟨h.inv0,rfl⟩
 | d :: ds,vs,us,h,e=>by
  obtain ⟨v,r,ev,h1,h2⟩:=h.inv
  unfold k8 at e
  split at e
  ·rename_i w ws e1 e2
   cases e
   obtain ⟨a1,a2⟩:=dA h1 e1
   obtain ⟨b1,b2⟩:=kL h2 e2
   refine ⟨by rw [ev,a1,b1],?_⟩
   rw [List.all_cons,a2,b2];rfl
  ·cases e
def lA (neg:Bool) (x y:D):Option D:=match flat x,gm y with
 | some v,some ds=>(k8 ds).map fun vs=>.bl (if neg then !FJ v vs else FJ v vs)
 | _,_=>none
theorem tf {K:PySem.W.Frag} {neg:Bool}:qq (Jc K neg) (lA neg):=fun c δ S σ T H x y v u d Q s e k=>by
 unfold lA at e
 split at e
 ·rename_i w ds e1 e2
  cases e3:k8 ds with
  | none=>rw [e3] at e;cases e
  | some vs=>
   rw [e3] at e;cases e
   obtain ⟨rfl,f1⟩:=dA s.st.tail.head e1
   cases y with
   | tup es=>
    cases e2
    obtain ⟨p,ws,rfl,h1,h3⟩:=s.st.head.tup
    obtain ⟨rfl,f2⟩:=kL h3 e3
    exact ⟨p,ws,rfl,.inr (.of (aQ _ _ h1)),f1,f2,k _ _ (s.stk (.cons .mkB s.st.tail.tail))⟩
   | lst es=>
    cases e2
    obtain ⟨p,ws,rfl,h1,h3⟩:=s.st.head.lst
    obtain ⟨rfl,f2⟩:=kL h3 e3
    exact ⟨p,ws,rfl,.inl (.inl (Rd.mono aQ h1)),f1,f2,k _ _ (s.stk (.cons .mkB s.st.tail.tail))⟩
   | _=>cases e2
 ·cases e
theorem xN (ha:DE X a fa) (hb:DE X b fb) (hm:behindInMarks .In b=false:=by rfl):DE X (.Compare a [.In] [b] pos) (m2 (lA false) fa fb):=jc mz tf ha hb hm
theorem jB (ha:DE X a fa) (hb:DE X b fb) (hm:behindInMarks .In b=false:=by rfl):DT X (.Compare a [.In] [b] pos) (m2 (lA false) fa fb >>= dq):=fQ mz tf ha hb hm
theorem yw (ha:DE X a fa) (hb:DE X b fb) (hm:behindInMarks .NotIn b=false:=by rfl):DT X (.Compare a [.NotIn] [b] pos) (m2 (lA true) fa fb >>= dq):=fQ oB tf ha hb hm
def ck (neg:Bool) (x y:D):Option D:=match flat x,flat y with
 | some v,some u=>if l0 v u=true then some (.bl (if neg then !decide (v=u) else decide (v=u))) else none
 | _,_=>none
theorem om:qq Iz (ck false):=fun c δ S σ T H x y v u d Q s e k=>by
 unfold ck at e
 split at e
 ·rename_i w z e1 e2
  split at e
  ·rename_i hs
   cases e
   obtain ⟨rfl,_⟩:=dA s.st.tail.head e1
   obtain ⟨rfl,_⟩:=dA s.st.head e2
   exact ⟨hs,k _ _ (s.stk (.cons .mkB s.st.tail.tail))⟩
  ·cases e
 ·cases e
theorem tB:qq Jk (ck true):=fun c δ S σ T H x y v u d Q s e k=>by
 unfold ck at e
 split at e
 ·rename_i w z e1 e2
  split at e
  ·rename_i hs
   cases e
   obtain ⟨rfl,_⟩:=dA s.st.tail.head e1
   obtain ⟨rfl,_⟩:=dA s.st.head e2
   exact ⟨hs,k _ _ (s.stk (.cons .mkB s.st.tail.tail))⟩
  ·cases e
 ·cases e
theorem wM (ha:DE X a fa) (hb:DE X b fb):DE X (.Compare a [.Eq] [b] pos) (m2 (ck false) fa fb):=jc wq om ha hb
theorem iJ (ha:DE X a fa) (hb:DE X b fb):DT X (.Compare a [.Eq] [b] pos) (m2 (ck false) fa fb >>= dq):=fQ wq om ha hb
theorem sQ (ha:DE X a fa) (hb:DE X b fb):DT X (.Compare a [.NotEq] [b] pos) (m2 (ck true) fa fb >>= dq):=fQ CU tB ha hb
end
end Jt
namespace Jt
open PySem L2
section
variable {X:Cx} {a b e:Expr} {fa fb:M D} {fs:M (List D)} {fF:M (List D)} {pos p apos cpos:Pos} {es rest:List Expr} {x:Str}
def gk:List D->Option D
 | [.int i,.int j]=>some (.int (if j < i then j else i))
 | _=>none
def iu:List D->Option D
 | [.int i,.int j]=>some (.int (if j > i then j else i))
 | _=>none
theorem C6 (g:Int->Int->Int) (f:List D->Option D) (hf:∀ ds d,f ds=some d->∃ i j,ds=[.int i,.int j]∧d=.int (g i j)):ig (fun xs H Q=>∃ i j,xs=[.int i,.int j]∧Q (.int (g i j)) H) f:=fun c δ S σ T H ds vs d Q l s e k=>by
 obtain ⟨i,j,rfl,rfl⟩:=hf _ _ e
 obtain ⟨v,u,rfl,r1,r2⟩:=GW (s.st.left l)
 cases r1.int
 cases r2.int
 exact ⟨i,j,rfl,k _ _ (s.stk (.cons .mkI (s.st.right l)))⟩
theorem vQ (ds:List D) (d:D) (h:gk ds=some d):∃ i j,ds=[.int i,.int j]∧d=.int (if j < i then j else i):= by
 unfold gk at h
 split at h
 ·cases h;exact ⟨_,_,rfl,rfl⟩
 ·cases h
theorem vM (ds:List D) (d:D) (h:iu ds=some d):∃ i j,ds=[.int i,.int j]∧d=.int (if j > i then j else i):= by
 unfold iu at h
 split at h
 ·cases h;exact ⟨_,_,rfl,rfl⟩
 ·cases h
theorem kC (hm:X.mg "min" = none) (ha:DA X [a,b] fs) (hg:Gl X "min":=by rfl) (hc:X.calm=true:=by rfl) (he:starEach [a,b] X.env=(false,eval a X.env) :: starEach [b] X.env:=by rfl) (hp:(backTo pos (starEach [b] X.env)).any (·.1)=false:=by rfl):DE X (.Call (.Name "min" p) [a,b] [] pos) (mC gk fs) :=
 fv (vD hc) (C6 _ gk vQ) hg hm (by decide +kernel) ha (by decide) (by decide) he hp
theorem oH (hm:X.mg "max" = none) (ha:DA X [a,b] fs) (hg:Gl X "max":=by rfl) (hc:X.calm=true:=by rfl) (he:starEach [a,b] X.env=(false,eval a X.env) :: starEach [b] X.env:=by rfl) (hp:(backTo pos (starEach [b] X.env)).any (·.1)=false:=by rfl):DE X (.Call (.Name "max" p) [a,b] [] pos) (mC iu fs) :=
 fv (vb hc) (C6 _ iu vM) hg hm (by decide +kernel) ha (by decide) (by decide) he hp
def Cu:D->D->Option D
 | .tup (x :: xs),.tup ys=>if xs.length + 1 + ys.length ≤ 100000 then some (.tup ((x :: xs) ++ ys)) else none
 | _,_=>none
theorem xh {K:PySem.W.Frag}:qq (xw K) Cu:=fun c δ S σ T H x y v u d Q s e k=>by
 unfold Cu at e
 split at e
 ·rename_i x xs ys
  split at e
  ·rename_i hn
   cases e
   obtain ⟨p,ws,rfl,h1,h3⟩:=s.st.tail.head.tup
   obtain ⟨q,zs,rfl,h4,h5⟩:=s.st.head.tup
   have hl:(100000:Nat) < sizeLine:=by rw [sizeLine_eq];decide
   have l1:=h3.length
   have l2:=h5.length
   rw [List.length_cons] at l1
   refine ⟨p,q,ws,zs,rfl,rfl,.of (aQ _ _ h1),.of (aQ _ _ h4),fun z=>(by rw [z] at l1;simp at l1),by omega,fun z=>?_,fun z r hr=>?_⟩
   ·rw [z] at h5
    cases ys with
    | nil=>
     rw [List.append_nil] at k
     exact k _ _ (s.stk (.cons s.st.tail.head s.st.tail.tail))
    | cons y ys=>obtain ⟨_,_,e,_⟩:=h5.inv;cases e
   ·have s1:=s.stk ((h3.append h5).append s.st.tail.tail)
    exact k _ _ (s1.newTup (by rw [List.length_append,List.length_append,h5.length,h3.length]) hr)
  ·cases e
 ·cases e
def cJ:Nat->D->D->Option Bool
 | 0,_,_=>none
 | n + 1,.tup xs,.tup ys=>(go n xs ys).map fun b=>b && xs.length == ys.length
 | n + 1,.lst xs,.lst ys=>if xs.length=ys.length then go n xs ys else some false
 | _ + 1,x,y=>match flat x,flat y with
  | some v,some u=>some (vN v u)
  | _,_=>none
where
 go (n:Nat):List D->List D->Option Bool
  | x :: xs,y :: ys=>match cJ n x y,go n xs ys with
   | some a,some b=>some (a && b)
   | _,_=>none
  | _,_=>some true
theorem uw:∀ {a b:List (Int × Int)},(a.map fun p=>((.inl p.1,.int p.2):Key × V))=b.map (fun p=>(.inl p.1,.int p.2))->a=b
 | [],[],_=>rfl
 | [],_ :: _,h=>by cases h
 | _ :: _,[],h=>by cases h
 | (x,y) :: a,(z,w) :: b,h=>by
  simp only [List.map_cons,List.cons.injEq,Prod.mk.injEq,Sum.inl.injEq,V.int.injEq] at h
  rw [uw h.2,h.1.1,h.1.2]
theorem uk:∀ {a b:List ((Int × Int) × Int)},(a.map fun p=>(([.inl p.1.1,.inl p.1.2],.int p.2):List Key × V))=b.map (fun p=>([.inl p.1.1,.inl p.1.2],.int p.2))->a=b
 | [],[],_=>rfl
 | [],_ :: _,h=>by cases h
 | _ :: _,[],h=>by cases h
 | ((x,x'),y) :: a,((z,z'),w) :: b,h=>by
  simp only [List.map_cons,List.cons.injEq,Prod.mk.injEq,Sum.inl.injEq,V.int.injEq,and_true] at h
  rw [uk h.2,h.1.1.1,h.1.1.2,h.1.2]
mutual
theorem R.inj {H:Hp}:∀ (x y:D) (v:V),R H x v->R H y v->x=y
 | .non,y,v,h,g=>by
  cases h.non
  cases y with
  | non=>rfl
  | bl b=>cases g.bl
  | int b=>cases g.int
  | str b=>cases g.str
  | tup b=>obtain ⟨_,_,e,_⟩:=g.tup;cases e
  | lst b=>obtain ⟨_,_,e,_⟩:=g.lst;cases e
  | dct=>obtain ⟨_,e,_⟩:=g.dct;cases e
  | dic _=>obtain ⟨_,e,_⟩:=g.dic;cases e
  | dip _=>obtain ⟨_,e,_⟩:=g.dip;cases e
 | .bl x,y,v,h,g=>by
  cases h.bl
  cases y with
  | non=>cases g.non
  | bl b=>cases g.bl;rfl
  | int b=>cases g.int
  | str b=>cases g.str
  | tup b=>obtain ⟨_,_,e,_⟩:=g.tup;cases e
  | lst b=>obtain ⟨_,_,e,_⟩:=g.lst;cases e
  | dct=>obtain ⟨_,e,_⟩:=g.dct;cases e
  | dic _=>obtain ⟨_,e,_⟩:=g.dic;cases e
  | dip _=>obtain ⟨_,e,_⟩:=g.dip;cases e
 | .int x,y,v,h,g=>by
  cases h.int
  cases y with
  | non=>cases g.non
  | bl b=>cases g.bl
  | int b=>cases g.int;rfl
  | str b=>cases g.str
  | tup b=>obtain ⟨_,_,e,_⟩:=g.tup;cases e
  | lst b=>obtain ⟨_,_,e,_⟩:=g.lst;cases e
  | dct=>obtain ⟨_,e,_⟩:=g.dct;cases e
  | dic _=>obtain ⟨_,e,_⟩:=g.dic;cases e
  | dip _=>obtain ⟨_,e,_⟩:=g.dip;cases e
 | .str x,y,v,h,g=>by
  cases h.str
  cases y with
  | non=>cases g.non
  | bl b=>cases g.bl
  | int b=>cases g.int
  | str b=>cases g.str;rfl
  | tup b=>obtain ⟨_,_,e,_⟩:=g.tup;cases e
  | lst b=>obtain ⟨_,_,e,_⟩:=g.lst;cases e
  | dct=>obtain ⟨_,e,_⟩:=g.dct;cases e
  | dic _=>obtain ⟨_,e,_⟩:=g.dic;cases e
  | dip _=>obtain ⟨_,e,_⟩:=g.dip;cases e
 | .tup xs,y,v,h,g=>by
  obtain ⟨a,vs,rfl,h1,h2⟩:=h.tup
  cases y with
  | non=>cases g.non
  | bl b=>cases g.bl
  | int b=>cases g.int
  | str b=>cases g.str
  | tup ys=>
   obtain ⟨a',vs',e,g1,g2⟩:=g.tup
   cases e
   rw [h1] at g1;cases g1
   rw [Rs.inj xs ys vs h2 g2]
  | lst ys=>
   obtain ⟨a',vs',e,g1,g2⟩:=g.lst
   cases e
   rcases g1 with g1 | ⟨o,g1⟩ <;> (rw [h1] at g1;cases g1)
  | dct=>
   obtain ⟨a',e,g1⟩:=g.dct
   cases e
   rw [h1] at g1;cases g1
  | dic _=>
   obtain ⟨a',e,g1⟩:=g.dic
   cases e
   rw [h1] at g1;cases g1
  | dip _=>
   obtain ⟨a',e,g1⟩:=g.dip
   cases e
   rw [h1] at g1;cases g1
 | .lst xs,y,v,h,g=>by
  obtain ⟨a,vs,rfl,h1,h2⟩:=h.lst
  cases y with
  | non=>cases g.non
  | bl b=>cases g.bl
  | int b=>cases g.int
  | str b=>cases g.str
  | tup ys=>
   obtain ⟨a',vs',e,g1,g2⟩:=g.tup
   cases e
   rcases h1 with h1 | ⟨o,h1⟩ <;> (rw [h1] at g1;cases g1)
  | lst ys=>
   obtain ⟨a',vs',e,g1,g2⟩:=g.lst
   cases e
   have:vs' = vs:= by
    rcases h1 with h1 | ⟨o,h1⟩ <;> rcases g1 with g1 | ⟨o',g1⟩ <;> (rw [h1] at g1;first | (cases g1;rfl) | cases g1)
   subst this
   rw [Rs.inj xs ys _ h2 g2]
  | dct=>
   obtain ⟨a',e,g1⟩:=g.dct
   cases e
   rcases h1 with h1 | ⟨o,h1⟩ <;> (rw [h1] at g1;cases g1)
  | dic _=>
   obtain ⟨a',e,g1⟩:=g.dic
   cases e
   rcases h1 with h1 | ⟨o,h1⟩ <;> (rw [h1] at g1;cases g1)
  | dip _=>
   obtain ⟨a',e,g1⟩:=g.dip
   cases e
   rcases h1 with h1 | ⟨o,h1⟩ <;> (rw [h1] at g1;cases g1)
 | .dct,y,v,h,g=>by
  obtain ⟨a,rfl,h1⟩:=h.dct
  cases y with
  | non=>cases g.non
  | bl b=>cases g.bl
  | int b=>cases g.int
  | str b=>cases g.str
  | tup ys=>
   obtain ⟨a',vs',e,g1,g2⟩:=g.tup
   cases e
   rw [h1] at g1;cases g1
  | lst ys=>
   obtain ⟨a',vs',e,g1,g2⟩:=g.lst
   cases e
   rcases g1 with g1 | ⟨o,g1⟩ <;> (rw [h1] at g1;cases g1)
  | dct=>rfl
  | dic _=>
   obtain ⟨a',e,g1⟩:=g.dic
   cases e
   rw [h1] at g1;cases g1
  | dip _=>
   obtain ⟨a',e,g1⟩:=g.dip
   cases e
   rw [h1] at g1;cases g1
 | .dic xs,y,v,h,g=>by
  obtain ⟨a,rfl,h1⟩:=h.dic
  cases y with
  | non=>cases g.non
  | bl b=>cases g.bl
  | int b=>cases g.int
  | str b=>cases g.str
  | tup ys=>
   obtain ⟨a',vs',e,g1,g2⟩:=g.tup
   cases e
   rw [h1] at g1;cases g1
  | lst ys=>
   obtain ⟨a',vs',e,g1,g2⟩:=g.lst
   cases e
   rcases g1 with g1 | ⟨o,g1⟩ <;> (rw [h1] at g1;cases g1)
  | dct=>
   obtain ⟨a',e,g1⟩:=g.dct
   cases e
   rw [h1] at g1;cases g1
  | dic ys=>
   obtain ⟨a',e,g1⟩:=g.dic
   cases e
   rw [h1] at g1
   rw [uw (HO.dK.inj (Option.some.inj g1))]
  | dip ys=>
   obtain ⟨a',e,g1⟩:=g.dip
   cases e
   rw [h1] at g1;cases g1
 | .dip xs,y,v,h,g=>by
  obtain ⟨a,rfl,h1⟩:=h.dip
  cases y with
  | non=>cases g.non
  | bl b=>cases g.bl
  | int b=>cases g.int
  | str b=>cases g.str
  | tup ys=>
   obtain ⟨a',vs',e,g1,g2⟩:=g.tup
   cases e
   rw [h1] at g1;cases g1
  | lst ys=>
   obtain ⟨a',vs',e,g1,g2⟩:=g.lst
   cases e
   rcases g1 with g1 | ⟨o,g1⟩ <;> (rw [h1] at g1;cases g1)
  | dct=>
   obtain ⟨a',e,g1⟩:=g.dct
   cases e
   rw [h1] at g1;cases g1
  | dic ys=>
   obtain ⟨a',e,g1⟩:=g.dic
   cases e
   rw [h1] at g1;cases g1
  | dip ys=>
   obtain ⟨a',e,g1⟩:=g.dip
   cases e
   rw [h1] at g1
   rw [uk (HO.dT.inj (Option.some.inj g1))]
theorem Rs.inj {H:Hp}:∀ (xs ys:List D) (vs:List V),Rs H xs vs->Rs H ys vs->xs=ys
 | [],ys,vs,h,g=>by
  cases h.inv0
  cases ys with
  | nil=>rfl
  | cons y ys=>obtain ⟨_,_,e,_⟩:=g.inv;cases e
 | x :: xs,ys,vs,h,g=>by
  obtain ⟨v,r,rfl,h1,h2⟩:=h.inv
  cases ys with
  | nil=>cases g.inv0
  | cons y ys=>rw [R.inj x y v h1 g.head,Rs.inj xs ys r h2 g.tail]
end
theorem jq {n:Nat}:∀ {xs ys:List D} {b:Bool},cJ.go n xs ys=some b->∃ e:Nat->Bool,(∀ (j:Nat) x y,xs[j]? = some x->ys[j]? = some y->cJ n x y=some (e j))∧b=(List.range (min xs.length ys.length)).all e
 | [],ys,b,h=>by
  unfold cJ.go at h
  cases h;exact ⟨fun _=>true,fun j x y h1=>by simp at h1,by simp⟩
 | x :: xs,[],b,h=>by
  unfold cJ.go at h
  cases h;exact ⟨fun _=>true,fun j x y h1 h2=>by simp at h2,by simp⟩
 | x :: xs,y :: ys,b,h=>by
  unfold cJ.go at h
  split at h
  ·rename_i b1 b2 e1 e2
   cases h
   obtain ⟨e,he,hb⟩:=jq e2
   refine ⟨fun j=>match j with | 0=>b1 | j + 1=>e j,fun j x' y' h1 h2=>?_,?_⟩
   ·cases j with
    | zero=>cases h1;cases h2;exact e1
    | succ j=>exact he j x' y' (by simpa using h1) (by simpa using h2)
   ·rw [List.length_cons,List.length_cons,Nat.add_min_add_right,List.range_succ_eq_map,List.all_cons,List.all_map,hb];rfl
  ·cases h
theorem i0 {v:V} (h:gH v=true):vN v v=true:= by
 cases v with
 | non=>rfl
 | bl b=>cases b <;> rfl
 | int i=>exact beq_self_eq_true i
 | str x=>exact beq_self_eq_true x
 | _=>cases h
theorem yH:∀ (n:Nat) (x:D) (b:Bool),cJ n x x=some b->b=true:= by
 intro n
 induction n with
 | zero=>intro x b h;simp [cJ] at h
 | succ n ih=>
  have go:∀ (xs:List D) (b:Bool),cJ.go n xs xs=some b->b=true:=fun xs b h=>by
   obtain ⟨e,he,hb⟩:=jq h
   rw [Nat.min_self] at hb
   subst hb
   rw [List.all_eq_true]
   intro j hj
   have hj':=List.mem_range.mp hj
   exact ih _ _ (he j _ _ (List.getElem?_eq_getElem hj') (List.getElem?_eq_getElem hj'))
  intro x b h
  cases x with
  | tup xs=>
   unfold cJ at h
   cases q:cJ.go n xs xs with
   | none=>rw [q] at h;cases h
   | some b'=>rw [q] at h;cases h;rw [go xs b' q];simp
  | lst xs=>unfold cJ at h;rw [if_pos rfl] at h;exact go xs b h
  | non=>simp [cJ,flat] at h;rw [<- h];exact i0 rfl
  | bl q=>simp [cJ,flat] at h;rw [<- h];exact i0 rfl
  | int q=>simp [cJ,flat] at h;rw [<- h];exact i0 rfl
  | str q=>simp [cJ,flat] at h;rw [<- h];exact i0 rfl
  | dct=>simp [cJ,flat] at h
  | dic _=>simp [cJ,flat] at h
  | dip _=>simp [cJ,flat] at h
open SeqAt in
theorem xK {pins:List (Addr × Obj)} {σ:St} {H Hh:Hp} {s:Shared} (I:Inv X pins σ H s) (m:∀ b o,Hh b=some o->H b=some o):∀ (n:Nat) (A:Around),A.units + n < cLine->∀ (x y:D) (v w:V) (u z:Value) (b:Bool),R Hh x v->R Hh y w->RelV v u->RelV w z->cJ n x y=some b ->
  EqAt A s u z b∧((∃ xs,x=.tup xs ∨ x=.lst xs)->RcAt A s u z b):= by
 intro n
 induction n with
 | zero=>intro A _ x y v w u z b _ _ _ _ h;simp [cJ] at h
 | succ n ih=>
  intro A hu x y v w u z b rx ry ru rz h
  have hu':A.units < cLine:=by omega
  have items:∀ {xs ys:List D} {vs ws:List V} {is js:List Value} {e:Nat->Bool},Rs Hh xs vs->Rs Hh ys ws->Vals vs is->Vals ws js->(∀ (j:Nat) x y,xs[j]? = some x->ys[j]? = some y->cJ n x y=some (e j)) ->
    ∀ j (h1:j < is.toArray.size) (h2:j < js.toArray.size),EqAt A.in1 s is.toArray[j] js.toArray[j] (e j):=fun {xs ys vs ws is js e} r1 r2 v1 v2 he j h1 h2=>by
   have l1:j < xs.length:=by rw [<- r1.length,v1.length];simpa using h1
   have l2:j < ys.length:=by rw [<- r2.length,v2.length];simpa using h2
   obtain ⟨v',e1,q1⟩:=r1.get (List.getElem?_eq_getElem l1)
   obtain ⟨w',e2,q2⟩:=r2.get (List.getElem?_eq_getElem l2)
   obtain ⟨u',e3,q3⟩:=v1.get e1
   obtain ⟨z',e4,q4⟩:=v2.get e2
   have:=(ih A.in1 (by show A.units + 1 + n < _;omega) _ _ v' w' u' z' (e j) q1 q2 q3 q4 (he j _ _ (List.getElem?_eq_getElem l1) (List.getElem?_eq_getElem l2))).1
   have a1:is.toArray[j]=u':= by
    have:=(List.getElem?_eq_some_iff.mp e3).2
    simpa using this
   have a2:js.toArray[j]=z':= by
    have:=(List.getElem?_eq_some_iff.mp e4).2
    simpa using this
   rw [a1,a2];exact this
  have refs:∀ {l k:Addr},u=.ref l->z=.ref k->v=.ref l->w=.ref k->RcAt A s u z b->EqAt A s u z b:=fun {l k} eu ez ev ew rc=>by
   by_cases hlk:l=k
   ·subst hlk
    rw [ev] at rx;rw [ew] at ry
    have:=R.inj x y _ rx ry
    subst this
    rw [yH _ _ _ h,eu,ez]
    exact EqAt.same _
   ·rw [eu,ez] at rc ⊢;exact EqAt.of_refs hlk rc
  have flatCase:∀ {p q:V},flat x=some p->flat y=some q->b=vN p q->EqAt A s u z b:=fun {p q} e1 e2 eb=>by
   obtain ⟨rfl,f1⟩:=dA rx e1
   obtain ⟨rfl,f2⟩:=dA ry e2
   rw [eb];exact xm ru rz f1 f2
  have flatAll:(∀ xs,x ≠ .tup xs)->(∀ xs,x ≠ .lst xs)->∀ p,flat x=some p->EqAt A s u z b:=fun _ _ p e1=>by
   cases y with
   | tup ys=>cases x <;> first | (simp [cJ,flat] at h;done) | (cases e1;done)
   | lst ys=>cases x <;> first | (simp [cJ,flat] at h;done) | (cases e1;done)
   | dct=>cases x <;> first | (simp [cJ,flat] at h;done) | (cases e1;done)
   | dic _=>cases x <;> first | (simp [cJ,flat] at h;done) | (cases e1;done)
   | dip _=>cases x <;> first | (simp [cJ,flat] at h;done) | (cases e1;done)
   | non=>exact flatCase e1 rfl (by cases x <;> first | (cases e1;simpa [cJ,flat] using h.symm) | cases e1)
   | bl q=>exact flatCase e1 rfl (by cases x <;> first | (cases e1;simpa [cJ,flat] using h.symm) | cases e1)
   | int q=>exact flatCase e1 rfl (by cases x <;> first | (cases e1;simpa [cJ,flat] using h.symm) | cases e1)
   | str q=>exact flatCase e1 rfl (by cases x <;> first | (cases e1;simpa [cJ,flat] using h.symm) | cases e1)
  cases x with
  | dct=>simp [cJ,flat] at h
  | dic _=>simp [cJ,flat] at h
  | dip _=>simp [cJ,flat] at h
  | non=>exact ⟨flatAll (fun _ z=>nomatch z) (fun _ z=>nomatch z) _ rfl,fun ⟨xs,z⟩=>by rcases z with z | z <;> cases z⟩
  | bl q=>exact ⟨flatAll (fun _ z=>nomatch z) (fun _ z=>nomatch z) _ rfl,fun ⟨xs,z⟩=>by rcases z with z | z <;> cases z⟩
  | int q=>exact ⟨flatAll (fun _ z=>nomatch z) (fun _ z=>nomatch z) _ rfl,fun ⟨xs,z⟩=>by rcases z with z | z <;> cases z⟩
  | str q=>exact ⟨flatAll (fun _ z=>nomatch z) (fun _ z=>nomatch z) _ rfl,fun ⟨xs,z⟩=>by rcases z with z | z <;> cases z⟩
  | tup xs=>
   cases y with
   | tup ys=>
    obtain ⟨l,vs,rfl,h1,h2⟩:=rx.tup
    obtain ⟨k,ws,rfl,g1,g2⟩:=ry.tup
    cases ru;cases rz
    obtain ⟨is,v1,p1,_⟩:=I.tuple (.of (m _ _ h1))
    obtain ⟨js,v2,p2,_⟩:=I.tuple (.of (m _ _ g1))
    have s1:is.toArray.size=xs.length:=by rw [List.size_toArray,<- v1.length,h2.length]
    have s2:js.toArray.size=ys.length:=by rw [List.size_toArray,<- v2.length,g2.length]
    have rc:RcAt A s (.ref l) (.ref k) b:= by
     unfold cJ at h
     cases q:cJ.go n xs ys with
     | none=>rw [q] at h;cases h
     | some b'=>
      rw [q] at h;cases h
      obtain ⟨e,he,hb⟩:=jq q
      have:=RcAt.tuples p1 p2 hu' (items h2 g2 v1 v2 he)
      rw [s1,s2,<- hb] at this
      exact this
    exact ⟨refs rfl rfl rfl rfl rc,fun _=>rc⟩
   | _=>simp [cJ,flat] at h
  | lst xs=>
   cases y with
   | lst ys=>
    obtain ⟨l,vs,rfl,h1,h2⟩:=rx.lst
    obtain ⟨k,ws,rfl,g1,g2⟩:=ry.lst
    cases ru;cases rz
    obtain ⟨is,v1,p1,_⟩:=I.list (.inl (Rd.mono m h1))
    obtain ⟨js,v2,p2,_⟩:=I.list (.inl (Rd.mono m g1))
    have s1:is.toArray.size=xs.length:=by rw [List.size_toArray,<- v1.length,h2.length]
    have s2:js.toArray.size=ys.length:=by rw [List.size_toArray,<- v2.length,g2.length]
    have rc:RcAt A s (.ref l) (.ref k) b:= by
     unfold cJ at h
     split at h
     ·rename_i hl
      obtain ⟨e,he,hb⟩:=jq h
      have:=RcAt.lists p1.isList p2.isList (by rw [s1,s2,hl]) hu' (items h2 g2 v1 v2 he)
      rw [hb,<- hl,Nat.min_self,<- s1];exact this
     ·rename_i hl
      cases h
      exact RcAt.lists_lengths p1.isList p2.isList (by rw [s1,s2];simpa using hl) hu'
    exact ⟨refs rfl rfl rfl rfl rc,fun _=>rc⟩
   | _=>simp [cJ,flat] at h
theorem kA {k:Nat} {A:Around} (hr:cm k A):A.units + 20 < cLine:=by have:=hr.un;omega
def jN:D->D->Bool
 | .tup _,.tup _=>true
 | .lst _,.lst _=>true
 | _,_=>false
def iL (neg:Bool) (x y:D):Option D:=if jN x y=true then (cJ 9 x y).map fun b=>.bl (if neg then !b else b) else ck neg x y
def G9:R2:=fun v u H Q=>Iz v u H Q ∨ ∃ (Hh:Hp) (x y:D) (b:Bool),(∀ b o,Hh b=some o->H b=some o)∧R Hh x v∧R Hh y u∧jN x y=true∧cJ 9 x y=some b∧Q (.bl b) H
theorem Ez (hu:X.A.units + 20 < cLine):gc X (compareOp .Eq) G9:= by
 intro pins s σ H v w u z Q I ru rz h
 rcases h with h | ⟨Hh,x,y,b,m,rx,ry,hs,e,q⟩
 ·exact wq pins s σ H v w u z Q I ru rz h
 ·have:=(xK I m 9 X.A (by omega) x y v w u z b rx ry ru rz e).2 (by
   cases x <;> first | exact ⟨_,.inl rfl⟩ | exact ⟨_,.inr rfl⟩ | (simp [jN] at hs))
  exact this _ _ _ _ ⟨.bl b,H,I,rfl,q⟩
theorem BK:qq G9 (iL false):=fun c δ S σ T H x y v u d Q s e k=>by
 unfold iL at e
 split at e
 ·rename_i hs
  cases q:cJ 9 x y with
  | none=>rw [q] at e;cases e
  | some b=>
   rw [q] at e;cases e
   exact .inr ⟨_,x,y,b,aQ,s.st.tail.head,s.st.head,hs,q,k _ _ (s.stk (.cons .mkB s.st.tail.tail))⟩
 ·exact .inl (om c δ S σ T H x y v u d Q s e k)
theorem nv {k:Nat} (hr:cm k X.A) (ha:DE X a fa) (hb:DE X b fb):DT X (.Compare a [.Eq] [b] pos) (m2 (iL false) fa fb >>= dq):=fQ (Ez (kA hr)) BK ha hb
end
end Jt
namespace Jt
open PySem L2
section
variable {X:Cx} {a b e:Expr} {fa fb:M D} {fs:M (List D)} {pos p apos cpos:Pos} {es rest:List Expr} {x:Str}
open SeqAt in
theorem EB {pins:List (Addr × Obj)} {σ:St} {H Hh:Hp} {s:Shared} (I:Inv X pins σ H s) (m:∀ b o,Hh b=some o->H b=some o) {n:Nat} {A:Around} (hu:A.units + (n + 1) < cLine) {x y:D} {v w:V} {u z:Value} {b:Bool} (rx:R Hh x v) (ry:R Hh y w) (ru:RelV v u) (rz:RelV w z)
  (hs:jN x y=true) (h:cJ (n + 1) x y=some b):RcNeAt A s u z (!b):= by
 have hu':A.units < cLine:=by omega
 have items:∀ {xs ys:List D} {vs ws:List V} {is js:List Value} {e:Nat->Bool},Rs Hh xs vs->Rs Hh ys ws->Vals vs is->Vals ws js->(∀ (j:Nat) x y,xs[j]? = some x->ys[j]? = some y->cJ n x y=some (e j)) ->
   ∀ j (h1:j < is.toArray.size) (h2:j < js.toArray.size),EqAt A.in1 s is.toArray[j] js.toArray[j] (e j):=fun {xs ys vs ws is js e} r1 r2 v1 v2 he j h1 h2=>by
  have l1:j < xs.length:=by rw [<- r1.length,v1.length];simpa using h1
  have l2:j < ys.length:=by rw [<- r2.length,v2.length];simpa using h2
  obtain ⟨v',e1,q1⟩:=r1.get (List.getElem?_eq_getElem l1)
  obtain ⟨w',e2,q2⟩:=r2.get (List.getElem?_eq_getElem l2)
  obtain ⟨u',e3,q3⟩:=v1.get e1
  obtain ⟨z',e4,q4⟩:=v2.get e2
  have:=(xK I m n A.in1 (by show A.units + 1 + n < _;omega) _ _ v' w' u' z' (e j) q1 q2 q3 q4 (he j _ _ (List.getElem?_eq_getElem l1) (List.getElem?_eq_getElem l2))).1
  have a1:is.toArray[j]=u':= by
   have:=(List.getElem?_eq_some_iff.mp e3).2
   simpa using this
  have a2:js.toArray[j]=z':= by
   have:=(List.getElem?_eq_some_iff.mp e4).2
   simpa using this
  rw [a1,a2];exact this
 cases x with
 | tup xs=>
  cases y with
  | tup ys=>
   obtain ⟨l,vs,rfl,h1,h2⟩:=rx.tup
   obtain ⟨k,ws,rfl,g1,g2⟩:=ry.tup
   cases ru;cases rz
   obtain ⟨is,v1,p1,_⟩:=I.tuple (.of (m _ _ h1))
   obtain ⟨js,v2,p2,_⟩:=I.tuple (.of (m _ _ g1))
   have s1:is.toArray.size=xs.length:=by rw [List.size_toArray,<- v1.length,h2.length]
   have s2:js.toArray.size=ys.length:=by rw [List.size_toArray,<- v2.length,g2.length]
   unfold cJ at h
   cases q:cJ.go n xs ys with
   | none=>rw [q] at h;cases h
   | some b'=>
    rw [q] at h;cases h
    obtain ⟨e,he,hb⟩:=jq q
    have:=RcNeAt.tuples p1 p2 hu' (items h2 g2 v1 v2 he)
    rw [s1,s2,<- hb] at this
    exact this
  | _=>simp [jN] at hs
 | lst xs=>
  cases y with
  | lst ys=>
   obtain ⟨l,vs,rfl,h1,h2⟩:=rx.lst
   obtain ⟨k,ws,rfl,g1,g2⟩:=ry.lst
   cases ru;cases rz
   obtain ⟨is,v1,p1,_⟩:=I.list (.inl (Rd.mono m h1))
   obtain ⟨js,v2,p2,_⟩:=I.list (.inl (Rd.mono m g1))
   have s1:is.toArray.size=xs.length:=by rw [List.size_toArray,<- v1.length,h2.length]
   have s2:js.toArray.size=ys.length:=by rw [List.size_toArray,<- v2.length,g2.length]
   unfold cJ at h
   split at h
   ·rename_i hl
    obtain ⟨e,he,hb⟩:=jq h
    have:=RcNeAt.lists p1.isList p2.isList (by rw [s1,s2,hl]) hu' (items h2 g2 v1 v2 he)
    rw [hb,<- hl,Nat.min_self,<- s1];exact this
   ·rename_i hl
    cases h
    exact RcNeAt.lists_lengths p1.isList p2.isList (by rw [s1,s2];simpa using hl) hu'
  | _=>simp [jN] at hs
 | _=>simp [jN] at hs
def FO:R2:=fun v u H Q=>Jk v u H Q ∨ ∃ (Hh:Hp) (x y:D) (b:Bool),(∀ b o,Hh b=some o->H b=some o)∧R Hh x v∧R Hh y u∧jN x y=true∧cJ 9 x y=some b∧Q (.bl (!b)) H
theorem xn (hu:X.A.units + 20 < cLine):gc X (compareOp .NotEq) FO:= by
 intro pins s σ H v w u z Q I ru rz h
 rcases h with h | ⟨Hh,x,y,b,m,rx,ry,hs,e,q⟩
 ·exact CU pins s σ H v w u z Q I ru rz h
 ·exact EB I m (n:=8) (A:=X.A) (by omega) rx ry ru rz hs e _ _ _ _ ⟨.bl (!b),H,I,rfl,q⟩
theorem zE:qq FO (iL true):=fun c δ S σ T H x y v u d Q s e k=>by
 unfold iL at e
 split at e
 ·rename_i hs
  cases q:cJ 9 x y with
  | none=>rw [q] at e;cases e
  | some b=>
   rw [q] at e;cases e
   exact .inr ⟨_,x,y,b,aQ,s.st.tail.head,s.st.head,hs,q,k _ _ (s.stk (.cons .mkB s.st.tail.tail))⟩
 ·exact .inl (tB c δ S σ T H x y v u d Q s e k)
theorem nk {k:Nat} (hr:cm k X.A) (ha:DE X a fa) (hb:DE X b fb):DT X (.Compare a [.NotEq] [b] pos) (m2 (iL true) fa fb >>= dq):=fQ (xn (kA hr)) zE ha hb
def FZ (ta:TA):TE:=fun σ H Q=>ta σ H fun vs H1=>∃ j:Int,vs=[.int j]∧∀ q,H1 q=none->Q (.ref q) (upd H1 q (.rng 0 j))
theorem nj {ta:TA} (hg:Gl X "range") (hm:X.mg "range" = none) (ha:PA X [a] ta) (hs:starEach [a] X.env=[(false,eval a X.env)]:=by rfl):PE X (.Call (.Name "range" p) [a] [] pos) (FZ ta):= by
 intro pins s σ H Q I h
 refine PyProof.Rows.Call_ (gD I hg hm (show bootBuiltins "range" = some (.type "range") by decide +kernel) (PyProof.Rows.callWith_type1 (cg (ha pos pins s σ H _ I h) fun us s1 ⟨vs,H1,I1,r1,q1⟩=>?_) hs rfl))
 obtain ⟨j,e,q⟩:=q1
 subst e
 cases r1 with
 | cons r rr=>
  cases rr
  obtain ⟨t,rfl⟩:=r
  refine call_range_1 ⟨.ref s1.heap.objs.size,upd H1 s1.heap.objs.size (.rng 0 j),I1.laid (fun b u e=>Heap.get?_push_of_some _ e) (Nat.le_refl _) ?_,rfl,q _ I1.fresh⟩
  exact ⟨_,_,_,Heap.get?_push_size _ rfl⟩
theorem kR {lo:Int} {n:Nat} {acc:Array Value} (h:ItemsOf (fun i v=>∃ t,v=.int (lo + i * 1) t) acc n):Vals ((List.range n).map fun (i:Nat)=>V.int (lo + (i:Int))) acc.toList:= by
 obtain ⟨hn,hi⟩:=h
 have gen:∀ (us:List Value) (k:Nat),(∀ (j:Nat) v,us[j]? = some v->∃ t,v=.int (lo + ((k + j:Nat):Int)) t)->Vals ((List.range us.length).map fun (i:Nat)=>V.int (lo + ((k + i:Nat):Int))) us:= by
  intro us
  induction us with
  | nil=>intro k _;exact .nil
  | cons u us ih=>
   intro k hk
   rw [List.length_cons,List.range_succ_eq_map,List.map_cons,List.map_map]
   obtain ⟨t,e⟩:=hk 0 u rfl
   refine .cons ⟨t,by simpa using e⟩ ?_
   have:=ih (k + 1) fun j v hj=>by
    obtain ⟨t,e⟩:=hk (j + 1) v (by simpa using hj)
    exact ⟨t,by rw [e];congr 2;omega⟩
   have e2:((fun (i:Nat)=>V.int (lo + ((k + i:Nat):Int))) ∘ Nat.succ)=fun (i:Nat)=>V.int (lo + ((k + 1 + i:Nat):Int)):= by
    funext i;show V.int _=V.int _;congr 2;omega
   rw [e2];exact this
 have:=gen acc.toList 0 fun j v hj=>by
  obtain ⟨t,e⟩:=hi j v (by simpa using hj)
  exact ⟨t,by rw [e];simp⟩
 simpa [hn] using this
theorem sO (hc:X.calm=true):cP X (.type "list") (fun xs H Q=>∃ q j,xs=[.ref q]∧H q=some (.rng 0 j)∧j < 100000 ∧ -(2 ^ 62) ≤ j∧∀ l,H l=none->Q (.ref l) (upd H l (.lst ((List.range j.toNat).map fun (i:Nat)=>V.int (0 + (i:Int)))))):= by
 intro pins s σ H xs us Q I r h
 obtain ⟨q,j,rfl,hq,hj,hj2,k⟩:=h
 obtain ⟨u,rfl,rx⟩:=r.one
 cases rx
 obtain ⟨t,u',v,hr⟩:=I.hok q _ hq
 refine call_list_range (n:=j.toNat) (I.ok.hd hc) hr (small_one (by omega) (by omega) hj2 (by omega)) (by rw [rangeSize_one];split <;> omega) (by omega) fun h' tk acc' c' kp e hi=>?_
 refine ⟨.ref s.heap.objs.size,_,I.laid (t':=tk) kp (Nat.le_refl _) (show c9 X.prog X.w _ h' _ (.lst _) from ⟨?_,acc'.toList,c',kR hi,by simpa using e⟩),rfl,k _ I.fresh⟩
 have:(100000:Nat) < sizeLine:=by rw [sizeLine_eq];decide
 simp;omega
def jJ:List D->Option (List D)
 | [.int j]=>if j < 100000 ∧ -(2 ^ 62) ≤ j then some (bF 0 j.toNat) else none
 | _=>none
theorem oI {H:Hp} {lo:Int} {n:Nat}:Rs H (bF lo n) ((List.range n).map fun (i:Nat)=>V.int (lo + (i:Int))):= by
 unfold bF
 induction (List.range n) with
 | nil=>exact .nil
 | cons i r ih=>exact .cons .mkI ih
theorem o_ {p2 pos2:Pos} (hml:X.mg "list" = none) (hmr:X.mg "range" = none) (ha:DA X [a] fs) (hgl:Gl X "list":=by rfl) (hgr:Gl X "range":=by rfl) (hc:X.calm=true:=by rfl) (hs:starEach [a] X.env=[(false,eval a X.env)]:=by rfl) :
  DF X (.Call (.Name "list" p) [.Call (.Name "range" p2) [a] [] pos2] [] pos) (mC jJ fs) :=
 b8 (dX (sO hc) hgl hml (by decide +kernel) (cY (nj hgr hmr ha hs) fm) (by decide) (by decide) rfl rfl) fun σ H Q ⟨c,δ,S,T,d,δ',s,e,k⟩=>by
  obtain ⟨ds,δ1,e1,e⟩:=bind_some e
  obtain ⟨e2,rfl⟩:=aw e
  refine ⟨c,δ,S,T,ds,δ1,s,e1,fun vs H1 l s1=>?_⟩
  unfold jJ at e2
  split at e2
  ·rename_i j
   split at e2
   ·rename_i hj
    cases e2
    obtain ⟨v,rfl,r⟩:=qX (s1.st.left l)
    cases r.int
    refine ⟨j,rfl,fun q hq=>⟨q,j,rfl,aI,hj.1,hj.2,fun m hm=>?_⟩⟩
    have s2:=(s1.drop l).grow (eD hq (.rng 0 j))
    obtain ⟨f1,f2,f3⟩:=s2.fresh hm
    refine k m _ _ (oI (H:=H)).length ((s2.hide hm).stk ?_) f1 f2 f3
    exact oI.append (s2.hide hm).st
   ·cases e2
  ·cases e2
end
end Jt
namespace Jt
open PySem L2
section
variable {prog:Program} {w:World} {A:Around} {E:Value->Shared->Prop} {s:Shared}
theorem l5 {Q:List Value->Shared->Prop} {r:Addr} {a b c:Int} {t u v:Tok} {n:Nat} (hh:A.handled=none) (hr:IsRange s.heap r a b c t u v) (hsmall:Builtin.Range.small a b c=true) (hn:Builtin.Range.rangeSize a b c=n) (hlen:n ≤ 2 ^ 24)
  (hQ:∀ h' tk acc,(∀ b o',s.heap.get? b=some o' -> h'.get? b=some o')->ItemsOf (fun i v=>∃ t,v=.int (a + i * c) t) acc n->Q acc.toList { s with heap:=h',toks:=tk }) :
  wpAny (model prog w) A (collect (.ref r)) Q E s:= by
 unfold collect
 refine wpAny_bind (wpAny_runValue (codeAny_builtin F.entry_proto_collect ?_))
 rw [Around.under_plainId F.plain_proto_collect _]
 show wpAny _ A.in1 (newList [] >>= fun l=>again (.builtin "list.__iadd__" ⟨[l,.ref r],[]⟩)) _ _ s
 refine wpAny_bind (wpAny_newObj_type ?_)
 refine wpAny_pure ⟨plainId_quiet F.plain_list_iadd _,codeAny_builtin F.entry_list_iadd ?_⟩
 rw [Around.under_plainId F.plain_list_iadd _]
 show wpAny _ A.in1 (Builtin.List.listExtendWith (.ref s.heap.objs.size) (.ref r) (.ref s.heap.objs.size)) _ _ _
 have hS:(s.heap.push { cls:=.type "list",data:=.seq ([]:List Value).toArray }).get? s.heap.objs.size=some { cls:=.type "list",data:=.seq #[] 0 }:=Heap.get?_push_size _ rfl
 refine wpAny_mono (wpAny_extend_range (A:=A) (R:=fun q s'=>q=.ok (.ret (.ref s.heap.objs.size))∧∃ h' tk acc c',s' = { s with heap:=h',toks:=tk }∧(∀ b o',s.heap.get? b=some o' -> h'.get? b=some o')∧h'.get? s.heap.objs.size=some { cls:=.type "list",dict:=none,data:=.seq acc c',slots:=#[] }∧ItemsOf (fun i v=>∃ t,v=.int (a + i * c) t) acc n)
  (s:={ s with heap:=s.heap.push { cls:=.type "list",data:=.seq ([]:List Value).toArray } }) hh (Heap.get?_push_of_some _ hr) hsmall hn hlen _ _ 0 hS fun h' tk acc' c' hk hS' hi=>⟨rfl,h',tk,acc',c',rfl,fun b o e=>hk b o (Nat.ne_of_lt (Heap.lt_size e)) (Heap.get?_push_of_some _ e),hS',hi⟩) (fun fin s' h=>?_) (fun e s' h=>?_)
 ·have fin':∀ s',(∃ h' tk acc c',s' = { s with heap:=h',toks:=tk }∧(∀ b o',s.heap.get? b=some o' -> h'.get? b=some o')∧h'.get? s.heap.objs.size=some { cls:=.type "list",dict:=none,data:=.seq acc c',slots:=#[] }∧ItemsOf (fun i v=>∃ t,v=.int (a + i * c) t) acc n) ->
    wpAny (model prog w) A (match Value.ref s.heap.objs.size with
     | Value.ref a=>do
      match (<- load a).data with
       | Data.seq xs _=>pure xs.toList
       | _=>unsupported "internal:collect"
     | _=>unsupported "internal:collect") Q E s':=fun s' ⟨h',tk,acc,c',e,hk,hS',hi⟩=>by
   subst e
   show wpAny _ A (load s.heap.objs.size >>= _) _ _ _
   refine wpAny_bind (wpAny_load hS' ?_)
   exact wpAny_pure (hQ h' tk acc hk hi)
  cases fin with
  | done f=>
   obtain ⟨e,h⟩:=h
   cases e
   exact fin' s' h
  | again c'=>exact ⟨h.1,codeAny_mono h.2 fun r s'' hr=>by obtain ⟨rfl,hr⟩:=hr;exact fin' s'' hr⟩
 ·exact absurd h.1 (by simp)
end
theorem iP (r:Addr) {a b c:Int} {t u v:Tok} {n:Nat} (hsmall:Builtin.Range.small a b c=true) (hn:Builtin.Range.rangeSize a b c=n) (hlen:n ≤ 100000) :
  Meets (Builtin.«tuple.__new__» ⟨[.type "tuple",.ref r],[]⟩)
   (fun A R s=>A.handled=none∧IsRange s.heap r a b c t u v∧∀ (h':Heap) (tk:Nat) (acc:Array Value),(∀ b o',s.heap.get? b=some o' -> h'.get? b=some o')->ItemsOf (fun i v=>∃ t,v=.int (a + i * c) t) acc n->R (.ok (.ret (.ref h'.objs.size))) { s with heap:=h'.push { cls:=.type "tuple",data:=.seq acc },toks:=tk }) :=
 .of_wp fun prog w A R s h=>by
  obtain ⟨hp,g,d,tk,os⟩:=s;obtain ⟨hh,ht,h⟩:=h
  have hsub:=sub_tuple_self
  have hinit:=init_tuple_lookup
  have hmh:=madeHere_tuple
  have hT:Shared.TypeIs ⟨hp,g,d,tk,os⟩ (.ref r) "range":=⟨_,ht,rfl⟩
  wp_walk using wpAny_loadPart' ht,wpAny_typeOf hT,l5 (A:=A.in1) (show A.in1.handled=none from hh) ht hsmall hn (show n ≤ 2 ^ 24 by omega)
  intro h' tk' acc hk hi
  show wpAny _ _ (Builtin.Tuple.tupleExact acc.toList.toArray >>= fun v=>ret v) _ _ _
  unfold Builtin.Tuple.tupleExact
  have hz:acc.size ≤ sizeLine:=by rw [hi.1,sizeLine_eq];omega
  refine wpAny_bind (wpAny_newObj_type ?_ (by show acc.toList.toArray.size ≤ sizeLine;simpa using hz))
  refine wpAny_pure ⟨_,rfl,?_⟩
  have e:acc.toList.toArray=acc:=by simp
  rw [e]
  exact h h' tk' acc hk hi
section
variable {X:Cx} {a b e:Expr} {fa fb:M D} {fs:M (List D)} {pos p apos cpos:Pos}
theorem pF (hc:X.calm=true):cP X (.type "tuple") (fun xs H Q=>∃ q j,xs=[.ref q]∧H q=some (.rng 0 j)∧j < 100000 ∧ -(2 ^ 62) ≤ j∧∀ l,H l=none->Q (.ref l) (upd H l (.tup ((List.range j.toNat).map fun (i:Nat)=>V.int (0 + (i:Int)))))):= by
 intro pins s σ H xs us Q I r h
 obtain ⟨q,j,rfl,hq,hj,hj2,k⟩:=h
 obtain ⟨u,rfl,rx⟩:=r.one
 cases rx
 obtain ⟨t,u',v,hr⟩:=I.hok q _ hq
 refine callType_new F.called_tuple (by decide) (F.typeCall_tuple_1 _) (F.newCall_tuple_1 _) (fun obj=>F.args_object_init_2 obj _) F.entry_tuple_new
  (iP q (n:=j.toNat) (small_one (by omega) (by omega) hj2 (by omega)) (by rw [rangeSize_one];split <;> omega) (by omega)) ⟨I.ok.hd hc,hr,fun h' tk acc kp hi=>⟨⟨_,Heap.get?_push_size _ rfl,rfl⟩,?_⟩⟩
 have I1:Inv X pins σ H { s with heap:=h',toks:=tk }:=I.kept kp
 refine ⟨.ref h'.objs.size,_,I1.laid (t':=tk) (fun b o e=>Heap.get?_push_of_some _ e) (Nat.le_refl _) (show c9 X.prog X.w _ _ _ (.tup _) from ⟨?_,acc.toList,kR hi,by simpa using pw.new _ _⟩),rfl,k _ (I1.hok.fresh (Nat.le_refl _))⟩
 have:(100000:Nat) < sizeLine:=by rw [sizeLine_eq];decide
 simp;omega
theorem vI {p2 pos2:Pos} (hml:X.mg "tuple" = none) (hmr:X.mg "range" = none) (ha:DA X [a] fs) (hgl:Gl X "tuple":=by rfl) (hgr:Gl X "range":=by rfl) (hc:X.calm=true:=by rfl) (hs:starEach [a] X.env=[(false,eval a X.env)]:=by rfl) :
  DE X (.Call (.Name "tuple" p) [.Call (.Name "range" p2) [a] [] pos2] [] pos) (do let xs <- mC jJ fs;pure (.tup xs)) :=
 b8 (dX (pF hc) hgl hml (by decide +kernel) (cY (nj hgr hmr ha hs) fm) (by decide) (by decide) rfl rfl) fun σ H Q ⟨c,δ,S,T,d,δ',s,e,k⟩=>by
  obtain ⟨xs,δ0,e0,e⟩:=bind_some e
  obtain ⟨rfl,rfl⟩:=ao e
  obtain ⟨ds,δ1,e1,e⟩:=bind_some e0
  obtain ⟨e2,rfl⟩:=aw e
  refine ⟨c,δ,S,T,ds,δ1,s,e1,fun vs H1 l s1=>?_⟩
  unfold jJ at e2
  split at e2
  ·rename_i j
   split at e2
   ·rename_i hj
    cases e2
    obtain ⟨v,rfl,r⟩:=qX (s1.st.left l)
    cases r.int
    refine ⟨j,rfl,fun q hq=>⟨q,j,rfl,aI,hj.1,hj.2,fun m hm=>?_⟩⟩
    have s2:=(s1.drop l).grow (eD hq (.rng 0 j))
    exact k _ _ ((s2.stk (oI.append s2.st)).newTup (oI (H:=H)).length hm)
   ·cases e2
  ·cases e2
end
end Jt
namespace Jt
open PySem L2
section
variable {X:Cx} {a b e:Expr} {fa fb:M D} {fs:M (List D)} {pos p apos cpos:Pos}
inductive Ty where
 | int | bool | tup | lst | str
def Ty.name:Ty->String
 | .int => "int"
 | .bool => "bool"
 | .tup => "tuple"
 | .lst => "list"
 | .str => "str"
def lr:Ty->D->Option Bool
 | .int,.int _=>some true
 | .int,.bl _=>some true
 | .bool,.bl _=>some true
 | .tup,.tup _=>some true
 | .lst,.lst _=>some true
 | .str,.str _=>some true
 | _,_=>some false
theorem dictAt {pins:List (Addr × Obj)} {σ:St} {H:Hp} {s:Shared} {a:Addr} (I:Inv X pins σ H s) (h:H a=some (kc a)):∃ o,s.heap.get? a=some o∧o.cls=.type "dict":= by
 obtain ⟨⟨_,o,_,h1,h2,_⟩,_⟩:=I.hok a _ h
 exact ⟨o,h1,h2⟩
theorem Hk {pins:List (Addr × Obj)} {σ:St} {H:Hp} {s:Shared} {a:Addr} {kvs:List (Int × Int)} (I:Inv X pins σ H s) (h:H a=some (Bl kvs)):∃ o,s.heap.get? a=some o∧o.cls=.type "dict":= by
 obtain ⟨_,_,vs,_,o,_,_,h1,h2,_⟩:=(show c9 X.prog X.w H s.heap a (Bl kvs) from I.hok a _ h)
 exact ⟨o,h1,h2.1⟩
theorem Gu {pins:List (Addr × Obj)} {σ:St} {H:Hp} {s:Shared} {a:Addr} {kvs:List ((Int × Int) × Int)} (I:Inv X pins σ H s) (h:H a=some (A0 kvs)):∃ o,s.heap.get? a=some o∧o.cls=.type "dict":= by
 obtain ⟨_,_,xs,_,o,_,_,h1,h2,_⟩:=(show c9 X.prog X.w H s.heap a (A0 kvs) from I.hok a _ h)
 exact ⟨o,h1,h2.1⟩
theorem wj:cP X (.builtin "isinstance") (fun xs H Q=>∃ (Hh:Hp) (d:D) (v:V) (T:Ty) (k:Bool),xs=[v,.ty T.name]∧(∀ b o,Hh b=some o->H b=some o)∧R Hh d v∧lr T d=some k∧Q (.bl k) H):= by
 intro pins s σ H xs us Q I r h
 obtain ⟨Hh,d,v,T,k,rfl,m,rd,ek,q⟩:=h
 obtain ⟨u,z,rfl,ru,rz⟩:=r.two
 cases rz
 have fin:∀ tk,EP X pins σ Q (.bool k) { s with toks:=tk }:=fun tk=>⟨.bl k,H,I.tok _,rfl,q⟩
 have fin0:EP X pins σ Q (.bool k) s:=⟨.bl k,H,I,rfl,q⟩
 cases d with
 | non=>
  cases rd.non
  cases ru
  cases T <;> cases ek
  ·exact IsiPair.NoneType_int (fin _)
  ·exact IsiPair.NoneType_bool (fin _)
  ·exact IsiPair.NoneType_tuple (fin _)
  ·exact IsiPair.NoneType_list (fin _)
  ·exact IsiPair.NoneType_str (fin _)
 | int i=>
  cases rd.int
  obtain ⟨t,rfl⟩:=ru
  cases T <;> cases ek
  ·exact IsiPair.int_int fin0
  ·exact IsiPair.int_bool (fin _)
  ·exact IsiPair.int_tuple (fin _)
  ·exact IsiPair.int_list (fin _)
  ·exact IsiPair.int_str (fin _)
 | bl i=>
  cases rd.bl
  cases ru
  cases T <;> cases ek
  ·exact IsiPair.bool_int fin0
  ·exact IsiPair.bool_bool fin0
  ·exact IsiPair.bool_tuple (fin _)
  ·exact IsiPair.bool_list (fin _)
  ·exact IsiPair.bool_str (fin _)
 | str i=>
  cases rd.str
  obtain ⟨t,rfl⟩:=ru
  cases T <;> cases ek
  ·exact IsiPair.str_int (fin _)
  ·exact IsiPair.str_bool (fin _)
  ·exact IsiPair.str_tuple (fin _)
  ·exact IsiPair.str_list (fin _)
  ·exact IsiPair.str_str fin0
 | tup ds=>
  obtain ⟨q',vs,rfl,h1,h2⟩:=rd.tup
  cases ru
  obtain ⟨its,_,⟨o,ho,hc,_⟩,_⟩:=I.tuple (.of (m _ _ h1))
  cases T <;> cases ek
  ·exact IsiPair.tuple_int ho hc (fin _)
  ·exact IsiPair.tuple_bool ho hc (fin _)
  ·exact IsiPair.tuple_tuple ho hc fin0
  ·exact IsiPair.tuple_list ho hc (fin _)
  ·exact IsiPair.tuple_str ho hc (fin _)
 | lst ds=>
  obtain ⟨q',vs,rfl,h1,h2⟩:=rd.lst
  cases ru
  obtain ⟨its,_,pl,_⟩:=I.list (.inl (Rd.mono m h1))
  obtain ⟨o,ho,hc,_⟩:=pl.isList
  cases T <;> cases ek
  ·exact IsiPair.list_int ho hc (fin _)
  ·exact IsiPair.list_bool ho hc (fin _)
  ·exact IsiPair.list_tuple ho hc (fin _)
  ·exact IsiPair.list_list ho hc fin0
  ·exact IsiPair.list_str ho hc (fin _)
 | dct=>
  obtain ⟨q',rfl,h1⟩:=rd.dct
  cases ru
  obtain ⟨o,ho,hc⟩:=dictAt I (m _ _ h1)
  cases T <;> cases ek
  ·exact IsiPair.dict_int ho hc (fin _)
  ·exact IsiPair.dict_bool ho hc (fin _)
  ·exact IsiPair.dict_tuple ho hc (fin _)
  ·exact IsiPair.dict_list ho hc (fin _)
  ·exact IsiPair.dict_str ho hc (fin _)
 | dic kvs=>
  obtain ⟨q',rfl,h1⟩:=rd.dic
  cases ru
  obtain ⟨o,ho,hc⟩:=Hk I (m _ _ h1)
  cases T <;> cases ek
  ·exact IsiPair.dict_int ho hc (fin _)
  ·exact IsiPair.dict_bool ho hc (fin _)
  ·exact IsiPair.dict_tuple ho hc (fin _)
  ·exact IsiPair.dict_list ho hc (fin _)
  ·exact IsiPair.dict_str ho hc (fin _)
 | dip kvs=>
  obtain ⟨q',rfl,h1⟩:=rd.dip
  cases ru
  obtain ⟨o,ho,hc⟩:=Gu I (m _ _ h1)
  cases T <;> cases ek
  ·exact IsiPair.dict_int ho hc (fin _)
  ·exact IsiPair.dict_bool ho hc (fin _)
  ·exact IsiPair.dict_tuple ho hc (fin _)
  ·exact IsiPair.dict_list ho hc (fin _)
  ·exact IsiPair.dict_str ho hc (fin _)
def iz (T:Ty) (fa:M D):M D:=do
 let d <- fa
 let k <- lift (lr T d)
 pure (.bl k)
theorem Gh (T:Ty) {y:Str} {py:Pos} (hg:Gl X y) (hm:X.mg y=none) (hv:bootBuiltins y=some (.type T.name)) (hn:y ≠ "__name__":=by decide) (hd:(y == ("__debug__":Str))=false:=by decide):PE X (.Name y py) (tC (.ty T.name)):=AR hg hm hv rfl hn hd
theorem e_ (T:Ty) {y:Str} {py:Pos} (hmi:X.mg "isinstance" = none) (hmy:X.mg y=none) (ha:DE X a fa) (hv:bootBuiltins y=some (.type T.name):=by decide +kernel) (hgi:Gl X "isinstance":=by rfl) (hgy:Gl X y:=by rfl) (hn:y ≠ "__name__":=by decide) (hd:(y == ("__debug__":Str))=false:=by decide)
  (he:starEach [a,.Name y py] X.env=(false,eval a X.env) :: starEach [.Name y py] X.env:=by rfl):DE X (.Call (.Name "isinstance" p) [a,.Name y py] [] pos) (iz T fa) :=
 b8 (fE wj hgi hmi (by decide +kernel) (cY ha (cY (Gh T hgy hmy hv hn hd) fm) he) (by decide) (by decide) he rfl) fun σ H Q ⟨c,δ,S,TT,d,δ',s,e,k⟩=>by
  obtain ⟨x,δ1,e1,e⟩:=bind_some e
  obtain ⟨b,δ2,e2,e⟩:=bind_some e
  obtain ⟨e3,rfl⟩:=aw e2
  obtain ⟨rfl,rfl⟩:=ao e
  exact ⟨c,δ,S,TT,x,δ1,s,e1,fun v H1 s1=>⟨_,x,v,T,b,rfl,aQ,s1.st.head,e3,k _ _ (s1.stk (.cons .mkB s1.st.tail))⟩⟩
end
end Jt
namespace Jt
open PySem L2
def vT (x:Int):List Int->List Int
 | []=>[x]
 | y :: r=>if x ≤ y then x :: y :: r else y :: vT x r
def cN:List Int->List Int
 | []=>[]
 | x :: r=>vT x (cN r)
theorem jn (x:Int):∀ l,(vT x l).Perm (x :: l)
 | []=>List.Perm.refl _
 | y :: r=>by
  unfold vT
  split
  ·exact List.Perm.refl _
  ·exact ((jn x r).cons y).trans (List.Perm.swap _ _ _)
theorem d4:∀ l,(cN l).Perm l
 | []=>List.Perm.refl _
 | x :: r=>(jn x _).trans ((d4 r).cons x)
theorem uC (x:Int):∀ l:List Int,l.Pairwise (· ≤ ·)->(vT x l).Pairwise (· ≤ ·)
 | [],_=>List.pairwise_singleton _ _
 | y :: r,h=>by
  obtain ⟨h1,h2⟩:=List.pairwise_cons.mp h
  unfold vT
  split
  ·rename_i hx
   refine List.pairwise_cons.mpr ⟨fun z hz=>?_,h⟩
   rcases List.mem_cons.mp hz with e | hz
   ·rw [e];exact hx
   ·exact Int.le_trans hx (h1 z hz)
  ·rename_i hx
   refine List.pairwise_cons.mpr ⟨fun z hz=>?_,uC x r h2⟩
   rcases List.mem_cons.mp ((jn x r).mem_iff.mp hz) with e | hz
   ·rw [e];omega
   ·exact h1 z hz
theorem kE:∀ l,(cN l).Pairwise (· ≤ ·)
 | []=>List.Pairwise.nil
 | x :: r=>uC x _ (kE r)
theorem mH:∀ {a b:List Int},a.Perm b->a.Pairwise (· ≤ ·)->b.Pairwise (· ≤ ·)->a=b
 | [],b,p,_,_=>(List.nil_perm.mp p).symm
 | x :: a,[],p,_,_=>absurd p (by simp)
 | x :: a,y :: b,p,ha,hb=>by
  obtain ⟨a1,a2⟩:=List.pairwise_cons.mp ha
  obtain ⟨b1,b2⟩:=List.pairwise_cons.mp hb
  have e:x=y:= by
   have hx:x ∈ y :: b:=p.mem_iff.mp List.mem_cons_self
   have hy:y ∈ x :: a:=p.mem_iff.mpr List.mem_cons_self
   rcases List.mem_cons.mp hx with e | hx
   ·exact e
   ·rcases List.mem_cons.mp hy with e | hy
    ·exact e.symm
    ·exact Int.le_antisymm (a1 y hy) (b1 x hx)
  subst e
  rw [mH ((List.perm_cons x).mp p) a2 b2]
theorem we {a b:List Int} (p:a.Perm b) (h:a.Pairwise (· ≤ ·)):a=cN b:=mH (p.trans (d4 b).symm) h (kE b)
inductive JC (K:PySem.W.Frag) (f:M (List D)) (σ:St) (H:Hp) (Q:VK):Prop
 | mk (c:Ct) (δ:DS) (S:List D) (T:List V) (xs:List D) (δ':DS) (s:Sl c δ S σ T H) (e:f δ=some (xs,δ')) (q:∀ p vs H',vs.length=xs.length->(gn K H' p vs ∨ fI K H' p vs)->Sl c δ' (xs ++ S) σ (vs ++ T) H' -> Q (.ref p) H'):JC K f σ H Q
abbrev DQ (X:Cx) (e:Expr) (f:M (List D)):Prop:=PE X e (JC X.K f)
section
variable {X:Cx} {a b e:Expr} {fa fb:M D} {fs fF fq:M (List D)} {pos p apos cpos:Pos} {es rest:List Expr} {x:Str}
theorem tH (h:DE X e fa):DQ X e (do let x <- fa;lift (gm x)):=b8 h fun σ H Q ⟨c,δ,S,T,xs,δ',s,e,k⟩=>by
 obtain ⟨d,δ1,e1,e⟩:=bind_some e
 obtain ⟨e2,rfl⟩:=aw e
 refine ⟨c,δ,S,T,d,δ1,s,e1,fun v H' s'=>?_⟩
 cases d with
 | tup ds=>
  cases e2
  obtain ⟨q,vs,rfl,h1,h2⟩:=s'.st.head.tup
  exact k q vs H' h2.length (.inr (.of (aQ _ _ h1))) (s'.stk (h2.append s'.st.tail))
 | lst ds=>
  cases e2
  obtain ⟨q,vs,rfl,h1,h2⟩:=s'.st.head.lst
  exact k q vs H' h2.length (.inl (.inl (Rd.mono aQ h1))) (s'.stk (h2.append s'.st.tail))
 | _=>cases e2
theorem E8 (i:Nat) {px:Pos} (hN:X.N[i]? = some x:=by rfl) (hv:qT X.env.scope x:=by first | exact Or.inl rfl | exact Or.inr (Or.inl rfl) | exact Or.inr (Or.inr rfl)) (hd:(x == ("__debug__":Str))=false:=by decide) (hcd:(x == ("__classdict__":Str))=false:=by decide) :
  DQ X (.Name x px) (aA i):=b8 (dm hN hv hd hcd) fun σ H Q ⟨c,δ,S,T,xs,δ',s,e,k⟩=>by
 obtain ⟨⟨b,hi⟩,rfl⟩:=bj e
 obtain ⟨q,vs,ev,hq,hx⟩:=s.own hi
 exact ⟨_,ev,k q vs H hx.length (.inl (.of hq)) (s.stk (hx.append s.st))⟩
theorem Inv.kd {pins:List (Addr × Obj)} {σ:St} {H:Hp} {s:Shared} {h':Heap} {t':Nat} {d':Drawn} (I:Inv X pins σ H s) (k:∀ b u,s.heap.get? b=some u->h'.get? b=some u):Inv X pins σ H { s with heap:=h',toks:=t',drawn:=d' }:= by
 have I1:=I.kept (t':=t') k
 exact ⟨I1.ok,I1.os,I1.bare,I1.base,I1.loc,I1.cell,I1.free,I1.freeC,I1.pin,I1.hok,I1.len⟩
theorem gX {ns:List Int}:∀ {us:List Value},PyProof.Rows.IntsAre us ns->Vals (ns.map V.int) us:= by
 induction ns with
 | nil=>intro us h;cases h;exact .nil
 | cons n ns ih=>
  intro us h
  cases h with
  | cons _ t h=>exact .cons ⟨t,rfl⟩ (ih h)
theorem rm {pins:List (Addr × Obj)} {σ:St} {H:Hp} {s:Shared} {ns ms:List Int} {Q:VK} {h1 h':Heap} {tk:Nat} {d:Drawn} {out:List Value} {e:Nat} (I:Inv X pins σ H s) (k:∀ b o,s.heap.get? b=some o->h1.get? b=some o) (k2:∀ b o,h1.get? b=some o->h'.get? b=some o)
  (hg:h'.get? h1.objs.size=some { cls:=.type "list",data:=.seq out.toArray e }) (hi:PyProof.Rows.IntsAre out ms) (hp:ms.Perm ns) (hu:ms.Pairwise (· ≤ ·)) (hl:ns.length < 64) (q:∀ l,H l=none->Q (.ref l) (upd H l (.lst ((cN ns).map V.int)))) :
  EP X pins σ Q (.ref h1.objs.size) { s with heap:=h',toks:=tk,drawn:=d }:= by
 have I1:Inv X pins σ H { s with heap:=h1,toks:=tk,drawn:=d }:=Inv.kd I k
 have em:=we hp hu
 refine ⟨.ref h1.objs.size,_,I1.laid (t':=tk) (o:=.lst ((cN ns).map V.int)) k2 (Nat.le_refl _) ⟨?_,out,e,em ▸ gX hi,hg⟩,rfl,q _ (I1.hok.fresh (Nat.le_refl _))⟩
 rw [List.length_map,<- em,hp.length_eq,sizeLine_eq]
 omega
theorem qB:cP X (.builtin "sorted") (fun xs H Q=>∃ p ns,xs=[.ref p]∧(gn X.K H p (ns.map V.int) ∨ fI X.K H p (ns.map V.int))∧ns.length < 64∧∀ l,H l=none->Q (.ref l) (upd H l (.lst ((cN ns).map V.int)))):= by
 intro pins s σ H xs us Q I r h
 obtain ⟨p,ns,rfl,hq,hl,q⟩:=h
 obtain ⟨u,rfl,ru⟩:=r.one
 cases ru
 refine pE (ns:=ns) (fun A' Q' E' hA hQ'=>?_) hl fun h1 h' tk d out ms e k k2 hg hi hp hu=>rm I k k2 hg hi hp hu hl q
 rcases hq with hq | hq
 ·obtain ⟨its,rv,pl,hz⟩:=I.list hq
  obtain ⟨o,ho,hc,n,hd⟩:=pl.isList
  exact wpAny_collect_seq p (.inl rfl) ho hc hd (fun h' k=>hQ' _ ns h' s.toks s.drawn (by simpa using intsAre_of rv) (List.Perm.refl _) k) (by rw [List.size_toArray,<- rv.length];exact hz)
 ·obtain ⟨its,rv,⟨o,ho,hc,n,hd⟩,hz⟩:=I.tuple hq
  exact wpAny_collect_seq p (.inr rfl) ho hc hd (fun h' k=>hQ' _ ns h' s.toks s.drawn (by simpa using intsAre_of rv) (List.Perm.refl _) k) (by rw [List.size_toArray,<- rv.length];exact hz)
def cq:List D->Option (List Int)
 | []=>some []
 | .int i :: r=>(cq r).map (i :: ·)
 | _=>none
theorem fU {H:Hp}:∀ {ds:List D} {vs:List V} {ns:List Int},Rs H ds vs->cq ds=some ns->vs=ns.map V.int
 | [],vs,ns,h,e=>by cases e;exact h.inv0
 | d :: ds,vs,ns,h,e=>by
  obtain ⟨v,r,ev,h1,h2⟩:=h.inv
  cases d with
  | int b=>
   unfold cq at e
   cases q:cq ds with
   | none=>rw [q] at e;cases e
   | some bs'=>
    rw [q] at e;cases e
    rw [ev,h1.int,fU h2 q];rfl
  | _=>cases e
theorem jk {H:Hp}:∀ (ns:List Int),Rs H (ns.map D.int) (ns.map V.int)
 | []=>.nil
 | n :: ns=>.cons .mkI (jk ns)
def sortI (xs:List D):Option (List D):=match cq xs with
 | some ns=>if ns.length < 64 then some ((cN ns).map D.int) else none
 | none=>none
def mQ {α:Type} (g:List D->Option α) (f:M (List D)):M α:=do
 let xs <- f
 lift (g xs)
theorem jf (hm:X.mg "sorted" = none) (h:DQ X e fq) (hg:Gl X "sorted":=by rfl) (he:starEach [e] X.env=[(false,eval e X.env)]:=by rfl):DF X (.Call (.Name "sorted" p) [e] [] pos) (mQ sortI fq) :=
 b8 (fE qB hg hm PyProof.Rows.boot_sorted (cY h fm he) (by decide) (by decide) he rfl) fun σ H Q ⟨c,δ,S,T,xs,δ',s,e,k⟩=>by
  obtain ⟨ds,δ1,e1,e⟩:=bind_some e
  obtain ⟨e2,rfl⟩:=aw e
  refine ⟨c,δ,S,T,ds,δ1,s,e1,fun q vs H1 l hq s1=>?_⟩
  unfold sortI at e2
  split at e2
  ·rename_i ns en
   split at e2
   ·rename_i hn
    cases e2
    have ev:=fU (s1.st.left l) en
    subst ev
    refine ⟨q,ns,rfl,hq,hn,fun m hm=>?_⟩
    obtain ⟨f1,f2,f3⟩:=s1.fresh hm
    have s2:=(s1.drop l).hide (o:=.lst ((cN ns).map V.int)) hm
    exact k m _ _ (by simp) (s2.stk ((jk _).append s2.st)) f1 f2 f3
   ·cases e2
  ·cases e2
def sH (xs ys:List D):Option (List D):=if xs.length + ys.length ≤ 100000 then some (xs ++ ys) else none
end
end Jt
namespace Jt
open PySem L2
inductive Hn where
 | th (x:D) | ls (j:Nat)
def Dr (c:Ct) (δ:DS) (S:List D) (σ:St) (T:List V) (H:Hp) (v:V):Hn->Prop
 | .th d=>Sl c δ (d :: S) σ (v :: T) H
 | .ls i=>Sl c δ S σ T H∧σ[i]? = some (some v)
inductive CM (f:M Hn) (σ:St) (H:Hp) (Q:VK):Prop
 | mk (c:Ct) (δ:DS) (S:List D) (T:List V) (h:Hn) (δ':DS) (s:Sl c δ S σ T H) (e:f δ=some (h,δ')) (q:∀ v H',Dr c δ' S σ T H' v h->Q v H'):CM f σ H Q
abbrev DH (X:Cx) (e:Expr) (f:M Hn):Prop:=PE X e (CM f)
def Hn.ds:Hn->List D
 | .th z=>[z]
 | .ls _=>[]
def Hn.vs (v:V):Hn->List V
 | .th _=>[v]
 | .ls _=>[]
theorem Hn.len (v:V) (h:Hn):(h.vs v).length=h.ds.length:=by cases h <;> rfl
def rdH (h:Hn):M D:=fun δ=>match h with
 | .th d=>some (d,δ)
 | .ls i=>match δ[i]? with
  | some (.ow _ xs)=>some (.lst xs,δ)
  | _=>none
theorem Dr.sl {c:Ct} {δ:DS} {S:List D} {σ:St} {T:List V} {H:Hp} {v:V} {h:Hn} (k:Dr c δ S σ T H v h):Sl c δ (h.ds ++ S) σ (h.vs v ++ T) H:= by
 cases h with
 | th d=>exact k
 | ls i=>exact k.1
theorem pj {c:Ct} {δ δ':DS} {S:List D} {σ:St} {T:List V} {H:Hp} {v:V} {h:Hn} {d:D} (s:Sl c δ S σ T H) (hs:∀ d',h=.th d' -> R (fV c δ σ H) d' v) (ho:∀ i,h=.ls i->σ[i]? = some (some v)) (e:rdH h δ=some (d,δ')):δ=δ' ∧ R H d v ∧
  (∀ xs,d=.lst xs->∃ p vs,v=.ref p∧Rd H p (.lst vs)∧Rs (fV c δ σ H) xs vs)∧((∀ xs,d ≠ .lst xs)->R (fV c δ σ H) d v):= by
 cases h with
 | th d0=>
  cases e
  have r:=hs d rfl
  refine ⟨rfl,r.mono aQ,fun xs ex=>?_,fun _=>r⟩
  subst ex
  obtain ⟨p,vs,ev,h1,h2⟩:=r.lst
  exact ⟨p,vs,ev,Rd.mono aQ h1,h2⟩
 | ls i=>
  unfold rdH at e
  dsimp only at e
  split at e
  ·rename_i b xs hx
   cases e
   obtain ⟨p,vs,ev,hp,hr⟩:=s.own hx
   rw [ho i rfl] at ev
   cases ev
   exact ⟨rfl,.mkL (.inl hp) (hr.mono aQ),fun ys ey=>by cases ey;exact ⟨p,vs,rfl,.inl hp,hr⟩,fun z=>absurd rfl (z xs)⟩
  ·cases e
section
variable {X:Cx} {a b e:Expr} {fa fb:M D} {ha' hb':M Hn} {fs fF fq:M (List D)} {pos p apos cpos:Pos} {es rest:List Expr} {x:Str}
theorem i4 (h:DE X e fa):DH X e (do let x <- fa;pure (.th x)):=b8 h fun σ H Q ⟨c,δ,S,T,h,δ',s,e,k⟩=>by
 obtain ⟨d,δ1,e1,e⟩:=bind_some e
 obtain ⟨rfl,rfl⟩:=ao e
 exact ⟨c,δ,S,T,d,δ1,s,e1,fun v H' s'=>k v H' s'⟩
def Bb (i:Nat):M Hn:=do
 let _ <- aA i
 pure (.ls i)
theorem E2 (i:Nat) {px:Pos} (hN:X.N[i]? = some x:=by rfl) (hv:qT X.env.scope x:=by first | exact Or.inl rfl | exact Or.inr (Or.inl rfl) | exact Or.inr (Or.inr rfl)) (hd:(x == ("__debug__":Str))=false:=by decide) (hcd:(x == ("__classdict__":Str))=false:=by decide) :
  DH X (.Name x px) (Bb i):=b8 (dm hN hv hd hcd) fun σ H Q ⟨c,δ,S,T,h,δ',s,e,k⟩=>by
 obtain ⟨xs,δ1,e1,e⟩:=bind_some e
 obtain ⟨rfl,rfl⟩:=ao e
 obtain ⟨⟨b,hi⟩,rfl⟩:=bj e1
 obtain ⟨q,vs,ev,hq,hx⟩:=s.own hi
 exact ⟨_,ev,k _ H ⟨s,ev⟩⟩
def vU {α:Type} (g:D->D->Option α) (fa fb:M Hn):M α:=do
 let h1 <- fa
 let h2 <- fb
 let x <- rdH h1
 let y <- rdH h2
 lift (g x y)
structure Jr (c:Ct) (δ:DS) (S:List D) (σ:St) (T:List V) (H:Hp) (x y:D) (v u:V):Prop where
 sl:Sl c δ S σ T H
 rx:R H x v
 ry:R H y u
 lx:∀ xs,x=.lst xs->∃ p vs,v=.ref p∧Rd H p (.lst vs)∧Rs (fV c δ σ H) xs vs
 ly:∀ xs,y=.lst xs->∃ p vs,u=.ref p∧Rd H p (.lst vs)∧Rs (fV c δ σ H) xs vs
theorem GD {α:Type} {r:R2} {g:D->D->Option α} {W:Ct->DS->List D->St->List V->VK->α->Prop}
  (hr:∀ c δ S σ T H x y v u z Q,Jr c δ S σ T H x y v u->g x y=some z->W c δ S σ T Q z->r v u H Q) :
  ∀ σ H Q,(∃ c δ S T z δ',Sl c δ S σ T H∧vU g ha' hb' δ=some (z,δ')∧W c δ' S σ T Q z)->C1 r (CM ha') (CM hb') σ H Q:=fun σ H Q ⟨c,δ,S,T,z,δ',s,e,k⟩=>by
 obtain ⟨h1,δ1,e1,e⟩:=bind_some e
 obtain ⟨h2,δ2,e2,e⟩:=bind_some e
 obtain ⟨x,δ3,e3,e⟩:=bind_some e
 obtain ⟨y,δ4,e4,e⟩:=bind_some e
 obtain ⟨e5,rfl⟩:=aw e
 refine ⟨c,δ,S,T,h1,δ1,s,e1,fun v H1 k1=>?_⟩
 refine ⟨c,δ1,h1.ds ++ S,h1.vs v ++ T,h2,δ2,k1.sl,e2,fun u H2 k2=>?_⟩
 have s2:=k2.sl
 have s3:Sl c δ2 S σ T H2:=(s2.drop (Hn.len u h2)).drop (Hn.len v h1)
 obtain ⟨rfl,r1,l1,_⟩:=pj s3 (v:=v) (h:=h1) (fun d' ed=>by
  subst ed
  exact (s2.drop (Hn.len u h2)).st.head) (fun i ei=>by subst ei;exact k1.2) e3
 obtain ⟨rfl,r2,l2,_⟩:=pj s3 (v:=u) (h:=h2) (fun d' ed=>by
  subst ed
  exact s2.st.head) (fun i ei=>by subst ei;exact k2.2) e4
 exact hr c δ2 S σ T H2 x y v u z Q ⟨s3,r1,r2,l1,l2⟩ e5 k
def G0:R2:=fun x y H Q=>∃ l b xs zs,x=.ref l∧y=.ref b∧Rd H l (.lst xs)∧Rd H b (.lst zs)∧xs.length + zs.length ≤ sizeLine∧∀ p,H p=none->Q (.ref p) (upd H p (.lst (xs ++ zs)))
theorem AW:gc X (binaryOp .Add) G0:= by
 intro pins s σ H x y v u Q I rx ry h
 obtain ⟨l,b,xs,zs,rfl,rfl,hH,hB,hz,q⟩:=h
 cases rx
 cases ry
 obtain ⟨z,its,n,r,e⟩:=hH.ok I.hok
 obtain ⟨z2,its2,n2,r2,e2⟩:=hB.ok I.hok
 refine PySem.P.add_list e e2 ?_ (by rw [List.size_toArray,List.size_toArray,<- r.length,<- r2.length];exact hz)
 rw [show its.toArray ++ its2.toArray=(its ++ its2).toArray by simp]
 exact ⟨.ref _,_,I.lnew (t':=s.toks) (r.append r2) (by rw [List.length_append];exact hz),rfl,q _ I.fresh⟩
def oY:D->D->Option (List D)
 | .lst xs,.lst ys=>sH xs ys
 | _,_=>none
theorem n_ (ha:DH X a ha') (hb:DH X b hb'):DF X (.BinOp a .Add b pos) (vU oY ha' hb'):=b8 (CJ AW ha hb) fun σ H Q ⟨c,δ,S,T,z,δ',s,e,k⟩=>by
 refine GD (W:=fun c δ' S σ T Q z=>∀ l vs H',vs.length=z.length->Sl { c with Z:=upd c.Z l (.lst vs) } δ' (z ++ S) σ (vs ++ T) H' -> c.Z l=none->l ∉ c.B->c.H0 l=none->Q (.ref l) H') (fun c δ S σ T H x y v u z Q t eg w=>?_) σ H Q ⟨c,δ,S,T,z,δ',s,e,k⟩
 cases x with
 | lst xs=>
  cases y with
  | lst ys=>
   have eg':(if xs.length + ys.length ≤ 100000 then some (xs ++ ys) else none)=some z:=eg
   split at eg'
   ·rename_i hn
    cases eg'
    obtain ⟨p1,vs,rfl,a1,a2⟩:=t.lx xs rfl
    obtain ⟨p2,us,rfl,b1,b2⟩:=t.ly ys rfl
    have hl:(100000:Nat) < sizeLine:=by rw [sizeLine_eq];decide
    refine ⟨p1,p2,vs,us,rfl,rfl,a1,b1,by rw [a2.length,b2.length];omega,fun q hq=>?_⟩
    have s1:=t.sl.stk ((a2.append b2).append t.sl.st)
    obtain ⟨f1,f2,f3⟩:=s1.fresh hq
    exact w q _ _ (by rw [List.length_append,List.length_append,a2.length,b2.length]) (s1.hide hq) f1 f2 f3
   ·cases eg'
  | _=>cases eg
 | _=>cases eg
def GF (neg:Bool) (x y:D):Option D:=if jN x y=true then (cJ 9 x y).map fun b=>.bl (if neg then !b else b) else ck neg x y
theorem A8 {c:Ct} {δ:DS} {S:List D} {σ:St} {T:List V} {H:Hp} {x y:D} {v u:V} {z:D} {Q:VK} {neg:Bool} {r:R2} (t:Jr c δ S σ T H x y v u) (eg:GF neg x y=some z) (w:∀ v H',Sl c δ (z :: S) σ (v :: T) H' -> Q v H')
  (hs:∀ (b:Bool),jN x y=true->cJ 9 x y=some b->Q (.bl (if neg then !b else b)) H->r v u H Q) (hf:l0 v u=true->Q (.bl (if neg then !decide (v=u) else decide (v=u))) H->r v u H Q):r v u H Q:= by
 unfold GF at eg
 split at eg
 ·rename_i hq
  cases q:cJ 9 x y with
  | none=>rw [q] at eg;cases eg
  | some b=>
   rw [q] at eg;cases eg
   exact hs b hq q (w _ _ (t.sl.stk (.cons .mkB t.sl.st)))
 ·unfold ck at eg
  split at eg
  ·rename_i w1 z1 e1 e2
   split at eg
   ·rename_i hsc
    cases eg
    obtain ⟨rfl,_⟩:=dA t.rx e1
    obtain ⟨rfl,_⟩:=dA t.ry e2
    exact hf hsc (w _ _ (t.sl.stk (.cons .mkB t.sl.st)))
   ·cases eg
  ·cases eg
theorem JM {g:D->D->Option D} {r:R2} (w:∀ σ H Q,tM (vU g ha' hb') σ H Q->C1 r (CM ha') (CM hb') σ H Q):∀ σ H Q,y9 (vU g ha' hb' >>= dq) σ H Q->C2 (C1 r (CM ha') (CM hb')) σ H Q:=fun σ H Q ⟨c,δ,S,T,d,δ',s,e,k⟩=>by
 obtain ⟨x,δ1,e1,e⟩:=bind_some e
 obtain ⟨rfl,rfl⟩:=kh e
 exact w σ H _ ⟨c,δ,S,T,.bl d,δ1,s,e1,fun v H' s'=>⟨d,s'.st.head.bl,k _ s'.pop⟩⟩
theorem Fg {k:Nat} (hr:cm k X.A) (ha:DH X a ha') (hb:DH X b hb'):DT X (.Compare a [.NotEq] [b] pos) (vU (GF true) ha' hb' >>= dq):=Aa (tq (xn (kA hr)) ha hb (sJ _)) (JM fun σ H Q ⟨c,δ,S,T,z,δ',s,e,k⟩=>
 GD (W:=fun c δ' S σ T Q z=>∀ v H',Sl c δ' (z :: S) σ (v :: T) H' -> Q v H') (fun c δ S σ T H x y v u z Q t eg w=>A8 t eg w (fun b hs he q=>.inr ⟨H,x,y,b,fun _ _ h=>h,t.rx,t.ry,hs,he,q⟩) fun hs q=>.inl ⟨hs,q⟩) σ H Q ⟨c,δ,S,T,z,δ',s,e,k⟩)
def flatOnly (d:D):Option D:=match flat d with
 | some _=>some d
 | none=>none
def JT (n:Nat) (mf:List D->Option D) (ds:List D):Option D:=if ds.length=n then (mf ds).bind flatOnly else none
variable {k:Nat} {f:Addr} {fd:FuncData} {ps:List Str}
def cutD (xs:List D) (lo hi:Option Int):List D:=(xs.drop (HT.sIx xs.length 0 lo)).take (HT.sIx xs.length xs.length hi - HT.sIx xs.length 0 lo)
theorem wC {H:Hp} {ds:List D} {vs:List V} (h:Rs H ds vs) (lo hi:Option Int):Rs H (cutD ds lo hi) (oD vs lo hi):= by
 unfold cutD oD
 rw [h.length]
 have dr:∀ (n:Nat) {ds:List D} {vs:List V},Rs H ds vs->Rs H (ds.drop n) (vs.drop n):= by
  intro n
  induction n with
  | zero=>intro ds vs h;exact h
  | succ n ih=>
   intro ds vs h
   cases ds with
   | nil=>rw [h.inv0];exact .nil
   | cons d ds=>obtain ⟨v,r,e,h1,h2⟩:=h.inv;subst e;exact ih h2
 have tk:∀ (n:Nat) {ds:List D} {vs:List V},Rs H ds vs->Rs H (ds.take n) (vs.take n):= by
  intro n
  induction n with
  | zero=>intro ds vs h;rw [List.take_zero,List.take_zero];exact .nil
  | succ n ih=>
   intro ds vs h
   cases ds with
   | nil=>rw [h.inv0];exact .nil
   | cons d ds=>obtain ⟨v,r,e,h1,h2⟩:=h.inv;subst e;exact .cons h1 (ih h2)
 exact tk _ (dr _ h)
theorem qP {t sl:Addr} {items:Array Value} {vl vu:Value} {lo hi:Option Int} {prog:Program} {w:World} {A:Around} {E:Value->Shared->Prop} {s:Shared} {Q:Value->Shared->Prop} (ht:PyProof.Rows.IsTup s.heap t items) (hs:s.heap.IsSliceOf sl vl vu .none) (pl:IsPart vl lo) (pu:IsPart vu hi)
  (hw:HT.sIx items.size 0 lo=0∧HT.sIx items.size items.size hi=items.size) (h:Q (.ref t) s):wpAny (model prog w) A (getItem (.ref t) (.ref sl)) Q E s:= by
 obtain ⟨os,hos,hcs,hds⟩:=id hs
 have hTs:s.TypeIs (.ref sl) "slice":=⟨os,hos,hcs⟩
 unfold getItem
 try with_reducible refine wpAny_holding ?_
 first | refine wpAny_bind (wpAny_pure ?_) | skip
 refine wpAny_bind (wpAny_sequenceKey ht.typeIs (by decide) ?_)
 refine wpAny_bind (wpAny_callSpecial?_slot (name:=Str.ofString "__getitem__") ht.typeIs PyProof.Rows.slot_tuple_getitem (wpAny_call_entry PyProof.Rows.slot_tuple_getitem ht.typeIs PyProof.Rows.entry_tuple_getitem ?_ (PyProof.Rows.args_tuple_getitem _ _)))
 show wpAny (model prog w) _ (Builtin.Tuple.tupleItemsOf (.ref t) >>= _) _ _ s
 refine wpAny_bind (PyProof.Rows.tupleItemsOf_ ht (wpAny_bind (wpAny_typeOf hTs ?_)))
 rw [if_pos (by decide)]
 refine wpAny_bind (HT.sliceApplied_gen hs pl pu ?_)
 have hyes:(((HT.sIx items.size 0 lo:Nat):Int) == 0 && (1:Int) == 1 && (HT.sIx items.size items.size hi - HT.sIx items.size 0 lo) == items.size)=true:= by
  rw [hw.1,hw.2];simp
 show wpAny (model prog w) _ (if (((HT.sIx items.size 0 lo:Nat):Int) == 0 && (1:Int) == 1 && (HT.sIx items.size items.size hi - HT.sIx items.size 0 lo) == items.size)=true then _ else _) _ _ s
 rw [if_pos hyes]
 refine wpAny_bind ?_
 unfold Builtin.Tuple.tupleIsExact
 refine wpAny_bind (wpAny_typeOf ht.typeIs (wpAny_pure ?_))
 rw [if_pos (by decide)]
 exact wpAny_bind (wpAny_rule (wpAny_bind (wpAny_pure (wpAny_pure ⟨_,rfl,wpAny_pure h⟩))))
end
end Jt
namespace Jt
open PySem L2
section
variable {X:Cx} {pins:List (Addr × Obj)} {σ:St} {H:Hp} {s:Shared} {h':Heap}
theorem _root_.L2.Inv.turnedN {t':Nat} {fp:List Addr} {p:Addr} {o:HO} (I:Inv X pins σ H s) (k:∀ b o,b ∉ fp->s.heap.get? b=some o->h'.get? b=some o) (hf:∀ b ∈ fp,iw X pins H b) (hp:s.heap.objs.size ≤ p) (new:c9 X.prog X.w (upd H p o) h' p o) :
  Inv X pins σ (upd H p o) { s with heap:=h',toks:=t' }:= by
 have hn:H p=none:=I.hok.fresh hp
 have nit:∀ b u,H b=some u->b ∉ fp:=fun b u e z=>by rw [(hf b z).1] at e;cases e
 refine I.step (g':=s.gens) (d':=s.drawn) (ch:=fp) (fun b hb=>?_) (fun b o _ _ hc e _=>k b o hc e) (fun b o _ _ hc e _=>⟨o.slots,k b o hc e⟩) (fun b o _ e n=>?_)
  (fun b o hc e=>⟨o,k b o hc e⟩) (fun b xs e=>by rw [ax (bB e hn)];exact e) (fun b o u e=>by rw [ax (bB e hn)];exact e) (fun b ps e=>⟨#[],by rw [ax (bB e hn),e];simp⟩) (fun m hm=>?_) (fun b u e=>?_) I.bare
 ·obtain ⟨_,f1,_,f3,f4,f5⟩:=hf b hb
  exact ⟨f3,f1,f4,f5⟩
 ·rw [ax fun z=>by subst z;exact Nat.lt_irrefl _ (Nat.lt_of_lt_of_le (Heap.lt_size e) hp)];exact n
 ·obtain ⟨o',es,ep,ho,r⟩:=hm
  exact ⟨o',es,ep,k _ o' (fun z=>(hf _ z).2.1 rfl) ho,r⟩
 ·by_cases hb:b=p
  ·subst hb;rw [aI] at e;cases e;exact new
  ·rw [ax hb] at e
   refine (I.hok b u e).stay (fun c v hc q=>k c v ?_ q) (fun c q=>by rw [ax (bB q hn)];exact q) (fun c xs q=>by rw [ax (bB q hn)];exact q) fun c ob v q=>by rw [ax (bB q hn)];exact q
   rcases hc with z | z
   ·rw [z];exact nit b u e
   ·exact nit c _ z
theorem _root_.L2.Inv.turnedL {t':Nat} {fp:List Addr} (I:Inv X pins σ H s) (k:∀ b o,b ∉ fp->s.heap.get? b=some o->h'.get? b=some o) (hf:∀ b ∈ fp,iw X pins H b):Inv X pins σ H { s with heap:=h',toks:=t' }:= by
 have nit:∀ b u,H b=some u->b ∉ fp:=fun b u e z=>by rw [(hf b z).1] at e;cases e
 refine I.step (g':=s.gens) (d':=s.drawn) (ch:=fp) (fun b hb=>?_) (fun b o _ _ hc e _=>k b o hc e) (fun b o _ _ hc e _=>⟨o.slots,k b o hc e⟩) (fun _ _ _ _ n=>n)
  (fun b o hc e=>⟨o,k b o hc e⟩) (fun _ _ e=>e) (fun _ _ _ e=>e) (fun b ps e=>⟨#[],by rw [e];simp⟩) (fun m hm=>?_) (fun b u e=>?_) I.bare
 ·obtain ⟨_,f1,_,f3,f4,f5⟩:=hf b hb
  exact ⟨f3,f1,f4,f5⟩
 ·obtain ⟨o',es,ep,ho,r⟩:=hm
  exact ⟨o',es,ep,k _ o' (fun z=>(hf _ z).2.1 rfl) ho,r⟩
 ·refine (I.hok b u e).stay (fun c v hc q=>k c v ?_ q) (fun _ q=>q) fun _ _ q=>q
  rcases hc with z | z
  ·rw [z];exact nit b u e
  ·exact nit c _ z
def Sq (b:Bool) (K:PySem.W.Frag) (H:Hp) (q:Addr) (xs:List V):Prop:=match b with
 | true=>fI K H q xs
 | false=>gn K H q xs
theorem _root_.L2.Inv.sq {b:Bool} {q:Addr} {xs:List V} (I:Inv X pins σ H s) (h:Sq b X.K H q xs):∃ its:List Value,Vals xs its∧kM b s.heap q its.toArray:= by
 cases b with
 | true=>obtain ⟨its,r,p,_⟩:=I.tuple h;exact ⟨its,r,p⟩
 | false=>obtain ⟨its,r,p,_⟩:=I.list h;exact ⟨its,r,p.isList⟩
theorem _root_.L2.Inv.sq_inj {b:Bool} {q:Addr} {xs ys:List V} (I:Inv X pins σ H s) (h:Sq b X.K H q xs) (h':Sq b X.K H q ys):xs=ys:= by
 cases b with
 | true=>exact I.tuple_inj h h'
 | false=>exact I.list_inj h h'
def Jg (K:PySem.W.Frag) (b1 b2:Bool) (l1 l2:Addr):It :=
 ⟨fun i H=>∃ xs ys x y,Sq b1 K H l1 xs∧Sq b2 K H l2 ys∧xs[i]? = some x∧ys[i]? = some y,
   fun i H x H'=>∃ p v u,x=.ref p∧H p=none∧H' = upd H p (.tup [v,u])∧(∀ xs,Sq b1 K H l1 xs->xs[i]? = some v)∧∀ ys,Sq b2 K H l2 ys->ys[i]? = some u,
   fun i H=>∃ xs ys,Sq b1 K H l1 xs∧Sq b2 K H l2 ys∧(xs.length ≤ i ∨ ys.length ≤ i)⟩
def Zt (b1 b2:Bool) (z TI TO i1 i2 l1 l2:Addr) (k:Nat) (h:Heap):Prop:=IsZip h z TI TO .none∧IsPair h TI (.ref i1) (.ref i2)∧(∃ a c,IsPair h TO a c)∧lz b1 h i1 l1 k∧lz b2 h i2 l2 k
theorem w4 {P:Program} {w:World} {K:PySem.W.Frag} {es:List Expr} {x1} {pt:Pos} (b1 b2:Bool) {z TI TO i1 i2 l1 l2:Addr} (D:FG z TI TO i1 i2 l1 l2) (hfl1:l1 ∉ [z,TI,TO,i1,i2]) (hfl2:l2 ∉ [z,TI,TO,i1,i2]) :
  Turn P w K (.Tuple es x1 pt) (Jg K b1 b2 l1 l2) [z,TI,TO,i1,i2] z (Zt b1 b2 z TI TO i1 i2 l1 l2) where
 mem:=by simp
 obj:=fun i h st b hb=>by
  obtain ⟨s1,s2,⟨a,c,s3⟩,s4,s5⟩:=st
  have itc:∀ {bb:Bool} {it l:Addr},lz bb h it l i->∃ o,h.get? it=some o∧∀ v,o.data ≠ .cell v:=fun {bb it l} q=>by
   cases bb with
   | true=>obtain ⟨o,e,_,d⟩:=q;exact ⟨o,e,fun v z=>by rw [d] at z;cases z⟩
   | false=>obtain ⟨o,e,_,d⟩:=q;exact ⟨o,e,fun v z=>by rw [d] at z;cases z⟩
  simp only [List.mem_cons,List.not_mem_nil,or_false] at hb
  rcases hb with e | e | e | e | e <;> subst e
  ·exact ⟨_,s1,fun v q=>by cases q⟩
  ·exact ⟨_,s2,fun v q=>by cases q⟩
  ·exact ⟨_,s3,fun v q=>by cases q⟩
  ·exact itc s4
  ·exact itc s5
 keep:=fun i h h' st k=>by
  obtain ⟨s1,s2,⟨a,c,s3⟩,s4,s5⟩:=st
  exact ⟨k z (by simp) _ s1,k TI (by simp) _ s2,⟨a,c,k TO (by simp) _ s3⟩,s4.at (k i1 (by simp)),s5.at (k i2 (by simp))⟩
 item:= by
  intro X hP hw hK hc i pins s σ H E I hf st hg
  subst hP hw hK
  obtain ⟨xs,ys,x,y,hq1,hq2,hx,hy⟩:=hg
  obtain ⟨it1,r1,p1⟩:=I.sq hq1
  obtain ⟨it2,r2,p2⟩:=I.sq hq2
  obtain ⟨u1,e1,ru1⟩:=r1.get hx
  obtain ⟨u2,e2,ru2⟩:=r2.get hy
  obtain ⟨s1,s2,s3,s4,s5⟩:=st
  refine xC D ⟨s1,s2,s3,s4,s5,p1,p2⟩ (by simpa using e1) (by simpa using e2) fun h' st' hp kp=>?_
  obtain ⟨t1,t2,⟨a,c,t3⟩,t4,t5,_,_⟩:=st'
  have kp':∀ b o,b ∉ [z,TI,TO,i1,i2]->s.heap.get? b=some o->h'.get? b=some o:=fun b o hb e=>kp b o (fun hm=>hb (by
   simp only [List.mem_cons,List.not_mem_nil,or_false] at hm ⊢
   rcases hm with e | e | e | e <;> simp [e])) e
  refine ⟨.ref s.heap.objs.size,rfl,wpAny_letOwnedTupleGo_zip (s:={ s with heap:=h' }) t1 fun h2 z2 sb=>?_⟩
  obtain ⟨n1,n2,n3,n4,n5,n6,n7,n8,n9,n10,m1,m2,m3,m4,m5,m6,m7,m8⟩:=D.ne
  have hzl:z < s.heap.objs.size:=Heap.lt_size s1
  have new2:IsPair h2 s.heap.objs.size u1 u2:=sb.extBut _ _ (Nat.ne_of_gt hzl) hp
  refine ⟨.ref s.heap.objs.size,upd H s.heap.objs.size (.tup [x,y]),I.turnedN (t':=s.toks) (fp:=[z,TI,TO,i1,i2]) (fun b o hb e=>sb.extBut _ _ (fun q=>hb (by rw [q];simp)) (kp' b o hb e)) hf (Nat.le_refl _) ⟨by rw [sizeLine_eq];show 2 ≤ _;decide,[u1,u2],.cons ru1 (.cons ru2 .nil),⟨_,new2,rfl,_,rfl⟩,_,new2,rfl⟩,rfl,
   ⟨_,x,y,rfl,I.fresh,rfl,fun zs hz=>by rw [I.sq_inj hz hq1];exact hx,fun zs hz=>by rw [I.sq_inj hz hq2];exact hy⟩,⟨z2,sb.extBut _ _ n1 t2,⟨a,c,sb.extBut _ _ n2 t3⟩,t4.at fun o e=>sb.extBut _ _ n3 e,t5.at fun o e=>sb.extBut _ _ n4 e⟩,fun b hb=>?_⟩
  have hb0:=(hf b hb).1
  rw [ax fun q=>?_]
  ·exact hb0
  ·have:b < s.heap.objs.size:= by
    simp only [List.mem_cons,List.not_mem_nil,or_false] at hb
    rcases hb with e | e | e | e | e <;> subst e
    ·exact hzl
    ·exact Heap.lt_size s2
    ·obtain ⟨_,_,s3⟩:=s3;exact Heap.lt_size s3
    ·exact s4.lt
    ·exact s5.lt
   rw [q] at this
   exact Nat.lt_irrefl _ this
 done:= by
  intro X hP hw hK hc i pins s σ H E I hf st hg
  subst hP hw hK
  obtain ⟨xs,ys,hq1,hq2,hx⟩:=hg
  obtain ⟨it1,r1,p1⟩:=I.sq hq1
  obtain ⟨it2,r2,p2⟩:=I.sq hq2
  obtain ⟨s1,s2,s3,s4,s5⟩:=st
  have l1:=r1.length
  have l2:=r2.length
  refine Bt (I.ok.hd hc) D ⟨s1,s2,s3,s4,s5,p1,p2⟩ (hx.elim (fun q=>.inl (by simp;omega)) fun q=>.inr (by simp;omega)) fun h' kp=>⟨rfl,I.turnedL (t':=s.toks) (fp:=[z,TI,TO,i1,i2]) (fun b o hb e=>kp b o (fun hm=>hb (by
   simp only [List.mem_cons,List.not_mem_nil,or_false] at hm ⊢
   rcases hm with e | e | e | e <;> simp [e])) e) hf⟩
 self:=fun A i s Q E st h=>wpAny_pyIter_zip st.1 h
def I0 (K:PySem.W.Frag) (b:Bool) (l:Addr):It :=
 ⟨fun i H=>∃ xs x,Sq b K H l xs∧xs[i]? = some x,
   fun i H x H'=>∃ p v,x=.ref p∧H p=none∧H' = upd H p (.tup [.int i,v])∧∀ xs,Sq b K H l xs->xs[i]? = some v,
   fun i H=>∃ xs,Sq b K H l xs∧xs.length ≤ i⟩
def Et (b:Bool) (e it l:Addr) (k:Nat) (h:Heap):Prop:=(∃ old,IsEnum h e it k old)∧lz b h it l k
theorem B8 {prog:Program} {w:World} {A:Around} {E:Value->Shared->Prop} {s:Shared} {es:List Expr} {x1} {pos:Pos} {e it T:Addr} {i:Int} {v:Value} {Q:Unit->Shared->Prop} (he:IsEnumOut s.heap e it i v T)
  (hQ:∀ h',(∃ old,IsEnum h' e it i old)->Heap.SameBut e s.heap h' -> Q () { s with heap:=h' }):wpAny (model prog w) A (letOwnedTupleGo (.Tuple es x1 pos) (.ref e) (.ref T)) Q E s:= by
 unfold letOwnedTupleGo
 refine wpAny_bind (wpAny_load he ?_)
 dsimp only
 split
 ·refine wpAny_bind (wpAny_rule ?_)
  refine wpAny_setField_rec he (by simp) fun h' he' sb=>hQ h' ⟨v,he'⟩ sb
 ·rename_i hno
  exact absurd (by simp) hno
theorem vz {P:Program} {w:World} {K:PySem.W.Frag} {es:List Expr} {x1} {pt:Pos} (b:Bool) {e it l:Addr} (hne:e ≠ it) (hqe:l ≠ e) (hqi:l ≠ it):Turn P w K (.Tuple es x1 pt) (I0 K b l) [e,it] e (Et b e it l) where
 mem:=by simp
 obj:=fun i h st c hc=>by
  obtain ⟨⟨old,s1⟩,s2⟩:=st
  simp only [List.mem_cons,List.not_mem_nil,or_false] at hc
  rcases hc with q | q <;> subst q
  ·exact ⟨_,s1,fun v q=>by cases q⟩
  ·cases b with
   | true=>obtain ⟨o,e,_,d⟩:=s2;exact ⟨o,e,fun v z=>by rw [d] at z;cases z⟩
   | false=>obtain ⟨o,e,_,d⟩:=s2;exact ⟨o,e,fun v z=>by rw [d] at z;cases z⟩
 keep:=fun i h h' st k=>by
  obtain ⟨⟨old,s1⟩,s2⟩:=st
  exact ⟨⟨old,k e (by simp) _ s1⟩,s2.at (k it (by simp))⟩
 item:= by
  intro X hP hw hK hc i pins s σ H E I hf st hg
  subst hP hw hK
  obtain ⟨xs,x,hq1,hx⟩:=hg
  obtain ⟨it1,r1,p1⟩:=I.sq hq1
  obtain ⟨u1,e1,ru1⟩:=r1.get hx
  obtain ⟨s1,s2⟩:=st
  refine vn hne hqe hqi ⟨s1,s2,p1⟩ (by simpa using e1) fun h' t1 t2 t3 hp kp=>?_
  have hel:e < s.heap.objs.size:=by obtain ⟨_,s1⟩:=s1;exact Heap.lt_size s1
  refine ⟨.ref s.heap.objs.size,rfl,B8 (s:={ s with heap:=h',toks:=s.toks + 1 }) t1 fun h2 z2 sb=>?_⟩
  have new2:IsPair h2 s.heap.objs.size (.int i s.toks) u1:=sb.extBut _ _ (Nat.ne_of_gt hel) hp
  refine ⟨.ref s.heap.objs.size,upd H s.heap.objs.size (.tup [.int i,x]),I.turnedN (t':=s.toks + 1) (fp:=[e,it]) (fun c o hb q=>sb.extBut _ _ (fun z=>hb (by rw [z];simp)) (kp c o (fun z=>hb (by rw [z];simp)) (fun z=>hb (by rw [z];simp)) q)) hf (Nat.le_refl _) ⟨by rw [sizeLine_eq];show 2 ≤ _;decide,[.int i s.toks,u1],.cons ⟨_,rfl⟩ (.cons ru1 .nil),⟨_,new2,rfl,_,rfl⟩,_,new2,rfl⟩,rfl,
   ⟨_,x,rfl,I.fresh,rfl,fun zs hz=>by rw [I.sq_inj hz hq1];exact hx⟩,⟨by obtain ⟨old,z2⟩:=z2;exact ⟨old,by simpa using z2⟩,t2.at fun o q=>sb.extBut _ _ hne.symm q⟩,fun c hb=>?_⟩
  have hb0:=(hf c hb).1
  rw [ax fun q=>?_]
  ·exact hb0
  ·have:c < s.heap.objs.size:= by
    simp only [List.mem_cons,List.not_mem_nil,or_false] at hb
    rcases hb with e | e <;> subst e
    ·exact hel
    ·exact s2.lt
   rw [q] at this
   exact Nat.lt_irrefl _ this
 done:= by
  intro X hP hw hK hc i pins s σ H E I hf st hg
  subst hP hw hK
  obtain ⟨xs,hq1,hx⟩:=hg
  obtain ⟨it1,r1,p1⟩:=I.sq hq1
  obtain ⟨s1,s2⟩:=st
  have l1:=r1.length
  exact xA (I.ok.hd hc) ⟨s1,s2,p1⟩ (by simp;omega) fun h' kp=>⟨rfl,I.turnedL (t':=s.toks) (fp:=[e,it]) (fun c o hb q=>kp c o (fun z=>hb (by rw [z];simp)) q) hf⟩
 self:=fun A i s Q E st h=>by
  obtain ⟨⟨old,s1⟩,_⟩:=st
  exact wpAny_pyIter_enum s1 h
end
end Jt
namespace Jt
open PySem L2
section
variable {X:Cx} {a b c0 e tg:Expr} {fa fb fc:M D} {fs fF fq:M (List D)} {pos p p2 apos cpos pt:Pos} {es rest:List Expr} {x:Str} {x1:Nat}
def oZ:D->Option (Bool × List D)
 | .tup ds=>some (true,ds)
 | .lst ds=>some (false,ds)
 | _=>none
theorem h9 {c:Ct} {δ:DS} {σ:St} {H:Hp} {K:PySem.W.Frag} {d:D} {v:V} {b:Bool} {xs:List D} (r:R (fV c δ σ H) d v) (e:oZ d=some (b,xs)):∃ p vs,v=.ref p∧Sq b K H p vs∧Rs (fV c δ σ H) xs vs:= by
 cases d with
 | tup ds=>
  cases e
  obtain ⟨p,vs,ev,h1,h2⟩:=r.tup
  exact ⟨p,vs,ev,.of (aQ _ _ h1),h2⟩
 | lst ds=>
  cases e
  obtain ⟨p,vs,ev,h1,h2⟩:=r.lst
  exact ⟨p,vs,ev,.inl (Rd.mono aQ h1),h2⟩
 | _=>cases e
def ia:List D->List D->List D
 | x :: xs,y :: ys=>.tup [x,y] :: ia xs ys
 | _,_=>[]
theorem qR:∀ {xs ys:List D} {i:Nat} {d:D},(ia xs ys)[i]? = some d->∃ x y,xs[i]? = some x∧ys[i]? = some y∧d=.tup [x,y]
 | x :: xs,y :: ys,0,d,h=>by cases h;exact ⟨x,y,rfl,rfl,rfl⟩
 | x :: xs,y :: ys,i + 1,d,h=>by
  obtain ⟨x',y',h1,h2,h3⟩:=qR (xs:=xs) (ys:=ys) (i:=i) (by simpa [ia] using h)
  exact ⟨x',y',by simpa using h1,by simpa using h2,h3⟩
 | [],_,i,d,h=>by simp [ia] at h
 | _ :: _,[],i,d,h=>by simp [ia] at h
theorem pG:∀ (xs ys:List D),(ia xs ys).length=min xs.length ys.length
 | x :: xs,y :: ys=>by simp [ia,pG xs ys,Nat.add_min_add_right]
 | [],_=>by simp [ia]
 | _ :: _,[]=>by simp [ia]
theorem Ed {ta:TA} (hg:Gl X "zip") (hm:X.mg "zip" = none) (ha:PA X [a,b] ta) (hs:starEach [a,b] X.env=[(false,eval a X.env),(false,eval b X.env)]:=by rfl) (hs2:starEach [b] X.env=[(false,eval b X.env)]:=by rfl) :
  PI X (.Tuple es x1 pt) (.Call (.Name "zip" p) [a,b] [] pos) (fun σ H R=>ta σ H fun vs H1=>∃ b1 b2 l1 l2 xs ys,vs=[.ref l1,.ref l2]∧Sq b1 X.K H1 l1 xs∧Sq b2 X.K H1 l2 ys∧R (Jg X.K b1 b2 l1 l2) H1):= by
 intro pins s σ H R I h
 refine PyProof.Rows.Call_ (gD I hg hm (show bootBuiltins "zip" = some (.type "zip") by decide +kernel) (PyProof.Rows.callWith_type1 (cg (ha pos pins s σ H _ I h) fun us s1 ⟨vs,H1,I1,r1,q1⟩=>?_) (by rw [hs,hs2]) (by rw [hs2];rfl)))
 obtain ⟨b1,b2,l1,l2,xs,ys,e,h1,h2,q⟩:=q1
 subst e
 obtain ⟨u1,u2,rfl,ru1,ru2⟩:=r1.two
 cases ru1
 cases ru2
 obtain ⟨i1s,rv1,p1⟩:=I1.sq h1
 obtain ⟨i2s,rv2,p2⟩:=I1.sq h2
 refine B0 p1 p2 fun h' z TI TO i1 i2 D st kp hnew=>?_
 have I2:Inv X pins σ H1 { s1 with heap:=h' }:=I1.kept (t':=s1.toks) kp
 obtain ⟨t1,t2,t3,t4,t5,_,_⟩:=st
 refine wpAny_pyIter_zip (s:={ s1 with heap:=h' }) t1 ⟨z,[z,TI,TO,i1,i2],_,_,H1,rfl,I2,w4 b1 b2 D ?_ ?_,⟨t1,t2,t3,t4,t5⟩,fun c hc=>?_,q⟩
 ·intro hc
  exact Nat.lt_irrefl _ (Nat.lt_of_lt_of_le p1.lt (hnew _ hc))
 ·intro hc
  exact Nat.lt_irrefl _ (Nat.lt_of_lt_of_le p2.lt (hnew _ hc))
 ·exact I1.fpOk (hnew c hc) (I1.hok.fresh (hnew c hc))
def ot:List D->Option jx
 | [x,y]=>match oZ x,oZ y with
  | some (_,xs),some (_,ys)=>some (aW (ia xs ys))
  | _,_=>none
 | _=>none
theorem zw {K:PySem.W.Frag} {b1 b2:Bool} {dx dy:D} {xs ys:List D} {l1 l2:Addr} (e1:oZ dx=some (b1,xs)) (e2:oZ dy=some (b2,ys)):FI (Jg K b1 b2 l1 l2) (aW (ia xs ys)) [dx,dy] [.ref l1,.ref l2]:=fun c δ S σ T H i s=>by
 obtain ⟨p1,vs,q1,h1,r1⟩:=h9 (K:=K) s.st.head e1
 obtain ⟨p2,us,q2,h2,r2⟩:=h9 (K:=K) s.st.tail.head e2
 cases q1
 cases q2
 refine ⟨fun act d ha hd=>?_,fun ei _=>⟨vs,us,h1,h2,?_⟩⟩
 ·obtain ⟨x,y,g1,g2,rfl⟩:=qR (fA ha hd)
  obtain ⟨v,gv,rv⟩:=r1.get g1
  obtain ⟨u,gu,ru⟩:=r2.get g2
  refine ⟨⟨vs,us,v,u,h1,h2,gv,gu⟩,fun z H' yl=>?_⟩
  obtain ⟨q,v',u',rfl,hq,rfl,y1,y2⟩:=yl
  have ev:=y1 vs h1
  have eu:=y2 us h2
  rw [gv] at ev;cases ev
  rw [gu] at eu;cases eu
  exact (s.stk (.cons rv (.cons ru s.st))).newTup (ds:=[x,y]) (vs:=[v,u]) rfl hq
 ·rw [r1.length,r2.length]
  have:(aW (ia xs ys)).1.length=min xs.length ys.length:=by simp [aW,pG]
  omega
theorem DD (hm:X.mg "zip" = none) (ha:DA X [a,b] fs) (hg:Gl X "zip":=by rfl) (hs:starEach [a,b] X.env=[(false,eval a X.env),(false,eval b X.env)]:=by rfl) (hs2:starEach [b] X.env=[(false,eval b X.env)]:=by rfl) :
  DI X (.Tuple es x1 pt) (.Call (.Name "zip" p) [a,b] [] pos) (mC ot fs):=rQ (Ed hg hm ha hs hs2) fun σ H Rr ⟨c,δ,S,T,it,δ',s,e,k⟩=>by
 obtain ⟨ds,δ1,e1,e⟩:=bind_some e
 obtain ⟨e2,rfl⟩:=aw e
 refine ⟨c,δ,S,T,ds,δ1,s,e1,fun vs H1 l s1=>?_⟩
 unfold ot at e2
 split at e2
 ·rename_i dx dy
  split at e2
  ·rename_i b1 xs b2 ys q1 q2
   cases e2
   obtain ⟨v,u,rfl,r1,r2⟩:=GW (s1.st.left l)
   obtain ⟨p1,vs,rfl,h1,_⟩:=h9 (K:=X.K) r1 q1
   obtain ⟨p2,us,rfl,h2,_⟩:=h9 (K:=X.K) r2 q2
   exact ⟨b1,b2,p1,p2,vs,us,rfl,h1,h2,k _ [dx,dy] [.ref p1,.ref p2] H1 rfl (zw q1 q2) s1⟩
  ·cases e2
 ·cases e2
def kz:Nat->List D->List D
 | _,[]=>[]
 | n,x :: xs=>.tup [.int n,x] :: kz (n + 1) xs
theorem qv:∀ {xs:List D} {n i:Nat} {d:D},(kz n xs)[i]? = some d->∃ x,xs[i]? = some x∧d=.tup [.int ((n + i:Nat):Int),x]
 | x :: xs,n,0,d,h=>by cases h;exact ⟨x,rfl,rfl⟩
 | x :: xs,n,i + 1,d,h=>by
  obtain ⟨x',h1,h2⟩:=qv (xs:=xs) (n:=n + 1) (i:=i) (by simpa [kz] using h)
  exact ⟨x',by simpa using h1,by rw [h2];congr 4;omega⟩
 | [],n,i,d,h=>by simp [kz] at h
theorem qg:∀ (xs:List D) (n:Nat),(kz n xs).length=xs.length
 | [],_=>rfl
 | x :: xs,n=>by simp [kz,qg xs]
theorem zT {ta:TA} (hg:Gl X "enumerate") (hm:X.mg "enumerate" = none) (ha:PA X [a] ta) (hs:starEach [a] X.env=[(false,eval a X.env)]:=by rfl) :
  PI X (.Tuple es x1 pt) (.Call (.Name "enumerate" p) [a] [] pos) (fun σ H R=>ta σ H fun vs H1=>∃ b1 l1 xs,vs=[.ref l1]∧Sq b1 X.K H1 l1 xs∧R (I0 X.K b1 l1) H1):= by
 intro pins s σ H R I h
 refine PyProof.Rows.Call_ (gD I hg hm (show bootBuiltins "enumerate" = some (.type "enumerate") by decide +kernel) (PyProof.Rows.callWith_type1 (cg (ha pos pins s σ H _ I h) fun us s1 ⟨vs,H1,I1,r1,q1⟩=>?_) hs rfl))
 obtain ⟨b1,l1,xs,e,h1,q⟩:=q1
 subst e
 obtain ⟨u1,rfl,ru1⟩:=r1.one
 cases ru1
 obtain ⟨i1s,rv1,p1⟩:=I1.sq h1
 refine wX p1 fun h' e it n1 n2 n3 st kp f1 f2=>?_
 have I2:Inv X pins σ H1 { s1 with heap:=h' }:=I1.kept (t':=s1.toks) kp
 obtain ⟨⟨old,t1⟩,t2,_⟩:=st
 refine wpAny_pyIter_enum (s:={ s1 with heap:=h' }) t1 ⟨e,[e,it],_,_,H1,rfl,I2,vz b1 n1 n2 n3,⟨⟨old,t1⟩,t2⟩,fun c hc=>?_,q⟩
 have hc':s1.heap.objs.size ≤ c:= by
  simp only [List.mem_cons,List.not_mem_nil,or_false] at hc
  rcases hc with z | z <;> rw [z] <;> assumption
 exact I1.fpOk hc' (I1.hok.fresh hc')
def jg:List D->Option jx
 | [x]=>match oZ x with
  | some (_,xs)=>some (aW (kz 0 xs))
  | _=>none
 | _=>none
theorem Bf {K:PySem.W.Frag} {b1:Bool} {dx:D} {xs:List D} {l1:Addr} (e1:oZ dx=some (b1,xs)):FI (I0 K b1 l1) (aW (kz 0 xs)) [dx] [.ref l1]:=fun c δ S σ T H i s=>by
 obtain ⟨p1,vs,q1,h1,r1⟩:=h9 (K:=K) s.st.head e1
 cases q1
 refine ⟨fun act d ha hd=>?_,fun ei _=>⟨vs,h1,?_⟩⟩
 ·obtain ⟨x,g1,rfl⟩:=qv (fA ha hd)
  obtain ⟨v,gv,rv⟩:=r1.get g1
  refine ⟨⟨vs,v,h1,gv⟩,fun z H' yl=>?_⟩
  obtain ⟨q,v',rfl,hq,rfl,y1⟩:=yl
  have ev:=y1 vs h1
  rw [gv] at ev;cases ev
  rw [Nat.zero_add]
  exact (s.stk (.cons .mkI (.cons rv s.st))).newTup (ds:=[.int i,x]) (vs:=[.int i,v]) rfl hq
 ·rw [r1.length]
  have:(aW (kz 0 xs)).1.length=xs.length:=by simp [aW,qg]
  omega
theorem uD (hm:X.mg "enumerate" = none) (ha:DA X [a] fs) (hg:Gl X "enumerate":=by rfl) (hs:starEach [a] X.env=[(false,eval a X.env)]:=by rfl) :
  DI X (.Tuple es x1 pt) (.Call (.Name "enumerate" p) [a] [] pos) (mC jg fs):=rQ (zT hg hm ha hs) fun σ H Rr ⟨c,δ,S,T,it,δ',s,e,k⟩=>by
 obtain ⟨ds,δ1,e1,e⟩:=bind_some e
 obtain ⟨e2,rfl⟩:=aw e
 refine ⟨c,δ,S,T,ds,δ1,s,e1,fun vs H1 l s1=>?_⟩
 unfold jg at e2
 split at e2
 ·rename_i dx
  split at e2
  ·rename_i b1 xs q1
   cases e2
   obtain ⟨v,rfl,r1⟩:=qX (s1.st.left l)
   obtain ⟨p1,vs,rfl,h1,_⟩:=h9 (K:=X.K) r1 q1
   exact ⟨b1,p1,vs,rfl,h1,k _ [dx] [.ref p1] H1 rfl (Bf q1) s1⟩
  ·cases e2
 ·cases e2
def bx (T:Ty) (d:D):Bool:=(lr T d).getD false
theorem vk (T:Ty) (d:D):lr T d=some (bx T d):=by cases T <;> cases d <;> rfl
def Ho (r1 r2:D->D->Option D) (fa fb fc:M D):M D:=do
 let x <- fa
 let y <- fb
 let z <- lift (r1 x y)
 match z with
 | .bl true=>do
  let w <- fc
  lift (r2 y w)
 | .bl false=>pure (.bl false)
 | _=>lift none
theorem v9 {op op':CmpOp} {g g':Int->Int->V} {h h':Int->Int->D} (ho:gc X (compareOp op) (vW g)) (ho':gc X (compareOp op') (vW g')) (hg:∀ H i j,R H (h i j) (g i j)) (hg':∀ H i j,R H (h' i j) (g' i j)) (ha:DE X a fa) (hb:DE X b fb) (hc:DE X c0 fc)
  (hm:lastMarks [op,op'] [b,c0]=false:=by with_unfolding_all rfl):DE X (.Compare a [op,op'] [b,c0] pos) (Ho (bT (fun _ _=>true) h) (bT (fun _ _=>true) h') fa fb fc):=b8 (yL ho ho' ha hb hc hm) fun σ H Q ⟨c,δ,S,T,d,δ',s,e,k⟩=>by
 obtain ⟨x,δ1,e1,e⟩:=bind_some e
 obtain ⟨y,δ2,e2,e⟩:=bind_some e
 obtain ⟨z,δ3,e3,e⟩:=bind_some e
 obtain ⟨e4,rfl⟩:=aw e3
 obtain ⟨i,j,rfl,rfl,_,rfl⟩:=dv e4
 refine ⟨c,δ,S,T,.int i,δ1,s,e1,fun v H1 s1=>⟨c,δ1,.int i :: S,v :: T,.int j,δ2,s1,e2,fun u H2 s2=>?_⟩⟩
 refine ⟨i,j,s2.st.tail.head.int,s2.st.head.int,?_⟩
 have rg:=hg (fV c δ2 σ H2) i j
 cases hz:h i j with
 | bl q=>
  rw [hz] at e rg
  refine ⟨q,rg.bl,?_⟩
  cases q with
  | true=>
   obtain ⟨w,δ4,e5,e⟩:=bind_some e
   obtain ⟨e6,rfl⟩:=aw e
   rw [if_pos rfl]
   obtain ⟨i',j',ei,rfl,_,rfl⟩:=dv e6
   cases ei
   exact ⟨c,δ2,.int j :: .int i :: S,u :: v :: T,.int j',δ4,s2,e5,fun w' H4 s4=>⟨j,j',s4.st.tail.head.int,s4.st.head.int,k _ _ (s4.stk (.cons (hg' _ _ _) s4.st.tail.tail.tail))⟩⟩
  | false=>
   obtain ⟨rfl,rfl⟩:=ao e
   rw [if_neg Bool.false_ne_true]
   exact k _ _ (s2.stk (.cons .mkB s2.st.tail.tail))
 | _=>rw [hz] at e;cases e
theorem Aq (ha:DE X a fa) (hb:DE X b fb) (hc:DE X c0 fc) (hm:lastMarks [.LtE,.Lt] [b,c0]=false:=by with_unfolding_all rfl):DE X (.Compare a [.LtE,.Lt] [b,c0] pos) (Ho FC rb fa fb fc):=v9 Cj ng (fun _ _ _=>.mkB) (fun _ _ _=>.mkB) ha hb hc hm
def CG (tt:M Bool) (body:M Fl):Nat->M Fl
 | 0=>lift none
 | n + 1=>do
  let b <- tt
  if b=true then do
   let fl <- body
   match fl with
   | .nx=>CG tt body n
   | .ct=>CG tt body n
   | .bk=>pure .nx
   | .rt d=>pure (.rt d)
   | .rf d=>pure (.rf d)
  else pure .nx
theorem yA {t:Expr} {sts:List Stmt} {tt:M Bool} {body:M Fl} (n:Nat) (ht:DT X t tt) (hb:q_ X sts body) (hp:PassesOwn (model X.prog X.w) X.A X.env X.xe:=by exact PassesOwn.never):o7 X (.While t sts [] pos) (CG tt body n) :=
 jm (v5 hp ht hb) fun E σ0 H0 ⟨c,δ0,S,T,fl,δ',s0,e0,k⟩=>by
  refine ⟨fun m σ H=>∃ δ,Sl c δ S σ T H∧CG tt body m δ=some (fl,δ'),⟨n,δ0,s0,e0⟩,?_⟩
  rintro m σ H ⟨δ,s,e⟩
  cases m with
  | zero=>cases e
  | succ m=>
   obtain ⟨b,δ1,e1,e⟩:=bind_some e
   refine ⟨c,δ,S,T,b,δ1,s,e1,fun H1 s1=>?_⟩
   cases b with
   | false=>
    rw [if_neg Bool.false_ne_true] at e ⊢
    obtain ⟨rfl,rfl⟩:=ao e
    exact k _ _ s1
   | true=>
    rw [if_pos rfl] at e ⊢
    obtain ⟨fl1,δ2,e2,e⟩:=bind_some e
    refine ⟨fun σ' H'=>∃ δi,Sl c δi S σ' T H' ∧ CG tt body m δi=some (fl,δ'),fun σ' H' q=>⟨m,Nat.lt_succ_self m,q⟩,c,δ1,S,T,fl1,δ2,s1,e2,?_⟩
    cases fl1 with
    | nx=>exact fun σ' H' s'=>⟨δ2,s',e⟩
    | ct=>exact fun σ' H' s'=>⟨δ2,s',e⟩
    | bk=>obtain ⟨rfl,rfl⟩:=ao e;exact k
    | rt d'=>obtain ⟨rfl,rfl⟩:=ao e;exact k
    | rf xs=>obtain ⟨rfl,rfl⟩:=ao e;exact k
inductive JA (f:M (Option Int)) (σ:St) (H:Hp) (Q:Option Int->Hp->Prop):Prop
 | mk (c:Ct) (δ:DS) (S:List D) (T:List V) (o:Option Int) (δ':DS) (s:Sl c δ S σ T H) (e:f δ=some (o,δ')) (q:∀ H',Sl c δ' S σ T H' -> Q o H'):JA f σ H Q
abbrev DO (X:Cx) (e:Option Expr) (f:M (Option Int)):Prop:=PO X e (JA f)
theorem Hg {e:Option Expr} {t t':TO} (h:PO X e t) (w:∀ σ H Q,t' σ H Q->t σ H Q):PO X e t':=fun pins s σ H Q I q=>h pins s σ H Q I (w σ H Q q)
theorem cU:DO X none (pure none):=Hg zX fun σ H Q ⟨c,δ,S,T,o,δ',s,e,k⟩=>by
 obtain ⟨rfl,rfl⟩:=ao e
 exact k _ s
def o8:D->M (Option Int)
 | .int i=>pure (some i)
 | _=>lift none
theorem cW (h:DE X e fa):DO X (some e) (fa >>= o8):=Hg (zL h) fun σ H Q ⟨c,δ,S,T,o,δ',s,e,k⟩=>by
 obtain ⟨d,δ1,e1,e⟩:=bind_some e
 refine ⟨c,δ,S,T,d,δ1,s,e1,fun v H' s'=>?_⟩
 cases d with
 | int i=>
  obtain ⟨rfl,rfl⟩:=ao e
  exact ⟨i,s'.st.head.int,k _ s'.pop⟩
 | _=>cases e
def Iy (K:PySem.W.Frag):V->Option Int->Option Int->Hp->VK->Prop:=fun x lo hi H Q=>∃ a xs,x=.ref a∧fI K H a xs∧(HT.sIx xs.length 0 lo=0∧HT.sIx xs.length xs.length hi=xs.length)∧Q (.ref a) H
theorem xf:C4 X (Iy X.K):= by
 intro pins s σ H x v vl vu lo hi sl Q I rx hs pl pu h
 obtain ⟨a,xs,rfl,hx,hw,q⟩:=h
 cases rx
 obtain ⟨its,r,ht,hz⟩:=I.tuple hx
 have hlen:its.toArray.size=xs.length:=by rw [List.size_toArray];exact r.length.symm
 refine ⟨"tuple",_,PyProof.Rows.slot_tuple_getitem.lookup,ht.typeIs,?_⟩
 exact qP ht hs pl pu (by rw [hlen];exact hw) ⟨.ref a,H,I,rfl,q⟩
def CZ (x:D) (lo hi:Option Int):Option D:=match x with
 | .tup xs=>some (.tup (cutD xs lo hi))
 | .lst xs=>some (.lst (cutD xs lo hi))
 | _=>none
def pK (fa:M D) (fl fh:M (Option Int)):M D:=do
 let x <- fa
 let lo <- fl
 let hi <- fh
 lift (CZ x lo hi)
theorem vg {α:Type} (xs:List α) (lo hi:Option Int) (h1:HT.sIx xs.length 0 lo=0) (h2:HT.sIx xs.length xs.length hi=xs.length):(xs.drop (HT.sIx xs.length 0 lo)).take (HT.sIx xs.length xs.length hi - HT.sIx xs.length 0 lo)=xs:= by
 rw [h1,h2];simp
theorem cf {lo hi:Option Expr} {fl fh:M (Option Int)} (he:DE X e fa) (hl:DO X lo fl) (hh:DO X hi fh):DE X (.Subscript e (.Slice lo hi none p2) pos) (pK fa fl fh):=b8 (yJ ((D6.or xf).or Ag) he hl hh) fun σ H Q ⟨c,δ,S,T,d,δ',s,e,k⟩=>by
 obtain ⟨x,δ1,e1,e⟩:=bind_some e
 obtain ⟨l,δ2,e2,e⟩:=bind_some e
 obtain ⟨h,δ3,e3,e⟩:=bind_some e
 obtain ⟨e4,rfl⟩:=aw e
 refine ⟨c,δ,S,T,x,δ1,s,e1,fun v H1 s1=>⟨c,δ1,x :: S,v :: T,l,δ2,s1,e2,fun H2 s2=>⟨c,δ2,x :: S,v :: T,h,δ3,s2,e3,fun H3 s3=>?_⟩⟩⟩
 cases x with
 | tup xs=>
  cases e4
  obtain ⟨q,vs,rfl,h1,h2⟩:=s3.st.head.tup
  by_cases hw:HT.sIx vs.length 0 l=0∧HT.sIx vs.length vs.length h=vs.length
  ·refine .inl (.inr ⟨q,vs,rfl,.of (aQ _ _ h1),hw,k _ _ ?_⟩)
   rw [h2.length] at hw
   rw [show cutD xs l h=xs from vg xs l h hw.1 hw.2]
   exact s3
  ·refine .inl (.inl ⟨q,vs,rfl,.of (aQ _ _ h1),hw,fun m hm=>k _ _ ?_⟩)
   have rc:=wC h2 l h
   exact (s3.stk (rc.append s3.st.tail)).newTup rc.length hm
 | lst xs=>
  cases e4
  obtain ⟨q,vs,rfl,h1,h2⟩:=s3.st.head.lst
  refine .inr ⟨q,vs,rfl,.inl (Rd.mono aQ h1),fun m hm=>k _ _ ?_⟩
  have rc:=wC h2 l h
  have s4:=s3.stk (rc.append s3.st.tail)
  obtain ⟨f1,f2,f3⟩:=s4.fresh hm
  exact (s4.hide (o:=.lst (oD vs l h)) hm).unhideL rc.length f1
 | _=>cases e4
end
end Jt
namespace Jt
open PySem L2
section
variable {X:Cx} {a b e:Expr} {fa fb:M D} {ha' hb':M Hn} {fs fF fq:M (List D)} {pos p p2 apos cpos pt:Pos} {es rest:List Expr} {x:Str}
theorem mM (i:Nat) {px:Pos} (hm:X.mg "tuple" = none) (hg:Gl X "tuple":=by rfl) (hN:X.N[i]? = some x:=by rfl) (hv:qT X.env.scope x:=by first | exact Or.inl rfl | exact Or.inr (Or.inl rfl) | exact Or.inr (Or.inr rfl)) (hd:(x == ("__debug__":Str))=false:=by decide) (hcd:(x == ("__classdict__":Str))=false:=by decide) :
  DE X (.Call (.Name "tuple" p) [.Name x px] [] pos) (do let xs <- aA i;pure (.tup xs)):=b8 (dX ij hg hm (by decide +kernel) (cY (dm hN hv hd hcd) fm) (by decide) (by decide) rfl rfl) fun σ H Q ⟨c,δ,S,T,fl,δ',s,e,k⟩=>by
 obtain ⟨xs,δ1,e1,e⟩:=bind_some e
 obtain ⟨rfl,rfl⟩:=ao e
 obtain ⟨⟨b,hi⟩,rfl⟩:=bj e1
 obtain ⟨q,vs,ev,hq,hx⟩:=s.own hi
 exact ⟨_,ev,q,vs,rfl,.inl ⟨.of hq,fun m hm=>k _ _ ((s.stk (hx.append s.st)).newTup hx.length hm)⟩⟩
end
abbrev aR {α:Type} (n:Nat) (mf:List D->Option α):List D->Option α:=fun ds=>if ds.length=n then mf ds else none
section
variable {P:Program} {w:World} {K:PySem.W.Frag} {mg:Str->Option Value} {base:Heap} {f:Addr} {fd:FuncData} {ps:List Str} {k n:Nat}
def C7 (K:PySem.W.Frag):Bool:=K.all fun p=>!(p.2.cls == Value.type "list")
theorem rd_of {H:Hp} {a:Addr} {xs:List V} (hK:C7 K=true) (h:gn K H a xs):Rd H a (.lst xs):= by
 rcases h with h | ⟨o,its,n,hk,hc,_⟩
 ·exact h
 ·have hm:∃ p ∈ K,p.2=o:= by
   clear hK
   induction K with
   | nil=>cases hk
   | cons q r ih=>
    rw [List.lookup_cons] at hk
    split at hk
    ·cases hk;exact ⟨q,List.mem_cons_self,rfl⟩
    ·obtain ⟨p,hp,e⟩:=ih hk
     exact ⟨p,List.mem_cons_of_mem _ hp,e⟩
  obtain ⟨p,hp,e⟩:=hm
  have:=List.all_eq_true.mp hK p hp
  rw [e,hc] at this
  simp at this
end
end Jt
namespace Jt
open PySem L2
def Ok {α:Type} (m:M α) (δ:DS) (Q:α->DS->Prop):Prop:=∃ a δ',m δ=some (a,δ')∧Q a δ'
theorem Ok.mono {α:Type} {m:M α} {δ:DS} {Q Q':α->DS->Prop} (h:Ok m δ Q) (k:∀ a δ',Q a δ' -> Q' a δ'):Ok m δ Q':=let ⟨a,δ',e,q⟩:=h;⟨a,δ',e,k a δ' q⟩
section
variable {α β:Type} {δ:DS} {Q:α->DS->Prop}
@[simp] theorem aq {m:M β} {f:β->M α}:Ok (m >>= f) δ Q ↔ Ok m δ fun a δ'=>Ok (f a) δ' Q:= by
 constructor
 ·rintro ⟨a,δ',e,q⟩
  obtain ⟨b,δ1,e1,e2⟩:=bind_some e
  exact ⟨b,δ1,e1,a,δ',e2,q⟩
 ·rintro ⟨b,δ1,e1,a,δ',e2,q⟩
  exact ⟨a,δ',by rw [M.bind_def,e1];exact e2,q⟩
@[simp] theorem ar {a:α}:Ok (pure a) δ Q ↔ Q a δ:= by
 constructor
 ·rintro ⟨b,δ',e,q⟩
  obtain ⟨rfl,rfl⟩:=ao e
  exact q
 ·exact fun q=>⟨a,δ,rfl,q⟩
@[simp] theorem aV {a:α}:Ok (lift (some a)) δ Q ↔ Q a δ:= by
 constructor
 ·rintro ⟨b,δ',e,q⟩
  obtain ⟨e1,rfl⟩:=aw e
  cases e1;exact q
 ·exact fun q=>⟨a,δ,rfl,q⟩
@[simp] theorem zW:Ok (lift (none:Option α)) δ Q ↔ False:=⟨fun ⟨_,_,e,_⟩=>(by cases e),False.elim⟩
theorem fZ {o:Option α} {a:α} (h:o=some a) (q:Q a δ):Ok (lift o) δ Q:=by subst h;exact aV.mpr q
@[simp] theorem Ij {c:Prop} [Decidable c] {m n:M α}:Ok (if c then m else n) δ Q ↔ (if c then Ok m δ Q else Ok n δ Q):=by split <;> exact Iff.rfl
end
section
variable {δ:DS}
@[simp] theorem aZ {i:Nat} {Q:D->DS->Prop}:Ok (ah i) δ Q ↔ ∃ d,δ[i]? = some (.pu d)∧Q d δ:= by
 constructor
 ·rintro ⟨d,δ',e,q⟩
  obtain ⟨e1,rfl⟩:=mr e
  exact ⟨d,e1,q⟩
 ·rintro ⟨d,e,q⟩
  exact ⟨d,δ,by unfold ah;rw [e],q⟩
@[simp] theorem bR {i:Nat} {d:D} {Q:Unit->DS->Prop}:Ok (bp i d) δ Q ↔ i < δ.length∧Q () (δ.set i (.pu d)):= by
 constructor
 ·rintro ⟨u,δ',e,q⟩
  obtain ⟨h,rfl⟩:=fz e
  exact ⟨h,q⟩
 ·rintro ⟨h,q⟩
  exact ⟨(),_,by unfold bp;rw [if_pos h],q⟩
@[simp] theorem HP {i:Nat} {d:List D} {Q:Unit->DS->Prop}:Ok (yh i d) δ Q ↔ i < δ.length∧Q () (δ.set i (.ow false d)):= by
 constructor
 ·rintro ⟨u,δ',e,q⟩
  obtain ⟨h,rfl⟩:=my e
  exact ⟨h,q⟩
 ·rintro ⟨h,q⟩
  exact ⟨(),_,by unfold yh;rw [if_pos h],q⟩
@[simp] theorem b5 {i:Nat} {Q:List D->DS->Prop}:Ok (aA i) δ Q ↔ ∃ b xs,δ[i]? = some (.ow b xs)∧Q xs δ:= by
 constructor
 ·rintro ⟨d,δ',e,q⟩
  obtain ⟨⟨b,e1⟩,rfl⟩:=bj e
  exact ⟨b,d,e1,q⟩
 ·rintro ⟨b,d,e,q⟩
  exact ⟨d,δ,by unfold aA;rw [e],q⟩
@[simp] theorem lj {i:Nat} {xs:List D} {Q:Unit->DS->Prop}:Ok (setOw i xs) δ Q ↔ ∃ b ys,δ[i]? = some (.ow b ys)∧Q () (δ.set i (.ow b xs)):= by
 constructor
 ·rintro ⟨u,δ',e,q⟩
  obtain ⟨b,ys,h,rfl⟩:=eB e
  exact ⟨b,ys,h,q⟩
 ·rintro ⟨b,ys,h,q⟩
  exact ⟨(),_,by unfold setOw;rw [h],q⟩
@[simp] theorem Hy {i:Nat} {Q:List D->DS->Prop}:Ok (mZ i) δ Q ↔ ∃ xs,δ[i]? = some (.ow false xs)∧Q xs (δ.set i .un):= by
 constructor
 ·rintro ⟨d,δ',e,q⟩
  unfold mZ at e
  split at e
  ·rename_i ys h;cases e;exact ⟨d,h,q⟩
  ·cases e
 ·rintro ⟨d,e,q⟩
  exact ⟨d,_,by unfold mZ;rw [e],q⟩
@[simp] theorem cM {i:Nat} {fa:M D} {Q:Fl->DS->Prop}:Ok (dN i fa) δ Q ↔ Ok fa δ fun d δ1=>i < δ1.length∧Q .nx (δ1.set i (.pu d)):= by
 unfold dN;simp
@[simp] theorem ym {i:Nat} {fa:M (List D)} {Q:Fl->DS->Prop}:Ok (vE i fa) δ Q ↔ Ok fa δ fun d δ1=>i < δ1.length∧Q .nx (δ1.set i (.ow false d)):= by
 unfold vE;simp
@[simp] theorem br {f g:M Fl} {Q:Fl->DS->Prop}:Ok (aK f g) δ Q ↔ Ok f δ fun fl δ1=>match fl with
  | .nx=>Ok g δ1 Q
  | fl=>Q fl δ1:= by
 unfold aK
 rw [aq]
 constructor <;>
 ·intro h
  refine h.mono fun fl δ1 q=>?_
  cases fl <;> simpa using q
theorem aG {f g:M Fl} {Q:Fl->DS->Prop} (P:DS->Prop) (h:Ok f δ fun fl δ1=>fl=.nx∧P δ1) (k:∀ δ1,P δ1->Ok g δ1 Q):Ok (aK f g) δ Q:= by
 rw [br]
 refine h.mono fun fl δ1 ⟨e,p⟩=>?_
 subst e
 exact k δ1 p
theorem jT {t:M Bool} {fa g:M Fl} {Q:Fl->DS->Prop} (b:Bool) (ht:Ok t δ fun b' δ1=>b' = b∧δ1=δ) (h1:b=true->Ok fa δ fun fl δ1=>∃ d,fl=.rt d∧Q (.rt d) δ1) (h2:b=false->Ok g δ Q):Ok (aK (g9 t fa (pure .nx)) g) δ Q:= by
 rw [br]
 unfold g9
 rw [aq]
 refine ht.mono fun b' δ1 ⟨e1,e2⟩=>?_
 subst e1;subst e2
 cases b' with
 | true=>
  refine Ok.mono (m:=fa) (h1 rfl) fun fl δ2 ⟨d,e,q⟩=>?_
  subst e
  exact q
 | false=>exact (ar (Q:=fun fl δ1=>_)).mpr (h2 rfl)
theorem cZ {α:Type} {t:M Bool} {fa fb:M α} {Q:α->DS->Prop} (P:Bool->DS->Prop) (ht:Ok t δ P) (h1:∀ δ1,P true δ1->Ok fa δ1 Q) (h2:∀ δ1,P false δ1->Ok fb δ1 Q):Ok (g9 t fa fb) δ Q:= by
 unfold g9
 rw [aq]
 refine ht.mono fun b δ1 p=>?_
 cases b with
 | true=>exact h1 δ1 p
 | false=>exact h2 δ1 p
@[simp] theorem yE {α:Type} {t:M Bool} {fa fb:M α} {Q:α->DS->Prop}:Ok (g9 t fa fb) δ Q ↔ Ok t δ fun b δ1=>if b=true then Ok fa δ1 Q else Ok fb δ1 Q:= by
 unfold g9;simp
@[simp] theorem oM {ta tb:M Bool} {Q:Bool->DS->Prop}:Ok (pW ta tb) δ Q ↔ Ok ta δ fun b δ1=>if b=true then Ok tb δ1 Q else Q false δ1:= by
 unfold pW;simp
@[simp] theorem gK {ta tb:M Bool} {Q:Bool->DS->Prop}:Ok (t_ ta tb) δ Q ↔ Ok ta δ fun b δ1=>if b=true then Q true δ1 else Ok tb δ1 Q:= by
 unfold t_;simp
@[simp] theorem dP {ta:M Bool} {Q:Bool->DS->Prop}:Ok (gB ta) δ Q ↔ Ok ta δ fun b δ1=>Q (!b) δ1:= by
 unfold gB;simp
@[simp] theorem dC {f:D->D->Option D} {fa fb:M D} {Q:D->DS->Prop}:Ok (m2 f fa fb) δ Q ↔ Ok fa δ fun x δ1=>Ok fb δ1 fun y δ2=>Ok (lift (f x y)) δ2 Q:= by
 unfold m2;simp
@[simp] theorem b9 {α:Type} {f:List D->Option α} {fs:M (List D)} {Q:α->DS->Prop}:Ok (mC f fs) δ Q ↔ Ok fs δ fun ds δ1=>Ok (lift (f ds)) δ1 Q:= by
 unfold mC;simp
@[simp] theorem xx {α:Type} {f:List D->Option α} {fs:M (List D)} {Q:α->DS->Prop}:Ok (mQ f fs) δ Q ↔ Ok fs δ fun ds δ1=>Ok (lift (f ds)) δ1 Q:= by
 unfold mQ;simp
@[simp] theorem ay {fa:M D} {fs:M (List D)} {Q:List D->DS->Prop}:Ok (af fa fs) δ Q ↔ Ok fa δ fun x δ1=>Ok fs δ1 fun xs δ2=>Q (x :: xs) δ2:= by
 unfold af;simp
@[simp] theorem hU {fs:M (List D)} {Q:D->DS->Prop}:Ok (b4 fs) δ Q ↔ Ok fs δ fun xs δ1=>Ok (lift (few xs.length)) δ1 fun _ δ2=>Q (.tup xs) δ2:= by
 unfold b4;simp
@[simp] theorem eK {fs:M (List D)} {Q:List D->DS->Prop}:Ok (df fs) δ Q ↔ Ok fs δ fun xs δ1=>Ok (lift (few xs.length)) δ1 fun _ δ2=>Q xs δ2:= by
 unfold df;simp
@[simp] theorem cw {n:Nat} {Q:Unit->DS->Prop}:Ok (lift (few n)) δ Q ↔ n ≤ 100000∧Q () δ:= by
 unfold few
 split
 ·rename_i h;rw [aV];exact ⟨fun q=>⟨h,q⟩,fun q=>q.2⟩
 ·rename_i h;rw [zW];exact ⟨False.elim,fun q=>h q.1⟩
@[simp] theorem gP {d:D} {Q:Bool->DS->Prop}:Ok (dq d) δ Q ↔ ∃ b,d=.bl b∧Q b δ:= by
 constructor
 ·rintro ⟨b,δ',e,q⟩
  obtain ⟨e1,rfl⟩:=kh e
  exact ⟨b,e1,q⟩
 ·rintro ⟨b,rfl,q⟩
  exact ⟨b,δ,rfl,q⟩
@[simp] theorem rn {d:D} {Q:Option Int->DS->Prop}:Ok (o8 d) δ Q ↔ ∃ i,d=.int i∧Q (some i) δ:= by
 cases d <;> simp [o8]
@[simp] theorem nQ {i:Nat} {fb:M D} {Q:D->DS->Prop}:Ok (lB i fb) δ Q ↔ (∃ b xs,δ[i]? = some (.ow b xs))∧Ok fb δ fun y δ1=>∃ b xs,δ1[i]? = some (.ow b xs)∧Ok (lift (cT (.lst xs) y)) δ1 Q:= by
 unfold lB
 simp only [aq,b5]
 constructor
 ·rintro ⟨b,xs,e,h⟩;exact ⟨⟨b,xs,e⟩,h⟩
 ·rintro ⟨⟨b,xs,e⟩,h⟩;exact ⟨b,xs,e,h⟩
@[simp] theorem Hs {i:Nat} {Q:D->DS->Prop}:Ok (kb i) δ Q ↔ ∃ b xs,δ[i]? = some (.ow b xs)∧Q (.int xs.length) δ:= by
 unfold kb;simp
@[simp] theorem FE {i:Nat} {fa:M D} {k:Int} {Q:Fl->DS->Prop}:Ok (nY i fa k) δ Q ↔ Ok fa δ fun d δ1=>∃ b xs,δ1[i]? = some (.ow b xs)∧Ok (lift (q0 xs.length k)) δ1 fun j δ2=>∃ b ys,δ2[i]? = some (.ow b ys)∧Q .nx (δ2.set i (.ow b (xs.set j d))):= by
 unfold nY;simp
theorem d_ {i:Nat} {fs:M (List D)} {Q:Fl->DS->Prop} (h0:∃ b xs,δ[i]? = some (.ow b xs)) (h:Ok fs δ fun ds δ1=>∃ d b xs,ds=[d]∧δ1[i]? = some (.ow b xs)∧xs.length ≤ 100000∧Q .nx (δ1.set i (.ow b (xs ++ [d])))):Ok (eN i fs) δ Q:= by
 unfold eN
 obtain ⟨b,xs,e⟩:=h0
 simp only [aq,b5]
 refine ⟨b,xs,e,h.mono fun ds δ1 q=>?_⟩
 obtain ⟨d,b',ys,rfl,e1,hn,q⟩:=q
 simp only [aq,b5,cw,lj,ar]
 exact ⟨b',ys,e1,hn,b',ys,e1,q⟩
theorem tX {i:Nat} {fs:M (List D)} {Q:D->DS->Prop} (h0:∃ b xs,δ[i]? = some (.ow b xs)) (h:Ok fs δ fun ds δ1=>∃ (j:Nat) (b:Bool) (xs:List D) (d:D),ds=[.int j]∧δ1[i]? = some (.ow b xs)∧j < 100000∧xs[j]? = some d∧Q d (δ1.set i (.ow b (xs.eraseIdx j)))):Ok (xr i fs) δ Q:= by
 unfold xr
 obtain ⟨b,xs,e⟩:=h0
 simp only [aq,b5]
 refine ⟨b,xs,e,h.mono fun ds δ1 q=>?_⟩
 obtain ⟨j,b',ys,d,rfl,e1,hn,e2,q⟩:=q
 simp only [aq,b5,lj,ar]
 refine ⟨b',ys,e1,fZ (a:=d) ?_ ⟨b',ys,e1,?_⟩⟩
 ·rw [if_pos (by omega),Int.toNat_natCast];exact e2
 ·rw [Int.toNat_natCast];exact q
@[simp] theorem HK {fa fb:M D} {Q:D->DS->Prop}:Ok (jL fa fb) δ Q ↔ Ok fa δ fun x δ1=>match x with
  | .bl true=>Ok fb δ1 Q
  | .bl false=>Q (.bl false) δ1
  | _=>False:= by
 unfold jL
 rw [aq]
 constructor <;>
 ·intro h
  refine h.mono fun x δ1 q=>?_
  cases x with
  | bl b=>cases b <;> simpa using q
  | _=>simpa using q
@[simp] theorem HY {fa:M D} {Q:D->DS->Prop}:Ok (yV fa) δ Q ↔ Ok fa δ fun x δ1=>match x with
  | .bl b=>Q (.bl (!b)) δ1
  | _=>False:= by
 unfold yV
 rw [aq]
 constructor <;>
 ·intro h
  refine h.mono fun x δ1 q=>?_
  cases x <;> simpa using q
@[simp] theorem tG {T:Ty} {fa:M D} {Q:D->DS->Prop}:Ok (iz T fa) δ Q ↔ Ok fa δ fun d δ1=>Q (.bl (bx T d)) δ1:= by
 unfold iz;simp [vk]
@[simp] theorem xu {fa:M D} {fl fh:M (Option Int)} {Q:D->DS->Prop}:Ok (pK fa fl fh) δ Q ↔ Ok fa δ fun x δ1=>Ok fl δ1 fun l δ2=>Ok fh δ2 fun h δ3=>Ok (lift (CZ x l h)) δ3 Q:= by
 unfold pK;simp
@[simp] theorem wJ {α:Type} {g:D->D->Option α} {fa fb:M Hn} {Q:α->DS->Prop}:Ok (vU g fa fb) δ Q ↔ Ok fa δ fun h1 δ1=>Ok fb δ1 fun h2 δ2=>Ok (rdH h1) δ2 fun x δ3=>Ok (rdH h2) δ3 fun y δ4=>Ok (lift (g x y)) δ4 Q:= by
 unfold vU;simp
@[simp] theorem x5 {x:D} {Q:D->DS->Prop}:Ok (rdH (.th x)) δ Q ↔ Q x δ:= by
 constructor
 ·rintro ⟨b,δ',e,q⟩;cases e;exact q
 ·exact fun q=>⟨x,δ,rfl,q⟩
@[simp] theorem Fq {i:Nat} {Q:D->DS->Prop}:Ok (rdH (.ls i)) δ Q ↔ ∃ b xs,δ[i]? = some (.ow b xs)∧Q (.lst xs) δ:= by
 constructor
 ·rintro ⟨d,δ',e,q⟩
  unfold rdH at e
  dsimp only at e
  split at e
  ·rename_i b xs h;cases e;exact ⟨b,xs,h,q⟩
  ·cases e
 ·rintro ⟨b,xs,h,q⟩
  exact ⟨_,δ,by unfold rdH;dsimp only;rw [h],q⟩
@[simp] theorem AO {i:Nat} {Q:Hn->DS->Prop}:Ok (Bb i) δ Q ↔ ∃ b xs,δ[i]? = some (.ow b xs)∧Q (.ls i) δ:= by
 unfold Bb;simp
@[simp] theorem i8 {i n:Nat} {mf:List D->List D->Option (D × List D)} {fs:M (List D)} {Q:D->DS->Prop}:Ok (bC i n mf fs) δ Q ↔ Ok fs δ fun ds δ1=>∃ b xs,δ1[i]? = some (.ow b xs)∧ds.length + 1=n∧∃ r,mf xs ds=some r∧Q r.1 (δ1.set i (.ow b r.2)):= by
 constructor
 ·rintro ⟨d,δ',e,q⟩
  unfold bC at e
  split at e
  ·cases e
  ·rename_i ds δ1 e1
   split at e
   ·rename_i b xs e2
    split at e
    ·rename_i hn
     split at e
     ·cases e
     ·rename_i d' xs' e3
      cases e
      exact ⟨ds,δ1,e1,b,xs,e2,hn,(d,xs'),e3,q⟩
    ·cases e
   ·cases e
 ·rintro ⟨ds,δ1,e,b,xs,e1,hn,⟨d,xs'⟩,e2,q⟩
  exact ⟨d,_,by unfold bC;rw [e];dsimp only;rw [e1];dsimp only;rw [if_pos hn,e2],q⟩
@[simp] theorem dH {gt:D->M Unit} {tt:M Bool} {te:M D} {d:D} {Q:Option D->DS->Prop}:Ok (bo gt tt te d) δ Q ↔ Ok (gt d) δ fun _ δ1=>Ok tt δ1 fun b δ2=>if b=true then Ok te δ2 fun x δ3=>Q (some x) δ3 else Q none δ2:= by
 unfold bo;simp
@[simp] theorem oJ {n:Nat} {g:List D->M Unit} {ds:List D} {Q:Unit->DS->Prop}:Ok (eL n g (.tup ds)) δ Q ↔ (if ds.length=n then Ok (g ds) δ Q else False):= by
 show Ok (if ds.length=n then g ds else lift none) δ Q ↔ _
 split <;> simp
@[simp] theorem g_ {f:D->M Unit} {g:List D->M Unit} {d:D} {ds:List D} {Q:Unit->DS->Prop}:Ok (bU f g (d :: ds)) δ Q ↔ Ok (f d) δ fun _ δ1=>Ok (g ds) δ1 Q:= by
 show Ok (f d >>= fun _=>g ds) δ Q ↔ _
 simp
@[simp] theorem kj {Q:Unit->DS->Prop}:Ok (gf []) δ Q ↔ Q () δ:= by
 show Ok (pure ()) δ Q ↔ _
 simp
end
section
variable {δ:DS}
theorem uh {lo own:Nat} {fi:M jx} {turn:D->M (Option D)} {Q:List D->DS->Prop} (ds:List D) (g:D->Option D) (hl:δ.length=lo) (hi:Ok fi δ fun it δ'=>it=aW ds∧δ' = δ) (hn:ds.length ≤ 100000)
  (ht:∀ d ∈ ds,Ok (turn d) (δ ++ List.replicate own .un) fun o δ2=>o=g d∧δ2.take lo=δ) (hQ:Q (ds.filterMap g) δ):Ok (aX lo own fi turn) δ Q:= by
 have gen:∀ es:List D,(∀ d ∈ es,d ∈ ds)->dj own turn (fun _=>true) (aW es).1 δ=some (es.filterMap g,δ):= by
  intro es
  induction es with
  | nil=>intro _;rfl
  | cons d es ih=>
   intro hs
   obtain ⟨o,δ2,e,rfl,e2⟩:=ht d (hs d List.mem_cons_self)
   show dj own turn (fun _=>true) ((fun _=>some d) :: (aW es).1) δ=_
   unfold dj
   dsimp only
   rw [e]
   dsimp only
   rw [hl,e2,ih fun x hx=>hs x (List.mem_cons_of_mem _ hx)]
   dsimp only
   rw [List.filterMap_cons]
   cases g d <;> rfl
 unfold aX
 simp only [aq]
 refine ⟨(),δ,by unfold ib;rw [if_pos hl],hi.mono fun it δ' ⟨e1,e2⟩=>?_⟩
 subst e1;subst e2
 refine cw.mpr ⟨by simpa [aW] using hn,ds.filterMap g,δ',gen ds fun _ h=>h,hQ⟩
theorem bP {α:Type} {lo own:Nat} {fi:M jx} {turn:D->M (Option D)} {Q:List D->DS->Prop} (as:List α) (e:α->D) (g:α->Option D) (hl:δ.length=lo) (hi:Ok fi δ fun it δ'=>it=aW (as.map e)∧δ' = δ) (hn:as.length ≤ 100000)
  (ht:∀ a ∈ as,Ok (turn (e a)) (δ ++ List.replicate own .un) fun o δ2=>o=g a∧δ2.take lo=δ) (hQ:Q (as.filterMap g) δ):Ok (aX lo own fi turn) δ Q:= by
 have gen:∀ es:List α,(∀ d ∈ es,d ∈ as)->dj own turn (fun _=>true) (aW (es.map e)).1 δ=some (es.filterMap g,δ):= by
  intro es
  induction es with
  | nil=>intro _;rfl
  | cons d es ih=>
   intro hs
   obtain ⟨o,δ2,e1,e0,e2⟩:=ht d (hs d List.mem_cons_self)
   show dj own turn (fun _=>true) ((fun _=>some (e d)) :: (aW (es.map e)).1) δ=_
   unfold dj
   dsimp only
   rw [e1]
   dsimp only
   rw [hl,e2,ih fun x hx=>hs x (List.mem_cons_of_mem _ hx)]
   dsimp only
   rw [List.filterMap_cons,<- e0]
   cases o <;> rfl
 unfold aX
 simp only [aq]
 refine ⟨(),δ,by unfold ib;rw [if_pos hl],hi.mono fun it δ' ⟨e1,e2⟩=>?_⟩
 subst e1;subst e2
 refine cw.mpr ⟨by simpa [aW] using hn,as.filterMap g,δ',gen as fun _ h=>h,hQ⟩
theorem b7 {α β:Type} (p:α->Bool) (f:α->β) (as:List α):(as.filterMap fun a=>if p a=true then some (f a) else none)=(as.filter p).map f:= by
 induction as with
 | nil=>rfl
 | cons a r ih=>
  rw [List.filterMap_cons,List.filter_cons,ih]
  cases p a <;> rfl
theorem dG {lo own:Nat} {fi:M jx} {turn:D->M (Option D)} {Q:List D->DS->Prop} (ds:List D) (I:Nat->List D->DS->Prop) (hl:δ.length=lo) (hi:Ok fi δ fun it δ'=>it=aW ds∧δ' = δ) (hn:ds.length ≤ 100000) (h0:I 0 [] δ)
  (ht:∀ k (hk:k < ds.length) acc δ,acc.length ≤ k->δ.length=lo->I k acc δ->Ok (turn ds[k]) (δ ++ List.replicate own .un) fun o δ2=>(δ2.take lo).length=lo∧I (k + 1) (acc ++ o.toList) (δ2.take lo)) (hQ:∀ xs δ',xs.length ≤ ds.length->δ'.length=lo->I ds.length xs δ' -> Q xs δ'):Ok (aX lo own fi turn) δ Q:= by
 have gen:∀ (n k:Nat) (acc:List D) (δ:DS),ds.length - k=n->k ≤ ds.length->acc.length ≤ k->δ.length=lo->I k acc δ->∃ xs δ',dj own turn (fun _=>true) (aW (ds.drop k)).1 δ=some (xs,δ')∧δ'.length=lo∧I ds.length (acc ++ xs) δ' ∧ (acc ++ xs).length ≤ ds.length:= by
  intro n
  induction n with
  | zero=>
   intro k acc δ hk hk2 h0 h1 h2
   have:k=ds.length:=by omega
   subst this
   rw [List.drop_length]
   exact ⟨[],δ,rfl,h1,by simpa using h2,by simpa using h0⟩
  | succ n ih=>
   intro k acc δ hk hk2 h0 h1 h2
   have hlt:k < ds.length:=by omega
   rw [List.drop_eq_getElem_cons hlt]
   obtain ⟨o,δ2,e,q1,q2⟩:=ht k hlt acc δ h0 h1 h2
   have ho:o.toList.length ≤ 1:=by cases o <;> simp
   obtain ⟨xs,δ',e',r1,r2,r3⟩:=ih (k + 1) (acc ++ o.toList) (δ2.take lo) (by omega) hlt (by rw [List.length_append];omega) q1 q2
   refine ⟨o.toList ++ xs,δ',?_,r1,by simpa using r2,by simpa using r3⟩
   show dj own turn (fun _=>true) ((fun _=>some ds[k]) :: (aW (ds.drop (k + 1))).1) δ=_
   unfold dj
   dsimp only
   rw [e]
   dsimp only
   rw [h1,e']
 unfold aX
 simp only [aq]
 refine ⟨(),δ,by unfold ib;rw [if_pos hl],hi.mono fun it δ' ⟨e1,e2⟩=>?_⟩
 subst e1;subst e2
 obtain ⟨xs,δ2,e,r1,r2,r3⟩:=gen ds.length 0 [] δ' (by omega) (Nat.zero_le _) (Nat.le_refl _) hl h0
 rw [List.drop_zero] at e
 exact cw.mpr ⟨by simpa [aW] using hn,xs,δ2,e,hQ xs δ2 (by simpa using r3) r1 (by simpa using r2)⟩
theorem su {i n k:Nat} {b:Bool} {xs:List D} (h:k < (cu i n).1.length) (hx:δ[i]? = some (.ow b xs)) (hn:xs.length=n):(cu i n).1[k] δ=xs[k]?:= by
 have e:=List.getElem_map (fun (j:Nat) (δ:DS)=>(match δ[i]? with | some (.ow _ xs)=>if xs.length=n then xs[j]? else none | _=>none:Option D)) (l:=List.range n) (i:=k) (h:=by simpa [cu] using h)
 refine Eq.trans (congrFun e δ) ?_
 rw [List.getElem_range,hx]
 simp [hn]
theorem wB {α:Type} {lo own i:Nat} {b:Bool} {fi:M jx} {turn:D->M (Option D)} {Q:List D->DS->Prop} (as:List α) (e:α->D) (g:α->Option D) (hl:δ.length=lo) (hx:δ[i]? = some (.ow b (as.map e))) (hi:Ok fi δ fun it δ'=>it=cu i as.length∧δ' = δ) (hn:as.length ≤ 100000)
  (ht:∀ a ∈ as,Ok (turn (e a)) (δ ++ List.replicate own .un) fun o δ2=>o=g a∧δ2.take lo=δ) (hQ:Q (as.filterMap g) δ):Ok (aX lo own fi turn) δ Q:= by
 have gen:∀ (n k:Nat),as.length - k=n->k ≤ as.length->dj own turn (cu i as.length).2 ((cu i as.length).1.drop k) δ=some ((as.drop k).filterMap g,δ):= by
  intro n
  induction n with
  | zero=>
   intro k hk hk2
   have:k=as.length:=by omega
   subst this
   rw [List.drop_length,List.drop_eq_nil_of_le (by simp [cu])]
   have ef:(cu i as.length).2 δ=true:=by simp [cu,hx]
   unfold dj
   rw [if_pos ef]
   rfl
  | succ n ih=>
   intro k hk hk2
   have hlt:k < as.length:=by omega
   have hlt2:k < (cu i as.length).1.length:=by simpa [cu] using hlt
   rw [List.drop_eq_getElem_cons hlt,List.drop_eq_getElem_cons hlt2]
   obtain ⟨o,δ2,e1,e0,e2⟩:=ht as[k] (List.getElem_mem hlt)
   unfold dj
   have ea:(cu i as.length).1[k] δ=some (e as[k]):= by
    rw [su hlt2 hx (by simp)]
    simp [hlt]
   rw [ea]
   dsimp only
   rw [e1]
   dsimp only
   rw [hl,e2,ih (k + 1) (by omega) hlt]
   dsimp only
   rw [List.filterMap_cons,<- e0]
   cases o <;> rfl
 unfold aX
 simp only [aq]
 refine ⟨(),δ,by unfold ib;rw [if_pos hl],hi.mono fun it δ' ⟨e1,e2⟩=>?_⟩
 subst e1;subst e2
 refine cw.mpr ⟨by simpa [cu] using hn,as.filterMap g,δ',?_,hQ⟩
 have:=gen as.length 0 (by omega) (Nat.zero_le _)
 rwa [List.drop_zero,List.drop_zero] at this
def Gx (gt:D->M Unit) (body:M Fl) (its:List (DS->Option D)) (fl:Fl):M Fl:=match fl with
 | .nx=>forM gt body (fun _=>true) its
 | .ct=>forM gt body (fun _=>true) its
 | .bk=>pure .nx
 | .rt d=>pure (.rt d)
 | .rf d=>pure (.rf d)
theorem vH (gt:D->M Unit) (body:M Fl) (its:List (DS->Option D)) {d:D} {δ δ1 δ2:DS} {u:Unit} {fl:Fl} (e1:gt d δ=some (u,δ1)) (e2:body δ1=some (fl,δ2)):forM gt body (fun _=>true) ((fun _=>some d) :: its) δ=Gx gt body its fl δ2:= by
 rw [forM]
 dsimp only
 rw [M.bind_def,e1]
 dsimp only
 rw [M.bind_def,e2]
 cases fl <;> rfl
theorem sA {gt:D->M Unit} {body:M Fl} {Q:Fl->DS->Prop} (ds:List D) (I:Nat->DS->Prop) (h0:I 0 δ)
  (ht:∀ k (hk:k < ds.length) δ,I k δ->Ok (gt ds[k]) δ fun _ δ1=>Ok body δ1 fun fl δ2=>match fl with
   | .nx=>I (k + 1) δ2
   | .ct=>I (k + 1) δ2
   | .bk=>Q .nx δ2
   | .rt d=>Q (.rt d) δ2
   | .rf d=>Q (.rf d) δ2) (hQ:∀ δ,I ds.length δ->Q .nx δ):Ok (forM gt body (aW ds).2 (aW ds).1) δ Q:= by
 have gen:∀ (n k:Nat) (δ:DS),ds.length - k=n->k ≤ ds.length->I k δ->Ok (forM gt body (fun _=>true) (aW (ds.drop k)).1) δ Q:= by
  intro n
  induction n with
  | zero=>
   intro k δ hk hk2 h
   have:k=ds.length:=by omega
   subst this
   rw [List.drop_length]
   exact ⟨.nx,δ,rfl,hQ δ h⟩
  | succ n ih=>
   intro k δ hk hk2 h
   have hlt:k < ds.length:=by omega
   rw [List.drop_eq_getElem_cons hlt]
   have ht':=ht k hlt δ h
   obtain ⟨u,δ1,e1,fl,δ2,e2,q⟩:=ht'
   have st:forM gt body (fun _=>true) (aW (ds[k] :: ds.drop (k + 1))).1 δ=Gx gt body (aW (ds.drop (k + 1))).1 fl δ2:= by
    show forM gt body (fun _=>true) ((fun _=>some ds[k]) :: (aW (ds.drop (k + 1))).1) δ=_
    exact vH gt body _ e1 e2
   cases fl with
   | nx=>obtain ⟨a,δ',e,q'⟩:=ih (k + 1) δ2 (by omega) hlt q;exact ⟨a,δ',st.trans e,q'⟩
   | ct=>obtain ⟨a,δ',e,q'⟩:=ih (k + 1) δ2 (by omega) hlt q;exact ⟨a,δ',st.trans e,q'⟩
   | bk=>exact ⟨.nx,δ2,st,q⟩
   | rt d=>exact ⟨.rt d,δ2,st,q⟩
   | rf d=>exact ⟨.rf d,δ2,st,q⟩
 have:=gen ds.length 0 δ (by omega) (Nat.zero_le _) h0
 rwa [List.drop_zero] at this
theorem jC {fi:M jx} {gt:D->M Unit} {body:M Fl} {Q:Fl->DS->Prop} (ds:List D) (I:Nat->DS->Prop) (hi:Ok fi δ fun it δ'=>it=aW ds∧δ' = δ) (h0:I 0 δ)
  (ht:∀ k (hk:k < ds.length) δ,I k δ->Ok (gt ds[k]) δ fun _ δ1=>Ok body δ1 fun fl δ2=>match fl with
   | .nx=>I (k + 1) δ2
   | .ct=>I (k + 1) δ2
   | .bk=>Q .nx δ2
   | .rt d=>Q (.rt d) δ2
   | .rf d=>Q (.rf d) δ2) (hQ:∀ δ,I ds.length δ->Q .nx δ):Ok (do let it <- fi;Jt.forM gt body it.2 it.1) δ Q:= by
 rw [aq]
 refine hi.mono fun it δ' ⟨e1,e2⟩=>?_
 subst e1;subst e2
 exact sA ds I h0 ht hQ
end
theorem ba {N:List Str} {body:M Fl} {ds:List D} {d:D} (h:Ok body (entry N ds) fun fl _=>fl=.rt d):aO N body ds=some d:= by
 obtain ⟨fl,δ',e,rfl⟩:=h
 unfold aO
 rw [e]
theorem dW {N:List Str} {body:M Fl} {xs ds:List D} {Q:D->List D->Prop} (h:Ok body (eA N xs ds) fun fl δ=>∃ d xs',fl=.rt d∧δ[0]? = some (.ow true xs')∧Q d xs'):∃ d xs',aY N body xs ds=some (d,xs')∧Q d xs':= by
 obtain ⟨fl,δ',e,d,xs',rfl,e1,q⟩:=h
 refine ⟨d,xs',?_,q⟩
 unfold aY
 rw [e]
 dsimp only
 rw [e1]
theorem oy {N:List Str} {body:M Fl} {ds:List D} {Q:D->Prop} (h:Ok body (entry N ds) fun fl _=>∃ d,fl=.rt d∧Q d):∃ d,aO N body ds=some d∧Q d:= by
 obtain ⟨fl,δ',e,d,rfl,q⟩:=h
 exact ⟨d,by unfold aO;rw [e],q⟩
theorem zv {N:List Str} {body:M Fl} {ds:List D} {Q:List D->Prop} (h:Ok body (entry N ds) fun fl _=>∃ d,fl=.rf d∧Q d):∃ d,oh N body ds=some d∧Q d:= by
 obtain ⟨fl,δ',e,d,rfl,q⟩:=h
 exact ⟨d,by unfold oh;rw [e],q⟩
end Jt
namespace Jt
open PySem L2 PySem.Spec PyProof.Rows
def Ic {α:Type} (g:Nat->Nat->Bool):PySem.W.KasT α->α
 | .ret a=>a
 | .ask i j k=>Ic g (k (g i j))
section
variable {prog:Program} {w:World} {A:Around} {E:Value->Shared->Prop} {s:Shared}
end
section
variable {X:Cx}
def Cp (K:PySem.W.Frag) (H:Hp):List V->List (List Int)->Prop
 | [],nss=>nss=[]
 | v :: vs,nss=>∃ p ns r,v=.ref p∧fI K H p (ns.map V.int)∧nss=ns :: r∧Cp K H vs r
theorem gY:∀ {vs:List V} {us:List Value},Vals vs us->∀ i:Nat,RelV (vs.getD i V.non) (us.getD i Value.none)
 | _,_,.nil,i=>by simpa using show RelV V.non Value.none from rfl
 | _,_,.cons r _,0=>by simpa using r
 | _,_,.cons _ h,i + 1=>by simpa using gY h i
theorem qK {f:Nat->V} {g:Nat->Value} (h:∀ i,RelV (f i) (g i)):∀ l:List Nat,Vals (l.map f) (l.map g)
 | []=>.nil
 | i :: l=>.cons (h i) (qK h l)
end
def fH:List D->Option (List (List Int))
 | []=>some []
 | .tup ds :: r=>match cq ds,fH r with
  | some ns,some nss=>some (ns :: nss)
  | _,_=>none
 | _=>none
theorem jh (nss:List (List Int)):fH (nss.map fun ns=>.tup (ns.map .int))=some nss:= by
 induction nss with
 | nil=>rfl
 | cons a r ih=>
  have:∀ h:List Int,cq (h.map .int)=some h:=fun h=>by
   induction h with
   | nil=>rfl
   | cons a r ih=>simp [cq,ih]
  simp [fH,ih,this]
theorem rO {K:PySem.W.Frag} {c:Ct} {δ:DS} {σ:L2.St} {H:Hp}:∀ {ds:List D} {vs:List V} {nss:List (List Int)},Rs (fV c δ σ H) ds vs->fH ds=some nss->Cp K H vs nss
 | [],vs,nss,h,e=>by
  cases e
  rw [h.inv0]
  rfl
 | d :: ds,vs,nss,h,e=>by
  obtain ⟨v,r,ev,h1,h2⟩:=h.inv
  cases d with
  | tup xs=>
   unfold fH at e
   cases q1:cq xs with
   | none=>rw [q1] at e;cases e
   | some ns=>
    cases q2:fH ds with
    | none=>rw [q1,q2] at e;cases e
    | some nr=>
     rw [q1,q2] at e
     cases e
     obtain ⟨p,us,eu,g1,g2⟩:=h1.tup
     subst ev
     subst eu
     have eus:=fU g2 q1
     subst eus
     exact ⟨p,ns,nr,rfl,.of (aQ _ _ g1),rfl,rO h2 q2⟩
  | _=>cases e
theorem t9 {H:Hp}:∀ {ds:List D} {vs:List V},Rs H ds vs->∀ i:Nat,R H (ds.getD i D.non) (vs.getD i V.non)
 | [],vs,h,i=>by
  rw [h.inv0]
  simpa using R.mkN
 | d :: ds,vs,h,i=>by
  obtain ⟨v,r,ev,h1,h2⟩:=h.inv
  subst ev
  cases i with
  | zero=>simpa using h1
  | succ i=>simpa using t9 h2 i
theorem x9 {H:Hp} {f:Nat->D} {g:Nat->V} (h:∀ i,R H (f i) (g i)):∀ l:List Nat,Rs H (l.map f) (l.map g)
 | []=>.nil
 | i :: l=>.cons (h i) (x9 h l)
section
variable {X:Cx} {e:Expr} {fq:M (List D)} {p pos:Pos}
end
end Jt
namespace Jt
open PySem L2
section
variable {X:Cx}
def never {α:Type}:M α:=fun _=>none
theorem wb {st:Stmt}:o7 X st never:=fun pins s σ H E I h=>by
 obtain ⟨c,δ,S,T,fl,δ',s,e,k⟩:=h
 cases e
end
section
variable {X:Cx} {a:Expr} {fs:M (List D)} {pos p apos cpos:Pos} {x:Str}
end
section
variable {X:Cx} {a:Expr} {ha':M Hn} {fs:M (List D)} {pos p:Pos} {es:List Expr} {x:Str}
variable {k:Nat} {f:Addr} {fd:FuncData} {ps:List Str}
open Classical in
end
end Jt
namespace Jt
open PySem L2
section
variable {X:Cx} {a:Expr} {fa:M D} {pos:Pos}
def v8:D->Option D
 | .int i=>some (.int (-i))
 | _=>none
def m1 (f:D->Option D) (fa:M D):M D:=do
 let x <- fa
 lift (f x)
theorem yD (ha:DE X a fa):DE X (.UnaryOp .USub a pos) (m1 v8 fa):=b8 (Cy yQ ha) fun σ H Q ⟨c,δ,S,T,d,δ',s,e,k⟩=>by
 obtain ⟨x,δ1,e1,e⟩:=bind_some e
 obtain ⟨e2,rfl⟩:=aw e
 refine ⟨c,δ,S,T,x,δ1,s,e1,fun v H' s'=>?_⟩
 cases x with
 | int i=>
  cases e2
  exact ⟨i,s'.st.head.int,k _ _ (s'.pop.stk (.cons .mkI s'.pop.st))⟩
 | _=>cases e2
end
end Jt
namespace Jt
open PySem L2
section
variable {δ:DS}
@[simp] theorem C_ {f:D->Option D} {fa:M D} {Q:D->DS->Prop}:Ok (m1 f fa) δ Q ↔ Ok fa δ fun x δ1=>Ok (lift (f x)) δ1 Q:= by
 unfold m1;simp
@[simp] theorem IC {r1 r2:D->D->Option D} {fa fb fc:M D} {Q:D->DS->Prop}:Ok (Ho r1 r2 fa fb fc) δ Q ↔ Ok fa δ fun x δ1=>Ok fb δ1 fun y δ2=>Ok (lift (r1 x y)) δ2 fun z δ3=>match z with
  | .bl true=>Ok fc δ3 fun w δ4=>Ok (lift (r2 y w)) δ4 Q
  | .bl false=>Q (.bl false) δ3
  | _=>False:= by
 unfold Ho
 simp only [aq]
 constructor <;>
 ·intro h
  refine h.mono fun x δ1 h=>h.mono fun y δ2 h=>h.mono fun z δ3 h=>?_
  cases z with
  | bl b=>cases b <;> simpa using h
  | _=>simpa using h
theorem tF {tt:M Bool} {body:M Fl} {Q:Fl->DS->Prop} (I:Nat->DS->Prop) (h:∀ k δ,I k δ->Ok tt δ fun b δ1=>(b=true->∃ j,k=j + 1∧Ok body δ1 fun fl δ2=>fl=.nx∧I j δ2)∧(b=false->Q .nx δ1)) :
  ∀ (f n:Nat) (δ:DS),n < f->I n δ->Ok (CG tt body f) δ Q
 | 0,n,δ,hf,_=>by omega
 | f + 1,n,δ,hf,hI=>by
  unfold CG
  rw [aq]
  refine (h n δ hI).mono fun b δ1 hb=>?_
  cases b with
  | false=>exact ar.mpr (hb.2 rfl)
  | true=>
   obtain ⟨j,rfl,hj⟩:=hb.1 rfl
   show Ok (body >>= _) δ1 Q
   rw [aq]
   refine hj.mono fun fl δ2 ⟨e,hI2⟩=>?_
   subst e
   exact tF I h f j δ2 (by omega) hI2
end
end Jt
namespace Jt
open PySem L2 PySem.Spec PyProof.Rows
section
variable {prog:Program} {w:World} {A:Around} {E:Value->Shared->Prop} {s:Shared}
theorem xF {t b:Addr} {ws:List Value} {Q:Value->Shared->Prop} (ht:IsTup s.heap t #[]) (hb:IsTup s.heap b ws.toArray) (h:Q (.ref b) s):wpAny (model prog w) A (binaryOp .Add (.ref t) (.ref b)) Q E s:= by
 obtain ⟨⟨cls,dd,data,sl⟩,ho,hc,n,hd⟩:=id ht
 obtain ⟨⟨cls2,dd2,data2,sl2⟩,ho2,hc2,n2,hd2⟩:=id hb
 simp only at hc hd hc2 hd2
 subst hc hd hc2 hd2
 exact concat_meets ⟨_,ho,rfl⟩ ⟨_,ho2,rfl⟩ noFill_tuple_add seq_tuple_add PySem.F.slot_tuple_add PySem.F.entry_tuple_add (PySem.F.args_tuple_add_2 _ _) (tuple_addW0 t b #[] ws.toArray n n2 dd dd2 sl sl2 rfl) ⟨ho,ho2,h⟩
end
section
variable {X:Cx} {a b e:Expr} {fa fb:M D} {pos:Pos}
def CN (K:PySem.W.Frag):R2:=fun x y H Q=>xw K x y H Q ∨ ∃ p q ys,x=.ref p∧y=.ref q∧fI K H p []∧fI K H q ys∧Q (.ref q) H
theorem BP:gc X (binaryOp .Add) (CN X.K):= by
 intro pins s σ H x y v u Q I rx ry h
 rcases h with h | ⟨p,q,ys,rfl,rfl,hp,hq,k⟩
 ·exact AJ pins s σ H x y v u Q I rx ry h
 ·cases rx
  cases ry
  obtain ⟨its,r1,p1,_⟩:=I.tuple hp
  obtain ⟨its2,r2,p2,_⟩:=I.tuple hq
  have e:its=[]:=r1.nil_iff.mpr rfl
  subst e
  exact xF p1 p2 ⟨.ref q,H,I,rfl,k⟩
def c_:D->D->Option D
 | .tup xs,.tup ys=>if xs.length + ys.length ≤ 100000 then some (.tup (xs ++ ys)) else none
 | _,_=>none
theorem yv {K:PySem.W.Frag}:qq (CN K) c_:=fun c δ S σ T H x y v u d Q s e k=>by
 unfold c_ at e
 split at e
 ·rename_i xs ys
  split at e
  ·rename_i hn
   cases e
   cases xs with
   | cons x xs=>
    refine .inl (xh c δ S σ T H (.tup (x :: xs)) (.tup ys) v u _ Q s ?_ k)
    show (if xs.length + 1 + ys.length ≤ 100000 then _ else _)=_
    rw [if_pos (by simpa using hn)]
   | nil=>
    obtain ⟨p,ws,rfl,h1,h3⟩:=s.st.tail.head.tup
    obtain ⟨q,zs,rfl,h4,h5⟩:=s.st.head.tup
    rw [h3.inv0] at h1
    exact .inr ⟨p,q,zs,rfl,rfl,.of (aQ _ _ h1),.of (aQ _ _ h4),k _ _ (s.stk (.cons s.st.head s.st.tail.tail))⟩
  ·cases e
 ·cases e
theorem eG (ha:DE X a fa) (hb:DE X b fb):DE X (.BinOp a .Add b pos) (m2 c_ fa fb):=jH BP yv ha hb
theorem Fz {pins:List (Addr × Obj)} {σ:L2.St} {H:Hp} {s:Shared} (I:L2.Inv X pins σ H s):s.heap.objs.size ≠ sysModules:=fun e=>by
 obtain ⟨_,_,_,ho,_⟩:=I.mod.glob
 have:=Heap.lt_size (I.bk _ _ ho)
 rw [e] at this
 exact absurd this (by decide)
theorem wQ:PE X (.Dict [] [] pos) (fun σ H Q=>∀ l,H l=none->Q (.ref l) (upd H l (kc l))):= by
 intro pins s σ H Q I h
 refine wpAny_Dict_empty ?_
 have g:(s.heap.push { cls:=.type "dict",data:=.dict #[] }).get? s.heap.objs.size=some { cls:=.type "dict",data:=.dict #[] }:=Heap.get?_push_size _ rfl
 refine ⟨.ref s.heap.objs.size,_,I.laid (t':=s.toks) (o:=kc s.heap.objs.size) (fun b ob q=>Heap.get?_push_of_some _ q) (Nat.le_refl _) ⟨⟨Fz I,_,_,g,rfl,rfl⟩,⟨_,g⟩,fun h1 h2 ⟨hn,o,n,e1,e2,e3⟩ k=>⟨hn,o,n,k o e1,e2,e3⟩⟩,rfl,h _ (I.hok.fresh (Nat.le_refl _))⟩
theorem yK:DE X (.Dict [] [] pos) (pure .dct):=b8 wQ fun σ H Q ⟨c,δ,S,T,d,δ',s,e,k⟩=>by
 obtain ⟨rfl,rfl⟩:=ao e
 intro l hl
 have s':=s.grow (eD hl (kc l))
 exact k _ _ (s'.stk (.cons (.mkD (eC.mpr ⟨s.hdNew hl,aI⟩)) s'.st))
end
end Jt
namespace Jt
open PySem L2 PySem.Spec PyProof.Rows
section
variable {prog:Program} {w:World} {A:Around} {E:Value->Shared->Prop} {s:Shared}
theorem jl {sl:Addr} {t:Tok} {n:Nat} {Q:Int × Int × Nat->Shared->Prop} (hs:s.heap.IsSliceOf sl .none .none (.int (-1) t)) (h:Q ((n:Int) - 1,-1,n) s):wpAny (model prog w) A (Builtin.Slice.sliceApplied (.ref sl) (pure (n:Int))) Q E s:= by
 obtain ⟨os,hos,hcs,hds⟩:=id hs
 unfold Builtin.Slice.sliceApplied Builtin.Slice.sliceFields
 refine wpAny_bind (wpAny_bind (wpAny_field hos hds (x:=.none) rfl (wpAny_bind (wpAny_field hos hds (x:=.none) rfl (wpAny_bind (wpAny_field hos hds (x:=.int (-1) t) rfl (wpAny_pure ?_)))))))
 refine wpAny_bind (HT.slicePart_ (.int (-1) t) ?_)
 show wpAny _ _ (if ((-1:Int) == 0)=true then _ else _) _ _ s
 rw [if_neg (by decide)]
 refine wpAny_bind (HT.slicePart_ .none (wpAny_bind (HT.slicePart_ .none (wpAny_bind (wpAny_pure ?_)))))
 show wpAny _ _ (match Builtin.Slice.sliceAdjust none none (-1) (n:Int) with | (lo,hi)=>pure (lo,(-1:Int),Builtin.Slice.slicePlaces lo hi (-1))) _ _ s
 have e1:Builtin.Slice.sliceAdjust none none (-1) (n:Int)=((n:Int) - 1,-1):=rfl
 rw [e1]
 show wpAny _ _ (pure ((n:Int) - 1,(-1:Int),Builtin.Slice.slicePlaces ((n:Int) - 1) (-1) (-1))) _ _ s
 have e2:Builtin.Slice.slicePlaces ((n:Int) - 1) (-1) (-1)=n:= by
  unfold Builtin.Slice.slicePlaces
  rw [if_neg (by omega)]
  by_cases h0:n=0
  ·subst h0;rfl
  ·rw [if_pos (by omega)]
   have:((n:Int) - 1 - -1 - 1) / -(-1)=(n:Int) - 1:= by
    rw [show -(-1:Int)=1 from rfl,Int.ediv_one]
    omega
   rw [this]
   omega
 rw [e2]
 exact wpAny_pure h
theorem qD {α β:Type} {f g:α->Option β}:∀ l:List α,(∀ x ∈ l,f x=g x)->l.filterMap f=l.filterMap g
 | [],_=>rfl
 | a :: r,h=>by
  rw [List.filterMap_cons,List.filterMap_cons,h a List.mem_cons_self,qD r fun x hx=>h x (List.mem_cons_of_mem _ hx)]
theorem yn (xs:Array Value):((List.range xs.size).filterMap fun (m:Nat)=>xs[((xs.size:Int) - 1 + (m:Int) * (-1)).toNat]?).toArray=xs.toList.reverse.toArray:= by
 congr 1
 have:∀ m ∈ List.range xs.size,xs[((xs.size:Int) - 1 + (m:Int) * (-1)).toNat]? = some (xs.toList.reverse.getD m Value.none):=fun m hm=>by
  have hm':m < xs.size:=List.mem_range.mp hm
  rw [show ((xs.size:Int) - 1 + (m:Int) * (-1)).toNat=xs.size - 1 - m by omega]
  have h1:xs.size - 1 - m < xs.size:=by omega
  rw [List.getD_eq_getElem?_getD,List.getElem?_eq_getElem (by simpa using hm'),List.getElem_reverse]
  simp [h1]
 have e:(List.range xs.size).filterMap (fun (m:Nat)=>xs[((xs.size:Int) - 1 + (m:Int) * (-1)).toNat]?)=(List.range xs.size).filterMap fun m=>some (xs.toList.reverse.getD m Value.none):= by
  exact qD _ this
 rw [e,List.filterMap_eq_map']
 refine List.ext_getElem (by simp) fun i h1 h2=>?_
 have:i < xs.size:=by simpa using h1
 simp [this]
theorem iQ {a sl:Addr} {items:Array Value} {t:Tok} {Q:Value->Shared->Prop} (ht:IsTup s.heap a items) (hs:s.heap.IsSliceOf sl .none .none (.int (-1) t))
  (h:Q (.ref s.heap.objs.size) { s with heap:=s.heap.push { cls:=.type "tuple",data:=.seq items.toList.reverse.toArray } }) (hsz:items.size ≤ sizeLine):wpAny (model prog w) A (getItem (.ref a) (.ref sl)) Q E s:= by
 have htake:sizeOk (.seq items.toList.reverse.toArray):= by
  show items.toList.reverse.toArray.size ≤ sizeLine
  simpa using hsz
 obtain ⟨os,hos,hcs,hds⟩:=id hs
 have hTs:s.TypeIs (.ref sl) "slice":=⟨os,hos,hcs⟩
 unfold getItem
 try with_reducible refine wpAny_holding ?_
 first | refine wpAny_bind (wpAny_pure ?_) | skip
 refine wpAny_bind (wpAny_sequenceKey ht.typeIs (by decide) ?_)
 refine wpAny_bind (wpAny_callSpecial?_slot (name:=Str.ofString "__getitem__") ht.typeIs slot_tuple_getitem (wpAny_call_entry slot_tuple_getitem ht.typeIs entry_tuple_getitem ?_ (args_tuple_getitem _ _)))
 show wpAny _ _ (Builtin.Tuple.tupleItemsOf (.ref a) >>= _) _ _ s
 refine wpAny_bind (tupleItemsOf_ ht (wpAny_bind (wpAny_typeOf hTs ?_)))
 rw [if_pos (by decide)]
 refine wpAny_bind (jl hs ?_)
 have hno:¬ (((((items.size:Int) - 1) == 0 && (-1:Int) == 1 && items.size == items.size)=true)):=by simp
 show wpAny _ _ (if ((((items.size:Int) - 1) == 0 && (-1:Int) == 1 && items.size == items.size)=true) then _ else _) _ _ s
 rw [if_neg hno,yn]
 first
  | exact wpAny_bind (m:=Builtin.Tuple.tupleExact _) (wpAny_newObj_type (wpAny_pure ⟨_,rfl,wpAny_pure h⟩) htake)
  | exact wpAny_bind (m:=Builtin.Tuple.tupleExact _) (wpAny_newObj_type (wpAny_bind (wpAny_pure (wpAny_pure ⟨_,rfl,wpAny_pure h⟩))) htake)
  | exact wpAny_bind (wpAny_bind (m:=Builtin.Tuple.tupleExact _) (wpAny_newObj_type (wpAny_pure (wpAny_pure ⟨_,rfl,wpAny_pure h⟩)) htake))
  | exact wpAny_bind (wpAny_bind (m:=Builtin.Tuple.tupleExact _) (wpAny_newObj_type (wpAny_pure ⟨_,rfl,wpAny_pure h⟩) htake))
end
section
variable {X:Cx} {e:Expr} {te:TE} {fa:M D} {j:Nat} {pos p2 p3 p4:Pos}
theorem vY {vs:List V} {us:List Value} (r:Vals vs us):Vals vs.reverse us.reverse:= by
 induction r with
 | nil=>exact .nil
 | cons h _ ih=>rw [List.reverse_cons,List.reverse_cons];exact ih.append (.cons h .nil)
theorem Fo (he:PE X e te):PE X (.Subscript e (.Slice none none (some (.UnaryOp .USub (.Constant (.int 1) j p3) p4)) p2) pos) (fun σ H Q=>te σ H fun x H1=>∃ a xs,x=.ref a∧fI X.K H1 a xs∧∀ l,H1 l=none->Q (.ref l) (upd H1 l (.tup xs.reverse))):= by
 intro pins s σ H Q I h
 refine Subscript_ (cg (he pins s σ H _ I h) fun v s1 ⟨x,H1,I1,r1,q1⟩=>?_)
 obtain ⟨a,xs,rfl,hx,q⟩:=q1
 cases r1
 refine wpAny_Slice ?_
 rw [evalPart_none]
 refine wpAny_pure (wpAny_pure ?_)
 rw [evalPart_some]
 refine cg ((Cy yQ rH) pins s1 σ H1 (fun v H'=>v=.int (-1)∧H' = H1) I1 ⟨1,rfl,rfl,rfl⟩) fun v2 s2 ⟨y,H2,I2,r2,e2,e3⟩=>?_
 subst e2
 subst e3
 obtain ⟨t,rfl⟩:=r2
 have I4:Inv X pins σ H2 { s2 with heap:=s2.heap.push { cls:=.type "slice",data:=.fields #[.none,.none,.int (-1) t] } }:=I2.kept (t':=s2.toks) fun b ob q=>Heap.get?_push_of_some _ q
 obtain ⟨its,r,ht,hz⟩:=I4.tuple hx
 have hlen:its.toArray.size=xs.length:=by rw [List.size_toArray];exact r.length.symm
 refine tail_any (ops:=[.ref a,.ref s2.heap.objs.size]) ht.typeIs slot_tuple_getitem.lookup (iQ ht (Heap.IsSliceOf.new ..) ?_ (by rw [hlen];exact hz)) (by with_unfolding_all rfl)
 refine ⟨.ref _,_,I4.laid (t':=s2.toks) (o:=.tup xs.reverse) (fun b ob q=>Heap.get?_push_of_some _ q) (Nat.le_refl _) ?_,rfl,q _ (I4.hok.fresh (Nat.le_refl _))⟩
 exact ⟨by rw [List.length_reverse];exact hz,_,vY r,pw.new _ _⟩
theorem yM {H:Hp}:∀ {ds:List D} {vs:List V},Rs H ds vs->Rs H ds.reverse vs.reverse
 | [],vs,h=>by rw [h.inv0];exact .nil
 | d :: ds,vs,h=>by
  obtain ⟨v,r,ev,h1,h2⟩:=h.inv
  subst ev
  rw [List.reverse_cons,List.reverse_cons]
  exact (yM h2).append (.cons h1 .nil)
def EH:D->Option D
 | .tup xs=>some (.tup xs.reverse)
 | _=>none
theorem Fi (he:DE X e fa):DE X (.Subscript e (.Slice none none (some (.UnaryOp .USub (.Constant (.int 1) j p3) p4)) p2) pos) (m1 EH fa):=b8 (Fo he) fun σ H Q ⟨c,δ,S,T,d,δ',s,e,k⟩=>by
 obtain ⟨x,δ1,e1,e⟩:=bind_some e
 obtain ⟨e2,rfl⟩:=aw e
 refine ⟨c,δ,S,T,x,δ1,s,e1,fun v H' s'=>?_⟩
 cases x with
 | tup xs=>
  cases e2
  obtain ⟨a,vs,rfl,h1,h2⟩:=s'.st.head.tup
  refine ⟨a,vs,rfl,.of (aQ _ _ h1),fun l hl=>?_⟩
  have s1:=s'.stk ((yM h2).append s'.st.tail)
  exact k _ _ (s1.newTup (by rw [List.length_reverse,List.length_reverse,h2.length]) hl)
 | _=>cases e2
end
section
variable {X:Cx} {a:Expr} {fa:M D} {fs:M (List D)} {es us:List Expr} {vs:List (Option Expr)} {pos p2:Pos} {j:Nat} {c:Const} {o:UnaryOp} {env:Env}
theorem AA {t:Option Expr} {l:Nat}:swapsWith (.List es p2) t l env=pure false:=rfl
theorem yP:starEach (.Constant c j p2 :: es) env=(false,eval (.Constant c j p2) env) :: starEach es env:=rfl
theorem El:starEach (.Tuple us j p2 :: es) env=(false,eval (.Tuple us j p2) env) :: starEach es env:=rfl
theorem Dp:starEach (.List us p2 :: es) env=(false,eval (.List us p2) env) :: starEach es env:=rfl
theorem Dj:starEach (.Dict vs us p2 :: es) env=(false,eval (.Dict vs us p2) env) :: starEach es env:=rfl
theorem Gm:starEach (.UnaryOp o a p2 :: es) env=(false,eval (.UnaryOp o a p2) env) :: starEach es env:=rfl
theorem lP (ha:DE X (.Constant c j p2) fa) (hr:DA X es fs):DA X (.Constant c j p2 :: es) (af fa fs):=ab ha hr yP
theorem jw (ha:DE X (.Tuple us j p2) fa) (hr:DA X es fs):DA X (.Tuple us j p2 :: es) (af fa fs):=ab ha hr El
theorem F7 (ha:DE X (.List us p2) fa) (hr:DA X es fs):DA X (.List us p2 :: es) (af fa fs):=ab ha hr Dp
theorem Ja (ha:DE X (.Dict vs us p2) fa) (hr:DA X es fs):DA X (.Dict vs us p2 :: es) (af fa fs):=ab ha hr Dj
theorem Jj (ha:DE X (.UnaryOp o a p2) fa) (hr:DA X es fs):DA X (.UnaryOp o a p2 :: es) (af fa fs):=ab ha hr Gm
theorem ur {X:Cx} (i:Nat) (x:Str) (e:Expr) (fa:M D) (pos pos':Pos) (hN:X.N.Nodup) (hi:X.N[i]? = some x) (hx:Loc X.env.scope x) (hf:X.fn x=true ∨ X.env.scope.names.lookup x=some .local) (hs:swapsWith e (some (.Name x pos')) pos.line X.env=pure false) (he:DE X e fa):o7 X (.Assign [.Name x pos'] e pos) (dN i fa):=a_ i hN he hi hx hs hf
end
theorem cX (neg:Bool) (a b:Int):ck neg (.int a) (.int b)=some (.bl (if neg then !decide (a=b) else decide (a=b))):= by
 show (if l0 (.int a) (.int b)=true then some (D.bl (if neg then !decide (V.int a=V.int b) else decide (V.int a=V.int b))) else none)=_
 rw [if_pos (show l0 (.int a) (.int b)=true from rfl)]
 simp only [V.int.injEq]
theorem D2 (neg:Bool) (a b:Int):iL neg (.int a) (.int b)=some (.bl (if neg then !decide (a=b) else decide (a=b))):=cX neg a b
@[simp] theorem zK:bx .int .non=false:=rfl
@[simp] theorem CT (b:Bool):bx .int (.bl b)=true:=rfl
@[simp] theorem AH (i:Int):bx .int (.int i)=true:=rfl
@[simp] theorem zB (x:Str):bx .int (.str x)=false:=rfl
@[simp] theorem Ak (xs:List D):bx .int (.tup xs)=false:=rfl
@[simp] theorem AB (xs:List D):bx .int (.lst xs)=false:=rfl
@[simp] theorem B2:bx .int .dct=false:=rfl
@[simp] theorem zt (k:List (Int × Int)):bx .int (.dic k)=false:=rfl
@[simp] theorem Bk (k:List ((Int × Int) × Int)):bx .int (.dip k)=false:=rfl
@[simp] theorem zo:bx .bool .non=false:=rfl
@[simp] theorem B6 (b:Bool):bx .bool (.bl b)=true:=rfl
@[simp] theorem zf (i:Int):bx .bool (.int i)=false:=rfl
@[simp] theorem zj (x:Str):bx .bool (.str x)=false:=rfl
@[simp] theorem zm (xs:List D):bx .bool (.tup xs)=false:=rfl
@[simp] theorem zg (xs:List D):bx .bool (.lst xs)=false:=rfl
@[simp] theorem zb:bx .bool .dct=false:=rfl
@[simp] theorem y_ (k:List (Int × Int)):bx .bool (.dic k)=false:=rfl
@[simp] theorem ze (k:List ((Int × Int) × Int)):bx .bool (.dip k)=false:=rfl
@[simp] theorem Ab:bx .tup .non=false:=rfl
@[simp] theorem CV (b:Bool):bx .tup (.bl b)=false:=rfl
@[simp] theorem zF (i:Int):bx .tup (.int i)=false:=rfl
@[simp] theorem BQ (x:Str):bx .tup (.str x)=false:=rfl
@[simp] theorem zJ (xs:List D):bx .tup (.tup xs)=true:=rfl
@[simp] theorem zy (xs:List D):bx .tup (.lst xs)=false:=rfl
@[simp] theorem AU:bx .tup .dct=false:=rfl
@[simp] theorem Ao (k:List (Int × Int)):bx .tup (.dic k)=false:=rfl
@[simp] theorem Bj (k:List ((Int × Int) × Int)):bx .tup (.dip k)=false:=rfl
@[simp] theorem Ae:bx .lst .non=false:=rfl
@[simp] theorem CP (b:Bool):bx .lst (.bl b)=false:=rfl
@[simp] theorem Ax (i:Int):bx .lst (.int i)=false:=rfl
@[simp] theorem BR (x:Str):bx .lst (.str x)=false:=rfl
@[simp] theorem BB (xs:List D):bx .lst (.tup xs)=false:=rfl
@[simp] theorem zY (xs:List D):bx .lst (.lst xs)=true:=rfl
@[simp] theorem zO:bx .lst .dct=false:=rfl
@[simp] theorem Aw (k:List (Int × Int)):bx .lst (.dic k)=false:=rfl
@[simp] theorem zU (k:List ((Int × Int) × Int)):bx .lst (.dip k)=false:=rfl
@[simp] theorem zQ:bx .str .non=false:=rfl
@[simp] theorem Cn (b:Bool):bx .str (.bl b)=false:=rfl
@[simp] theorem zP (i:Int):bx .str (.int i)=false:=rfl
@[simp] theorem AQ (x:Str):bx .str (.str x)=true:=rfl
@[simp] theorem zZ (xs:List D):bx .str (.tup xs)=false:=rfl
@[simp] theorem Av (xs:List D):bx .str (.lst xs)=false:=rfl
@[simp] theorem Ay:bx .str .dct=false:=rfl
@[simp] theorem A5 (k:List (Int × Int)):bx .str (.dic k)=false:=rfl
@[simp] theorem zG (k:List ((Int × Int) × Int)):bx .str (.dip k)=false:=rfl
end Jt
namespace Jt
open PySem L2 PySem.Spec PyProof.Rows
section
variable {prog:Program} {w:World} {A:Around} {E:Value->Shared->Prop} {s:Shared}
end
section
variable {X:Cx} {e:Expr} {fa:M D} {pos:Pos}
end
end Jt
namespace Jt
open PySem L2
open PyProof.Rows (AllBare)
section
variable {M:Model} {A:Around} {E:Value->Shared->Prop} {s:Shared} {base:Heap} {env:Env} {outer:List Env} {L e:Addr} {oe:Obj} {vs ws:Array Value} {head fl:Value} {hadNext:Bool} {Q:Unit->Shared->Prop}
end
section
variable {X:Cx} {pins:List (Addr × Obj)} {σ:St} {H:Hp} {s s':Shared} {h':Heap}
end
end Jt
namespace Jt
open PySem L2
open PyProof.Rows (AllBare)
abbrev XW:=St->Value->Hp->Prop
abbrev JG:=Ends->XW->XW->St->Hp->Prop
section
variable {X:Cx} {e c:Expr} {es:List Expr} {st:Stmt} {rest as bs:List Stmt} {pos p:Pos}
end
end Jt
namespace Jt
open PySem L2
section
variable {X:Cx} {a b e:Expr} {fa fb:M D} {fs:M (List D)} {pos p:Pos}
def mE:=bT (fun i j=>decide (Builtin.Int.intBits i + Builtin.Int.intBits j ≤ 134217728)) fun i j=>.int (i * j)
theorem B7:gc X (binaryOp .Mult) (rI (fun i j=>Builtin.Int.intBits i + Builtin.Int.intBits j ≤ 134217728) fun i j=>.int (i * j)):=HJ fun i j _ _ _ _ _ hc q=>PyProof.Rows.mul_int q (PyProof.Rows.mulOk_of_bits (Nat.le_refl _) (Nat.le_refl _) hc)
theorem uQ (ha:DE X a fa) (hb:DE X b fb):DE X (.BinOp a .Mult b pos) (m2 mE fa fb):=jH B7 (qu (fun i j h=>of_decide_eq_true h) fun _ _ _=>.mkI) ha hb
def xQ:=bT (fun i j=>decide (0 ≤ j) && decide (j ≤ 1000000) && decide (i.natAbs < 2 ^ 64)) fun i j=>.int (i ^ j.toNat)
theorem EY (ha:DE X a fa) (hb:DE X b fb):DE X (.BinOp a .Pow b pos) (m2 xQ fa fb):=jH Dx (qu (fun i j h=>by
 simp only [Bool.and_eq_true,decide_eq_true_eq] at h;exact ⟨h.1.1,h.1.2,h.2⟩) fun _ _ _=>.mkI) ha hb
def iY:List D->Option D
 | [.int i,.int j]=>if 0 < j∧j < 1073741824 then some (.tup [.int (i / j),.int (i % j)]) else none
 | _=>none
theorem vG:ig (fun xs H Q=>∃ i j,xs=[.int i,.int j]∧D3 i j∧∀ p,H p=none->Q (.ref p) (upd H p (.tup [.int (i / j),.int (i % j)]))) iY:=fun c δ S σ T H ds vs d Q l s e k=>by
 unfold iY at e
 split at e
 ·rename_i i j
  split at e
  ·rename_i hj
   cases e
   obtain ⟨v,u,rfl,r1,r2⟩:=GW (s.st.left l)
   cases r1.int
   cases r2.int
   refine ⟨i,j,rfl,hj,fun q hq=>k _ _ ?_⟩
   have s1:=s.stk (Rs.append (ds:=[.int (i / j),.int (i % j)]) (vs:=[.int (i / j),.int (i % j)]) (.cons .mkI (.cons .mkI .nil)) (s.st.right l))
   exact s1.newTup rfl hq
  ·cases e
 ·cases e
theorem vB (hm:X.mg "divmod" = none) (ha:DA X [a,b] fs) (hg:Gl X "divmod":=by rfl) (he:starEach [a,b] X.env=(false,eval a X.env) :: starEach [b] X.env:=by rfl) (hp:(backTo pos (starEach [b] X.env)).any (·.1)=false:=by rfl):DE X (.Call (.Name "divmod" p) [a,b] [] pos) (mC iY fs) :=
 fv qb vG hg hm (by decide +kernel) ha (by decide) (by decide) he hp
def jG:List D->Option D
 | [.int i]=>some (.int i)
 | [.bl k]=>some (.int (if k then 1 else 0))
 | _=>none
theorem AE:ig (fun xs H Q=>(∃ i,xs=[.int i]∧Q (.int i) H) ∨ ∃ k,xs=[.bl k]∧Q (.int (if k then 1 else 0)) H) jG:=fun c δ S σ T H ds vs d Q l s e k=>by
 unfold jG at e
 split at e
 ·cases e
  obtain ⟨v,rfl,r⟩:=qX (s.st.left l)
  cases r.int
  exact .inl ⟨_,rfl,k _ _ (s.stk (.cons .mkI (s.st.right l)))⟩
 ·cases e
  obtain ⟨v,rfl,r⟩:=qX (s.st.left l)
  cases r.bl
  exact .inr ⟨_,rfl,k _ _ (s.stk (.cons .mkI (s.st.right l)))⟩
 ·cases e
theorem ub (hm:X.mg "int" = none) (ha:DA X [a] fs) (hg:Gl X "int":=by rfl) (he:starEach [a] X.env=[(false,eval a X.env)]:=by rfl):DE X (.Call (.Name "int" p) [a] [] pos) (mC jG fs) :=
 nt vA AE hg hm (by decide +kernel) ha (by decide) (by decide) he rfl
end
def rT:Sp:=fun vs H Q _=>∃ (a:Addr) (ns:List Int),vs=[.ref a]∧Rd H a (.lst (ns.map V.int))∧ns.length ≤ 63∧(∀ i ∈ ns,Builtin.Int.intBits i ≤ 2 ^ 20)∧∀ H',Q (.bl true) H'
section
variable {P:Program} {w:World} {K:PySem.W.Frag} {mg:Str->Option Value} {base:Heap} {k:Nat} {f:Addr} {fd:FuncData} {ps:List Str} {CX:qW}
theorem Bo {mf:List D->Option D} (F:dF P w K mg base di k f fd ps (jM 1 mf)) (h:∀ ns:List Int,ns.length ≤ 63->(∀ i ∈ ns,Builtin.Int.intBits i ≤ 2 ^ 20)->mf [.lst (ns.map .int)]=some (.bl true)):dF P w K mg base di k f fd ps rT:=F.imp fun vs H Q E ⟨a,ns,ev,hr,hl,hb,q⟩=>by
 subst ev
 refine ⟨rfl,fun _=>none,[.lst (ns.map .int)],.bl true,(fun a o z=>nomatch z),.cons (.mkL (Rd.mono (fun b o e=>eC.mpr ⟨(fun ⟨_,z⟩=>nomatch z),e⟩) hr) (jk ns)) .nil,h ns hl hb,fun v H' g r=>?_⟩
 rw [r.bl]
 exact q H'
end
end Jt
namespace Jt
open PySem PySem.W PySem.Calls PyProof.Rows L2
theorem xy {ns:List Int} (h:WData.layableAll [WData.list (ns.map WData.int)]=true):∀ i ∈ ns,Builtin.Int.intBits i ≤ 2 ^ 20:=fun i hi=>by
 have h1:=layableW_arg h _ List.mem_cons_self
 have h2:=layableW_item h1 (.int i) (List.mem_map.mpr ⟨i,hi,rfl⟩)
 have h3:=lay0_int h2
 have h4:PyData.layable0 (.int i)=true:=by simpa [PyData.layableAll0] using h3
 exact PyData.bits_of_layable h4
theorem walkB {l:PySem.W.OpenLaw} {q:Program} {loose:List Str} {XP:(Str->Option Value)->Heap->Prop} {YP:World->Heap->Prop} {d:DefRec} {K:Params->PySem.W.Frag} {k:Nat} (hn:l.most=some 63) (hdf:d.params.defaults=[]) (hr:cm k callerA)
  (hY:∀ (w:World) (h:Heap),YP w h->(K w.params).In h) (hL:∀ w:World,C7 (K w.params)=true) (hT:∀ w:World,PySem.W.tabIn (K w.params) ou=none)
  (F:∀ (w:World) (mg:Str->Option Value) (fa:Addr) (h:Heap),(K w.params).In h->h.Ns mainGlobals mg->mg d.name=some (.ref fa) ->
   ∃ fd:FuncData,(∀ (s:Shared) (u:Value),BindsTo s fd ⟨[u],[]⟩ [("_law_script",u)])∧∀ base:Heap,(K w.params).In base->base.Ns mainGlobals mg->dF l.prog w (K w.params) mg base di k fa fd ["_law_script"] rT) :
  PySem.W.WalkO q loose XP YP l.row.toRowW d [] (fun f vs=>PySem.call f vs):= by
 intro w s₀ s₁ mg mb G Y fa o pm cd doc dV kV ho hd hcd hD hmg hg args vals as hpre hlay hrd hwl hlo
 obtain rfl:dV=.none:=Dflts.none hD hdf
 obtain rfl:kV=.none:=Dflts.noKw hD
 obtain ⟨a,vs,ns,rfl,rfl,hobj,hints,hlen⟩:=Att.script_of hn hpre hwl
 have KX:=hY w _ Y
 obtain ⟨fd,hb,hF⟩:=F w mg fa _ KX G.T.g hmg
 have bits:=xy hlay
 refine enter_call (codeAny_mono (pH KX G.T.g G.T.b G.T.builtins G.T.nolimit hg hobj hints (Nat.le_trans hlen (by decide)) hr hF hb (hT w) (fun H hO hS=>⟨a,ns,rfl,rd_of (hL w) hS,hlen,bits,fun _=>rfl⟩) fun H e s' z=>z) fun r s' hq=>?_)
 obtain ⟨rfl,h2,h3,h4⟩:=hq
 exact ⟨.inl ⟨.bool true,.bool true,[],rfl,fun _=>rfl,.bool true,Att.post_true l _,fun _=>⟨List.Pairwise.nil,fun _ hm=>(nomatch hm)⟩⟩,h2,h3,h4⟩
end Jt
namespace Jt
open PySem L2
open PyProof.Rows (AllBare)
section
variable {X:Cx} {a e:Expr} {es:List Expr} {fa:M D} {fx:M (D ⊕ Addr)} {fxs:M (List D ⊕ Addr)} {fs:M (List D)} {pos p:Pos} {st:Stmt} {rest as bs:List Stmt} {f:M Fl} {g h:M (Fl ⊕ Addr)} {tt:M Bool} {k:Bool}
end
section
variable {P:Program} {w:World} {K:PySem.W.Frag} {mg:Str->Option Value} {base:Heap} {k:Nat} {f:Addr} {fd:FuncData} {N ps:List Str} {x qual:Str} {st:Stmt} {body:M (Fl ⊕ Addr)}
end
end Jt
namespace Jt
open PySem L2
open PyProof.Rows (AllBare)
def hx (X:Cx) (a:Addr) (o:Obj):Cx:={ X with A:=X.A.mark (some (.ref a)),calm:=false,pn:=(a,o) :: X.pn,xe:=fun _ _=>False }
section
variable {X:Cx} {pins:List (Addr × Obj)} {σ:St} {H:Hp} {s:Shared}
end
section
variable {X:Cx} {body sts:List Stmt} {b0:Stmt} {x n:Str} {C0:Addr} {i:Nat} {tb:JG} {th:Addr->Value->TS} {p hpos pos:Pos} {Adm:Value->Prop}
end
end Jt
namespace Jt
open PySem L2
open PySem.W (nd_bind Looks InstAt findIn specialIn takesIn mroIn clsIn findObj looks_findIn looks_find looks_mroIn KitX kitOne kitCls class_get)
section
variable {prog:Program} {w:World} {A:Around} {E:Value->Shared->Prop} {s:Shared} {K:PySem.W.Frag} {x D:Addr} {ox:Obj}
end
end Jt
namespace Jt
open PySem L2
open PySem.SeqAt (list_countAt list_indexAt)
section
variable {X:Cx}
end
end Jt
namespace Jt
open PySem L2 PySem.Spec PyProof.Rows
section
variable {P:Program} {w:World} {K:PySem.W.Frag} {mg:Str->Option Value} {base:Heap} {k:Nat} {f:Addr} {fd:FuncData} {N ps:List Str} {x qual:Str} {st:Stmt} {D:Addr} {res:V}
end
end Jt
namespace Jt
open PySem L2
section
variable {X:Cx} {body:List Stmt} {x n y g:Str} {C0 f:Addr} {ie iy k:Nat} {fd:FuncData} {ps:List Str} {kinds:Addr->Option Str} {fx:M (Fl ⊕ Addr)} {p hpos pos py pg pn pc pa:Pos}
end
end Jt
namespace Jt
open PySem L2
section
variable {prog:Program} {w:World} {A:Around} {E:Value->Shared->Prop} {s:Shared} {a:Addr} {o:Obj}
end
end Jt
namespace L2
open PySem PySem.Spec PyProof.Rows
abbrev tests (ifs:List Expr) (env:Env):Sem Bool:=forIn ifs true fun c r=>if r=true then do let ok <- isTrue c env (eval c env);pure (ForInStep.yield ok) else pure (ForInStep.yield r)
section
variable {prog:Program} {w:World} {A:Around} {R:Result->Shared->Prop} {s:Shared} {elt t1 i1 t2 i2:Expr} {ifs1 ifs2:List Expr} {scope:Scope} {pos:Pos} {it acc:Value} {env:Env}
abbrev two (elt t1 i1:Expr) (ifs1:List Expr) (t2 i2:Expr) (ifs2:List Expr) (scope:Scope) (pos:Pos):Expr:=.ListComp elt [⟨t1,i1,ifs1,0⟩,⟨t2,i2,ifs2,0⟩] scope pos
end
section
variable {Y:Cx} {elt t1 i1 t2 i2:Expr} {ifs1 ifs2:List Expr} {scope:Scope} {pos:Pos} {wi:TI} {g:TG} {tt:TT} {te:TE}
end
section
variable {X:Cx} {elt t1 i1 t2 i2:Expr} {ifs1 ifs2:List Expr} {scope:Scope} {pos pos':Pos} {N' own:List Str} {wi wi2:TI} {g g2:TG} {tt tt2:TT} {te:TE}
end
end L2
namespace Jt
open PySem L2
section
variable {X:Cx} {elt t1 i1 t2 i2:Expr} {te:M D} {pos:Pos} {tt tt2:M Bool} {fi fi2:M jx} {gt gt2:D->M Unit}
variable {N' own:List Str} {scope:Scope} {ifs1 ifs2:List Expr} {lo:Nat}
end
end Jt
namespace Jt
open PySem L2
def Dy (i:Nat) (fb:M D) (d:D):M Unit:=do
 let _ <- aA i
 let kd <- fb
 let k <- o8 kd
 match k with
 | some k=>do
  let xs <- aA i
  let j <- lift (q0 xs.length k)
  setOw i (xs.set j d)
 | none=>lift none
section
variable {X:Cx} {a ie:Expr} {fF:M (List D)} {fb:M D} {x:Str} {p apos cpos pos psub:Pos}
theorem Cg {lo:Nat} (i:Nat) (hb:DE X ie fb) (hN:X.N[i]? = some x:=by rfl) (hv:qT X.env.scope x:=by first | exact Or.inl rfl | exact Or.inr (Or.inl rfl) | exact Or.inr (Or.inr rfl)) (hd:(x == ("__debug__":Str))=false:=by decide) (hcd:(x == ("__classdict__":Str))=false:=by decide)
  (ha:∀ v,assign (.Subscript (.Name x p) ie psub) X.env v=(do
   let ov <- holding [v] (eval (.Name x p) X.env)
   let iv <- holding [v,ov] (eval ie X.env)
   standAt psub
   holding [v,ov,iv] (setItem ov iv v)
   release [v,ov,iv] []):=by intro _;rfl):DG X lo (.Subscript (.Name x p) ie psub) (Dy i fb) :=
 Du (yu (dm hN hv hd hcd) hb set_list ha) fun v σ H Q ⟨c,δ,S,T,d,δ',s,e,k⟩=>by
  obtain ⟨xs0,δ0,e0,e⟩:=bind_some e
  obtain ⟨⟨b0,hi0⟩,rfl⟩:=bj e0
  obtain ⟨q,vs0,eq,hq,_⟩:=s.own hi0
  obtain ⟨kd,δ1,e1,e⟩:=bind_some e
  refine ⟨_,eq,c,δ,d :: S,v :: T,kd,δ1,s,e1,fun iv H1 s1=>?_⟩
  obtain ⟨ko,δ2,e2,e⟩:=bind_some e
  cases kd with
  | int kk=>
   obtain ⟨rfl,rfl⟩:=ao e2
   obtain ⟨xs,δ3,e3,e⟩:=bind_some e
   obtain ⟨⟨b1,hi1⟩,rfl⟩:=bj e3
   obtain ⟨j,δ4,e4,e⟩:=bind_some e
   obtain ⟨e5,rfl⟩:=aw e4
   obtain ⟨b2,ys,hi2,rfl⟩:=eB e
   rw [hi1] at hi2;cases hi2
   obtain ⟨q',ws,eq',hq',hx⟩:=s1.own hi1
   rw [eq] at eq';cases eq'
   cases s1.st.head.int
   exact ⟨q,ws,kk,j,rfl,rfl,hq',by rw [hx.length];exact e5,k _ _ (fun _ _=>rfl) (s1.pop.pop.mut hi1 eq (hx.set s1.st.tail.head j))⟩
  | _=>cases e2
end
section
open PySem.Spec PyProof.Rows
variable {X:Cx} {e:Expr} {te:TE} {fa:M D} {j:Nat} {pos p2 p3 p4:Pos}
end
section
variable {δ:DS}
theorem yT {i:Nat} {fb:M D} {d:D} {Q:Unit->DS->Prop} (h0:∃ b xs,δ[i]? = some (.ow b xs)) (h:Ok fb δ fun kd δ1=>∃ (k:Int) (b:Bool) (xs:List D) (j:Nat),kd=.int k∧δ1[i]? = some (.ow b xs)∧q0 xs.length k=some j∧Q () (δ1.set i (.ow b (xs.set j d)))):Ok (Dy i fb d) δ Q:= by
 unfold Dy
 obtain ⟨b,xs,e⟩:=h0
 simp only [aq,b5]
 refine ⟨b,xs,e,h.mono fun kd δ1 q=>?_⟩
 obtain ⟨k,b',ys,j,rfl,e1,hj,q⟩:=q
 simp only [rn,aq,b5,lj]
 exact ⟨k,rfl,b',ys,e1,fZ (a:=j) hj ⟨b',ys,e1,q⟩⟩
end
end Jt
namespace Jt
open PySem L2
section
variable {X:Cx} {a:Expr} {fs:M (List D)} {p pos:Pos}
end
end Jt
namespace Jt
open PySem L2
mutual
def py:D->PyData
 | .non=>.none
 | .bl b=>.bool b
 | .int i=>.int i
 | .str x=>.str x
 | .tup xs=>.tuple (Ji xs)
 | .lst xs=>.list (Ji xs)
 | .dct=>.dict []
 | .dic _=>.dict []
 | .dip _=>.dict []
def Ji:List D->List PyData
 | []=>[]
 | d :: r=>py d :: Ji r
end
section
variable {X:Cx} {a:Expr} {fs:M (List D)} {p pos:Pos}
end
end Jt
namespace Jt
open PySem L2 PySem.Spec PyProof.Rows
section
variable {prog:Program} {w:World} {A:Around} {E:Value->Shared->Prop} {s:Shared}
end
section
variable {X:Cx} {e:Expr} {te:TE} {fa:M D} {j j0:Nat} {pos p2 p3 p4 p5:Pos}
end
end Jt
namespace Jt
open PySem L2 PySem.Spec PyProof.Rows
section
variable {X:Cx} {e:Expr} {te:TE} {fe:M D} {a b c d:Str} {j1 j2 j3 j4:Nat} {pos p0 p1 p2 p3 p4:Pos}
end
end Jt
namespace Jt
open PySem L2
section
variable {X:Cx} {a e:Expr} {es:List Expr} {fa fe:M D} {fs:M (List D)} {ha' hb':M Hn} {c d x y:Str} {j j1 j2 j3 j4:Nat} {pos p0 p1 p2 p3 p4:Pos}
end
end Jt
namespace Jt
open PySem L2
end Jt
namespace Jt
open PySem L2 PySem.Spec PyProof.Rows
section
variable {X:Cx} {elt tg iter l:Expr} {ifs:List Expr} {scope:Scope} {pos pos':Pos} {N' own:List Str} {wi:TI} {g:TG} {tt:TT} {te tl:TE}
end
end Jt
namespace Jt
open PySem L2 PySem.Spec PyProof.Rows
section
variable {X:Cx} {tg l:Expr} {tl:TE} {p pos:Pos} {fa:M D}
end
end Jt
namespace Jt
open PySem L2
end Jt
namespace Jt
open PySem L2 PySem.Spec PyProof.Rows
section
variable {prog:Program} {w:World} {A:Around} {E:Value->Shared->Prop} {s:Shared}
end
section
variable {X:Cx} {a b:Expr} {fa fb:M D} {pos:Pos}
end
def gg:List Int->Int
 | []=>0
 | [a]=>a
 | a :: b :: r=>if gg (b :: r) ≤ a then a else gg (b :: r)
theorem ka:∀ {ns:List Int},ns ≠ []->gg ns ∈ ns
 | [],h=>absurd rfl h
 | [a],_=>List.mem_singleton.mpr rfl
 | a :: b :: r,_=>by
  have:=ka (ns:=b :: r) (by simp)
  unfold gg
  split
  ·exact List.mem_cons_self
  ·exact List.mem_cons_of_mem _ this
theorem t8:∀ {ns:List Int} {x:Int},x ∈ ns->x ≤ gg ns
 | [a],x,h=>by rw [List.mem_singleton.mp h];exact Int.le_refl _
 | a :: b :: r,x,h=>by
  have ih:=fun y (hy:y ∈ b :: r)=>t8 hy
  unfold gg
  rcases List.mem_cons.mp h with rfl | h
  ·split <;> omega
  ·have:=ih x h
   split <;> omega
theorem Ba {ns:List Int} {m:Int} (h:m ∈ ns) (hl:∀ a ∈ ns,a ≤ m):m=gg ns:= by
 have h1:=t8 h
 have h2:=hl _ (ka (List.ne_nil_of_mem h))
 omega
section
variable {X:Cx} {a:Expr} {fs:M (List D)} {p pos:Pos}
end
section
variable {X:Cx} {a b c0:Expr} {fa fb fc:M D} {pos:Pos}
end
end Jt
namespace Jt
open PySem L2 PySem.Spec PyProof.Rows
section
open PySem.SeqAt
open PySem.AutoSeq1 (wpAny_loadPart')
open PySem.MeetsSeq PySem.MeetsSeq2 PySem.MeetsSeq3
end
section
variable {X:Cx} {o e a:Expr} {es:List Expr} {to:TE} {t:TA} {name:Str} {apos cpos p pos:Pos} {id:String} {r:V->List V->Hp->VK->Prop} {fo fa:M D} {fs:M (List D)}
def Iw (c:Int):Value->Bool
 | .int i _=>i == c
 | _=>false
end
section
variable {X:Cx} {a:Expr} {p pos:Pos} {fs:M (List D)}
end
end Jt
namespace Jt
open PySem L2
structure Kn (P:Program) (w:World) (K:PySem.W.Frag) (mg:Str->Option Value) (base:Heap) (CX:qW) (k:Nat) (x:Str) (ps:List Str) (sp:Sp):Prop where
 ex:∃ f fd,dF P w K mg base CX k f fd ps sp∧mg x=some (.ref f)∧PySem.W.keepIn K (.ref f)=true∧Binds K fd ps []
structure Ent (K:PySem.W.Frag) (mg:Str->Option Value) (x:Str) (ps:List Str) (st:Stmt):Prop where
 ex:∃ f fd,zq K x x st f fd∧mg x=some (.ref f)∧Binds K fd ps []
structure Fh (K:PySem.W.Frag) (x:Str) (st:Stmt):Prop where
 ex:∃ (f:Addr) (oc:Value) (od:Option Addr) (kV dc pm:Value) (an:Option Addr) (cd ct:Value) (sl:Array (Option Value)),PySem.W.nsIn K mainGlobals x=some (some (.ref f))∧K.lookup f=some ⟨oc,od,.func (PySem.W.fnOf x x (eI st) (bX st) (ak st) .none kV dc pm an cd ct),sl⟩∧PySem.W.codeIn K cd x=true∧PySem.W.keepIn K (.ref f)=true
theorem fh_mk {K:PySem.W.Frag} {x:Str} {st:Stmt} {f:Addr} {oc:Value} {od an:Option Addr} {kV dc pm cd ct:Value} {sl:Array (Option Value)} (a:PySem.W.nsIn K mainGlobals x=some (some (.ref f))) (l:K.lookup f=some ⟨oc,od,.func (PySem.W.fnOf x x (eI st) (bX st) (ak st) .none kV dc pm an cd ct),sl⟩) (c:PySem.W.codeIn K cd x=true) (k:PySem.W.keepIn K (.ref f)=true):Fh K x st:=⟨f,oc,od,kV,dc,pm,an,cd,ct,sl,a,l,c,k⟩
section
variable {P:Program} {w:World} {K:PySem.W.Frag} {mg:Str->Option Value} {base:Heap} {CX:qW} {j k:Nat} {x:Str} {ps N:List Str} {sp:Sp} {st:Stmt} {body:M Fl}
theorem Kn.up (G:Kn P w K mg base CX j x ps sp) (h:j ≤ k):Kn P w K mg base CX k x ps sp:=let ⟨⟨f,fd,F,m⟩⟩:=G;⟨⟨f,fd,F.mono h,m⟩⟩
theorem ent {h:Heap} (X:K.In h) (G:h.Ns mainGlobals mg) (e:Fh K x st) (hb:∀ (kV doc pm:Value) (an:Option Addr) (cdv ct:Value) (us:List Value),us.length=ps.length->bindArgs (PySem.W.fnOf x x (eI st) (bX st) (ak st) .none kV doc pm an cdv ct) ⟨us,[]⟩=pure (ps.zip us)):Ent K mg x ps st:= by
 obtain ⟨⟨f,oc,od,kV,dc,pm,an,cd,ct,sl,a,l,c,k⟩⟩:=e
 have F:=yF (st:=st) l c k
 exact ⟨⟨f,_,F,PySem.W.mg_of X G a,F.binds hb⟩⟩
theorem o4 (E:Ent K mg x ps st) (S:aF N ps (ak st)) (hb:∀ (f:Addr) (cdv:Value) (A:Around) (outer:List Env) (s:Shared) (H:Hp) (E:XK),cm k (A.deeper (PyProof.Rows.envOfC x (ak st) s.heap.objs.size f cdv))->q_ (iZ di P w K mg base N x (ak st) f cdv A outer s H E).nox (bX st) body) :
  Kn P w K mg base di (k + 1) x ps (jM ps.length (aO N body)):=let ⟨⟨f,fd,F,m,b⟩⟩:=E;⟨⟨f,fd,JB F S (hb f),m,F.kp,b⟩⟩
theorem JR (E:Ent K mg x ps st) (S:aF N ps (ak st)) (hb:∀ (f:Addr) (cdv:Value) (A:Around) (outer:List Env) (s:Shared) (H:Hp) (E:XK),cm k (A.deeper (PyProof.Rows.envOfC x (ak st) s.heap.objs.size f cdv))->q_ (iZ di P w K mg base N x (ak st) f cdv A outer s H E).nox (bX st) body) :
  Kn P w K mg base di (k + 1) x ps (FL ps.length (oh N body)):=let ⟨⟨f,fd,F,m,b⟩⟩:=E;⟨⟨f,fd,JO F S (hb f),m,F.kp,b⟩⟩
theorem Bw (E:Ent K mg x ps st) (S:aF N ps (ak st)) (hb:∀ (f:Addr) (cdv:Value) (A:Around) (outer:List Env) (s:Shared) (H:Hp) (E:XK),cm k (A.deeper (PyProof.Rows.envOfC x (ak st) s.heap.objs.size f cdv))->q_ (iZ di P w K mg base N x (ak st) f cdv A outer s H E).nox (bX st) body) :
  Kn P w K mg base di (k + 1) x ps (vy ps.length (aY N body)):=let ⟨⟨f,fd,F,m,b⟩⟩:=E;⟨⟨f,fd,JN F S (hb f),m,F.kp,b⟩⟩
theorem Jl {h:Heap} {l:PySem.W.OpenLaw} {fa:Addr} {st:Stmt} (X:K.In h) (G:h.Ns mainGlobals mg) (hfa:mg "law" = some (.ref fa)) (e:Fh K "law" st) (hb:∀ (kV dc pm:Value) (an:Option Addr) (cd ct:Value) (s:Shared) (v:Value),BindsTo s (PySem.W.fnOf "law" "law" (eI st) (bX st) (ak st) .none kV dc pm an cd ct) ⟨[v],[]⟩ [("_law_script",v)])
  {N:List Str} {body:M Fl} (S:aF N ["_law_script"] (ak st))
  (hG:∀ (base:Heap) (f:Addr) (cdv:Value) (A:Around) (outer:List Env) (s:Shared) (H:Hp) (E:XK),cm k (A.deeper (PyProof.Rows.envOfC "law" (ak st) s.heap.objs.size f cdv))->q_ (iZ di l.prog w K mg base N "law" (ak st) f cdv A outer s H E).nox (bX st) body)
  {Sq:Sp} (hS:∀ base f fd,dF l.prog w K mg base di (k + 1) f fd ["_law_script"] (jM 1 (aO N body))->dF l.prog w K mg base di (k + 1) f fd ["_law_script"] Sq) :
  ∃ fd:FuncData,(∀ (s:Shared) (v:Value),BindsTo s fd ⟨[v],[]⟩ [("_law_script",v)])∧∀ base:Heap,K.In base->base.Ns mainGlobals mg->dF l.prog w K mg base di (k + 1) fa fd ["_law_script"] Sq:= by
 obtain ⟨⟨f,oc,od,kV,dc,pm,an,cd,ct,sl,a,l,c,kp⟩⟩:=e
 have e:=hfa.symm.trans (PySem.W.mg_of X G a)
 cases e
 exact ⟨_,hb kV dc pm an cd ct,fun base _ _=>hS base _ _ (JB (yF (st:=st) l c kp) S (hG base fa))⟩
end
section
variable {X:Cx} {k:Nat} {x:Str} {ps:List Str} {a:Expr} {es:List Expr} {fs:M (List D)} {p pos:Pos}
theorem a0 {mf:List D->Option D} {n:Nat} (G:Kn X.prog X.w X.K X.mg X.base di k x ps (jM n mf)) (hr:cm k X.A) (ha:DA X (a :: es) fs)
  (hg:Gl X x:=by rfl) (hdb:(x == ("__debug__":Str))=false:=by decide) (he:starEach (a :: es) X.env=(false,eval a X.env) :: starEach es X.env:=by rfl) (hpl:(backTo pos (starEach es X.env)).any (·.1)=false:=by rfl) :
  DE X (.Call (.Name x p) (a :: es) [] pos) (mC (fun ds=>if ds.length=n then mf ds else none) fs):=let ⟨⟨_,_,F,m,c,b⟩⟩:=G;A3 F hr m c b ha hg hdb he hpl
theorem yk {mf:List D->Option (List D)} {n:Nat} (G:Kn X.prog X.w X.K X.mg X.base di k x ps (FL n mf)) (hr:cm k X.A) (ha:DA X (a :: es) fs)
  (hg:Gl X x:=by rfl) (hdb:(x == ("__debug__":Str))=false:=by decide) (he:starEach (a :: es) X.env=(false,eval a X.env) :: starEach es X.env:=by rfl) (hpl:(backTo pos (starEach es X.env)).any (·.1)=false:=by rfl) :
  DF X (.Call (.Name x p) (a :: es) [] pos) (mC (fun ds=>if ds.length=n then mf ds else none) fs):=let ⟨⟨_,_,F,m,c,b⟩⟩:=G;AK F hr m c b ha hg hdb he hpl
theorem av (i:Nat) {mf:List D->List D->Option (D × List D)} {n:Nat} {y:Str} {py:Pos} (G:Kn X.prog X.w X.K X.mg X.base di k x ps (vy n mf)) (hr:cm k X.A) (ha:DA X es fs)
  (hN:X.N[i]? = some y:=by rfl) (hv:qT X.env.scope y:=by first | exact Or.inl rfl | exact Or.inr (Or.inl rfl) | exact Or.inr (Or.inr rfl)) (hd:(y == ("__debug__":Str))=false:=by decide) (hcd:(y == ("__classdict__":Str))=false:=by decide)
  (hg:Gl X x:=by rfl) (hdb:(x == ("__debug__":Str))=false:=by decide) (he:starEach (.Name y py :: es) X.env=(false,eval (.Name y py) X.env) :: starEach es X.env:=by rfl) (hpl:(backTo pos (starEach es X.env)).any (·.1)=false:=by rfl) :
  DE X (.Call (.Name x p) (.Name y py :: es) [] pos) (do let _ <- aA i;bC i n mf fs):=let ⟨⟨_,_,F,m,c,b⟩⟩:=G;vq i F hr m c b ha hN hv hd hcd hg hdb he hpl
end
end Jt
namespace L2
open PySem
section
variable {prog:Program} {w:World} {K:Type} [DecidableEq K] {knd:HeapKind prog w K} {A:Around} {E:Value->Shared->Prop} {s:Shared}
end
end L2
namespace L2
open PySem PySem.Spec PyProof.Rows
section
variable {κ:Type} [DecidableEq κ]
end
section
variable {P:Program} {w:World} {H:Hp} {h:Heap} {a:Addr}
theorem rd_of {u:HO} (ok:jS P w H h) (e:Rd H a u):c9 P w H h a u:=e.ok ok
end
section
variable {X:Cx} {pins:List (Addr × Obj)} {σ:St} {H:Hp} {s:Shared} {a:Addr} {y v:V} {u r:Value} {o:Option V} {A:Around} {E:Value->Shared->Prop}
end
section
variable {X:Cx} {pins:List (Addr × Obj)} {σ:St} {H:Hp} {s:Shared} {a:Addr} {kvs:List (Key × V)} {k:Key} {u:Value} {A:Around} {E:Value->Shared->Prop}
end
section
variable {X:Cx} {o i e value:Expr} {pos pos' tpos:Pos} {td ty tv:TE}
end
section
variable {X:Cx} {pos:Pos}
end
section
variable {X:Cx} {pins:List (Addr × Obj)} {σ:St} {H:Hp} {s:Shared} {a:Addr} {y d:V} {u r:Value} {o:Option V} {A:Around} {E:Value->Shared->Prop}
end
section
variable {X:Cx} {o e f:Expr} {apos cpos:Pos} {td ty tx:TE}
end
section
variable {X:Cx} {pins:List (Addr × Obj)} {σ:St} {H:Hp} {s:Shared} {a:Addr} {kvs:List (Key × V)} {A:Around} {E:Value->Shared->Prop}
end
section
variable {X:Cx} {pins:List (Addr × Obj)} {σ:St} {H:Hp} {s:Shared} {a:Addr} {y:V} {u:Value} {A:Around} {E:Value->Shared->Prop}
end
end L2
namespace L2
open PySem PySem.Spec PyProof.Rows
section
variable {X:Cx} {pins:List (Addr × Obj)} {σ:St} {H:Hp} {s:Shared} {a:Addr} {y v:V} {u r:Value} {A:Around} {E:Value->Shared->Prop}
end
section
variable {X:Cx} {kx vx tg iter:Expr} {ifs:List Expr} {scope:Scope} {pos pos':Pos} {N' own:List Str} {wi:TI} {g:TG} {tt:TT} {tk tv:TE}
end
end L2
namespace Jt
open PySem L2 PySem.Spec PyProof.Rows
section
variable {X:Cx}
end
section
variable {X:Cx} {a b:Expr} {fa fb:M D} {pos:Pos}
end
section
variable {fi:M jx} {gt:D->M Unit} {tt:M Bool} {tk tv:M D}
variable {X:Cx} {kx vx tg iter:Expr} {N' own:List Str} {scope:Scope} {ifs:List Expr} {lo:Nat} {pos:Pos}
end
end Jt
namespace Jt
open PySem L2 PySem.Spec PyProof.Rows
section
variable {X:Cx} {a b:Expr} {fs:M (List D)} {p pos:Pos}
end
end Jt
namespace Jt
open PySem L2 PySem.Spec PyProof.Rows
section
variable {X:Cx} {a b:Expr} {fs:M (List D)} {pos:Pos}
def yY (i j:Nat) (fs:M (List D)):M Fl:=do
 let ds <- fs
 match ds with
 | [x,y]=>do
  bp i x
  bp j y
  pure .nx
 | _=>lift none
theorem v7 (i j:Nat) {x y:Str} {px py pt:Pos} {kt k2 pt2} (hN:X.N.Nodup) (ha:DA X [a,b] fs) (hw:swappedStores [.Tuple [.Name x px,.Name y py] kt pt] (.Tuple [a,b] k2 pt2) X.env=pure (some [x,y]):=by rfl) (hi:X.N[i]? = some x:=by rfl) (hj:X.N[j]? = some y:=by rfl) (hij:i ≠ j:=by decide)
  (hx:X.env.scope.names.lookup x=some .local:=by rfl) (hy:X.env.scope.names.lookup y=some .local:=by rfl) (hc:X.calm=true:=by rfl)
  (hs:swapsWithSole [.Tuple [.Name x px,.Name y py] kt pt] (.Tuple [a,b] k2 pt2) pos.line X.env=pure false:=by rfl) :
  o7 X (.Assign [.Tuple [.Name x px,.Name y py] kt pt] (.Tuple [a,b] k2 pt2) pos) (yY i j fs):=jm (EN hc hN hi hj hij hx hy ha hw hs) fun E σ H ⟨c,δ,S,T,fl,δ',s,e,k⟩=>by
 obtain ⟨ds,δ1,e1,e⟩:=bind_some e
 refine ⟨c,δ,S,T,ds,δ1,s,e1,fun vs H' l s'=>?_⟩
 split at e
 ·obtain ⟨u,δ2,e2,e⟩:=bind_some e
  obtain ⟨u',δ3,e3,e⟩:=bind_some e
  obtain ⟨rfl,rfl⟩:=ao e
  obtain ⟨hi1,rfl⟩:=fz e2
  obtain ⟨hj1,rfl⟩:=fz e3
  obtain ⟨v,w,rfl,r1,r2⟩:=GW (s'.st.left l)
  exact ⟨v,w,rfl,k _ _ ((Sl.setPu s' hi1).setPu hj1)⟩
 ·cases e
end
end Jt
namespace Jt
open PySem L2 PySem.Spec PyProof.Rows
section
variable {prog:Program} {w:World} {A:Around} {E:Value->Shared->Prop} {s:Shared}
end
section
variable {X:Cx} {pos:Pos}
end
end Jt
namespace L2
open PySem PySem.Spec PyProof.Rows
section
variable {prog:Program} {w:World} {A:Around} {R:Result->Shared->Prop} {s:Shared} {kx vx t1 i1 t2 i2:Expr} {ifs1 ifs2:List Expr} {scope:Scope} {pos:Pos} {it:Value} {D:Addr} {env:Env}
end
section
variable {Y:Cx} {kx vx t1 i1 t2 i2:Expr} {ifs1 ifs2:List Expr} {scope:Scope} {pos:Pos} {wi:TI} {g:TG} {tt:TT} {tk tv:TE}
end
section
variable {X:Cx} {kx vx t1 i1 t2 i2:Expr} {ifs1 ifs2:List Expr} {scope:Scope} {pos pos':Pos} {N' own:List Str} {wi wi2:TI} {g g2:TG} {tt tt2:TT} {tk tv:TE}
end
end L2
namespace Jt
open PySem L2 PySem.Spec PyProof.Rows
abbrev PL:=List ((Int × Int) × Int)
section
variable {X:Cx} {kx vx t1 i1 t2 i2:Expr} {tk tv:M D} {pos:Pos} {tt tt2:M Bool} {fi fi2:M jx} {gt gt2:D->M Unit}
variable {N' own:List Str} {scope:Scope} {ifs1 ifs2:List Expr} {lo:Nat}
end
end Jt
namespace Jt
open PySem PySem.Spec PyProof.Rows
section
variable {prog:Program} {w:World} {A:Around} {E:Value->Shared->Prop} {s:Shared}
end
end Jt
namespace L2
open PySem PySem.Spec PyProof.Rows
section
variable {X:Cx} {tg l:Expr} {tl:TE}
end
end L2
namespace Jt.So
open PySem L2 PySem.Spec PyProof.Rows PySem.W
def WpT {α:Type} (g:Nat->Nat->Bool) (n:Nat):KasT α->(α->Prop)->Prop
 | .ret a,R=>R a
 | .ask i j k,R=>i < n∧j < n∧WpT g n (k (g i j)) R
section
variable {g:Nat->Nat->Bool} {n:Nat}
theorem WpT.bind {α β:Type} {f:α->KasT β} {R:β->Prop}:∀ {t:KasT α},WpT g n t (fun a=>WpT g n (f a) R)->WpT g n (t.bind f) R
 | .ret _,h=>h
 | .ask i j k,h=>⟨h.1,h.2.1,WpT.bind (t:=k (g i j)) h.2.2⟩
theorem WpT.mono {α:Type} {R S:α->Prop} (hr:∀ a,R a->S a):∀ {t:KasT α},WpT g n t R->WpT g n t S
 | .ret _,h=>hr _ h
 | .ask i j k,h=>⟨h.1,h.2.1,WpT.mono hr (t:=k (g i j)) h.2.2⟩
theorem WpT.ev {α:Type} {R:α->Prop}:∀ {t:KasT α},WpT g n t R->R (Ic g t)
 | .ret _,h=>h
 | .ask i j k,h=>WpT.ev (t:=k (g i j)) h.2.2
theorem WpT.kas {α:Type} {R:α->Prop} {cmp:Nat->Nat->(Bool->Shared->Prop)->Shared->Prop} {Q:α->Shared->Prop} {s:Shared}
  (hc:∀ i j C,i < n->j < n->C (g i j) s->cmp i j C s):∀ {t:KasT α},WpT g n t R->Q (Ic g t) s->t.kasWp cmp Q s
 | .ret _,_,h=>h
 | .ask i j k,hw,h=>hc i j _ hw.1 hw.2.1 (WpT.kas hc (t:=k (g i j)) hw.2.2 h)
abbrev qY (g:Nat->Nat->Bool) (a b:Nat):Prop:=g b a=false
structure OrdG (g:Nat->Nat->Bool):Prop where
 tr:∀ a b c,qY g a b->qY g b c->qY g a c
 as:∀ a b,g a b=true->qY g a b
theorem OrdG.rf (o:OrdG g) (a:Nat):qY g a a:= by
 cases h:g a a with
 | false=>exact h
 | true=>have:=o.as a a h;unfold qY at this;rw [h] at this;cases this
abbrev at0 (p:Array Nat) (i:Nat):Nat:=p.getD i 0
def Bs (n:Nat) (p:Array Nat):Prop:=p.Perm (List.range n).toArray
theorem Bs.size {p:Array Nat} (h:Bs n p):p.size=n:=by rw [h.size_eq];simp
theorem Bs.lt {p:Array Nat} (h:Bs n p) {i:Nat} (hi:i < n):at0 p i < n:= by
 have hi':i < p.size:=by rw [h.size];exact hi
 have e:at0 p i=p[i]:=by simp [at0,Array.getD,hi']
 have hm:p[i] ∈ (List.range n).toArray.toList:=(Array.perm_iff_toList_perm.mp h).mem_iff.mp (by simp)
 rw [e]
 simpa using hm
theorem Bs.mir {p:Array Nat} (h:Bs n p) (i j d:Nat):Bs n (mirror p i j d):=(mirror_perm _ _ _ _).trans h
theorem Bs.bub {p:Array Nat} (h:Bs n p) (i d:Nat):Bs n (bubble p i d):=(bubble_perm _ _ _).trans h
theorem fK {p q:Array Nat} {i j:Nat} (h:p[i]? = q[j]?):at0 p i=at0 q j:= by
 unfold at0;rw [Array.getD_eq_getD_getElem?,Array.getD_eq_getD_getElem?,h]
theorem nJ {p:Array Nat} {i j:Nat} (hj:j ≤ p.size) (k:Nat):at0 (mirror p i j ((j - i) / 2)) k=if i ≤ k∧k < j then at0 p (i + j - 1 - k) else at0 p k:= by
 have e:=getElem?_mirror_all (i:=i) hj k
 by_cases h1:i ≤ k∧k < j
 ·rw [if_pos h1] at e ⊢;exact fK e
 ·rw [if_neg h1] at e ⊢;exact fK e
theorem uK {p:Array Nat} {src d:Nat} (hs:src < p.size) (hd:d ≤ src) (k:Nat) :
  at0 (bubble p src d) k=if k=src - d then at0 p src else if src - d < k∧k ≤ src then at0 p (k - 1) else at0 p k:= by
 have e:=getElem?_bubble hs d hd k
 by_cases h1:k=src - d
 ·rw [if_pos h1] at e ⊢;exact fK e
 ·rw [if_neg h1] at e ⊢
  by_cases h2:src - d < k∧k ≤ src
  ·rw [if_pos h2] at e ⊢;exact fK e
  ·rw [if_neg h2] at e ⊢;exact fK e
def Up (g:Nat->Nat->Bool) (p:Array Nat) (k:Nat):Prop:=∀ i j,i ≤ j->j < k->qY g (at0 p i) (at0 p j)
def Dn (g:Nat->Nat->Bool) (p:Array Nat) (k:Nat):Prop:=∀ i j,i ≤ j->j < k->qY g (at0 p j) (at0 p i)
def Eqv (g:Nat->Nat->Bool) (a b:Nat):Prop:=qY g a b∧qY g b a
theorem Eqv.trans (o:OrdG g) {a b c:Nat} (h:Eqv g a b) (k:Eqv g b c):Eqv g a c:=⟨o.tr _ _ _ h.1 k.1,o.tr _ _ _ k.2 h.2⟩
theorem Eqv.symm {a b:Nat} (h:Eqv g a b):Eqv g b a:=⟨h.2,h.1⟩
theorem Eqv.rf (o:OrdG g) (a:Nat):Eqv g a a:=⟨o.rf a,o.rf a⟩
theorem nK (o:OrdG g) {p:Array Nat} {i j:Nat} (hj:j ≤ p.size) (heq:∀ k,i ≤ k->k < j->Eqv g (at0 p k) (at0 p (j - 1))) (k:Nat) :
  Eqv g (at0 (mirror p i j ((j - i) / 2)) k) (at0 p k):= by
 rw [nJ hj]
 split
 ·exact (heq _ (by omega) (by omega)).trans o (heq k (by omega) (by omega)).symm
 ·exact .rf o _
theorem Up.one (o:OrdG g) (p:Array Nat):Up g p 1:=fun i j h1 h2=>by
 have:i=j:=by omega
 subst this;exact o.rf _
theorem Up.snoc (o:OrdG g) {p:Array Nat} {x:Nat} (hx:1 ≤ x) (h:Up g p x) (h':qY g (at0 p (x - 1)) (at0 p x)):Up g p (x + 1):=fun i j h1 h2=>by
 by_cases hj:j < x
 ·exact h i j h1 hj
 ·have:j=x:=by omega
  subst this
  by_cases hi:i=j
  ·subst hi;exact o.rf _
  ·exact o.tr _ _ _ (h i (j - 1) (by omega) (by omega)) h'
theorem Dn.snoc (o:OrdG g) {p:Array Nat} {x:Nat} (hx:1 ≤ x) (h:Dn g p x) (h':qY g (at0 p x) (at0 p (x - 1))):Dn g p (x + 1):=fun i j h1 h2=>by
 by_cases hj:j < x
 ·exact h i j h1 hj
 ·have:j=x:=by omega
  subst this
  by_cases hi:i=j
  ·subst hi;exact o.rf _
  ·exact o.tr _ _ _ h' (h i (j - 1) (by omega) (by omega))
theorem Dn.eqv (o:OrdG g) {p q:Array Nat} {x:Nat} (h:Dn g p x) (e:∀ k,Eqv g (at0 q k) (at0 p k)):Dn g q x:=fun i j h1 h2=>o.tr _ _ _ (e j).1 (o.tr _ _ _ (h i j h1 h2) (e i).2)
theorem yz (o:OrdG g) {p:Array Nat} (b:Bs n p):∀ (f x:Nat),x + f ≤ n->1 ≤ x->Up g p x ->
  WpT g n (kas_asc p f x) (fun m=>x ≤ m∧m ≤ x + f∧Up g p m∧(m=x + f ∨ g (at0 p m) (at0 p (m - 1))=true))
 | 0,x,_,_,h=>⟨Nat.le_refl _,Nat.le_refl _,h,.inl rfl⟩
 | f + 1,x,hx,h1,h=>by
  refine ⟨b.lt (by omega),b.lt (by omega),?_⟩
  cases hc:g (p.getD x 0) (p.getD (x - 1) 0) with
  | true=>exact ⟨Nat.le_refl _,by omega,h,.inr hc⟩
  | false=>
   refine WpT.mono (fun m hm=>?_) (yz o b f (x + 1) (by omega) (by omega) (h.snoc o h1 hc))
   obtain ⟨a1,a2,a3,a4⟩:=hm
   exact ⟨by omega,by omega,a3,a4.imp (fun z=>by omega) id⟩
def DI (g:Nat->Nat->Bool) (n:Nat) (p:Array Nat) (x q:Nat):Prop:=Bs n p∧Dn g p x∧q + 1 ≤ x∧∀ i,x - (q + 1) ≤ i->i < x->Eqv g (at0 p i) (at0 p (x - 1))
theorem yi (o:OrdG g):∀ (f:Nat) (p:Array Nat) (x q:Nat),x + f ≤ n->DI g n p x q ->
  WpT g n (kas_desc f p x q) (fun r=>x ≤ r.2.1∧r.2.1 ≤ x + f∧DI g n r.1 r.2.1 r.2.2)
 | 0,p,x,q,_,h=>⟨Nat.le_refl _,Nat.le_refl _,h⟩
 | f + 1,p,x,q,hx,h=>by
  obtain ⟨b,d,hq,he⟩:=h
  have sz:x ≤ p.size:=by rw [b.size];omega
  refine ⟨b.lt (by omega),b.lt (by omega),?_⟩
  have next:∀ {p':Array Nat} {q':Nat},DI g n p' (x + 1) q' -> WpT g n (kas_desc f p' (x + 1) q') (fun r=>x ≤ r.2.1∧r.2.1 ≤ x + (f + 1)∧DI g n r.1 r.2.1 r.2.2):=fun hd=>
   WpT.mono (fun r hr=>⟨by omega,by omega,hr.2.2⟩) (yi o f _ (x + 1) _ (by omega) hd)
  have z0:∀ (p':Array Nat),∀ i,x + 1 - (0 + 1) ≤ i->i < x + 1->Eqv g (at0 p' i) (at0 p' (x + 1 - 1)):=fun p' i h1 h2=>by
   have:i=x + 1 - 1:=by omega
   rw [this];exact .rf o _
  cases hc:g (p.getD x 0) (p.getD (x - 1) 0) with
  | true=>
   show WpT g n (if true=true then _ else _) _
   rw [if_pos rfl]
   have dn:Dn g p (x + 1):=d.snoc o (by omega) (o.as _ _ hc)
   by_cases hq0:q > 0
   ·rw [if_pos hq0]
    exact next ⟨b.mir _ _ _,dn.eqv o (nK o sz he),by omega,z0 _⟩
   ·rw [if_neg hq0]
    exact next ⟨b,dn,by omega,z0 _⟩
  | false=>
   show WpT g n (if false=true then _ else _) _
   rw [if_neg Bool.false_ne_true]
   refine ⟨b.lt (by omega),b.lt (by omega),?_⟩
   cases hd:g (p.getD (x - 1) 0) (p.getD x 0) with
   | true=>exact ⟨Nat.le_refl _,by show x ≤ x + (f + 1);omega,b,d,hq,he⟩
   | false=>
    have eq:Eqv g (at0 p x) (at0 p (x - 1)):=⟨hd,hc⟩
    refine next ⟨b,d.snoc o (by omega) hd,by omega,fun i h1 h2=>?_⟩
    rw [show x + 1 - 1=x by omega]
    by_cases hi:i=x
    ·subst hi;exact .rf o _
    ·exact (he i (by omega) (by omega)).trans o eq.symm
def CR (g:Nat->Nat->Bool) (n:Nat) (r:Nat × Array Nat):Prop:=1 ≤ r.1∧r.1 ≤ n∧Bs n r.2∧Up g r.2 r.1
theorem uf (o:OrdG g) {p:Array Nat} {x:Nat} (b:Bs n p) (h1:1 ≤ x) (hx:x ≤ n) (d:Dn g p x):WpT g n (kas_tail3 x n p) (CR g n):= by
 have sz:x ≤ p.size:=by rw [b.size];exact hx
 have b':Bs n (kas_rev p 0 x):=b.mir _ _ _
 refine WpT.bind (WpT.mono (fun m hm=>?_) (yz o b' (n - x) x (by omega) h1 fun i j hij hj=>?_))
 ·exact ⟨by show 1 ≤ m;omega,by show m ≤ n;omega,b',hm.2.2.1⟩
 ·show qY g (at0 (mirror p 0 x ((x - 0) / 2)) i) (at0 (mirror p 0 x ((x - 0) / 2)) j)
  rw [nJ sz,nJ sz,if_pos (by omega),if_pos (by omega)]
  exact d _ _ (by omega) (by omega)
theorem kn (o:OrdG g) {p:Array Nat} {x:Nat} (b:Bs n p) (hx:x + 1 ≤ n) (d:Dn g p (x + 1)):WpT g n (kas_descPart x n p) (CR g n):= by
 refine WpT.bind (WpT.mono (fun r hr=>?_) (yi o (n - (x + 1)) p (x + 1) 0 (by omega) ⟨b,d,by omega,fun i h1 h2=>?_⟩))
 ·obtain ⟨h1,h2,b',d',hq,he⟩:=hr
  have sz:r.2.1 ≤ r.1.size:=by rw [b'.size];omega
  by_cases hq0:r.2.2 > 0
  ·rw [if_pos hq0]
   exact uf o (b'.mir _ _ _) (by omega) (by omega) (d'.eqv o (nK o sz he))
  ·rw [if_neg hq0]
   exact uf o b' (by omega) (by omega) d'
 ·have:i=x + 1 - 1:=by omega
  rw [this];exact .rf o _
theorem w_count (o:OrdG g) {p:Array Nat} (b:Bs n p) (h1:1 ≤ n):WpT g n (kas_count n p) (CR g n):= by
 refine WpT.bind (WpT.mono (fun m hm=>?_) (yz o b (n - 1) 1 (by omega) (Nat.le_refl _) (.one o p)))
 obtain ⟨a1,a2,a3,a4⟩:=hm
 by_cases e:(m == n)=true
 ·rw [if_pos e]
  exact ⟨a1,by show m ≤ n;omega,b,a3⟩
 ·rw [if_neg e]
  have ne:m ≠ n:=fun z=>e (by rw [z];exact beq_self_eq_true _)
  have hlt:g (at0 p m) (at0 p (m - 1))=true:=a4.resolve_left (by omega)
  by_cases hm1:m > 1
  ·rw [if_pos hm1]
   refine ⟨b.lt (by omega),b.lt (by omega),?_⟩
   cases hc:g (p.getD 0 0) (p.getD (m - 1) 0) with
   | true=>exact ⟨a1,by show m ≤ n;omega,b,a3⟩
   | false=>
    show WpT g n (if false=true then _ else _) _
    rw [if_neg Bool.false_ne_true]
    have all:∀ k,0 ≤ k->k < m->Eqv g (at0 p k) (at0 p (m - 1)):=fun k _ hk=>⟨a3 k (m - 1) (by omega) (by omega),o.tr _ _ _ hc (a3 0 k (by omega) hk)⟩
    have sz:m ≤ p.size:=by rw [b.size];omega
    refine kn o (b.mir _ _ _) (by omega) ?_
    refine Dn.eqv o (p:=p) (fun i j hij hj=>?_) (nK o sz all)
    by_cases hjm:j < m
    ·exact ((all j (by omega) hjm).trans o (all i (by omega) (by omega)).symm).1
    ·have:j=m:=by omega
     subst this
     by_cases hi:i=j
     ·subst hi;exact o.rf _
     ·exact o.tr _ _ _ (o.as _ _ hlt) (all i (by omega) (by omega)).2
  ·rw [if_neg hm1]
   have:m=1:=by omega
   subst this
   refine kn o b (by omega) fun i j hij hj=>?_
   by_cases hi:i=j
   ·subst hi;exact o.rf _
   ·have e1:i=0:=by omega
    have e2:j=1:=by omega
    subst e1;subst e2
    exact o.as _ _ hlt
theorem oE (o:OrdG g) {p:Array Nat} {k:Nat} (b:Bs n p) (hk:k < n) (u:Up g p k):∀ (f l r:Nat),l ≤ r->r ≤ k->r - l ≤ f->(∀ i,i < l->qY g (at0 p i) (at0 p k))->(∀ i,r ≤ i->i < k->g (at0 p k) (at0 p i)=true) ->
  WpT g n (kas_place p k f l r) (fun l'=>l' ≤ k∧(∀ i,i < l' -> qY g (at0 p i) (at0 p k))∧∀ i,l' ≤ i->i < k->g (at0 p k) (at0 p i)=true)
 | 0,l,r,h1,h2,h3,hl,hr=>by
  have:l=r:=by omega
  subst this
  exact ⟨h2,hl,hr⟩
 | f + 1,l,r,h1,h2,h3,hl,hr=>by
  unfold kas_place
  by_cases hge:l ≥ r
  ·rw [if_pos hge]
   have:l=r:=by omega
   subst this
   exact ⟨h2,hl,hr⟩
  ·rw [if_neg hge]
   refine ⟨b.lt hk,b.lt (by omega),?_⟩
   cases hc:g (p.getD k 0) (p.getD ((l + r) / 2) 0) with
   | true=>
    refine oE o b hk u f l ((l + r) / 2) (by omega) (by omega) (by omega) hl fun i h4 h5=>?_
    cases hz:g (at0 p k) (at0 p i) with
    | true=>rfl
    | false=>
     have:=o.tr _ _ _ (u _ _ h4 h5) hz
     unfold qY at this
     rw [hc] at this;cases this
   | false=>
    refine oE o b hk u f ((l + r) / 2 + 1) r (by omega) (by omega) (by omega) (fun i h4=>?_) hr
    exact o.tr _ _ _ (u i ((l + r) / 2) (by omega) (by omega)) hc
theorem Cw (o:OrdG g):∀ (f:Nat) (p:Array Nat) (k:Nat),Bs n p->k + f ≤ n->Up g p k->WpT g n (kas_bin f p k) (fun q=>Bs n q∧Up g q (k + f))
 | 0,p,k,b,_,u=>⟨b,u⟩
 | f + 1,p,k,b,hk,u=>by
  refine WpT.bind (WpT.mono (fun l hl=>?_) (oE o b (by omega) u k 0 k (by omega) (Nat.le_refl _) (by omega) (fun i h=>by omega) fun i h1 h2=>by omega))
  obtain ⟨hlk,hlo,hhi⟩:=hl
  have ks:k < p.size:=by rw [b.size];omega
  refine WpT.mono (fun q hq=>⟨hq.1,by rw [show k + (f + 1)=k + 1 + f by omega];exact hq.2⟩) (Cw o f _ (k + 1) (b.bub _ _) (by omega) fun i j hij hj=>?_)
  rw [uK ks (by omega),uK ks (by omega),show k - (k - l)=l by omega]
  generalize at0 p k=c at hlo hhi ⊢
  repeat' split
  all_goals first
   | (exfalso;omega)
   | exact o.rf _
   | exact hlo _ (by omega)
   | exact o.as _ _ (hhi _ (by omega) (by omega))
   | exact u _ _ (by omega) (by omega)
theorem w_sort (o:OrdG g) (h1:1 ≤ n):WpT g n (kas_sort n) (fun p=>Bs n p∧Up g p n):= by
 refine WpT.bind (WpT.mono (fun r hr=>?_) (w_count o (Array.Perm.refl _) h1))
 obtain ⟨a1,a2,b,u⟩:=hr
 by_cases h:r.1 < n
 ·rw [if_pos h]
  refine WpT.mono (fun q hq=>⟨hq.1,?_⟩) (Cw o (n - max r.1 1) r.2 (max r.1 1) b (by omega) (by rw [show max r.1 1=r.1 by omega];exact u))
  rw [show max r.1 1 + (n - max r.1 1)=n by omega] at hq;exact hq.2
 ·rw [if_neg h]
  exact ⟨b,by rw [show n=r.1 by omega];exact u⟩
end
end Jt.So
namespace Jt
open PySem
def de (b:Nat):Nat->Nat × Nat
 | 0=>(b % 8,b)
 | m + 1=>SetTable.leap 7 (de b m).1 (de b m).2
theorem wG (b:Nat):∀ m,(de b m).1 < 8
 | 0=>Nat.mod_lt _ (by omega)
 | m + 1=>Nat.mod_lt _ (by omega)
theorem C8 (b:Nat):∀ m,(de b m).2=b / 32 ^ m
 | 0=>by simp [de]
 | m + 1=>by
  show (de b m).2 / 32=_
  rw [C8 b m,Nat.div_div_eq_div_mul,Nat.pow_succ]
theorem tE (h:Int):SetTable.bits h < 2 ^ 64:=by unfold SetTable.bits;omega
def f7 (i:Nat):Nat:=(i * 5 + 1) % 8
def HV:Nat->Nat->Nat
 | 0,i=>i
 | k + 1,i=>f7 (HV k i)
theorem Cv (b:Nat) (hb:b < 2 ^ 64):∀ k,(de b (13 + k)).1=HV k (de b 13).1
 | 0=>rfl
 | k + 1=>by
  show ((de b (13 + k)).1 * 5 + 1 + (de b (13 + k)).2 / 32) % (7 + 1)=f7 (HV k (de b 13).1)
  rw [Cv b hb k,C8]
  have h1:b / 32 ^ (13 + k)=0:= by
   apply Nat.div_eq_of_lt
   have h2:32 ^ 13 ≤ 32 ^ (13 + k):=Nat.pow_le_pow_right (by omega) (by omega)
   have h3:(2:Nat) ^ 64 < 32 ^ 13:=by decide
   omega
  rw [h1]
  rfl
theorem EW:∀ i,i < 8->∀ j,j < 8->∃ k,k < 8∧HV k i=j:=by decide +kernel
theorem BL (b:Nat) (hb:b < 2 ^ 64) {j:Nat} (hj:j < 8):∃ m,m ≤ 20∧(de b m).1=j:= by
 obtain ⟨k,hk,e⟩:=EW _ (wG b 13) j hj
 exact ⟨13 + k,by omega,by rw [Cv b hb,e]⟩
theorem k5 {p:Nat->Prop} [DecidablePred p]:∀ {n:Nat},p n->∃ m,m ≤ n∧p m∧∀ k,k < m->¬ p k
 | 0,h=>⟨0,Nat.le_refl _,h,fun k hk=>absurd hk (Nat.not_lt_zero _)⟩
 | n + 1,h=>by
  by_cases q:∃ k,k ≤ n∧p k
  ·obtain ⟨k,hk,h2⟩:=q
   obtain ⟨m,a,b,c⟩:=k5 h2
   exact ⟨m,by omega,b,c⟩
  ·exact ⟨n + 1,Nat.le_refl _,h,fun k hk z=>q ⟨k,by omega,z⟩⟩
theorem F_ {l:List Nat} (h:l.length < 8):∃ j,j < 8∧j ∉ l:= by
 apply Classical.byContradiction
 intro z
 have all:∀ j,j < 8->j ∈ l:=fun j hj=>Classical.byContradiction fun q=>z ⟨j,hj,q⟩
 have gen:∀ (a b:List Nat),a.Nodup->(∀ x ∈ a,x ∈ b)->a.length ≤ b.length:= by
  intro a
  induction a with
  | nil=>intro b _ _;exact Nat.zero_le _
  | cons x r ih=>
   intro b nd hs
   have n:=List.nodup_cons.mp nd
   have hx:=hs x List.mem_cons_self
   have:=ih (b.erase x) n.2 fun y hy=>(List.mem_erase_of_ne (show y ≠ x from fun z=>n.1 (z ▸ hy))).mpr (hs y (List.mem_cons_of_mem _ hy))
   rw [List.length_erase_of_mem hx] at this
   have p:=List.length_pos_of_mem hx
   rw [List.length_cons]
   omega
 have:=gen (List.range 8) l List.nodup_range fun x hx=>all x (List.mem_range.mp hx)
 rw [List.length_range] at this
 omega
theorem BC (h:Int) {l:List Nat} (hl:l.length < 8):∃ M,M ≤ 20∧(de (SetTable.bits h) M).1 ∉ l∧∀ m,m < M->(de (SetTable.bits h) m).1 ∈ l:= by
 obtain ⟨j,hj,hn⟩:=F_ hl
 obtain ⟨m,hm,e⟩:=BL _ (tE h) hj
 obtain ⟨M,a,b,c⟩:=k5 (p:=fun m=>(de (SetTable.bits h) m).1 ∉ l) (n:=m) (by rw [e];exact hn)
 exact ⟨M,by omega,b,fun k hk=>Decidable.not_not.mp (c k hk)⟩
structure T7 (t:SetTable):Prop where
 mask:t.mask=7
 dum:t.dummies = #[]
 up:Up t.place
 lt:∀ j ∈ t.place.toList,j < 8
def qZ (b m:Nat):SetTable.Probe:=⟨(de b m).1,0,(de b m).1,(de b m).2,none⟩
section
variable {t:SetTable}
theorem T7.start (T:T7 t) (h:Int):t.probeStart h=qZ (SetTable.bits h) 0:= by
 unfold SetTable.probeStart
 rw [T.mask]
 have:SetTable.runEnd 7 (SetTable.bits h % (7 + 1)) - SetTable.bits h % (7 + 1)=0:= by
  unfold SetTable.runEnd
  rw [if_neg (by omega)]
  omega
 dsimp only
 rw [this]
 rfl
theorem T7.adv (T:T7 t) (b m:Nat):t.advance (qZ b m)=qZ b (m + 1):= by
 unfold SetTable.advance
 rw [T.mask]
 have e:SetTable.runEnd 7 (de b (m + 1)).1 - (de b (m + 1)).1=0:= by
  unfold SetTable.runEnd
  rw [if_neg (by omega)]
  omega
 show (if (0:Nat) > 0 then _ else _)=_
 rw [if_neg (by omega)]
 show (⟨(de b (m + 1)).1,SetTable.runEnd 7 (de b (m + 1)).1 - (de b (m + 1)).1,(de b (m + 1)).1,(de b (m + 1)).2,none⟩:SetTable.Probe)=_
 rw [e]
 rfl
theorem jd {xs:Array Nat} (u:Up xs) {j:Nat} (h:j ∈ xs.toList):xs[SetTable.below xs j]? = some j :=
 Classical.byContradiction fun z=>vF u z h
theorem T7.free (T:T7 t) {j:Nat} (h:j ∉ t.place.toList):t.slot j=.empty:= by
 unfold SetTable.slot
 have e:(t.place[SetTable.below t.place j]? == some j)=false:= by
  rw [beq_eq_false_iff_ne]
  intro z
  exact h (by rw [Array.mem_toList_iff];exact Array.mem_of_getElem? z)
 have e2:SetTable.has t.dummies j=false:=by rw [T.dum];rfl
 dsimp only
 rw [e,e2]
 rfl
theorem T7.live (T:T7 t) {j:Nat} (h:j ∈ t.place.toList):t.slot j=.live (SetTable.below t.place j):= by
 unfold SetTable.slot
 dsimp only
 rw [jd T.up h]
 simp
theorem T7.at (T:T7 t) {i j:Nat} (h:t.place[i]? = some j):SetTable.below t.place j=i:= by
 have hm:j ∈ t.place.toList:=by rw [Array.mem_toList_iff];exact Array.mem_of_getElem? h
 have e:=jd T.up hm
 rcases Nat.lt_trichotomy (SetTable.below t.place j) i with z | z | z
 ·exact absurd (T.up.lt z e h) (Nat.lt_irrefl _)
 ·exact z
 ·exact absurd (T.up.lt z h e) (Nat.lt_irrefl _)
theorem T7.go (T:T7 t) {f:Nat->Int} {h:Int} {b:Nat}:∀ (k m fuel:Nat),k < fuel->(∀ m',m ≤ m' -> m' < m + k->(de b m').1 ∈ t.place.toList∧f (SetTable.below t.place (de b m').1) ≠ h) ->
  (((de b (m + k)).1 ∉ t.place.toList->SetTable.probe.go t f h fuel (qZ b m)=some (.empty (de b (m + k)).1 none)) ∧
  ((de b (m + k)).1 ∈ t.place.toList->f (SetTable.below t.place (de b (m + k)).1)=h->SetTable.probe.go t f h fuel (qZ b m)=some (.candidate (de b (m + k)).1 (SetTable.below t.place (de b (m + k)).1) (qZ b (m + k + 1)))))
 | 0,m,fuel + 1,_,_=>by
  rw [Nat.add_zero]
  refine ⟨fun hn=>?_,fun hm hf=>?_⟩
  ·unfold SetTable.probe.go
   rw [show (qZ b m).j=(de b m).1 from rfl,T.free hn]
   rfl
  ·unfold SetTable.probe.go
   rw [show (qZ b m).j=(de b m).1 from rfl,T.live hm]
   dsimp only
   rw [if_pos (by simpa using hf),T.adv]
 | k + 1,m,fuel + 1,hk,hs=>by
  have h0:=hs m (Nat.le_refl _) (by omega)
  have ih:=T7.go T (f:=f) (h:=h) (b:=b) k (m + 1) fuel (by omega) fun m' h1 h2=>hs m' (by omega) (by omega)
  have e:SetTable.probe.go t f h (fuel + 1) (qZ b m)=SetTable.probe.go t f h fuel (qZ b (m + 1)):= by
   conv=>lhs;unfold SetTable.probe.go
   rw [show (qZ b m).j=(de b m).1 from rfl,T.live h0.1]
   dsimp only
   rw [if_neg (by simpa using h0.2),T.adv]
  rw [e,show m + (k + 1)=m + 1 + k by omega]
  exact ih
theorem T7.probe (T:T7 t) {f:Nat->Int} {h:Int} {b:Nat} {k m:Nat} (hk:k ≤ 20) (hs:∀ m',m ≤ m' -> m' < m + k->(de b m').1 ∈ t.place.toList∧f (SetTable.below t.place (de b m').1) ≠ h) :
  (((de b (m + k)).1 ∉ t.place.toList->t.probe f h (qZ b m)=some (.empty (de b (m + k)).1 none)) ∧
  ((de b (m + k)).1 ∈ t.place.toList->f (SetTable.below t.place (de b (m + k)).1)=h->t.probe f h (qZ b m)=some (.candidate (de b (m + k)).1 (SetTable.below t.place (de b (m + k)).1) (qZ b (m + k + 1))))):= by
 unfold SetTable.probe
 rw [T.mask]
 exact T.go k m _ (by unfold SetTable.turns;omega) hs
theorem me (t:SetTable) (f:Nat->Int) (h:Int) (b M:Nat):∀ (d m:Nat),m + d=M->∃ k,m + k ≤ M∧(∀ m',m ≤ m' -> m' < m + k->f (SetTable.below t.place (de b m').1) ≠ h)∧(m + k=M ∨ f (SetTable.below t.place (de b (m + k)).1)=h)
 | 0,m,e=>⟨0,by omega,fun m' h1 h2=>by omega,.inl (by omega)⟩
 | d + 1,m,e=>by
  by_cases q:f (SetTable.below t.place (de b m).1)=h
  ·exact ⟨0,by omega,fun m' h1 h2=>by omega,.inr q⟩
  ·obtain ⟨k,h1,h2,h3⟩:=me t f h b M d (m + 1) (by omega)
   refine ⟨k + 1,by omega,fun m' a1 a2=>?_,?_⟩
   ·by_cases z:m' = m
    ·rw [z];exact q
    ·exact h2 m' (by omega) (by omega)
   ·rw [show m + (k + 1)=m + 1 + k by omega];exact h3
end
theorem k9 {α:Type} (xs:Array α) {p:Nat} (x:α) (hp:p ≤ xs.size) (i:Nat):(SetTable.insertAt xs p x)[i]? = if i < p then xs[i]? else if i=p then some x else xs[i - 1]?:= by
 unfold SetTable.insertAt
 rw [Array.getElem?_append,Array.getElem?_push]
 have s1:(xs.extract 0 p).size=p:=by simp;omega
 have s2:((xs.extract 0 p).push x).size=p + 1:=by simp;omega
 rw [s1,s2]
 by_cases h1:i < p
 ·rw [if_pos (by omega),if_neg (by omega),if_pos h1,Array.getElem?_extract]
  simp
  intro;omega
 ·by_cases h2:i=p
  ·rw [if_pos (by omega),if_pos h2,if_neg h1,if_pos h2]
  ·rw [if_neg (by omega),if_neg h1,if_neg h2,Array.getElem?_extract]
   by_cases h3:i - (p + 1) < min xs.size xs.size - p
   ·rw [if_pos h3]
    congr 1
    omega
   ·rw [if_neg h3,Array.getElem?_eq_none (by omega)]
theorem jI {α:Type} (xs:Array α) (p:Nat) (x:α) (hp:p ≤ xs.size):(SetTable.insertAt xs p x).toList.Perm (x :: xs.toList):= by
 unfold SetTable.insertAt
 rw [Array.toList_append,Array.toList_push,List.append_assoc]
 have e:xs.toList=(xs.extract 0 p).toList ++ (xs.extract p xs.size).toList:= by
  rw [<- Array.toList_append]
  simp
  rw [Nat.max_eq_right hp,List.take_of_length_le (by simp)]
 conv=>rhs;rw [e]
 exact List.perm_middle
end Jt
namespace Jt.Tu
open PySem Jt
structure bW (w:World) (h:Heap) (a:Addr) (l:List (Int × Value)) (ep:Nat) (t:SetTable):Prop where
 obj:∃ o,h.get? a=some o∧o.ExactSet∧o.data=.set l.toArray ep t
 few:l.length < scanBound
 fits:t.fits l.length=true
 led:t.led = !w.params.followText "set-order"
 tb:Tb t
theorem bW.at {w:World} {h h':Heap} {a:Addr} {l:List (Int × Value)} {ep:Nat} {t:SetTable} (x:bW w h a l ep t) (k:∀ o,h.get? a=some o->h'.get? a=some o):bW w h' a l ep t:= by
 obtain ⟨o,ho,hr⟩:=x.obj
 exact ⟨⟨o,k o ho,hr⟩,x.few,x.fits,x.led,x.tb⟩
section
variable {prog:Program} {w:World} {A:Around} {E:Value->Shared->Prop} {s:Shared} {I S:Addr} {l:List (Int × Value)} {ep:Nat} {t:SetTable} {i:Nat} {f0:Value}
theorem bW.state {Q:(Array (Int × Value) × Nat × SetTable)->Shared->Prop} (x:bW w s.heap S l ep t) (h:Q (l.toArray,ep,t) s):wpAny (model prog w) A (setState S) Q E s:= by
 obtain ⟨o,ho,_,hd⟩:=x.obj
 exact wpAny_setState_of ho hd (by simpa using x.fits) h
theorem bW.ty (x:bW w s.heap S l ep t):s.TypeIs (.ref S) "set":= by
 obtain ⟨o,ho,hx,_⟩:=x.obj
 exact ⟨o,ho,hx.1⟩
theorem jV {Q:Option Value->Shared->Prop} (hI:qU s.heap I S f0 i l.length ep) (x:bW w s.heap S l ep t)
  (h:wpAny (model prog w) A.in1 (if let .int slot _:=f0 then (do
    match <- setNext S slot.toNat i ep with
    | some (x,next)=>
     setField (.ref I) 0 (rawInt next)
     setField (.ref I) 1 (rawInt (i + 1))
     ret x
    | none=>setField (.ref I) 2 .none;raiseNew (<- newExc (.type "StopIteration") []))
   else (do
    let some places <- seqItems? f0 | unsupported "internal:set_iterator"
    match places[i]? with
    | some (.int place _)=>
     let x <- setNextDrawn S place.toNat ep
     setField (.ref I) 1 (rawInt (i + 1))
     ret x
    | some _=>unsupported "internal:set_iterator"
    | none=>setField (.ref I) 0 (rawInt 0);setField (.ref I) 2 .none;raiseNew (<- newExc (.type "StopIteration") [])))
   (fun fin s'=>∃ v,fin=.done (.ret v)∧Q (some v) s') (fun e s'=>(∃ a o,e=.ref a∧s'.heap.get? a=some o∧o.cls=.type "StopIteration")∧Q none s') s) :
  wpAny (model prog w) A (pyNext (.ref I)) Q E s:= by
 have hT:s.TypeIs (.ref I) "set_iterator":=⟨_,hI,rfl⟩
 unfold pyNext
 refine wpAny_bind (wpAny_attempt (wpAny_callSpecial?_slot (name:=Str.ofString "__next__") hT d7 (wpAny_call_entry d7 hT sI ?_ (rB _))))
 unfold Builtin.«set_iterator.__next__»
 refine wpAny_bind (m:=slotArgs "__next__" 0 ⟨[.ref I],[]⟩) (wpAny_pure ?_)
 refine wpAny_bind (wpAny_fieldsOf hI rfl ?_)
 dsimp only
 refine wpAny_bind ?_
 unfold setEntries
 refine wpAny_bind (x.state (wpAny_pure ?_))
 rw [if_neg (by simp)]
 simp only [Int.toNat_natCast]
 refine wpAny_mono h (fun fin s' h'=>?_) fun e s' h'=>?_
 ·obtain ⟨v,rfl,q⟩:=h'
  exact ⟨v,rfl,wpAny_pure q⟩
 ·obtain ⟨⟨a,o,rfl,ho,hc⟩,q⟩:=h'
  exact wpAny_bind (wpAny_isInstance (T:="StopIteration") (b:=true) ⟨o,ho,hc⟩ isSubtype_stop (wpAny_pure q))
end
section
variable {prog:Program} {w:World} {A:Around} {E:Value->Shared->Prop} {s:Shared} {I S:Addr} {l:List (Int × Value)} {ep:Nat} {t:SetTable} {i:Nat} {f0:Value}
theorem tQ {Q:Option Value->Shared->Prop} {slot nx:Nat} {v:Value} (hIS:I ≠ S) (hI:qU s.heap I S (.int slot 0) i l.length ep) (x:bW w s.heap S l ep t)
  (hn:∀ (Q':Option (Value × Nat)->Shared->Prop) (E':Value->Shared->Prop),Q' (some (v,nx)) s->wpAny (model prog w) A.in1 (setNext S slot i ep) Q' E' s)
  (hQ:∀ h',qU h' I S (.int nx 0) (i + 1) l.length ep->bW w h' S l ep t->(∀ b o,b ≠ I->s.heap.get? b=some o->h'.get? b=some o)->Q (some v) { s with heap:=h' }) :
  wpAny (model prog w) A (pyNext (.ref I)) Q E s:= by
 refine jV hI x ?_
 dsimp only
 refine wpAny_bind (hn _ _ ?_)
 dsimp only
 refine wpAny_bind (wpAny_setField_rec hI (by simp) fun h1 hI1 sb1=>?_)
 refine wpAny_bind (wpAny_setField_rec hI1 (by simp) fun h2 hI2 sb2=>wpAny_pure ⟨v,rfl,?_⟩)
 refine hQ h2 (by simpa [qU,rawInt] using hI2) (x.at fun o e=>?_) fun b o hb e=>?_
 ·rw [sb2.2 S hIS.symm,sb1.2 S hIS.symm];exact e
 ·rw [sb2.2 b hb,sb1.2 b hb];exact e
theorem jD {Q:Option Value->Shared->Prop} {slot:Nat} (hh:A.handled=none) (hI:qU s.heap I S (.int slot 0) i l.length ep) (x:bW w s.heap S l ep t)
  (hn:∀ (Q':Option (Value × Nat)->Shared->Prop) (E':Value->Shared->Prop),Q' none s->wpAny (model prog w) A.in1 (setNext S slot i ep) Q' E' s)
  (hQ:∀ h',(∀ b o,b ≠ I->s.heap.get? b=some o->h'.get? b=some o)->Q none { s with heap:=h' }) :
  wpAny (model prog w) A (pyNext (.ref I)) Q E s:= by
 refine jV hI x ?_
 dsimp only
 refine wpAny_bind (hn _ _ ?_)
 dsimp only
 refine wpAny_bind (wpAny_setField_rec hI (by simp) fun h1 hI1 sb1=>?_)
 refine kI (s:={ s with heap:=h1 }) hh fun h' e kp he=>?_
 obtain ⟨o,ho,hc⟩:=he
 refine ⟨⟨e,o,rfl,ho,hc⟩,hQ h' fun b o hb e=>kp b o ?_⟩
 show h1.get? b=some o
 rw [sb1.2 b hb];exact e
theorem z_ {Q:Option Value->Shared->Prop} {T:Addr} {places:Array Value} {p:Nat} {v:Int × Value} (hIS:I ≠ S) (hIT:I ≠ T) (hI:qU s.heap I S (.ref T) i l.length ep) (x:bW w s.heap S l ep t)
  (hT:s.heap.get? T=some { cls:=.type "tuple",data:=.seq places }) (hp:places[i]? = some (.int p 0)) (hv:l[p]? = some v)
  (hQ:∀ h',qU h' I S (.ref T) (i + 1) l.length ep->bW w h' S l ep t->(∀ b o,b ≠ I->s.heap.get? b=some o->h'.get? b=some o)->Q (some (v.2)) { s with heap:=h' }) :
  wpAny (model prog w) A (pyNext (.ref I)) Q E s:= by
 refine jV hI x ?_
 dsimp only
 refine wpAny_bind (wpAny_seqItems hT rfl ?_)
 dsimp only
 rw [hp]
 dsimp only
 refine wpAny_bind ?_
 unfold setNextDrawn
 refine wpAny_bind (x.state ?_)
 dsimp only
 rw [if_neg (by simp)]
 have:l.toArray[(p:Int).toNat]? = some v:=by simp [hv]
 rw [this]
 refine wpAny_pure ?_
 refine wpAny_bind (wpAny_setField_rec hI (by simp) fun h1 hI1 sb1=>wpAny_pure ⟨_,rfl,?_⟩)
 refine hQ h1 (by simpa [qU,rawInt] using hI1) (x.at fun o e=>?_) fun b o hb e=>?_
 ·rw [sb1.2 S hIS.symm];exact e
 ·rw [sb1.2 b hb];exact e
theorem qS {Q:Option Value->Shared->Prop} {T:Addr} {places:Array Value} (hh:A.handled=none) (hI:qU s.heap I S (.ref T) i l.length ep) (x:bW w s.heap S l ep t)
  (hT:s.heap.get? T=some { cls:=.type "tuple",data:=.seq places }) (hp:places[i]? = none)
  (hQ:∀ h',(∀ b o,b ≠ I->s.heap.get? b=some o->h'.get? b=some o)->Q none { s with heap:=h' }) :
  wpAny (model prog w) A (pyNext (.ref I)) Q E s:= by
 refine jV hI x ?_
 dsimp only
 refine wpAny_bind (wpAny_seqItems hT rfl ?_)
 dsimp only
 rw [hp]
 dsimp only
 refine wpAny_bind (wpAny_setField_rec hI (by simp) fun h1 hI1 sb1=>?_)
 refine wpAny_bind (wpAny_setField_rec hI1 (by simp) fun h2 hI2 sb2=>?_)
 refine kI (s:={ s with heap:=h2 }) hh fun h' e kp he=>?_
 obtain ⟨o,ho,hc⟩:=he
 refine ⟨⟨e,o,rfl,ho,hc⟩,hQ h' fun b o hb e=>kp b o ?_⟩
 show h2.get? b=some o
 rw [sb2.2 b hb,sb1.2 b hb];exact e
theorem oz {Q:Value->Shared->Prop} {n:Nat} (hI:qU s.heap I S f0 i n ep) (h:Q (.ref I) s):wpAny (model prog w) A (pyIter (.ref I)) Q E s:= by
 have hT:s.TypeIs (.ref I) "set_iterator":=⟨_,hI,rfl⟩
 refine wpAny_pyIter_slot hT k_ (wpAny_call_entry k_ hT rN ?_ (sG _))
 show wpAny (model prog w) _ (ret (.ref I)) _ _ s
 exact wpAny_pure ⟨_,rfl,"set_iterator",_,hT,d7.lookup,h⟩
end
section
variable {prog:Program} {w:World} {A:Around} {E:Value->Shared->Prop} {s:Shared} {I S:Addr} {l:List (Int × Value)} {ep:Nat} {t:SetTable} {i:Nat} {f0:Value}
theorem vp {Q:Bool->Shared->Prop} (x:bW w s.heap S l ep t) (h:Q (!w.params.followText "set-order" && (!t.plain && decide (l.length > 1))) s):wpAny (model prog w) A (setDrawn S) Q E s:= by
 unfold setDrawn
 refine wpAny_bind (x.state ?_)
 refine wpAny_bind (jQ ?_)
 have e:l.toArray.size=l.length:=by simp
 rw [<- e] at h
 exact wpAny_pure h
theorem mF {Q:Option (Value × Nat)->Shared->Prop} {slot:Nat} (hw:w.params.followText "set-order" = true) (x:bW w s.heap S l ep t) (h:Q (((pickOrder (w.params.setOrder S ep) l.toArray)[i]?).map fun e=>(e.2,slot)) s) :
  wpAny (model prog w) A (setNext S slot i ep) Q E s:= by
 unfold setNext
 refine wpAny_bind (x.state ?_)
 dsimp only
 refine wpAny_bind (jQ ?_)
 rw [hw,if_pos rfl,if_neg (by simp)]
 refine wpAny_bind ?_
 unfold setWalk
 refine wpAny_bind (x.state ?_)
 dsimp only
 refine wpAny_bind (jQ ?_)
 rw [hw,if_pos rfl]
 exact wpAny_bind (wpAny_askSetting (wpAny_pure (wpAny_pure h)))
theorem kZ {Q:Option (Value × Nat)->Shared->Prop} {slot:Nat} (hw:w.params.followText "set-order" = false) (hd:(!t.plain && decide (l.length > 1))=false) (x:bW w s.heap S l ep t)
  (h:Q (match l.toArray[SetTable.below t.place slot]?,t.place[SetTable.below t.place slot]? with
   | some (_,x),some j=>some (x,j + 1)
   | _,_=>none) s):wpAny (model prog w) A (setNext S slot i ep) Q E s:= by
 unfold setNext
 refine wpAny_bind (x.state ?_)
 dsimp only
 refine wpAny_bind (jQ ?_)
 rw [hw,if_neg Bool.false_ne_true]
 have e:l.toArray.size=l.length:=by simp
 rw [<- e] at hd
 refine (show ∀ {b:Bool} {m k:Sem (Option (Value × Nat))},b=false->wpAny (model prog w) A k Q E s->wpAny (model prog w) A (if b=true then m else k) Q E s from fun hb hk=>by rw [hb,if_neg Bool.false_ne_true];exact hk) hd ?_
 refine wpAny_bind ?_
 have hl:t.led=true:=by rw [x.led,hw];rfl
 refine (show ∀ {b:Bool} {m k:Sem PUnit} {Q':PUnit->Shared->Prop},b=false->wpAny (model prog w) A k Q' E s->wpAny (model prog w) A (if b=true then m else k) Q' E s from fun hb hk=>by rw [hb,if_neg Bool.false_ne_true];exact hk) (show (!t.led && !l.toArray.isEmpty)=false by rw [hl];rfl) ?_
 exact wpAny_pure (wpAny_pure h)
def o5 (prog:Program) (w:World) (I S:Addr) (l:List (Int × Value)) (h':Heap) (top:Addr):Prop :=
 ∃ (ord:List (Int × Value)) (fp:List Addr) (St:Nat->Heap->Prop),ord.Perm l∧(∀ A:Around,A.handled=none->Walks prog w A I fp [I] l.length (fun i v=>∃ p,ord[i]? = some p∧v=p.2) St)∧St 0 h' ∧
  (∀ i h,St i h->∃ o,h.get? I=some o∧o.cls=.type "set_iterator")∧I ∈ fp∧∀ b ∈ fp,b < h'.objs.size∧(b=S ∨ top ≤ b)
theorem qL {h':Heap} {top:Addr} (hw:w.params.followText "set-order" = true) (hIS:I ≠ S) (ht:top ≤ I) (hI:qU h' I S (.int 0 0) 0 l.length ep) (x:bW w h' S l ep t):o5 prog w I S l h' top:= by
 have p0:=u6 (w.params.setOrder S ep) l.toArray
 obtain ⟨ord,eord⟩:∃ ord,ord=(pickOrder (w.params.setOrder S ep) l.toArray).toList:=⟨_,rfl⟩
 have pord:ord.Perm l:=by rw [eord];simpa using p0
 have eg:∀ i:Nat,(pickOrder (w.params.setOrder S ep) l.toArray)[i]? = ord[i]?:=fun i=>by
  rw [<- Array.getElem?_toList,eord]
 have hlen:ord.length=l.length:=pord.length_eq
 refine ⟨ord,[I,S],fun i h=>qU h I S (.int 0 0) i l.length ep∧bW w h S l ep t,pord,fun A hh=>⟨?_,?_,?_,?_,?_⟩,⟨hI,x⟩,fun i h st=>⟨_,st.1,rfl⟩,by simp,fun b hb=>?_⟩
 ·intro b hb
  rw [List.mem_singleton.mp hb];simp
 ·intro i h h2 st k
  exact ⟨k I (by simp) _ st.1,st.2.at fun o e=>k S (by simp) o e⟩
 ·intro i s Q E hi st hQ
  have hx:ord[i]? = some ord[i]:=List.getElem?_eq_getElem (by omega)
  refine tQ (v:=ord[i].2) (nx:=0) hIS st.1 st.2 (fun Q' E' q=>mF hw st.2 ?_) fun h2 a1 a2 a3=>hQ _ h2 s.toks ⟨_,hx,rfl⟩ ⟨a1,a2⟩ fun b o hb e=>a3 b o (fun z=>hb (by rw [z];simp)) e
  rw [eg,hx];exact q
 ·intro s Q E st hQ
  refine jD hh st.1 st.2 (fun Q' E' q=>mF hw st.2 ?_) fun h2 a3=>hQ h2 s.toks fun b o hb e=>a3 b o (fun z=>hb (by rw [z];simp)) e
  rw [eg,List.getElem?_eq_none (by omega)];exact q
 ·intro i s Q E st hQ
  exact oz st.1 hQ
 ·rcases List.mem_cons.mp hb with e | hb
  ·rw [e];exact ⟨Heap.lt_size hI,.inr ht⟩
  ·rw [List.mem_singleton.mp hb]
   obtain ⟨o,ho,_⟩:=x.obj
   exact ⟨Heap.lt_size ho,.inl rfl⟩
theorem oA {h':Heap} {top:Addr} (hw:w.params.followText "set-order" = false) (hd:(!t.plain && decide (l.length > 1))=false) (hIS:I ≠ S) (ht:top ≤ I) (hI:qU h' I S (.int 0 0) 0 l.length ep) (x:bW w h' S l ep t):o5 prog w I S l h' top:= by
 have hsz:t.place.size=l.length:= by
  have:=x.fits
  simp only [SetTable.fits,Bool.and_eq_true,beq_iff_eq] at this
  exact this.1
 have u:Up t.place:= by
  cases hp:t.plain with
  | true=>exact x.tb hp
  | false=>
   rw [hp] at hd
   have hl:¬ l.length > 1:=by simpa using hd
   unfold Up
   have hlt:t.place.toList.length ≤ 1:=by rw [Array.length_toList];omega
   generalize t.place.toList=q at hlt
   match q,hlt with
   | [],_=>exact List.Pairwise.nil
   | [_],_=>exact List.pairwise_singleton _ _
   | _ :: _ :: _,h=>simp at h
 refine ⟨l,[I,S],fun i h=>∃ slot:Nat,qU h I S (.int slot 0) i l.length ep∧bW w h S l ep t∧SetTable.below t.place slot=i,List.Perm.refl _,fun A hh=>⟨?_,?_,?_,?_,?_⟩,⟨0,hI,x,rY u⟩,fun i h ⟨_,st,_⟩=>⟨_,st,rfl⟩,by simp,fun b hb=>?_⟩
 ·intro b hb
  rw [List.mem_singleton.mp hb];simp
 ·rintro i h h2 ⟨slot,st1,st2,st3⟩ k
  exact ⟨slot,k I (by simp) _ st1,st2.at fun o e=>k S (by simp) o e,st3⟩
 ·rintro i s Q E hi ⟨slot,st1,st2,st3⟩ hQ
  have hx:l[i]? = some l[i]:=List.getElem?_eq_getElem hi
  have hp:t.place[i]? = some t.place[i]:=by simp [hsz,hi]
  refine tQ (v:=l[i].2) (nx:=t.place[i] + 1) hIS st1 st2 (fun Q' E' q=>kZ hw hd st2 ?_) fun h2 a1 a2 a3=>hQ _ h2 s.toks ⟨_,hx,rfl⟩ ⟨_,a1,a2,rK u hp⟩ fun b o hb e=>a3 b o (fun z=>hb (by rw [z];simp)) e
  have e1:l.toArray[i]? = some l[i]:=by simp [hi]
  rw [st3,e1,hp];exact q
 ·rintro s Q E ⟨slot,st1,st2,st3⟩ hQ
  refine jD hh st1 st2 (fun Q' E' q=>kZ hw hd st2 ?_) fun h2 a3=>hQ h2 s.toks fun b o hb e=>a3 b o (fun z=>hb (by rw [z];simp)) e
  have e1:l.toArray[l.length]? = none:=by simp
  rw [st3,e1];exact q
 ·rintro i s Q E ⟨slot,st1,st2,st3⟩ hQ
  exact oz st1 hQ
 ·rcases List.mem_cons.mp hb with e | hb
  ·rw [e];exact ⟨Heap.lt_size hI,.inr ht⟩
  ·rw [List.mem_singleton.mp hb]
   obtain ⟨o,ho,_⟩:=x.obj
   exact ⟨Heap.lt_size ho,.inl rfl⟩
theorem qI {h':Heap} {top T:Addr} {ys:List Nat} (hp:ys.Perm (List.range l.length)) (hIS:I ≠ S) (hIT:I ≠ T) (ht:top ≤ I) (htT:top ≤ T) (hI:qU h' I S (.ref T) 0 l.length ep) (x:bW w h' S l ep t)
  (hT:h'.get? T=some { cls:=.type "tuple",data:=.seq (ys.map fun (i:Nat)=>rawInt i).toArray }):o5 prog w I S l h' top:= by
 have hyl:ys.length=l.length:=by rw [hp.length_eq,List.length_range]
 have hin:∀ y ∈ ys,y < l.length:=fun y hy=>List.mem_range.mp (hp.mem_iff.mp hy)
 have hpo:(ys.filterMap fun i=>l[i]?).Perm l:=(hp.filterMap _).trans (by rw [List.filterMap_getElem?_range_length])
 have eg:∀ i (h:i < ys.length),(ys.filterMap fun i=>l[i]?)[i]? = l[ys[i]]?:= by
  have gen:∀ (zs:List Nat),(∀ y ∈ zs,y < l.length)->∀ i (h:i < zs.length),(zs.filterMap fun i=>l[i]?)[i]? = l[zs[i]]?:= by
   intro zs
   induction zs with
   | nil=>intro _ i h;exact absurd h (Nat.not_lt_zero _)
   | cons z zs ih=>
    intro hz i h
    have hzl:z < l.length:=hz z List.mem_cons_self
    have e1:l[z]? = some l[z]:=List.getElem?_eq_getElem hzl
    rw [List.filterMap_cons_some e1]
    cases i with
    | zero=>simp [e1]
    | succ i=>simpa using ih (fun y hy=>hz y (List.mem_cons_of_mem _ hy)) i (by simpa using h)
  exact gen ys hin
 refine ⟨ys.filterMap fun i=>l[i]?,[I,S,T],fun i h=>qU h I S (.ref T) i l.length ep∧bW w h S l ep t∧h.get? T=some { cls:=.type "tuple",data:=.seq (ys.map fun (i:Nat)=>rawInt i).toArray },hpo,fun A hh=>⟨?_,?_,?_,?_,?_⟩,⟨hI,x,hT⟩,fun i h st=>⟨_,st.1,rfl⟩,by simp,fun b hb=>?_⟩
 ·intro b hb
  rw [List.mem_singleton.mp hb];simp
 ·rintro i h h2 ⟨st1,st2,st3⟩ k
  exact ⟨k I (by simp) _ st1,st2.at fun o e=>k S (by simp) o e,k T (by simp) _ st3⟩
 ·rintro i s Q E hi ⟨st1,st2,st3⟩ hQ
  have hi':i < ys.length:=by omega
  have hyi:ys[i] < l.length:=hin _ (List.getElem_mem hi')
  have hx:l[ys[i]]? = some l[ys[i]]:=List.getElem?_eq_getElem hyi
  refine z_ hIS hIT st1 st2 st3 (p:=ys[i]) (by simp [hi',rawInt]) hx fun h2 a1 a2 a3=>hQ _ h2 s.toks ⟨_,(eg i hi').trans hx,rfl⟩ ⟨a1,a2,a3 T _ (fun z=>hIT z.symm) st3⟩ fun b o hb e=>a3 b o (fun z=>hb (by rw [z];simp)) e
 ·rintro s Q E ⟨st1,st2,st3⟩ hQ
  exact qS hh st1 st2 st3 (by simp [hyl]) fun h2 a3=>hQ h2 s.toks fun b o hb e=>a3 b o (fun z=>hb (by rw [z];simp)) e
 ·rintro i s Q E ⟨st1,st2,st3⟩ hQ
  exact oz st1 hQ
 ·rcases List.mem_cons.mp hb with e | hb
  ·rw [e];exact ⟨Heap.lt_size hI,.inr ht⟩
  ·rcases List.mem_cons.mp hb with e | hb
   ·rw [e]
    obtain ⟨o,ho,_⟩:=x.obj
    exact ⟨Heap.lt_size ho,.inl rfl⟩
   ·rw [List.mem_singleton.mp hb]
    exact ⟨Heap.lt_size hT,.inr htT⟩
theorem vw {Q:Value->Shared->Prop} (x:bW w s.heap S l ep t)
  (h:∀ (I:Addr) (h':Heap) (d:Drawn),(∀ b o,s.heap.get? b=some o->h'.get? b=some o)->s.heap.objs.size ≤ I->o5 prog w I S l h' s.heap.objs.size->Q (.ref I) { s with heap:=h',drawn:=d }) :
  wpAny (model prog w) A (pyIter (.ref S)) Q E s:= by
 have hS:S < s.heap.objs.size:=by obtain ⟨o,ho,_⟩:=x.obj;exact Heap.lt_size ho
 refine wpAny_pyIter_slot x.ty F.slot_set_iter (wpAny_call_entry F.slot_set_iter x.ty qw ?_ (F.args_set_iter_1 _))
 unfold Builtin.«frozenset.__iter__»
 refine wpAny_bind (m:=Builtin.Frozenset.slot0 "__iter__" ⟨[.ref S],[]⟩) (wpAny_pure ?_)
 refine wpAny_bind ?_
 unfold Builtin.Frozenset.sizeOf setEntries
 refine wpAny_bind (wpAny_bind (x.state (wpAny_pure (wpAny_pure ?_))))
 have ez:l.toArray.size=l.length:=by simp
 rw [ez]
 refine wpAny_bind (vp x ?_)
 by_cases hb:(!w.params.followText "set-order" && (!t.plain && decide (l.length > 1)))=true
 ·rw [if_pos hb]
  refine wpAny_bind (rj l.length (List.range l.length) s (by simp) fun ys d py=>?_)
  have hyl:ys.length=l.length:=by rw [py.length_eq,List.length_range]
  refine wpAny_bind (wpAny_newTuple ?_ (by rw [List.length_map,hyl];exact fits_of_scanBound x.few))
  have x2:bW w (s.heap.push { cls:=.type "tuple",data:=.seq (ys.map fun (i:Nat)=>rawInt i).toArray }) S l ep t:=x.at fun o e=>Heap.get?_push_of_some _ e
  refine wpAny_bind ?_
  unfold setEpoch
  refine wpAny_bind (bW.state (s:={ s with drawn:=d,heap:=s.heap.push { cls:=.type "tuple",data:=.seq (ys.map fun (i:Nat)=>rawInt i).toArray } }) x2 (wpAny_pure ?_))
  refine wpAny_bind (wpAny_newObj_type (wpAny_pure ⟨_,rfl,"set_iterator",_,⟨_,Heap.get?_push_size _ rfl,rfl⟩,d7.lookup,?_⟩))
  refine h _ _ d (fun b o e=>Heap.get?_push_of_some _ (Heap.get?_push_of_some _ e)) (by show s.heap.objs.size ≤ (s.heap.push _).objs.size;rw [Heap.size_push];exact Nat.le_succ _) ?_
  refine qI (t:=t) py (fun z=>?_) (fun z=>?_) ?_ (Nat.le_refl _) (Heap.get?_push_size _ rfl) (x2.at fun o e=>Heap.get?_push_of_some _ e) (Heap.get?_push_of_some _ (Heap.get?_push_size _ rfl))
  ·rw [<- z] at hS
   have hS':(s.heap.push { cls:=.type "tuple",data:=.seq (ys.map fun (i:Nat)=>rawInt i).toArray }).objs.size < s.heap.objs.size:=hS
   rw [Heap.size_push] at hS'
   exact absurd hS' (Nat.not_lt.mpr (Nat.le_succ _))
  ·have z':(s.heap.push { cls:=.type "tuple",data:=.seq (ys.map fun (i:Nat)=>rawInt i).toArray }).objs.size=s.heap.objs.size:=z
   rw [Heap.size_push] at z'
   exact Nat.succ_ne_self _ z'
  ·show s.heap.objs.size ≤ (s.heap.push _).objs.size
   rw [Heap.size_push];exact Nat.le_succ _
 ·rw [if_neg hb]
  refine wpAny_bind (wpAny_pure ?_)
  refine wpAny_bind ?_
  unfold setEpoch
  refine wpAny_bind (x.state (wpAny_pure ?_))
  refine wpAny_bind (wpAny_newObj_type (wpAny_pure ⟨_,rfl,"set_iterator",_,⟨_,Heap.get?_push_size _ rfl,rfl⟩,d7.lookup,?_⟩))
  refine h _ _ s.drawn (fun b o e=>Heap.get?_push_of_some _ e) (Nat.le_refl _) ?_
  have x2:bW w (s.heap.push { cls:=.type "set_iterator",data:=.fields [rawInt 0,rawInt 0,.ref S,rawInt l.length,rawInt ep].toArray }) S l ep t:=x.at fun o e=>Heap.get?_push_of_some _ e
  cases hw:w.params.followText "set-order" with
  | true=>exact qL hw (fun z=>Nat.lt_irrefl _ (z ▸ hS)) (Nat.le_refl _) (Heap.get?_push_size _ rfl) x2
  | false=>
   rw [hw] at hb
   exact oA hw (by simpa using hb) (fun z=>Nat.lt_irrefl _ (z ▸ hS)) (Nat.le_refl _) (Heap.get?_push_size _ rfl) x2
end
section
variable {prog:Program} {w:World} {A:Around} {E:Value->Shared->Prop} {s:Shared} {I S:Addr} {l:List (Int × Value)} {ep:Nat} {t:SetTable}
theorem wk {Q:Bool->Shared->Prop} (x:bW w s.heap S l ep t) (h:Q false s):wpAny (model prog w) A (Builtin.List.listLengthHint (.ref S)) Q E s:= by
 unfold Builtin.List.listLengthHint
 refine wpAny_bind (wpAny_specialOf x.ty F.slot_set_len.lookup ?_)
 generalize zh:("set.__len__":String)=id0
 wp_delta
 rw [show splitId id0=some ("set","__len__") from by subst zh;decide +kernel]
 subst zh
 refine wpAny_bind (wpAny_isInstance (T:="set") (b:=true) x.ty (by rw [isSubtype_type];kernel_rfl) ?_)
 refine wpAny_ite_split (fun hab=>absurd hab (by decide)) (fun _=>?_)
 refine wpAny_ite_split (fun _=>?_) (fun hab=>absurd (by decide +kernel) hab)
 exact wpAny_bind (wpAny_typeOf x.ty (wpAny_pure h))
theorem Bp {ord:List (Int × Value)} {acc:Array Value} (h:ItemsOf (fun i v=>∃ p,ord[i]? = some p∧v=p.2) acc ord.length):acc.toList=ord.map fun p=>p.2:= by
 refine List.ext_getElem? fun i=>?_
 rw [List.getElem?_map]
 by_cases hi:i < acc.size
 ·have e:acc[i]? = some acc[i]:=by simp [hi]
  obtain ⟨p,h1,h2⟩:=h.2 i _ e
  rw [Array.getElem?_toList,e,h1,h2];rfl
 ·rw [Array.getElem?_toList,Array.getElem?_eq_none (by omega),List.getElem?_eq_none (by have:=h.1;omega)];rfl
theorem nH {Q:List Value->Shared->Prop} (hh:A.handled=none) (x:bW w s.heap S l ep t)
  (h:∀ (ord:List (Int × Value)) (h':Heap) (tk:Nat) (d:Drawn),ord.Perm l->(∀ b o,s.heap.get? b=some o->h'.get? b=some o)->Q (ord.map fun p=>p.2) { s with heap:=h',toks:=tk,drawn:=d }) :
  wpAny (model prog w) A (collect (.ref S)) Q E s:= by
 have hSlt:S < s.heap.objs.size:=by obtain ⟨o,ho,_⟩:=x.obj;exact Heap.lt_size ho
 unfold collect
 refine wpAny_bind (wpAny_runValue (codeAny_builtin F.entry_proto_collect ?_))
 rw [Around.under_plainId F.plain_proto_collect _]
 show wpAny (model prog w) A.in1 (newList [] >>= fun l=>again (.builtin "list.__iadd__" ⟨[l,.ref S],[]⟩)) _ _ s
 refine wpAny_bind (wpAny_newObj_type (wpAny_pure ⟨plainId_quiet F.plain_list_iadd _,codeAny_builtin F.entry_list_iadd ?_⟩))
 rw [Around.under_plainId F.plain_list_iadd _]
 have g1:(s.heap.push { cls:=.type "list",data:=.seq ([]:List Value).toArray }).get? s.heap.objs.size=some { cls:=.type "list",data:=.seq ([]:List Value).toArray }:=Heap.get?_push_size _ rfl
 have x1:bW w (s.heap.push { cls:=.type "list",data:=.seq ([]:List Value).toArray }) S l ep t:=x.at fun o e=>Heap.get?_push_of_some _ e
 have hsr:Builtin.List.listSameRef (.ref s.heap.objs.size) (.ref S)=false:= by
  show (s.heap.objs.size == S)=false
  simp only [beq_eq_false_iff_ne]
  exact Nat.ne_of_gt hSlt
 show wpAny (model prog w) A.in1 (Builtin.List.listExtendWith (.ref s.heap.objs.size) (.ref S) (.ref s.heap.objs.size)) _ _ _
 unfold Builtin.List.listExtendWith
 refine wpAny_bind (wpAny_typeOf (bW.ty (s:={ s with heap:=s.heap.push { cls:=.type "list",data:=.seq ([]:List Value).toArray } }) x1) ?_)
 have h2:(Value.type "set" == Value.type "list")=false:=by decide
 have h3:(Value.type "set" == Value.type "tuple")=false:=by decide
 simp only [hsr,h2,h3,Bool.or_false,Bool.false_eq_true,if_false]
 refine wpAny_bind (vw (s:={ s with heap:=s.heap.push { cls:=.type "list",data:=.seq ([]:List Value).toArray } }) x1 fun I h1 d kp hI Y=>?_)
 have x2:bW w h1 S l ep t:=x1.at fun o e=>kp S o e
 refine wpAny_bind (wpAny_holding (wk (s:={ s with heap:=h1,drawn:=d }) x2 ?_))
 refine wpAny_ite_split (fun _=>?_) (fun hab=>absurd (by decide +kernel) hab)
 refine wpAny_bind (wpAny_rule (wpAny_bind ?_))
 have g2:=kp _ _ g1
 show wpAny (model prog w) A.in1 (updateSeq s.heap.objs.size (·.push .none) >>= fun _=>updateSeq s.heap.objs.size (·.pop)) _ _ { s with heap:=h1,drawn:=d }
 refine wpAny_bind (wpAny_updateSeq (s:={ s with heap:=h1,drawn:=d }) g2 rfl ?_)
 have g3:=Heap.get?_update_self (Obj.mapSeq (·.push Value.none)) g2 rfl
 refine wpAny_updateSeq (s:={ s with heap:=h1.update s.heap.objs.size (Obj.mapSeq (·.push Value.none)),drawn:=d }) g3 rfl ?_ (hz:=by seq_fits)
 have g4:=Heap.get?_update_self (Obj.mapSeq (·.pop)) g3 rfl
 obtain ⟨ord,fp,St,po,W,st0,hT,hIf,hfp⟩:=Y
 have hSf:s.heap.objs.size ∉ fp:=fun hm=>by
  obtain ⟨_,h6⟩:=hfp _ hm
  rcases h6 with e | e
  ·rw [e] at hSlt;exact Nat.lt_irrefl _ hSlt
  ·have e':(s.heap.push { cls:=.type "list",data:=.seq ([]:List Value).toArray }).objs.size ≤ s.heap.objs.size:=e
   rw [Heap.size_push] at e'
   exact Nat.not_succ_le_self _ e'
 have oth:∀ b o,b ≠ s.heap.objs.size->h1.get? b=some o->((h1.update s.heap.objs.size (Obj.mapSeq (·.push Value.none))).update s.heap.objs.size (Obj.mapSeq (·.pop))).get? b=some o:=fun b o hb e=>by
  rw [Heap.get?_update_other _ _ (Ne.symm hb),Heap.get?_update_other _ _ (Ne.symm hb)];exact e
 have hlen:ord.length=l.length:=po.length_eq
 have st1:St 0 ((h1.update s.heap.objs.size (Obj.mapSeq (·.push Value.none))).update s.heap.objs.size (Obj.mapSeq (·.pop))):=(W A.in1 hh).frame 0 h1 _ st0 fun b hb o e=>oth b o (fun z=>hSf (z ▸ hb)) e
 refine wpAny_pure ⟨plainId_quiet F.plain_extend_loop _,codeAny_extend_loopS (W A.in1 hh).toS (fits_of_scanBound x.few) _ hSf _ l.length 0 { s with heap:=(h1.update s.heap.objs.size (Obj.mapSeq (·.push Value.none))).update s.heap.objs.size (Obj.mapSeq (·.pop)),drawn:=d } #[] _ rfl (Nat.zero_le _) st1 g4 (ItemsOf.nil _) fun s' acc' c' hm hS' hacc=>?_⟩
 show wpAny (model prog w) A (load s.heap.objs.size >>= _) _ _ s'
 refine wpAny_bind (wpAny_load hS' (wpAny_pure ?_))
 rw [<- hlen] at hacc
 rw [Bp hacc,Moved.eq_with hm]
 refine h ord s'.heap s'.toks d po fun b o e=>?_
 have hb:=Heap.lt_size e
 refine hm.heap b o (fun hmem=>?_) (oth b o (Nat.ne_of_lt hb) (kp b o (Heap.get?_push_of_some _ e)))
 rcases List.mem_cons.mp hmem with e' | hmem
 ·rw [e'] at hb;exact Nat.lt_irrefl _ hb
 ·have e':=List.mem_singleton.mp hmem
  have hI':(s.heap.push { cls:=.type "list",data:=.seq ([]:List Value).toArray }).objs.size ≤ I:=hI
  rw [Heap.size_push] at hI'
  exact absurd hb (Nat.not_lt.mpr (Nat.le_of_succ_le (e' ▸ hI')))
end
end Jt.Tu
namespace Jt.Tu
open PySem Jt
section
variable {prog:Program} {w:World} {A:Around} {E:Value->Shared->Prop} {s:Shared}
abbrev dD (prog:Program) (w:World) (h:Heap) (ks:List Int) (a:Addr):Prop:=IsTupleKey (intKind prog w) h ks a
abbrev th (prog:Program) (w:World) (ks:List Int):Int:=tupleKeyHash (intKind prog w) ks
theorem jF {ks:List Int} {a:Addr} {Q:Bool->Shared->Prop} (hk:dD prog w s.heap ks a) (h:Q false s):wpAny (model prog w) A (ofAClassStatement 8 (.ref a)) Q E s:= by
 have hT:=hk.typeIs
 obtain ⟨o,items,n,ho,_,hd,hi⟩:=hk
 unfold ofAClassStatement
 refine wpAny_bind (wpAny_typeOf hT ?_)
 dsimp only
 rw [if_pos (by decide)]
 refine wpAny_bind (wpAny_pure ?_)
 simp only [Bool.not_true,Bool.false_eq_true,if_false]
 refine wpAny_bind (wpAny_seqItems ho hd ?_)
 dsimp only
 refine wpAny_bind ?_
 show wpAny _ _ (forIn items _ _) _ _ s
 rw [<- Array.forIn_toList]
 refine wpAny_forIn_list _ (fun rest r s'=>r.1=none∧s' = s∧∀ v ∈ rest,carriedByValue v=true) _ ?_ ?_ _ _ ⟨rfl,rfl,hi.byValue⟩
 ·rintro v rest r s' ⟨hr,rfl,hall⟩
  have hv:=hall v List.mem_cons_self
  have e:ofAClassStatement 7 v=pure false:= by
   cases v <;> first | rfl | (cases hv)
  rw [e]
  refine wpAny_bind (wpAny_pure ?_)
  simp only [Bool.false_eq_true,if_false]
  exact wpAny_pure ⟨rfl,rfl,fun u hu'=>hall u (List.mem_cons_of_mem _ hu')⟩
 ·rintro ⟨r1,r2⟩ s' ⟨hr,rfl,_⟩
  simp only at hr
  subst hr
  exact wpAny_pure h
theorem wK {ks:List Int} {a:Addr} {ys:List Value} {Q:Bool->Shared->Prop} (hk:dD prog w s.heap ks a) (hy:∀ y ∈ ys,∃ k b,y=.ref b∧dD prog w s.heap k b) (h:Q false s):wpAny (model prog w) A (searchCouldBeSeen (.ref a) ys) Q E s:= by
 unfold searchCouldBeSeen
 refine wpAny_bind ?_
 refine wpAny_forIn_list _ (fun rest r s'=>r.1=none∧s' = s∧∀ y ∈ rest,∃ k b,y=.ref b∧dD prog w s.heap k b) _ ?_ ?_ _ _ ⟨rfl,rfl,hy⟩
 ·rintro v rest r s' ⟨hr,rfl,hall⟩
  obtain ⟨k,b,rfl,hb⟩:=hall v List.mem_cons_self
  have tl:∀ y ∈ rest,∃ k b,y=.ref b∧dD prog w s'.heap k b:=fun u hu'=>hall u (List.mem_cons_of_mem _ hu')
  dsimp only
  by_cases hab:(a == b)=true
  ·rw [if_pos (by rw [hab];rfl)]
   exact wpAny_pure ⟨rfl,rfl,tl⟩
  ·rw [if_neg (by rw [Bool.eq_false_iff.mpr hab];simp [carriedByValue])]
   refine wpAny_bind (wpAny_eqIsQuiet_tuple hk ?_)
   simp only [Bool.not_true,Bool.false_eq_true,if_false]
   refine wpAny_bind (wpAny_eqIsQuiet_tuple hb ?_)
   simp only [Bool.not_true,Bool.false_eq_true,if_false]
   refine wpAny_bind (jF hk ?_)
   simp only [Bool.false_eq_true,if_false]
   refine wpAny_bind (jF hb ?_)
   simp only [Bool.false_eq_true,if_false]
   exact wpAny_pure ⟨rfl,rfl,tl⟩
 ·rintro ⟨r1,r2⟩ s' ⟨hr,rfl,_⟩
  simp only at hr
  subst hr
  exact wpAny_pure h
end
def ek (prog:Program) (w:World) (p:List Int × Addr):Int × Value:=(th prog w p.1,.ref p.2)
structure TS (prog:Program) (w:World) (h:Heap) (S:Addr) (l:List (List Int × Addr)) (ep:Nat) (t:SetTable):Prop where
 x:bW w h S (l.map (ek prog w)) ep t
 keys:∀ p ∈ l,dD prog w h p.1 p.2
 t7:T7 t
 way:∀ (i:Nat) (p:List Int × Addr),l[i]? = some p->∃ m,t.place[i]? = some (de (SetTable.bits (th prog w p.1)) m).1∧∀ m',m' < m->(de (SetTable.bits (th prog w p.1)) m').1 ∈ t.place.toList
section
variable {prog:Program} {w:World} {A:Around} {E:Value->Shared->Prop} {s:Shared} {S:Addr} {l:List (List Int × Addr)} {ep:Nat} {t:SetTable}
theorem TS.size (T:TS prog w s.heap S l ep t):t.place.size=l.length:= by
 have:=T.x.fits
 simp only [SetTable.fits,Bool.and_eq_true,beq_iff_eq,List.length_map] at this
 exact this.1
theorem TS.search (T:TS prog w s.heap S l ep t) {k:List Int} {a:Addr} {Q:SetFound->Shared->Prop} (hu:A.units < cLine) (hk:dD prog w s.heap k a) {M:Nat} (hM:M ≤ 20)
  (hfree:(de (SetTable.bits (th prog w k)) M).1 ∉ t.place.toList) (hway:∀ m,m < M->(de (SetTable.bits (th prog w k)) m).1 ∈ t.place.toList) (h1:k ∈ l.map (·.1)->Q (.there none) s) (h2:k ∉ l.map (·.1)->Q (.free (de (SetTable.bits (th prog w k)) M).1 false) s) :
  ∀ (d m fuel:Nat) (st:Option SetTable.Probe),m + d=M->d < fuel->st.getD (t.probeStart (th prog w k))=qZ (SetTable.bits (th prog w k)) m ->
   (k ∈ l.map (·.1)->∃ (m1 i:Nat) (p:List Int × Addr),m ≤ m1∧m1 < M∧l[i]? = some p∧p.1=k∧t.place[i]? = some (de (SetTable.bits (th prog w k)) m1).1)->wpAny (model prog w) A (setSearchFrom S (.ref a) (th prog w k) true fuel st) Q E s:= by
 have hsz:=T.size
 obtain ⟨o,ho,_,hd⟩:=T.x.obj
 intro d
 induction d using Nat.strongRecOn with
 | ind d ih=>
  intro m fuel st hm hf hst hin
  cases fuel with
  | zero=>omega
  | succ fuel=>
  have hfit:t.fits (l.map (ek prog w)).toArray.size=true:=by have:=T.x.fits;simpa using this
  unfold setSearchFrom
  refine wpAny_bind (wpAny_setState_of ho hd hfit ?_)
  dsimp only
  rw [if_neg (by unfold SetTable.gaveWay;rw [T.t7.mask];decide),hst]
  obtain ⟨kk,hk1,hk2,hk3⟩:=me t (fun i=>((l.map (ek prog w)).toArray[i]?.map (·.1)).getD 0) (th prog w k) (SetTable.bits (th prog w k)) M d m hm
  have live:∀ m',m' < M->∃ p,l[SetTable.below t.place (de (SetTable.bits (th prog w k)) m').1]? = some p∧t.place[SetTable.below t.place (de (SetTable.bits (th prog w k)) m').1]? = some (de (SetTable.bits (th prog w k)) m').1:=fun m' hm'=>by
   have e:=jd T.t7.up (hway m' hm')
   have hlt:SetTable.below t.place (de (SetTable.bits (th prog w k)) m').1 < l.length:= by
    rw [<- hsz]
    exact (Array.getElem?_eq_some_iff.mp e).1
   exact ⟨_,List.getElem?_eq_getElem hlt,e⟩
  have pb:=fun (f:Nat->Int) (hf:∀ i,f i=((l.map (ek prog w)).toArray[i]?.map (·.1)).getD 0)=>T.t7.probe (f:=f) (h:=th prog w k) (b:=SetTable.bits (th prog w k)) (k:=kk) (m:=m) (by omega) fun m' a1 a2=>⟨hway m' (by omega),by rw [hf];exact hk2 m' a1 a2⟩
  by_cases hend:m + kk=M
  ·
   have e0:=fun f hf=>(pb f hf).1 (by rw [hend];exact hfree)
   rw [e0]
   case hf=>intro i;rfl
   rw [hend]
   refine wpAny_pure ?_
   refine h2 fun hmem=>?_
   obtain ⟨m1,i,p,a1,a2,a3,a4,a5⟩:=hin hmem
   refine hk2 m1 a1 (by omega) ?_
   have hb:=T.t7.at a5
   rw [hb]
   simp [a3,ek,a4]
  ·have hlt:m + kk < M:=by omega
   have hh:=hk3.resolve_left hend
   have e0:=fun f (hf:∀ i,f i=((l.map (ek prog w)).toArray[i]?.map (·.1)).getD 0)=>(pb f hf).2 (hway _ hlt) (by rw [hf];exact hh)
   rw [e0]
   case hf=>intro i;rfl
   dsimp only
   obtain ⟨p,hp,hpl⟩:=live _ hlt
   have hpk:=T.keys p (List.mem_of_getElem? hp)
   have rest:wpAny (model prog w) A (do
     let some (_,y):=(l.map (ek prog w)).toArray[SetTable.below t.place (de (SetTable.bits (th prog w k)) (m + kk)).1]? | unsupported "internal:set-entry"
     let equal <- holding [y] (eqBool y (.ref a))
     let (es',_,t') <- setState S
     if true && equal then return .there none
     let some same:=t'.sameMemory t.moves t.mask | unsupported "set.changed-during-lookup:is-the-new-block-at-the-old-address"
     let still <- match (if same then t'.slot (de (SetTable.bits (th prog w k)) (m + kk)).1 else .empty) with
      | .live i'=>match es'[i']? with
       | some (_,y')=>do pure (if <- isSame y' y then some i' else none)
       | none=>pure none
      | _=>pure none
     match still with
     | none=>rule "set.search.anew";setSearchFrom S (.ref a) (th prog w k) true fuel none
     | some i'=>if equal then return .there (some i') else setSearchFrom S (.ref a) (th prog w k) true fuel (some (qZ (SetTable.bits (th prog w k)) (m + kk + 1)))) Q E s:= by
    have he:(l.map (ek prog w)).toArray[SetTable.below t.place (de (SetTable.bits (th prog w k)) (m + kk)).1]? = some (th prog w p.1,.ref p.2):=by simp [hp,ek]
    rw [he]
    dsimp only
    refine wpAny_bind (wpAny_holding (wpAny_eqBool_tuple hu hpk hk ?_))
    refine wpAny_bind (wpAny_setState_of ho hd hfit ?_)
    dsimp only
    by_cases hq:p.1=k
    ·rw [decide_eq_true hq]
     simp only [Bool.and_self,if_true]
     exact wpAny_pure (h1 (hq ▸ List.mem_map.mpr ⟨p,List.mem_of_getElem? hp,rfl⟩))
    ·rw [decide_eq_false hq]
     simp only [Bool.and_false,Bool.false_eq_true,if_false]
     have sm:t.sameMemory t.moves t.mask=some true:=by unfold SetTable.sameMemory;simp
     rw [sm]
     dsimp only
     rw [if_pos rfl,T.t7.live (hway _ hlt)]
     dsimp only
     rw [he]
     dsimp only
     refine wpAny_bind (wpAny_isSame_ref_self (wpAny_bind (wpAny_pure ?_)))
     simp only [if_true]
     refine ih (d - (kk + 1)) (by omega) (m + kk + 1) fuel _ (by omega) (by omega) rfl fun hmem=>?_
     obtain ⟨m1,i,p',a1,a2,a3,a4,a5⟩:=hin hmem
     refine ⟨m1,i,p',?_,a2,a3,a4,a5⟩
     rcases Nat.lt_or_ge m1 (m + kk) with z | z
     ·exfalso
      refine hk2 m1 a1 z ?_
      rw [T.t7.at a5]
      simp [a3,ek,a4]
     ·by_cases z2:m1=m + kk
      ·exfalso
       subst z2
       have:=T.t7.at a5
       rw [this,a3] at hp
       cases hp
       exact hq a4
      ·omega
   by_cases hled:t.led=true
   ·rw [hled]
    simp only [Bool.not_true,Bool.false_eq_true,if_false]
    exact rest
   ·rw [Bool.eq_false_iff.mpr hled]
    simp only [Bool.not_false,if_true]
    refine wpAny_bind (wK hk (fun y hy=>?_) ?_)
    ·obtain ⟨e,he,rfl⟩:=List.mem_map.mp hy
     rw [Array.toList_filter,List.mem_filter] at he
     have he1:e ∈ l.map (ek prog w):=he.1
     obtain ⟨q,hq,rfl⟩:=List.mem_map.mp he1
     exact ⟨q.1,q.2,rfl,T.keys q hq⟩
    ·simp only [Bool.false_eq_true,if_false]
     exact rest
end
end Jt.Tu
namespace Jt.Tu
open PySem Jt
def lp (n:Nat) (s:Nat × Nat):Nat × Nat:=match n with
 | 0=>s
 | n + 1=>lp n (SetTable.leap 31 s.1 s.2)
theorem j6:∀ (n:Nat) (s:Nat × Nat),lp (n + 1) s=SetTable.leap 31 (lp n s).1 (lp n s).2
 | 0,s=>rfl
 | n + 1,s=>j6 n (SetTable.leap 31 s.1 s.2)
theorem Gk (s:Nat × Nat):∀ n,(lp n s).2=s.2 / 32 ^ n
 | 0=>by simp [lp]
 | n + 1=>by
  rw [j6]
  show (lp n s).2 / 32=_
  rw [Gk s n,Nat.div_div_eq_div_mul,Nat.pow_succ]
theorem GU (s:Nat × Nat) (h:s.1 < 32):∀ n,(lp n s).1 < 32
 | 0=>h
 | n + 1=>by rw [j6];exact Nat.mod_lt _ (by omega)
def Jv (i:Nat):Nat:=(i * 5 + 1) % 32
def AF:Nat->Nat->Nat
 | 0,i=>i
 | k + 1,i=>Jv (AF k i)
theorem FW (s:Nat × Nat) (hb:s.2 < 2 ^ 64):∀ k,(lp (13 + k) s).1=AF k (lp 13 s).1
 | 0=>rfl
 | k + 1=>by
  rw [show 13 + (k + 1)=(13 + k) + 1 by omega,j6]
  show ((lp (13 + k) s).1 * 5 + 1 + (lp (13 + k) s).2 / 32) % (31 + 1)=Jv (AF k (lp 13 s).1)
  rw [FW s hb k,Gk]
  have h1:s.2 / 32 ^ (13 + k)=0:= by
   apply Nat.div_eq_of_lt
   have h2:32 ^ 13 ≤ 32 ^ (13 + k):=Nat.pow_le_pow_right (by omega) (by omega)
   have h3:(2:Nat) ^ 64 < 32 ^ 13:=by decide
   omega
  rw [h1]
  rfl
theorem Ai:∀ i,i < 32->∀ j,j < 32->∃ k,k < 32∧AF k i=j:=by decide +kernel
theorem D0 (s:Nat × Nat) (h:s.1 < 32) (hb:s.2 < 2 ^ 64) {j:Nat} (hj:j < 32):∃ m,m < 46∧(lp m s).1=j:= by
 obtain ⟨k,hk,e⟩:=Ai _ (GU s h 13) j hj
 exact ⟨13 + k,by omega,by rw [FW s hb,e]⟩
theorem mj (owner:Array (Option Nat)):∀ (fuel:Nat) (s:Nat × Nat),(∃ n,n < fuel∧(owner.getD (lp n s).1 (some 0)).isNone=true)->∃ j,SetTable.layClean.free 31 owner fuel s.1 s.2=some j
 | 0,s,⟨n,h,_⟩=>absurd h (Nat.not_lt_zero _)
 | fuel + 1,s,⟨n,hn,h⟩=>by
  unfold SetTable.layClean.free
  split
  ·exact ⟨_,rfl⟩
  ·rename_i hnone
   cases n with
   | zero=>
    exfalso
    rw [List.find?_eq_none] at hnone
    have h1:1 ≤ SetTable.runEnd 31 s.1 + 1 - s.1:=by unfold SetTable.runEnd;split <;> omega
    have:=hnone 0 (List.mem_range.mpr h1)
    exact this (by simpa [lp] using h)
   | succ n=>exact mj owner fuel (SetTable.leap 31 s.1 s.2) ⟨n,by omega,h⟩
theorem tK (owner:Array (Option Nat)):∀ (fuel i p j:Nat),SetTable.layClean.free 31 owner fuel i p=some j->(owner.getD j (some 0)).isNone=true
 | 0,i,p,j,h=>by cases h
 | fuel + 1,i,p,j,h=>by
  unfold SetTable.layClean.free at h
  split at h
  ·rename_i k hk
   cases h
   have z:(fun k=>(owner.getD (i + k) (some 0)).isNone) k=true:=List.find?_some (p:=fun k=>(owner.getD (i + k) (some 0)).isNone) hk
   exact z
  ·exact tK owner fuel _ _ j h
theorem tI {β:Type} {g g':Nat->Option β}:∀ {L:List Nat},(∀ i ∈ L,g' i=g i)->L.filterMap g' = L.filterMap g
 | [],_=>rfl
 | x :: r,h=>by
  have ih:=tI (L:=r) fun i hi=>h i (List.mem_cons_of_mem _ hi)
  have hx:=h x List.mem_cons_self
  cases q:g x with
  | none=>rw [List.filterMap_cons_none (hx.trans q),List.filterMap_cons_none q,ih]
  | some y=>rw [List.filterMap_cons_some (hx.trans q),List.filterMap_cons_some q,ih]
theorem tp {β:Type} {g g':Nat->Option β} {j:Nat} {v:β} (hg:g j=none) (hg':g' j=some v) (ho:∀ i,i ≠ j->g' i=g i):∀ {L:List Nat},L.Nodup->j ∈ L->(L.filterMap g').Perm (v :: L.filterMap g)
 | [],_,h=>nomatch h
 | x :: r,nd,h=>by
  have n:=List.nodup_cons.mp nd
  by_cases e:x=j
  ·subst e
   have same:r.filterMap g' = r.filterMap g:=tI fun i hi=>ho i fun z=>n.1 (z ▸ hi)
   rw [List.filterMap_cons_some hg',List.filterMap_cons_none hg,same]
  ·have ih:=tp hg hg' ho n.2 ((List.mem_cons.mp h).resolve_left fun z=>e z.symm)
   have hx:=ho x e
   cases q:g x with
   | none=>rw [List.filterMap_cons_none (hx.trans q),List.filterMap_cons_none q];exact ih
   | some y=>
    rw [List.filterMap_cons_some (hx.trans q),List.filterMap_cons_some q]
    exact (ih.cons y).trans (List.Perm.swap _ _ _)
def lv (owner:Array (Option Nat)):List (Nat × Nat):=(List.range 32).filterMap fun j=>(owner.getD j none).map (j,·)
structure Ow (owner:Array (Option Nat)) (k:Nat):Prop where
 size:owner.size=32
 perm:((lv owner).map (·.2)).Perm (List.range k)
theorem Ow.room {owner:Array (Option Nat)} {k:Nat} (h:Ow owner k) (hk:k < 32):∃ j,j < 32∧(owner.getD j (some 0)).isNone=true:= by
 apply Classical.byContradiction
 intro z
 have all:∀ j,j < 32->∃ v,owner.getD j none=some v:=fun j hj=>by
  cases q:owner.getD j none with
  | some v=>exact ⟨v,rfl⟩
  | none=>
   exfalso
   refine z ⟨j,hj,?_⟩
   have hj':j < owner.size:=by rw [h.size];exact hj
   simp only [Array.getD,hj',dif_pos] at q ⊢
   rw [q];rfl
 have hl:(lv owner).length=32:= by
  unfold lv
  have gen:∀ L:List Nat,(∀ j ∈ L,j < 32)->(L.filterMap fun j=>(owner.getD j none).map (j,·)).length=L.length:= by
   intro L
   induction L with
   | nil=>intro _;rfl
   | cons x r ih=>
    intro hL
    obtain ⟨v,e⟩:=all x (hL x List.mem_cons_self)
    have e2:(fun j=>(owner.getD j none).map fun y=>(j,y)) x=some (x,v):= by
     show (owner.getD x none).map (fun y=>(x,y))=_
     rw [e];rfl
    rw [List.filterMap_cons_some (f:=fun j=>(owner.getD j none).map fun y=>(j,y)) e2,List.length_cons,List.length_cons,ih fun j hj=>hL j (List.mem_cons_of_mem _ hj)]
  rw [gen _ fun j hj=>List.mem_range.mp hj,List.length_range]
 have:=h.perm.length_eq
 rw [List.length_map,hl,List.length_range] at this
 omega
theorem yo:∀ (hs:List Int) (owner:Array (Option Nat)) (k:Nat),Ow owner k->k + hs.length < 32->∃ owner',hs.foldl (fun (acc:Option (Array (Option Nat) × Nat)) h=>do
  let (owner,k) <- acc
  let j <- SetTable.layClean.free 31 owner (SetTable.turns 31) (SetTable.bits h % (31 + 1)) (SetTable.bits h)
  pure (owner.setIfInBounds j (some k),k + 1)) (some (owner,k))=some (owner',k + hs.length)∧Ow owner' (k + hs.length)
 | [],owner,k,h,_=>⟨owner,rfl,h⟩
 | a :: hs,owner,k,h,hk=>by
  rw [List.length_cons] at hk
  obtain ⟨j0,hj0,hf⟩:=h.room (by omega)
  obtain ⟨m,hm,em⟩:=D0 (SetTable.bits a % 32,SetTable.bits a) (Nat.mod_lt _ (by omega)) (tE a) hj0
  obtain ⟨j,ej⟩:=mj owner (SetTable.turns 31) (SetTable.bits a % 32,SetTable.bits a) ⟨m,hm,by rw [em];exact hf⟩
  have hj:=tK owner _ _ _ _ ej
  have hj32:j < owner.size:= by
   apply Classical.byContradiction
   intro z
   simp [Array.getD,z] at hj
  have hn:owner.getD j none=none:= by
   simp only [Array.getD,hj32,dif_pos] at hj ⊢
   cases q:owner[j] with
   | none=>exact q
   | some v=>
    have hj2:(owner[j]).isNone=true:=hj
    rw [q] at hj2;cases hj2
  have h':Ow (owner.setIfInBounds j (some k)) (k + 1):= by
   refine ⟨by simp [h.size],?_⟩
   have p:=tp (g:=fun i=>(owner.getD i none).map (i,·)) (g':=fun i=>((owner.setIfInBounds j (some k)).getD i none).map (i,·)) (j:=j) (v:=(j,k)) (by rw [hn];rfl) (by
    have:(owner.setIfInBounds j (some k)).getD j none=some k:=by simp [Array.getD,hj32]
    rw [this];rfl) (fun i hi=>by
    have:(owner.setIfInBounds j (some k)).getD i none=owner.getD i none:= by
     simp only [Array.getD_eq_getD_getElem?]
     rw [Array.getElem?_setIfInBounds_ne (Ne.symm hi)]
    rw [this]) (L:=List.range 32) List.nodup_range (List.mem_range.mpr (by rw [<- h.size];exact hj32))
   have p2:=p.map (·.2)
   rw [List.map_cons] at p2
   refine p2.trans ?_
   rw [show List.range (k + 1)=List.range k ++ [k] from List.range_succ]
   exact ((h.perm).cons k).trans (List.perm_append_singleton _ _).symm
  obtain ⟨ow,e1,e2⟩:=yo hs _ (k + 1) h' (by omega)
  refine ⟨ow,?_,by rw [List.length_cons,show k + (hs.length + 1)=k + 1 + hs.length by omega];exact e2⟩
  rw [List.foldl_cons,List.length_cons,show k + (hs.length + 1)=k + 1 + hs.length by omega,<- e1]
  congr 1
  show (do
   let j <- SetTable.layClean.free 31 owner (SetTable.turns 31) (SetTable.bits a % 32) (SetTable.bits a)
   pure (owner.setIfInBounds j (some k),k + 1))=_
  rw [ej]
  rfl
theorem Au {fg mv:Nat} {ld pl:Bool} (hs:Array Int) (hn:hs.size < 32):∃ t o,SetTable.laid 31 fg mv ld pl hs=some (t,o)∧o.toList.Perm (List.range hs.size)∧t.fits hs.size=true∧t.plain=pl:= by
 have h0:Ow (Array.replicate 32 none) 0:=⟨by simp,by
  have:lv (Array.replicate 32 none)=[]:=by decide +kernel
  rw [this];exact List.Perm.refl _⟩
 obtain ⟨ow,e1,e2⟩:=yo hs.toList _ 0 h0 (by simpa using hn)
 rw [Nat.zero_add,Array.length_toList] at e2
 refine ⟨⟨31,((lv ow).map (·.1)).toArray,#[],fg,ld,mv,pl⟩,((lv ow).map (·.2)).toArray,?_,by simpa using e2.perm,?_,rfl⟩
 ·unfold SetTable.laid SetTable.layClean
  rw [<- Array.foldl_toList,e1]
  rfl
 ·have hl:(lv ow).length=hs.size:= by
   have:=e2.perm.length_eq
   rwa [List.length_map,List.length_range] at this
  unfold SetTable.fits SetTable.fill
  simp [hl]
  omega
end Jt.Tu
namespace Jt.Tu
open PySem Jt
section
variable {prog:Program} {w:World} {A:Around} {E:Value->Shared->Prop} {s:Shared} {S:Addr} {l:List (List Int × Addr)} {ep:Nat} {t:SetTable}
theorem dD.keeps {h h':Heap} {ks:List Int} {a:Addr} (x:dD prog w h ks a) (k:∀ o,h.get? a=some o->h'.get? a=some o):dD prog w h' ks a:= by
 obtain ⟨o,items,n,ho,r⟩:=x
 exact ⟨o,items,n,k o ho,r⟩
theorem dD.notSet {h:Heap} {ks:List Int} {a S:Addr} {o:Obj} {es:Array (Int × Value)} {ep:Nat} {t:SetTable} (x:dD prog w h ks a) (ho:h.get? S=some o) (hd:o.data=.set es ep t):a ≠ S:=fun z=>by
 obtain ⟨o2,items,n,ho2,_,hd2,_⟩:=x
 rw [z,ho] at ho2
 cases ho2
 rw [hd] at hd2
 cases hd2
theorem lZ {ks:List Int} {a:Addr} {Q:Bool->Shared->Prop} (hk:dD prog w s.heap ks a) (h:Q true s):wpAny (model prog w) A (hashByValue 8 (.ref a)) Q E s:= by
 have hT:=hk.typeIs
 obtain ⟨o,items,n,ho,_,hd,hi⟩:=hk
 unfold hashByValue
 refine wpAny_bind (wpAny_specialOf hT F.slot_tuple_hash.lookup ?_)
 dsimp only
 refine wpAny_bind (wpAny_seqItems ho hd ?_)
 refine wpAny_bind ?_
 show wpAny _ _ (forIn items _ _) _ _ s
 rw [<- Array.forIn_toList]
 have inq:∀ v ∈ items.toList,∃ i u,v=Value.int i u:= by
  clear ho hd
  generalize items.toList=vs at hi
  induction hi with
  | nil=>intro v hv;cases hv
  | @cons k v' ks vs h1 _ ih=>
   intro v hv
   rcases List.mem_cons.mp hv with rfl | hv
   ·obtain ⟨u,e⟩:=Value.isInt_shape (show Value.isInt k v=true from h1)
    exact ⟨k,u,e⟩
   ·exact ih v hv
 refine wpAny_forIn_list _ (fun rest r s'=>r.1=none∧s' = s∧∀ v ∈ rest,∃ i u,v=Value.int i u) _ ?_ ?_ _ _ ⟨rfl,rfl,inq⟩
 ·rintro v rest r s' ⟨hr,rfl,hall⟩
  obtain ⟨i,u,rfl⟩:=hall v List.mem_cons_self
  have e:hashByValue 7 (.int i u)=pure true:=rfl
  rw [e]
  refine wpAny_bind (wpAny_pure ?_)
  simp only [Bool.not_true,Bool.false_eq_true,if_false]
  exact wpAny_pure ⟨rfl,rfl,fun u hu'=>hall u (List.mem_cons_of_mem _ hu')⟩
 ·rintro ⟨r1,r2⟩ s' ⟨hr,rfl,_⟩
  simp only at hr
  subst hr
  exact wpAny_pure h
theorem r0 {α β:Type} (f:α->β) (xs:Array α) (p:Nat) (x:α):SetTable.insertAt (xs.map f) p (f x)=(SetTable.insertAt xs p x).map f:= by
 unfold SetTable.insertAt
 simp
theorem bW.store {h:Heap} {l l':List (Int × Value)} {t':SetTable} {es:Array (Int × Value)} (x:bW w h S l ep t) (he:es=l'.toArray) (hn:l'.length < scanBound) (hf:t'.fits l'.length=true) (hl:t'.led=t.led) (hb:Tb t') :
  bW w (h.update S (Obj.putSet es t')) S l' (ep + 1) t':= by
 obtain ⟨o,ho,hx,hd⟩:=x.obj
 subst he
 refine ⟨⟨{ o with data:=.set l'.toArray (ep + 1) t' },?_,hx,rfl⟩,hn,hf,hl.trans x.led,hb⟩
 have:=Heap.get?_update_self (Obj.putSet l'.toArray t') ho (by rw [putSet_of l'.toArray t' hd];rfl)
 rwa [putSet_of l'.toArray t' hd] at this
theorem ue {α:Type}:∀ l:List α,(List.range l.length).filterMap (fun i=>l[i]?)=l
 | []=>rfl
 | x :: r=>by
  rw [List.length_cons,List.range_succ_eq_map,List.filterMap_cons_some (f:=fun i=>(x :: r)[i]?) (show (x :: r)[0]? = some x from rfl),List.filterMap_map]
  congr 1
  exact ue r
theorem TS.add (T:TS prog w s.heap S l ep t) (hu:A.units < cLine) (h4:l.length ≤ 4) {k:List Int} {a:Addr} (hk:dD prog w s.heap k a) {Q:Bool->Shared->Prop}
  (h:∀ h' l' ep' t' b,Heap.SameBut S s.heap h' -> bW w h' S (l'.map (ek prog w)) ep' t' -> (l'.length ≤ 4->TS prog w h' S l' ep' t')->(if k ∈ l.map (·.1) then l' = l else l'.Perm ((k,a) :: l))->Q b { s with heap:=h' }) :
  wpAny (model prog w) A (setAddHashed S (.ref a) (th prog w k)) Q E s:= by
 obtain ⟨o,ho,hx,hd⟩:=T.x.obj
 have hsz:=T.size
 have hfit:t.fits (l.map (ek prog w)).toArray.size=true:=by have:=T.x.fits;simpa using this
 obtain ⟨M,hM,hfree,hway⟩:=BC (th prog w k) (l:=t.place.toList) (by rw [Array.length_toList,hsz];omega)
 unfold setAddHashed setAddHashedIn
 refine wpAny_holding ?_
 refine wpAny_bind (wpAny_setState_of ho hd hfit ?_)
 dsimp only
 have nb:byScan (.ref a) (l.map (ek prog w)).toArray=false:=rfl
 rw [nb]
 simp only [Bool.false_eq_true,if_false]
 refine wpAny_bind ?_
 unfold setSearch
 refine T.search hu hk hM hfree hway (fun hm=>?_) (fun hm=>?_) M 0 100000 none (by omega) (by omega) ?_ (fun hm=>?_)
 ·exact wpAny_pure (h s.heap l ep t false (Heap.SameBut.refl S s.heap) T.x (fun _=>T) (by rw [if_pos hm]))
 ·dsimp only
  refine wpAny_bind (wpAny_setState_of ho hd hfit ?_)
  dsimp only
  generalize hj:(de (SetTable.bits (th prog w k)) M).1=j at hfree
  have hp:SetTable.below t.place j ≤ t.place.size:=(gq T.t7.up j).1
  obtain ⟨t1,ht1⟩:∃ t1:SetTable,t1={ t with place:=SetTable.insertAt t.place (SetTable.below t.place j) j,dummies:=if SetTable.has t.dummies j then SetTable.eraseAt t.dummies (SetTable.below t.dummies j) else t.dummies }:=⟨_,rfl⟩
  have eput:t.put j=(t1,SetTable.below t.place j):=by rw [ht1];rfl
  rw [eput]
  dsimp only
  have HR:t1.dummies = #[]:= by
   rw [ht1]
   have:SetTable.has t.dummies j=false:=by rw [T.t7.dum];rfl
   show (if SetTable.has t.dummies j=true then _ else _)=_
   rw [this,T.t7.dum];rfl
  have hpl1:t1.place=SetTable.insertAt t.place (SetTable.below t.place j) j:=by rw [ht1]
  have hm1:t1.mask=7:=by rw [ht1];exact T.t7.mask
  have hled1:t1.led=t.led:=by rw [ht1]
  have hplain1:t1.plain=t.plain:=by rw [ht1]
  have hperm1:=jI t.place (SetTable.below t.place j) j hp
  rw [<- hpl1] at hperm1
  have hs1:t1.place.size=l.length + 1:= by
   have:=hperm1.length_eq
   rw [Array.length_toList,List.length_cons,Array.length_toList,hsz] at this
   exact this
  have hup1:Up t1.place:=by rw [hpl1];exact vS T.t7.up hfree
  have byv:∀ {K:Bool->Sem Bool} {Q':Bool->Shared->Prop},wpAny (model prog w) A (K true) Q' E s->wpAny (model prog w) A (if t1.plain=true then hashByValue 8 (.ref a) >>= K else pure true >>= K) Q' E s:=fun q=>by
   split
   ·exact wpAny_bind (lZ hk q)
   ·exact wpAny_bind (wpAny_pure q)
  refine byv ?_
  simp only [if_true]
  obtain ⟨l1,hl1⟩:∃ l1,l1=(SetTable.insertAt l.toArray (SetTable.below t.place j) (k,a)).toList:=⟨_,rfl⟩
  have hp2:SetTable.below t.place j ≤ l.toArray.size:=by simpa [hsz] using hp
  have hes:SetTable.insertAt (l.map (ek prog w)).toArray (SetTable.below t.place j) (th prog w k,.ref a)=(l1.map (ek prog w)).toArray:= by
   have e:=r0 (ek prog w) l.toArray (SetTable.below t.place j) (k,a)
   rw [hl1]
   have e2:l.toArray.map (ek prog w)=(l.map (ek prog w)).toArray:=by simp
   rw [e2] at e
   rw [show (th prog w k,Value.ref a)=ek prog w (k,a) from rfl,e]
   apply Array.toList_inj.mp
   simp
  have hpm1:l1.Perm ((k,a) :: l):=by rw [hl1];simpa using jI l.toArray (SetTable.below t.place j) (k,a) hp2
  have hn1:l1.length=l.length + 1:=by rw [hpm1.length_eq];rfl
  have hfit1:t1.fits (l1.map (ek prog w)).length=true:= by
   unfold SetTable.fits SetTable.fill
   rw [hs1,HR,hm1,List.length_map,hn1]
   simp
   omega
  have x1:bW w (s.heap.update S (Obj.putSet (SetTable.insertAt (l.map (ek prog w)).toArray (SetTable.below t.place j) (th prog w k,.ref a)) t1)) S (l1.map (ek prog w)) (ep + 1) t1 :=
   T.x.store hes (by rw [List.length_map,hn1];have:scanBound=4096:=rfl;omega) hfit1 hled1 (fun _=>hup1)
  have sb1:=Heap.SameBut.update s.heap S (Obj.putSet (SetTable.insertAt (l.map (ek prog w)).toArray (SetTable.below t.place j) (th prog w k,.ref a)) t1)
  refine wpAny_bind (wpAny_storeSet_of ho hd ?_ (by have h5:5 ≤ sizeLine:=(by rw [sizeLine_eq];decide);rw [hes];simp [hn1];omega))
  generalize s.heap.update S (Obj.putSet (SetTable.insertAt (l.map (ek prog w)).toArray (SetTable.below t.place j) (th prog w k,.ref a)) t1)=h1 at x1 sb1 ⊢
  have fin:∀ h' l' ep' t',Heap.SameBut S s.heap h' -> bW w h' S (l'.map (ek prog w)) ep' t' -> (l'.length ≤ 4->TS prog w h' S l' ep' t')->l'.Perm ((k,a) :: l)->Q true { s with heap:=h' }:=fun h' l' ep' t' c1 c2 c3 c4=>h h' l' ep' t' true c1 c2 c3 (by rw [if_neg hm];exact c4)
  have get1:∀ i:Nat,l1[i]? = if i < SetTable.below t.place j then l[i]? else if i=SetTable.below t.place j then some (k,a) else l[i - 1]?:=fun i=>by
   have:=k9 l.toArray (k,a) hp2 i
   rw [hl1,Array.getElem?_toList,this]
   simp
  have T1:TS prog w h1 S l1 (ep + 1) t1:= by
   refine ⟨x1,fun p hp3=>?_,⟨hm1,HR,hup1,fun q hq=>?_⟩,fun i p hp3=>?_⟩
   ·have:dD prog w s.heap p.1 p.2:= by
     rcases List.mem_cons.mp (hpm1.mem_iff.mp hp3) with e | e
     ·rw [e];exact hk
     ·exact T.keys p e
    exact this.keeps fun o' e=>(sb1.2 p.2 (this.notSet ho hd)).trans e
   ·rcases List.mem_cons.mp (hperm1.mem_iff.mp hq) with e | e
    ·rw [e,<- hj];exact wG _ _
    ·exact T.t7.lt q e
   ·have up:∀ q,q ∈ t.place.toList->q ∈ t1.place.toList:=fun q hq=>hperm1.mem_iff.mpr (List.mem_cons_of_mem _ hq)
    have gp:∀ i:Nat,t1.place[i]? = if i < SetTable.below t.place j then t.place[i]? else if i=SetTable.below t.place j then some j else t.place[i - 1]?:=fun i=>by
     rw [hpl1];exact k9 t.place j hp i
    rw [get1 i] at hp3
    rw [gp i]
    by_cases c1:i < SetTable.below t.place j
    ·rw [if_pos c1] at hp3 ⊢
     obtain ⟨m,e1,e2⟩:=T.way i p hp3
     exact ⟨m,e1,fun m' hm'=>up _ (e2 m' hm')⟩
    ·rw [if_neg c1] at hp3 ⊢
     by_cases c2:i=SetTable.below t.place j
     ·rw [if_pos c2] at hp3 ⊢
      cases hp3
      exact ⟨M,by rw [hj],fun m' hm'=>up _ (hway m' hm')⟩
     ·rw [if_neg c2] at hp3 ⊢
      obtain ⟨m,e1,e2⟩:=T.way (i - 1) p hp3
      exact ⟨m,e1,fun m' hm'=>up _ (e2 m' hm')⟩
  have htf:t1.tooFull=decide (5 ≤ l.length + 1):= by
   unfold SetTable.tooFull SetTable.fill
   rw [hs1,HR,hm1]
   simp
   omega
  by_cases h5:5 ≤ l.length + 1
  ·rw [htf,decide_eq_true h5]
   simp only [Bool.not_false,Bool.and_self,if_true]
   refine wpAny_bind ?_
   obtain ⟨o1,ho1,hx1,hd2⟩:=x1.obj
   have hfit2:t1.fits (l1.map (ek prog w)).toArray.size=true:=by simpa using hfit1
   have e20:SetTable.grown ((l.map (ek prog w)).toArray.size + 1)=20:= by
    have:(l.map (ek prog w)).toArray.size + 1=5:=by simp;omega
    rw [this];rfl
   rw [e20]
   unfold setRelay
   refine wpAny_bind (wpAny_setState_of (s:={ s with heap:=h1 }) ho1 hd2 hfit2 ?_)
   dsimp only
   have e32:SetTable.sizeAbove 20=32:=by decide +kernel
   rw [if_neg (by rw [e32,sizeLine_eq];decide)]
   have hzs:((l1.map (ek prog w)).toArray.map (·.1)).size=l1.length:=by simp
   obtain ⟨t2,od,el,po,ft,pl⟩:=Au (fg:=t1.finger) (mv:=t1.movedTo 31) (ld:=t1.led) (pl:=t1.plain) ((l1.map (ek prog w)).toArray.map (·.1)) (by rw [hzs];omega)
   have er:t1.relaid ((l1.map (ek prog w)).toArray.map (·.1)) 20=some (t2,od):= by
    unfold SetTable.relaid
    rw [e32]
    exact el
   rw [er]
   obtain ⟨u2,u3⟩:=AY el
   rw [hzs] at po ft
   refine wpAny_bind ?_
   obtain ⟨l2,hl2⟩:∃ l2,l2=od.toList.filterMap fun i=>l1[i]?:=⟨_,rfl⟩
   have hpm2:l2.Perm l1:= by
    rw [hl2]
    refine (po.filterMap _).trans ?_
    rw [ue]
   have hes2:od.filterMap (fun i=>(l1.map (ek prog w)).toArray[i]?)=(l2.map (ek prog w)).toArray:= by
    apply Array.toList_inj.mp
    rw [Array.toList_filterMap,hl2,List.map_filterMap]
    congr 1
    funext i
    simp
   have hn2:l2.length=l1.length:=hpm2.length_eq
   have rd:∀ {Q':(Array (Int × Value) × SetTable)->Shared->Prop} {s':Shared},Q' ((l2.map (ek prog w)).toArray,t2) s' -> wpAny (model prog w) A (do
     let some (t,order):=some (t2,od) | unsupported "internal:set-table-without-room"
     let es':=order.filterMap ((l1.map (ek prog w)).toArray[·]?)
     if es'.size != (l1.map (ek prog w)).toArray.size then unsupported "internal:set-table-lost-an-element"
     pure (es',t)) Q' E s':=fun q=>by
    dsimp only
    rw [hes2,if_neg (by simp [hn2])]
    exact wpAny_pure q
   refine rd ?_
   dsimp only
   refine wpAny_storeSet_of (s:={ s with heap:=h1 }) ho1 hd2 (wpAny_pure ?_) (by have h5:5 ≤ sizeLine:=(by rw [sizeLine_eq];decide);simp [hn2,hn1];omega)
   have x2:bW w (h1.update S (Obj.putSet (l2.map (ek prog w)).toArray t2)) S (l2.map (ek prog w)) (ep + 1 + 1) t2:=x1.store rfl (by rw [List.length_map,hn2,hn1];have:scanBound=4096:=rfl;omega) (by rw [List.length_map,hn2];exact ft) u3 (fun _=>u2)
   exact fin _ l2 _ t2 (sb1.trans (Heap.SameBut.update _ S _)) x2 (fun z=>by omega) (hpm2.trans hpm1)
  ·rw [htf,decide_eq_false h5]
   simp only [Bool.and_false,Bool.false_eq_true,if_false]
   exact wpAny_pure (fin h1 l1 _ t1 sb1 x1 (fun _=>T1) hpm1)
 ·show t.probeStart _=_
  exact T.t7.start _
 ·obtain ⟨p,hp,e⟩:=List.mem_map.mp hm
  obtain ⟨i,hi,ei⟩:=List.getElem_of_mem hp
  have hgi:l[i]? = some p:=by rw [List.getElem?_eq_getElem hi,ei]
  obtain ⟨m,e1,e2⟩:=T.way i p hgi
  have e:p.1=k:=e
  rw [e] at e1 e2
  refine ⟨m,i,p,Nat.zero_le _,?_,hgi,e,e1⟩
  rcases Nat.lt_trichotomy m M with z | z | z
  ·exact z
  ·exfalso
   rw [z] at e1
   exact hfree (by rw [Array.mem_toList_iff];exact Array.mem_of_getElem? e1)
  ·exact absurd (e2 M z) hfree
end
end Jt.Tu
namespace Jt.Tu
open PySem Jt
section
variable {prog:Program} {w:World} {A:Around} {E:Value->Shared->Prop} {s:Shared} {R:Result->Shared->Prop} {I:Addr} {fp wr:List Addr} {n:Nat} {P:Nat->Value->Prop} {St:Nat->Heap->Prop}
theorem kG {h:Heap} {S:Addr} (e:h.get? S=some { cls:=.type "set",dict:=none,data:=.set #[] 0 (.fresh 0 0 (!w.params.followText "set-order")) }):TS prog w h S [] 0 (.fresh 0 0 (!w.params.followText "set-order")) :=
 ⟨⟨⟨_,e,⟨rfl,rfl,rfl⟩,rfl⟩,(by decide:(0:Nat) < scanBound),by rfl,rfl,fun _=>List.Pairwise.nil⟩,fun p hp=>(nomatch hp),⟨rfl,rfl,List.Pairwise.nil,fun j hj=>(nomatch hj)⟩,fun i p hp=>by simp at hp⟩
theorem vi (W:Walks prog w A.in1 I fp wr n P St) (S:Addr) (hSf:S ∉ fp) (val:Nat->List Int) (ad:Nat->Addr) (hval:∀ i v,P i v->v=.ref (ad i)) (hb:n ≤ 5) (hu:A.in1.units < cLine) (hap:∀ j,j < n->ad j ≠ S∧ad j ∉ wr) :
  ∀ (k i:Nat) (h:Heap) (tk:Nat) (l:List (List Int × Addr)) (ep:Nat) (t:SetTable),n - i=k->i ≤ n->St i h->(∀ j,j < n->dD prog w h (val j) (ad j))->bW w h S (l.map (ek prog w)) ep t->(l.length ≤ 4->TS prog w h S l ep t)->l.length ≤ i->(l.map (·.1)).Nodup->(∀ z,z ∈ l.map (·.1) ↔ ∃ j,j < i∧val j=z)->(∀ p ∈ l,∃ j,j < i∧ad j=p.2∧val j=p.1) ->
   (∀ h' tk' (l':List (List Int × Addr)) ep' t',(∀ b o,b ∉ S :: wr->h.get? b=some o->h'.get? b=some o)->bW w h' S (l'.map (ek prog w)) ep' t' -> (l'.map (·.1)).Nodup->(∀ z,z ∈ l'.map (·.1) ↔ ∃ j,j < n∧val j=z)->(∀ p ∈ l',∃ j,j < n∧ad j=p.2∧val j=p.1)->R (.ok (.ret .none)) { s with heap:=h',toks:=tk' }) ->
   codeAny (model prog w) A (.builtin "set.update.loop" ⟨[.ref S,.ref I],[]⟩) R { s with heap:=h,toks:=tk }:= by
 have hSw:S ∉ wr:=fun z=>hSf (W.sub _ z)
 intro k
 induction k with
 | zero=>
  intro i h tk l ep t hk hi st key x T hl nd mem src fin
  have ei:i=n:=by omega
  subst ei
  refine codeAny_builtin PyProof.Rows.F.entry_set_update_loop ?_
  rw [Around.under_plainId PyProof.Rows.F.plain_set_update_loop _]
  show wpAny (model prog w) A.in1 (pyNext (.ref I) >>= _) _ _ _
  refine wpAny_bind (W.done { s with heap:=h,toks:=tk } _ _ st fun h' tk' kp=>?_)
  exact wpAny_pure (fin h' tk' l ep t (fun b o hb' e=>kp b o (fun z=>hb' (List.mem_cons_of_mem _ z)) e) (x.at fun o e=>kp S o hSw e) nd mem src)
 | succ k ih=>
  intro i h tk l ep t hk hi st key x T hl nd mem src fin
  have hlt:i < n:=by omega
  refine codeAny_builtin PyProof.Rows.F.entry_set_update_loop ?_
  rw [Around.under_plainId PyProof.Rows.F.plain_set_update_loop _]
  show wpAny (model prog w) A.in1 (pyNext (.ref I) >>= _) _ _ _
  refine wpAny_bind (W.item i { s with heap:=h,toks:=tk } _ _ hlt st fun v h1 tk1 hP st1 kp=>?_)
  obtain rfl:=hval i v hP
  have T0:=T (by omega)
  have T1:TS prog w h1 S l ep t:=⟨T0.x.at fun o e=>kp S o hSw e,fun p hp=>(T0.keys p hp).keeps fun o e=>by
   obtain ⟨j,hj,e2,_⟩:=src p hp
   rw [<- e2] at e ⊢
   exact kp _ o (hap j (by omega)).2 e,T0.t7,T0.way⟩
  have key1:∀ j,j < n->dD prog w h1 (val j) (ad j):=fun j hj=>(key j hj).keeps fun o e=>kp _ o (hap j hj).2 e
  show wpAny (model prog w) A.in1 (holding [Value.ref (ad i)] (setAdd S (.ref (ad i))) >>= _) _ _ _
  refine wpAny_bind (wpAny_holding ?_)
  unfold setAdd
  refine wpAny_holding ?_
  refine wpAny_bind (wpAny_pyHash_tuple (s:={ s with heap:=h1,toks:=tk1 }) hu (key1 i hlt) ?_)
  refine TS.add (s:={ s with heap:=h1,toks:=tk1 + ((val i).length + 1) }) T1 hu (by omega) (key1 i hlt) fun h2 l2 ep2 t2 b sb x2 TT hif=>?_
  have hm2:(∀ z,z ∈ l2.map (·.1) ↔ ∃ j,j < i + 1∧val j=z)∧(l2.map (·.1)).Nodup∧l2.length ≤ i + 1∧∀ p ∈ l2,∃ j,j < i + 1∧ad j=p.2∧val j=p.1:= by
   have up:∀ p ∈ l,∃ j,j < i + 1∧ad j=p.2∧val j=p.1:=fun p hp=>by
    obtain ⟨j,a,b⟩:=src p hp
    exact ⟨j,by omega,b⟩
   by_cases hm:val i ∈ l.map (·.1)
   ·rw [if_pos hm] at hif
    subst hif
    refine ⟨fun z=>(mem z).trans ⟨fun ⟨j,h1,h2⟩=>⟨j,by omega,h2⟩,fun ⟨j,h1,h2⟩=>?_⟩,nd,by omega,up⟩
    by_cases hj:j < i
    ·exact ⟨j,hj,h2⟩
    ·have:j=i:=by omega
     subst this
     exact (mem z).mp (h2 ▸ hm)
   ·rw [if_neg hm] at hif
    have pm:(l2.map (·.1)).Perm (val i :: l.map (·.1)):=by simpa using hif.map (·.1)
    refine ⟨fun z=>?_,?_,?_,fun p hp=>?_⟩
    ·rw [pm.mem_iff,List.mem_cons,mem z]
     constructor
     ·rintro (e | ⟨j,h1,h2⟩)
      ·exact ⟨i,by omega,e.symm⟩
      ·exact ⟨j,by omega,h2⟩
     ·rintro ⟨j,h1,h2⟩
      by_cases hj:j < i
      ·exact .inr ⟨j,hj,h2⟩
      ·have:j=i:=by omega
       subst this
       exact .inl h2.symm
    ·rw [pm.nodup_iff,List.nodup_cons]
     exact ⟨hm,nd⟩
    ·rw [hif.length_eq];simp;omega
    ·rcases List.mem_cons.mp (hif.mem_iff.mp hp) with e | e
     ·rw [e];exact ⟨i,by omega,rfl,rfl⟩
     ·exact up p e
  refine wpAny_pure ⟨plainId_quiet PyProof.Rows.F.plain_set_update_loop _,ih (i + 1) h2 _ l2 ep2 t2 (by omega) hlt (W.frame _ h1 h2 st1 fun b hb' o e=>?_) (fun j hj=>(key1 j hj).keeps fun o e=>?_) x2 TT hm2.2.2.1 hm2.2.1 hm2.1 hm2.2.2.2 fun h' tk' l' ep' t' c1 c2 c3 c4 c5=>fin h' tk' l' ep' t' (fun b o hb' e=>?_) c2 c3 c4 c5⟩
  ·rw [sb.2 b fun z=>hSf (z ▸ hb')];exact e
  ·rw [sb.2 _ (hap j hj).1];exact e
  ·refine c1 b o hb' ?_
   rw [sb.2 b fun z=>hb' (z ▸ List.mem_cons_self)]
   exact kp b o (fun z=>hb' (List.mem_cons_of_mem _ z)) e
set_option maxHeartbeats 8000000 in
theorem vR {l:Addr} {items:Array Value} {val:Nat->List Int} {ad:Nat->Addr} {Q:Value->Shared->Prop} (hh:A.handled=none) (hu:A.units + 10 < cLine) (hl:s.heap.IsTuple l items) (hi:∀ (i:Nat) (v:Value),items[i]? = some v->v=.ref (ad i)) (hk:∀ i,i < items.size->dD prog w s.heap (val i) (ad i)) (hb:items.size ≤ 5)
  (h:∀ (h':Heap) (tk:Nat) (ls:List (List Int × Addr)) (ep:Nat) (t:SetTable),bW w h' s.heap.objs.size (ls.map (ek prog w)) ep t->(ls.map (·.1)).Nodup->(∀ z,z ∈ ls.map (·.1) ↔ ∃ j,j < items.size∧val j=z)->(∀ p ∈ ls,∃ j,j < items.size∧ad j=p.2∧val j=p.1) ->
   (∀ b o,s.heap.get? b=some o->h'.get? b=some o)->Q (.ref s.heap.objs.size) { s with heap:=h',toks:=tk }) :
  wpAny (model prog w) A (call (.type "set") [.ref l]) Q E s:= by
 obtain ⟨c,tl,hmro⟩:=F.called_set.mro
 have hmade:=F.called_set.made
 have hsub:=F.called_set.sub
 refine wpAny_call (codeAny_of_tree (?_:wpAny _ _ (callAny (.type "set") _) _ _ _))
 refine wpAny_pure ⟨Code.quiet_builtin _ (by decide +kernel),codeAny_builtin F.entry_type_call ?_⟩
 rw [Around.under_plain (weight_type_call_type "set" [.ref l] []) rfl]
 have h1:=F.called_set.notType
 have h2:=F.called_set.canCreate
 have hct:=F.typeCall_set_1 (.ref l)
 repeat (any_goals (first | assumption | wp_step))
 refine codeAny_mono (qz (.ref l) (E:=E) (Q:=fun obj s₁=>obj=.ref s.heap.objs.size∧s₁={ s with heap:=s.heap.push { cls:=.type "set",dict:=none,data:=.set #[] 0 (.fresh 0 0 (!w.params.followText "set-order")) } }) ⟨rfl,rfl⟩) fun r s₁ hr=>?_
 cases r with
 | error e=>exact hr
 | ok fl=>
  cases fl with
  | ret obj=>
   obtain ⟨rfl,rfl⟩:=hr
   have hS:(s.heap.push ({ cls:=.type "set",dict:=none,data:=.set #[] 0 (.fresh 0 0 (!w.params.followText "set-order")) }:Obj)).get? s.heap.objs.size=some ({ cls:=.type "set",dict:=none,data:=.set #[] 0 (.fresh 0 0 (!w.params.followText "set-order")) }:Obj):=Heap.get?_push_size _ rfl
   have hT:Shared.TypeIs { s with heap:=s.heap.push ({ cls:=.type "set",dict:=none,data:=.set #[] 0 (.fresh 0 0 (!w.params.followText "set-order")) }:Obj) } (.ref s.heap.objs.size) "set":=⟨_,hS,rfl⟩
   have hli:=F.called_set.init.lookup
   have hbi:=F.called_set.init.bind (.ref s.heap.objs.size)
   repeat (any_goals (first | assumption | wp_step))
   refine codeAny_mono (codeAny_call_builtin (R:=wants (fun r s₂=>r=.none∧∃ (h':Heap) (tk:Nat) (ls:List (List Int × Addr)) (ep:Nat) (t:SetTable),s₂={ s with heap:=h',toks:=tk }∧bW w h' s.heap.objs.size (ls.map (ek prog w)) ep t∧(ls.map (·.1)).Nodup∧(∀ z,z ∈ ls.map (·.1) ↔ ∃ j,j < items.size∧val j=z)∧(∀ p ∈ ls,∃ j,j < items.size∧ad j=p.2∧val j=p.1) ∧
     (∀ b o,s.heap.get? b=some o->h'.get? b=some o)) E) F.called_set.init.plain F.entry_set_init (check_set_init_1 hT ?_)) fun r₂ s₂ hr₂=>?_
   ·obtain ⟨⟨ocls,odict,odata,oslots⟩,hol,hcl,nl,hdl⟩:=hl
    simp only at hcl hdl
    subst hcl;subst hdl
    have hol':=Heap.get?_push_of_some ({ cls:=.type "set",dict:=none,data:=.set #[] 0 (.fresh 0 0 (!w.params.followText "set-order")) }:Obj) hol
    have hsls:=qk
    have hslf:=p8
    have hne:(Value.type "tuple" == Value.type "dict")=false:=by decide
    have hl1:(s.heap.push ({ cls:=.type "set",dict:=none,data:=.set #[] 0 (.fresh 0 0 (!w.params.followText "set-order")) }:Obj)).IsTuple l items:=⟨_,hol',rfl,nl,rfl⟩
    unfold Builtin.«set.__init__» noKeywords Builtin.Frozenset.updateFrom
    generalize hPI:pyIter=PI
    wp_walk
    subst hPI
    refine wpAny_pyIter_tuple (s:={ s with heap:=s.heap.push ({ cls:=.type "set",dict:=none,data:=.set #[] 0 (.fresh 0 0 (!w.params.followText "set-order")) }:Obj) }) hl1 ?_
    refine wpAny_bind (wpAny_runValue ?_)
    have hlS:l < s.heap.objs.size:=Heap.lt_size hol
    have hh3:A.in1.in1.in1.handled=none:=by simp [hh]
    have hneI:l ≠ (s.heap.push ({ cls:=.type "set",dict:=none,data:=.set #[] 0 (.fresh 0 0 (!w.params.followText "set-order")) }:Obj)).objs.size:=by rw [Heap.size_push];exact Nat.ne_of_lt (Nat.lt_succ_of_lt hlS)
    have hSf:s.heap.objs.size ∉ [(s.heap.push ({ cls:=.type "set",dict:=none,data:=.set #[] 0 (.fresh 0 0 (!w.params.followText "set-order")) }:Obj)).objs.size,l]:= by
     rw [Heap.size_push]
     intro hm
     rcases List.mem_cons.mp hm with e | hm
     ·exact Nat.ne_of_lt (Nat.lt_succ_self _) e
     ·exact Nat.ne_of_gt hlS (List.mem_singleton.mp hm)
    have hadlt:∀ j,j < items.size->ad j < s.heap.objs.size:=fun j hj=>by
     obtain ⟨o,_,_,ho,_⟩:=hk j hj
     exact Heap.lt_size ho
    refine vi (Walks.tuple hh3 _ l hneI items) s.heap.objs.size hSf val ad (fun i v hv=>hi i v hv) hb (by simp;omega) (fun j hj=>⟨Nat.ne_of_lt (hadlt j hj),fun hm=>?_⟩) (items.size - 0) 0 _ s.toks [] 0 (.fresh 0 0 (!w.params.followText "set-order")) (by omega) (Nat.zero_le _) ⟨⟨_,Heap.get?_push_size _ rfl,rfl,rfl⟩,hl1.push _⟩
     (fun j hj=>(hk j hj).keeps fun o e=>Heap.get?_push_of_some _ (Heap.get?_push_of_some _ e)) (kG (Heap.get?_push_of_some _ hS)).x (fun _=>kG (Heap.get?_push_of_some _ hS)) (Nat.zero_le _) List.nodup_nil (fun z=>⟨fun hz=>(by cases hz),fun ⟨j,hj,_⟩=>absurd hj (Nat.not_lt_zero _)⟩) (fun p hp=>nomatch hp) fun h' tk' l' ep' t' kp x' nd' mem' src'=>?_
    ·have e':=List.mem_singleton.mp hm
     have:=hadlt j hj
     rw [e',Heap.size_push] at this
     exact absurd this (Nat.not_lt.mpr (Nat.le_succ _))
    refine wpAny_pure (?_:wpAny _ _ (ret Value.none) _ _ _)
    refine wpAny_pure ⟨rfl,h',tk',l',ep',t',rfl,x',nd',mem',src',fun b o e=>?_⟩
    ·have hb':=Heap.lt_size e
     refine kp b o (fun hm=>?_) (Heap.get?_push_of_some _ (Heap.get?_push_of_some _ e))
     rcases List.mem_cons.mp hm with e' | hm
     ·exact Nat.ne_of_lt hb' e'
     ·have:=List.mem_singleton.mp hm
      rw [Heap.size_push] at this
      exact Nat.ne_of_lt (Nat.lt_succ_of_lt hb') this
   ·cases r₂ with
    | error e=>exact hr₂
    | ok fl₂=>
     cases fl₂ with
     | ret r=>
      obtain ⟨rfl,h',tk,ls,ep,t,rfl,x',nd',mem',src',kp⟩:=hr₂
      repeat (any_goals (first | assumption | wp_step))
      exact h _ _ ls ep t x' nd' mem' src' kp
     | _=>exact hr₂.elim
  | _=>exact hr.elim
end
end Jt.Tu
namespace Jt.Tu
open PySem Jt PyProof.Rows PySem.W
def bK:List Int->List Int->Bool
 | [],[]=>false
 | [],_ :: _=>true
 | _ :: _,[]=>false
 | x :: xs,y :: ys=>if x=y then bK xs ys else decide (x < y)
theorem rR:∀ {a b c:List Int},bK b a=false->bK c b=false->bK c a=false
 | [],_,[],_,_=>rfl
 | [],_,_ :: _,_,_=>rfl
 | x :: xs,[],c,h,_=>by cases h
 | x :: xs,y :: ys,[],_,h=>by cases h
 | x :: xs,y :: ys,z :: zs,h1,h2=>by
  unfold bK at h1 h2 ⊢
  by_cases e1:y=x
  ·subst e1
   rw [if_pos rfl] at h1
   by_cases e2:z=y
   ·subst e2
    rw [if_pos rfl] at h2 ⊢
    exact rR h1 h2
   ·rw [if_neg e2] at h2 ⊢
    exact h2
  ·rw [if_neg e1,decide_eq_false_iff_not] at h1
   by_cases e2:z=y
   ·subst e2
    rw [if_neg e1,decide_eq_false_iff_not]
    exact h1
   ·rw [if_neg e2,decide_eq_false_iff_not] at h2
    rw [if_neg (by omega),decide_eq_false_iff_not]
    omega
theorem kf:∀ {a b:List Int},bK a b=true->bK b a=false
 | [],[],h=>by cases h
 | [],_ :: _,_=>rfl
 | _ :: _,[],h=>by cases h
 | x :: xs,y :: ys,h=>by
  unfold bK at h ⊢
  by_cases e:x=y
  ·subst e
   rw [if_pos rfl] at h ⊢
   exact kf h
  ·rw [if_neg e,decide_eq_true_eq] at h
   rw [if_neg (fun z=>e z.symm),decide_eq_false_iff_not]
   omega
theorem kg:∀ {a b:List Int},bK a b=false->bK b a=false->a=b
 | [],[],_,_=>rfl
 | [],_ :: _,h,_=>by cases h
 | _ :: _,[],_,h=>by cases h
 | x :: xs,y :: ys,h1,h2=>by
  unfold bK at h1 h2
  by_cases e:x=y
  ·subst e
   rw [if_pos rfl] at h1 h2
   rw [kg h1 h2]
  ·rw [if_neg e,decide_eq_false_iff_not] at h1
   rw [if_neg (fun z=>e z.symm),decide_eq_false_iff_not] at h2
   omega
def gT (ks:List (List Int)) (i j:Nat):Bool:=bK (ks.getD i []) (ks.getD j [])
theorem w8 (ks:List (List Int)):So.OrdG (gT ks) where
 tr:=fun a b c h k=>rR h k
 as:=fun a b h=>kf h
def kK (ks:List (List Int)):Array Nat:=Ic (gT ks) (kas_sort ks.length)
theorem oU {ks:List (List Int)} (h:1 ≤ ks.length):So.Bs ks.length (kK ks)∧So.Up (gT ks) (kK ks) ks.length:=(So.w_sort (w8 ks) h).ev
def pickT {α:Type} (ks:List (List Int)) (z:α) (vs:List α):List α:=if ks.length < 2 then vs else (kK ks).toList.map fun i=>vs.getD i z
theorem pickT_perm {α:Type} (ks:List (List Int)) (z:α) (vs:List α) (hl:vs.length=ks.length):(pickT ks z vs).Perm vs:= by
 unfold pickT
 split
 ·exact .refl _
 ·rename_i h
  have b:=(oU (ks:=ks) (by omega)).1
  have p:(kK ks).toList.Perm (List.range ks.length):=by simpa using Array.perm_iff_toList_perm.mp b
  have e:(List.range ks.length).map (fun i=>vs.getD i z)=vs:= by
   apply List.ext_getElem?
   intro i
   rw [List.getElem?_map]
   by_cases hi:i < ks.length
   ·rw [List.getElem?_range hi]
    simp [List.getD_eq_getElem?_getD,List.getElem?_eq_getElem (show i < vs.length by omega)]
   ·rw [List.getElem?_eq_none (by simpa using hi),List.getElem?_eq_none (by omega)];rfl
  exact (p.map _).trans (by rw [e])
theorem fX (ks:List (List Int)):(pickT ks [] ks).Pairwise (fun a b=>bK b a=false):= by
 unfold pickT
 split
 ·rename_i h
  match ks,h with
  | [],_=>exact .nil
  | [a],_=>exact List.pairwise_singleton _ _
  | _ :: _ :: _,h=>exact absurd h (by simp)
 ·rename_i h
  obtain ⟨b,u⟩:=oU (ks:=ks) (by omega)
  rw [List.pairwise_map,List.pairwise_iff_getElem]
  intro i j hi hj hij
  have hj':j < ks.length:=by rw [<- b.size];simpa using hj
  have:=u i j (by omega) hj'
  have e:∀ k (hk:k < (kK ks).toList.length),So.at0 (kK ks) k=(kK ks).toList[k]:=fun k hk=>by
   have hk':k < (kK ks).size:=by simpa using hk
   simp [So.at0,Array.getD,hk']
  rw [e i hi,e j hj] at this
  exact this
theorem pickT_map {α β:Type} (ks:List (List Int)) (f:α->β) (z:α) (vs:List α):(pickT ks z vs).map f=pickT ks (f z) (vs.map f):= by
 unfold pickT
 split
 ·rfl
 ·rw [List.map_map]
  refine List.map_congr_left fun i _=>?_
  simp [List.getD_eq_getElem?_getD]
theorem pickT_any {α:Type} {ks:List (List Int)} {vs:List α} (h:vs.length=ks.length) (z z':α):pickT ks z vs=pickT ks z' vs:= by
 unfold pickT
 split
 ·rfl
 ·rename_i hl
  have b:=(oU (ks:=ks) (by omega)).1
  have p:(kK ks).toList.Perm (List.range ks.length):=by simpa using Array.perm_iff_toList_perm.mp b
  refine List.map_congr_left fun i hi=>?_
  have:=List.mem_range.mp (p.mem_iff.mp hi)
  simp [List.getD_eq_getElem?_getD,List.getElem?_eq_getElem (show i < vs.length by omega)]
section
variable {prog:Program} {w:World} {A:Around} {E:Value->Shared->Prop} {s:Shared}
theorem wc {b fin:Bool} {Q:Bool->Shared->Prop}:∀ {ks js:List Int} {vs us:List Value} {i:Nat},ItemsAre (intKind prog w) ks vs->ItemsAre (intKind prog w) js us->(fin=decide (i + vs.length < i + us.length))->Q (bK ks js) s->KatLex prog w A b fin Q (vs.zip us) i s
 | [],[],_,_,i,.nil,.nil,hf,h=>by
  have:fin=false:=by simpa using hf
  subst this
  exact kat_nil h
 | [],_ :: _,_,_,i,.nil,.cons _ _,hf,h=>by
  have:fin=true:=by simpa using hf
  subst this
  exact kat_nil h
 | _ :: _,[],_,_,i,.cons _ _,.nil,hf,h=>by
  have:fin=false:=by rw [hf,decide_eq_false_iff_not];simp
  subst this
  exact kat_nil h
 | x :: xs,y :: ys,v :: vs,u :: us,i,.cons h1 r1,.cons h2 r2,hf,h=>by
  refine kat_cons ((intKind prog w).eqBool h1 h2 ?_)
  unfold bK at h
  by_cases e:x=y
  ·rw [decide_eq_true e]
   rw [if_pos e] at h
   refine kat_yes (wc r1 r2 ?_ h)
   rw [hf]
   simp only [List.length_cons]
   congr 1
   rw [eq_iff_iff]
   omega
  ·rw [decide_eq_false e]
   rw [if_neg e] at h
   obtain ⟨t1,rfl⟩:=Value.isInt_shape (show Value.isInt x v=true from h1)
   obtain ⟨t2,rfl⟩:=Value.isInt_shape (show Value.isInt y u=true from h2)
   refine kat_no ?_
   cases hb:(b && i == 0) with
   | true=>exact oneLt_int h
   | false=>exact kat_one _ _ (PyProof.Rows.lt_int h)
theorem EC {ks js:List Int} {a c:Addr} {b:Bool} {Q:Bool->Shared->Prop} (h1:dD prog w s.heap ks a) (h2:dD prog w s.heap js c) (h:Q (bK ks js) s):wpAny (model prog w) A (keyLt' (tuples' b) (.ref a) (.ref c)) Q E s:= by
 obtain ⟨o,xs,n,ho,_,hd,hi⟩:=h1
 obtain ⟨o2,ys,n2,ho2,_,hd2,hi2⟩:=h2
 refine kat_lt ho hd ho2 hd2 (wc hi hi2 ?_ h)
 simp
def oo (prog:Program) (w:World) (h:Heap) (ks:List (List Int)) (vs:List Value):Prop:=vs.length=ks.length∧∀ (i:Nat) (k:List Int),ks[i]? = some k->∃ b:Addr,vs[i]? = some (Value.ref b)∧dD prog w h k b
theorem oo.keeps {h h':Heap} {ks:List (List Int)} {vs:List Value} (x:oo prog w h ks vs) (k:∀ b o,h.get? b=some o->o.cls=.type "tuple" -> h'.get? b=some o):oo prog w h' ks vs:=⟨x.1,fun i q e=>by
 obtain ⟨b,e1,o,its,n,ho,hc,r⟩:=x.2 i q e
 exact ⟨b,e1,o,its,n,k b o ho hc,hc,r⟩⟩
theorem pq {h:Heap}:∀ {ks:List (List Int)} {vs:List Value},oo prog w h ks vs->(∀ k ∈ ks,k ≠ [])->∃ fs,KatTups h vs fs∧fs.length=vs.length∧∀ v ∈ fs,∃ i u,v=Value.int i u
 | [],[],_,_=>⟨[],trivial,rfl,fun v hv=>nomatch hv⟩
 | [],_ :: _,h,_=>by have:=h.1;simp at this
 | _ :: _,[],h,_=>by have:=h.1;simp at this
 | k :: ks,v :: vs,h,hn=>by
  obtain ⟨fs,a,b,c⟩:=pq (ks:=ks) (vs:=vs) ⟨by simpa using h.1,fun i q e=>h.2 (i + 1) q (by simpa using e)⟩ fun k hk=>hn k (List.mem_cons_of_mem _ hk)
  obtain ⟨ad,e1,o,its,n,ho,hc,hd,hi⟩:=h.2 0 k rfl
  cases e1
  cases k with
  | nil=>exact absurd rfl (hn [] List.mem_cons_self)
  | cons x xs=>
   have hl:its.toList[0]? ≠ none:= by
    generalize its.toList=q at hi
    cases hi
    simp
   cases e2:its[0]? with
   | none=>rw [<- Array.getElem?_toList] at e2;exact absurd e2 hl
   | some f=>
    refine ⟨f :: fs,KatTups.cons ho hc hd e2 a,by simp [b],fun u hu=>?_⟩
    rcases List.mem_cons.mp hu with rfl | hu
    ·rw [<- Array.getElem?_toList] at e2
     generalize its.toList=q at hi e2
     cases hi with
     | cons h1 r1=>
      cases e2
      obtain ⟨t,e⟩:=Value.isInt_shape (show Value.isInt x _=true from h1)
      exact ⟨x,t,e⟩
    ·exact c u hu
theorem lX {a:Addr} {vs:List Value} {ks:List (List Int)} {n:Nat} {P:PySem.Fin->Shared->Prop} (ho:s.heap.get? a=some (seqObj "list" vs.toArray n)) (hT:oo prog w s.heap ks vs) (hne:∀ k ∈ ks,k ≠ []) (h64:vs.length < 64)
  (h:P (.done (.ret .none)) { s with heap:=sortedHeap s.heap a vs (pickT ks Value.none vs).toArray }):wpAny (model prog w) A (Builtin.«list.sort» ⟨[.ref a],[]⟩) P E s:= by
 rw [list_sort_plain]
 have ha:a < s.heap.objs.size:=Heap.lt_size ho
 refine wpAny_bind (listItems_at ho rfl ?_)
 refine wpAny_bind (listUpdate_at ho rfl ?_)
 obtain ⟨e1,ho1⟩:∃ e1,(s.heap.update a (Obj.mapSeq fun _=>#[])).get? a=some (seqObj "list" #[] e1):=⟨_,get?_update_seq ho (fun _=>#[])⟩
 refine wpAny_bind (seqEpoch_at ho1 rfl ?_)
 refine wpAny_bind (wpAny_newTuple ?_)
 refine wpAny_bind (wpAny_newList ?_)
 refine wpAny_holding ?_
 have ho6:(((s.heap.update a (Obj.mapSeq fun _=>#[])).push (seqObj "tuple" vs.toArray 0)).push (seqObj "list" #[] 0)).get? a=some (seqObj "list" #[] e1):= by
  rw [Heap.get?_push_ne _ _ _ (by rw [size_push',Heap.size_update];exact Nat.ne_of_lt (Nat.lt_succ_of_lt ha)),Heap.get?_push_ne _ _ _ (by rw [Heap.size_update];exact Nat.ne_of_lt ha)]
  exact ho1
 show wpAny (model prog w) A _ P E { s with heap:=((s.heap.update a (Obj.mapSeq fun _=>#[])).push (seqObj "tuple" vs.toArray 0)).push (seqObj "list" #[] 0) }
 dsimp only
 have hsz:vs.toArray.size=vs.length:=by simp
 have hl:=hT.1
 have pl:(pickT ks Value.none vs).length=vs.length:=(pickT_perm ks Value.none vs hl).length_eq
 have hT2:oo prog w (((s.heap.update a (Obj.mapSeq fun _=>#[])).push (seqObj "tuple" vs.toArray 0)).push (seqObj "list" #[] 0)) ks vs:=hT.keeps fun b o e hc=>by
  have hb:b ≠ a:=fun z=>by
   rw [z,ho] at e
   rw [<- Option.some.inj e] at hc
   exact absurd (show (Value.type "list")=Value.type "tuple" from hc) (by decide)
  exact Heap.get?_push_of_some _ (Heap.get?_push_of_some _ ((Heap.get?_update_other _ _ (Ne.symm hb)).trans e))
 by_cases h2:vs.toArray.size < 2
 ·rw [if_pos h2,if_pos h2]
  refine wpAny_bind (wpAny_pure ?_)
  rw [StateT.run_pure]
  refine wpAny_bind (wpAny_pure ?_)
  dsimp only
  refine wpAny_bind (seqEpoch_at ho6 rfl ?_)
  have ep:(arrOf (SortSt.mk' general' (vs.toArray.zip vs.toArray) #[] 7 none)).map (·.2)=(pickT ks Value.none vs).toArray:= by
   have:pickT ks Value.none vs=vs:=by unfold pickT;rw [if_pos (by omega)]
   rw [this]
   show ((vs.toArray.zip vs.toArray).map (·.2))=vs.toArray
   apply Array.toList_inj.mp
   simp [List.map_snd_zip]
  rw [ep]
  refine wpAny_bind (listUpdate_at ho6 rfl ?_ (hsz2:=by show (pickT ks Value.none vs).length ≤ _;rw [pl,sizeLine_eq];omega))
  simp only [bne_self_eq_false,Bool.false_eq_true,if_false]
  exact wpAny_pure h
 ·rw [if_neg h2,if_neg h2]
  rw [hsz] at h2
  obtain ⟨fs,kt,fl,fi⟩:=pq hT2 hne
  refine wpAny_bind (kat_kind (T:=.type "int") kt (by omega) (fun v hv=>?_) (by decide) ?_)
  ·obtain ⟨i,u,rfl⟩:=fi v hv
   exact Looks.now
  refine wpAny_bind (wpAny_mono (kat_run (E:=E) (ks:=vs) (vs:=vs) (κ:=tuples' ((Value.type "int") != Value.type "tuple")) (Q:=fun st s''=>(arrOf st).map (·.2)=(pickT ks Value.none vs).toArray∧failedOf st=none∧s'' = { s with heap:=((s.heap.update a (Obj.mapSeq fun _=>#[])).push (seqObj "tuple" vs.toArray 0)).push (seqObj "list" #[] 0) })
   (G:=fun p s''=>p=kK ks∧s'' = { s with heap:=((s.heap.update a (Obj.mapSeq fun _=>#[])).push (seqObj "tuple" vs.toArray 0)).push (seqObj "list" #[] 0) }) rfl (by omega) h64 (fun p st s'' hp ha hf hg=>⟨?_,hf,hg.2⟩) ?_) ?_ fun _ _ x=>x)
  ·rw [kat_snds rfl ha,hg.1]
   unfold pickT
   rw [if_neg (by omega)]
  ·have ws:=So.w_sort (w8 ks) (n:=vs.length) (by omega)
   refine So.WpT.kas (g:=gT ks) (n:=vs.length) (fun i j C hi hj hC=>?_) ws ⟨by unfold kK;rw [hl],rfl⟩
   unfold kas_ask
   obtain ⟨b1,e1',k1⟩:=hT2.2 i (ks[i]'(by omega)) (List.getElem?_eq_getElem _)
   obtain ⟨b2,e2',k2⟩:=hT2.2 j (ks[j]'(by omega)) (List.getElem?_eq_getElem _)
   have d1:vs.getD i Value.none=.ref b1:=by rw [List.getD_eq_getElem?_getD,e1'];rfl
   have d2:vs.getD j Value.none=.ref b2:=by rw [List.getD_eq_getElem?_getD,e2'];rfl
   rw [d1,d2]
   refine EC k1 k2 ?_
   have:gT ks i j=bK (ks[i]'(by omega)) (ks[j]'(by omega)):= by
    unfold gT
    rw [List.getD_eq_getElem?_getD,List.getD_eq_getElem?_getD,List.getElem?_eq_getElem (by omega),List.getElem?_eq_getElem (by omega)];rfl
   rw [<- this];exact hC
  ·rintro ⟨⟨⟩,st⟩ s'' ⟨hout,hf,rfl⟩
   dsimp only
   refine wpAny_bind (seqEpoch_at ho6 rfl ?_)
   rw [hout]
   refine wpAny_bind (listUpdate_at ho6 rfl ?_ (hsz2:=by show (pickT ks Value.none vs).length ≤ _;rw [pl,sizeLine_eq];omega))
   rw [hf]
   simp only [bne_self_eq_false,Bool.false_eq_true,if_false]
   exact wpAny_pure h
theorem kD {v:Value} {Q:Value->Shared->Prop} {Ok:List (List Int)->List Value->Prop}
  (hc:∀ (A':Around) (Q':List Value->Shared->Prop) (E':Value->Shared->Prop),(A'.handled=A.handled)->(∀ (vs:List Value) (ks:List (List Int)) (h':Heap) (tk:Nat) (d:Drawn),Ok ks vs->vs.length < 64->(∀ k ∈ ks,k ≠ [])->oo prog w h' ks vs->(∀ b o,s.heap.get? b=some o->h'.get? b=some o)->Q' vs { s with heap:=h',toks:=tk,drawn:=d }) ->
   wpAny (model prog w) A' (collect v) Q' E' s)
  (h:∀ (h1 h':Heap) (tk:Nat) (d:Drawn) (ks:List (List Int)) (vs:List Value) (e:Nat),Ok ks vs->vs.length=ks.length->(∀ b o,s.heap.get? b=some o->h1.get? b=some o)->(∀ b o,h1.get? b=some o->h'.get? b=some o)->h'.get? h1.objs.size=some { cls:=.type "list",data:=.seq (pickT ks Value.none vs).toArray e } ->
   Q (.ref h1.objs.size) { s with heap:=h',toks:=tk,drawn:=d }) :
  wpAny (model prog w) A (call (.builtin "sorted") [v]) Q E s:= by
 refine Calls.call_function_entry PyProof.Rows.kind_sorted PyProof.Rows.plain_sorted PyProof.Rows.entry_sorted (PyProof.Rows.args_sorted1 _) ?_
 unfold Builtin.«sorted»
 refine wpAny_bind (m:=checkCount "sorted" 1 1 _) (wpAny_pure ?_)
 refine wpAny_bind (hc _ _ _ (by simp) fun vs ks h1 tk d hok h64 hne hT kp=>?_)
 refine wpAny_bind (wpAny_newList ?_ (by rw [sizeLine_eq];omega))
 have g1:(h1.push (PyProof.Rows.seqObj "list" vs.toArray 0)).get? h1.objs.size=some (PyProof.Rows.seqObj "list" vs.toArray 0):=Heap.get?_push_size _ rfl
 have hT2:oo prog w (h1.push (PyProof.Rows.seqObj "list" vs.toArray 0)) ks vs:=hT.keeps fun b o e _=>Heap.get?_push_of_some _ e
 refine wpAny_bind (wpAny_holding (wpAny_call_entry PyProof.Rows.slot_list_sort ⟨_,g1,rfl⟩ PyProof.Rows.entry_list_sort (lX (s:={ s with heap:=h1.push (PyProof.Rows.seqObj "list" vs.toArray 0),toks:=tk,drawn:=d }) g1 hT2 hne h64 ⟨_,rfl,?_⟩) (PyProof.Rows.args_list_sort _)))
 obtain ⟨e,he⟩:=PyProof.Rows.sortedHeap_at (out:=(pickT ks Value.none vs).toArray) g1
 refine wpAny_pure ⟨_,rfl,h h1 _ tk d ks vs e hok hT.1 kp (fun b o eb=>?_) (by simpa [PyProof.Rows.seqObj] using he)⟩
 have hb:=Heap.lt_size eb
 show (PyProof.Rows.sortedHeap (h1.push (PyProof.Rows.seqObj "list" vs.toArray 0)) h1.objs.size vs (pickT ks Value.none vs).toArray).get? b=some o
 rw [PyProof.Rows.sortedHeap_old (Nat.ne_of_lt hb) (by rw [Heap.size_push];exact Nat.lt_succ_of_lt hb)]
 exact Heap.get?_push_of_some _ eb
end
end Jt.Tu
namespace Jt.Tu
open PySem Jt L2 PyProof.Rows
def p9 (x:List Int):List (List Int)->List (List Int)
 | []=>[x]
 | y :: r=>if x=y then y :: r else if bK x y=true then x :: y :: r else y :: p9 x r
def iA (nss:List (List Int)):List (List Int):=nss.foldr p9 []
theorem kv {x z:List Int}:∀ {l:List (List Int)},z ∈ p9 x l ↔ z=x ∨ z ∈ l
 | []=>by simp [p9]
 | y :: r=>by
  unfold p9
  split
  ·rename_i e
   subst e
   simp
  ·split
   ·simp
   ·rw [List.mem_cons,kv,List.mem_cons]
    exact ⟨fun h=>h.elim (fun e=>.inr (.inl e)) fun h=>h.elim .inl fun e=>.inr (.inr e),fun h=>h.elim (fun e=>.inr (.inl e)) fun h=>h.elim .inl fun e=>.inr (.inr e)⟩
theorem fB {z:List Int}:∀ {l:List (List Int)},z ∈ iA l ↔ z ∈ l
 | []=>by simp [iA]
 | x :: r=>by
  show z ∈ p9 x (iA r) ↔ _
  rw [kv,fB,List.mem_cons]
abbrev vt (l:List (List Int)):Prop:=l.Pairwise fun a b=>bK a b=true
theorem lex_trans {a b c:List Int} (h1:bK a b=true) (h2:bK b c=true):bK a c=true:= by
 cases q:bK a c with
 | true=>rfl
 | false=>
  have e:=rR (a:=c) (b:=a) (c:=b) q (kf h1)
  rw [h2] at e;cases e
theorem qr {x:List Int}:∀ {l:List (List Int)},vt l->vt (p9 x l)
 | [],_=>List.pairwise_singleton _ _
 | y :: r,h=>by
  have h':=List.pairwise_cons.mp h
  unfold p9
  split
  ·exact h
  ·rename_i ne
   split
   ·rename_i lt
    refine List.pairwise_cons.mpr ⟨fun z hz=>?_,h⟩
    rcases List.mem_cons.mp hz with rfl | hz
    ·exact lt
    ·exact lex_trans lt (h'.1 z hz)
   ·rename_i nlt
    refine List.pairwise_cons.mpr ⟨fun z hz=>?_,qr h'.2⟩
    rcases kv.mp hz with rfl | hz
    ·cases q:bK y z with
     | true=>rfl
     | false=>exact absurd (kg (Bool.eq_false_iff.mpr nlt) q) ne
    ·exact h'.1 z hz
theorem d8:∀ l:List (List Int),vt (iA l)
 | []=>.nil
 | x :: r=>qr (d8 r)
theorem uR (a:List Int):bK a a=false:= by
 cases q:bK a a with
 | false=>rfl
 | true=>have:=kf q;rw [q] at this;exact this
theorem gW:∀ {a b:List (List Int)},vt a->vt b->(∀ z,z ∈ a ↔ z ∈ b)->a=b
 | [],[],_,_,_=>rfl
 | [],y :: r,_,_,h=>by have:=(h y).mpr List.mem_cons_self;cases this
 | x :: r,[],_,_,h=>by have:=(h x).mp List.mem_cons_self;cases this
 | x :: r,y :: q,ha,hb,h=>by
  have ha':=List.pairwise_cons.mp ha
  have hb':=List.pairwise_cons.mp hb
  have exy:x=y:= by
   rcases List.mem_cons.mp ((h x).mp List.mem_cons_self) with e | e
   ·exact e
   ·rcases List.mem_cons.mp ((h y).mpr List.mem_cons_self) with e2 | e2
    ·exact e2.symm
    ·have l1:=hb'.1 x e
     have l2:=ha'.1 y e2
     have:=kf l1
     rw [l2] at this;cases this
  subst exy
  have:r=q:=gW ha'.2 hb'.2 fun z=>by
   have hz:=h z
   rw [List.mem_cons,List.mem_cons] at hz
   constructor
   ·intro m
    rcases hz.mp (.inr m) with e | e
    ·subst e
     have:=ha'.1 z m
     rw [uR] at this;cases this
    ·exact e
   ·intro m
    rcases hz.mpr (.inr m) with e | e
    ·subst e
     have:=hb'.1 z m
     rw [uR] at this;cases this
    ·exact e
  rw [this]
theorem rV {α β:Type} {f:α->β} {a b:List β} (p:a.Perm b):∀ l:List α,b=l.map f->∃ l':List α,l'.Perm l∧a=l'.map f:= by
 induction p with
 | nil=>intro l e;exact ⟨l,.refl _,e⟩
 | cons x _ ih=>
  intro l e
  cases l with
  | nil=>cases e
  | cons y r=>
   rw [List.map_cons] at e
   injection e with e1 e2
   obtain ⟨l',h1,h2⟩:=ih r e2
   exact ⟨y :: l',h1.cons y,by rw [List.map_cons,h2,e1]⟩
 | swap x y t=>
  intro l e
  match l,e with
  | p :: q :: r,e=>
   rw [List.map_cons,List.map_cons] at e
   injection e with e1 e2
   injection e2 with e2 e3
   exact ⟨q :: p :: r,.swap _ _ _,by rw [List.map_cons,List.map_cons,e1,e2,e3]⟩
  | [],e=>cases e
  | [_],e=>cases e
 | trans _ _ h1 h2=>
  intro l e
  obtain ⟨l',a1,a2⟩:=h2 l e
  obtain ⟨l2,b1,b2⟩:=h1 l' a2
  exact ⟨l2,b1.trans a1,b2⟩
section
variable {X:Cx}
def lu:V->Addr
 | .ref p=>p
 | _=>0
theorem pd {prog:Program} {w:World}:∀ {ns:List Int} {us:List Value},IntsAre us ns->ItemsAre (intKind prog w) ns us
 | _,_,.nil=>.nil
 | _,_,.cons n t r=>.cons (by simp [intKind,Value.isInt]) (pd r)
theorem iW {pins:List (Addr × Obj)} {σ:L2.St} {H:Hp} {s:Shared} (I:Inv X pins σ H s) {p:Addr} {ns:List Int} (hq:fI X.K H p (ns.map V.int)):dD X.prog X.w s.heap ns p:= by
 obtain ⟨its,rv,⟨o,ho,hc,n,hd⟩,hz⟩:=I.tuple hq
 exact ⟨o,its.toArray,n,ho,hc,hd,by simpa using pd (intsAre_of rv)⟩
theorem k3 {K:PySem.W.Frag} {H:Hp}:∀ {vs:List V} {nss:List (List Int)},Cp K H vs nss->vs.length=nss.length∧∀ i,i < vs.length->vs.getD i .non=.ref (lu (vs.getD i .non))∧fI K H (lu (vs.getD i .non)) ((nss.getD i []).map V.int)
 | [],nss,h=>by
  have h':nss=[]:=h
  subst h'
  exact ⟨rfl,fun i hi=>absurd hi (Nat.not_lt_zero _)⟩
 | v :: vs,nss,h=>by
  obtain ⟨p,ns,r,rfl,hq,rfl,h⟩:=h
  obtain ⟨a,b⟩:=k3 h
  refine ⟨by simp [a],fun i hi=>?_⟩
  cases i with
  | zero=>exact ⟨rfl,hq⟩
  | succ i=>simpa using b i (by simpa using hi)
theorem ml:∀ ps:List (List Int × Addr),Vals (ps.map fun pr=>V.ref pr.2) (ps.map fun pr=>Value.ref pr.2)
 | []=>.nil
 | p :: r=>.cons rfl (ml r)
def pS (prog:Program) (w:World) (S:Addr) (prs:List (List Int × Addr)) (nss:List (List Int)):HO:=.ext fun h=>∃ (l:List (List Int × Addr)) (ep:Nat) (t:SetTable),bW w h S (l.map (ek prog w)) ep t∧(l.map (·.1)).Nodup∧(∀ z,z ∈ l.map (·.1) ↔ z ∈ nss)∧(∀ p ∈ l,p ∈ prs)∧l.length ≤ 5
theorem vJ (hc:X.calm=true) (hu:X.A.units + 20 < cLine):cP X (.type "set") (fun xs H Q=>∃ p vs nss,xs=[.ref p]∧fI X.K H p vs∧Cp X.K H vs nss∧nss.length ≤ 5∧∀ l,H l=none->Q (.ref l) (upd H l (pS X.prog X.w l (nss.zip (vs.map lu)) nss))):= by
 intro pins s σ H xs us Q I r h
 obtain ⟨p,vs,nss,rfl,hq,ht,h5,q⟩:=h
 obtain ⟨u,rfl,ru⟩:=r.one
 cases ru
 obtain ⟨its,rv,pl,hz⟩:=I.tuple hq
 obtain ⟨hl,hat⟩:=k3 ht
 have hn:its.toArray.size=vs.length:=by rw [List.size_toArray,<- rv.length]
 refine vR (val:=fun i=>nss.getD i []) (ad:=fun i=>lu (vs.getD i .non)) (I.ok.hd hc) (by omega) (show s.heap.IsTuple p its.toArray from pl) (fun i v hv=>?_) (fun i hi=>iW I (hat i (by omega)).2) (by omega) fun h' tk ls ep t x nd mem src k=>?_
 ·have hi:i < vs.length:= by
   have:=(Array.getElem?_eq_some_iff.mp hv).1
   omega
  have e:its[i]? = some v:=by simpa using hv
  have rr:=gY rv i
  rw [List.getD_eq_getElem?_getD (l:=its),e] at rr
  rw [(hat i hi).1] at rr
  exact rr
 ·have e5:ls.length ≤ 5:= by
   have:(ls.map (·.1)).length ≤ nss.length:= by
    have gen:∀ (a b:List (List Int)),a.Nodup->(∀ x ∈ a,x ∈ b)->a.length ≤ b.length:= by
     intro a
     induction a with
     | nil=>intro b _ _;exact Nat.zero_le _
     | cons x r ih=>
      intro b nd hs
      have n:=List.nodup_cons.mp nd
      have hx:=hs x List.mem_cons_self
      have:=ih (b.erase x) n.2 fun y hy=>(List.mem_erase_of_ne (show y ≠ x from fun z=>n.1 (z ▸ hy))).mpr (hs y (List.mem_cons_of_mem _ hy))
      rw [List.length_erase_of_mem hx] at this
      have p:=List.length_pos_of_mem hx
      rw [List.length_cons]
      omega
    refine gen _ _ nd fun z hz=>?_
    obtain ⟨j,hj,e⟩:=(mem z).mp hz
    rw [<- e]
    have hj':j < nss.length:=by omega
    simp only [List.getD_eq_getElem?_getD,List.getElem?_eq_getElem hj',Option.getD_some]
    exact List.getElem_mem hj'
   rw [List.length_map] at this
   omega
  refine ⟨.ref s.heap.objs.size,_,I.laid (t':=tk) (o:=pS X.prog X.w s.heap.objs.size (nss.zip (vs.map lu)) nss) k (Nat.le_refl _) ⟨⟨ls,ep,t,x,nd,fun z=>(mem z).trans ⟨fun ⟨j,hj,e⟩=>?_,fun hz=>?_⟩,fun p hp=>?_,e5⟩,?_,fun h1 h2 ⟨l,ep,t,x,r⟩ k=>⟨l,ep,t,x.at k,r⟩⟩,rfl,q _ I.fresh⟩
  ·rw [<- e]
   have hj':j < nss.length:=by omega
   simp only [List.getD_eq_getElem?_getD,List.getElem?_eq_getElem hj',Option.getD_some]
   exact List.getElem_mem hj'
  ·obtain ⟨j,hj,e⟩:=List.getElem_of_mem hz
   exact ⟨j,by omega,by simp [hj,e]⟩
  ·obtain ⟨j,hj,e1,e2⟩:=src p hp
   have hj':j < nss.length:=by omega
   have hj2:j < vs.length:=by omega
   refine List.mem_iff_getElem?.mpr ⟨j,?_⟩
   rw [List.getElem?_zip_eq_some]
   refine ⟨?_,?_⟩
   ·rw [<- e2]
    simp [hj']
   ·rw [<- e1,List.getElem?_map]
    simp [hj2]
  ·obtain ⟨o,ho,_⟩:=x.obj
   exact ⟨o,ho⟩
theorem nD (hc:X.calm=true):cP X (.builtin "sorted") (fun xs H Q=>∃ p prs nss,xs=[.ref p]∧H p=some (pS X.prog X.w p prs nss)∧(∀ pr ∈ prs,fI X.K H pr.2 (pr.1.map V.int))∧(∀ k ∈ nss,k ≠ []) ∧
  ∀ l (ps:List (List Int × Addr)),H l=none->ps.map (·.1)=iA nss->(∀ pr ∈ ps,pr ∈ prs)->Q (.ref l) (upd H l (.lst (ps.map fun pr=>V.ref pr.2)))):= by
 intro pins s σ H xs us Q I r h
 obtain ⟨p,prs,nss,rfl,hq,hsq,hne,q⟩:=h
 obtain ⟨u,rfl,ru⟩:=r.one
 cases ru
 obtain ⟨⟨l,ep,t,x,nd,mem,src,h5⟩,_⟩:=I.hok p _ hq
 refine kD (Ok:=fun ks vs=>∃ l':List (List Int × Addr),l'.Perm l∧ks=l'.map (·.1)∧vs=l'.map fun p=>Value.ref p.2) (fun A' Q' E' hA hQ'=>?_) fun h1 h' tk d ks vs e hok hlen k k2 hg=>?_
 ·refine nH (hA.trans (I.ok.hd hc)) x fun ord h' tk d po k=>?_
  obtain ⟨l',pl,el⟩:=rV po l rfl
  have ev:ord.map (fun p=>p.2)=l'.map fun p=>Value.ref p.2:= by
   rw [el,List.map_map]
   rfl
  rw [ev]
  refine hQ' _ (l'.map (·.1)) h' tk d ⟨l',pl,rfl,rfl⟩ (by rw [List.length_map,pl.length_eq];omega) (fun k hk=>hne k ((mem k).mp ((pl.map _).mem_iff.mp hk))) ⟨by simp,fun i kk e=>?_⟩ k
  rw [List.getElem?_map] at e
  cases q2:l'[i]? with
  | none=>rw [q2] at e;cases e
  | some pr=>
   rw [q2] at e
   cases e
   have hm:=pl.mem_iff.mp (List.mem_of_getElem? q2)
   exact ⟨pr.2,by rw [List.getElem?_map,q2];rfl,(iW I (hsq pr (src pr hm))).keeps fun o e=>k _ o e⟩
 ·obtain ⟨l',pl,rfl,rfl⟩:=hok
  have e0:pickT (l'.map (·.1)) Value.none (l'.map fun p=>Value.ref p.2)=(pickT (l'.map (·.1)) ([],0) l').map fun p=>Value.ref p.2:= by
   rw [pickT_map]
   exact pickT_any (by simp) _ _
  have e1:(pickT (l'.map (·.1)) ([],0) l').map (·.1)=pickT (l'.map (·.1)) [] (l'.map (·.1)):= by
   rw [pickT_map]
  have pp:=pickT_perm (l'.map (·.1)) (([],0):List Int × Addr) l' (by simp)
  rw [e0] at hg
  generalize pickT (l'.map (·.1)) (([],0):List Int × Addr) l' = ps at *
  have so:=fX (l'.map (·.1))
  rw [<- e1] at so
  have ndp:(ps.map (·.1)).Nodup:=((pp.trans pl).map _).nodup_iff.mpr nd
  have es:ps.map (·.1)=iA nss:=gW (by
   rw [List.nodup_iff_pairwise_ne] at ndp
   exact (so.and ndp).imp fun {a b} z=>by
    cases q3:bK a b with
    | true=>rfl
    | false=>exact absurd (kg q3 z.1) z.2) (d8 nss) fun z=>by
    rw [fB,<- mem z]
    exact ((pp.trans pl).map _).mem_iff
  have I1:Inv X pins σ H { s with heap:=h1,toks:=tk,drawn:=d }:=Inv.kd I k
  refine ⟨.ref h1.objs.size,_,I1.laid (t':=tk) (o:=.lst (ps.map fun pr=>V.ref pr.2)) k2 (Nat.le_refl _) ⟨?_,ps.map fun p=>Value.ref p.2,e,?_,hg⟩,rfl,q _ ps (I1.hok.fresh (Nat.le_refl _)) es fun pr hpr=>src pr ((pp.trans pl).mem_iff.mp hpr)⟩
  ·rw [List.length_map,(pp.trans pl).length_eq,sizeLine_eq]
   omega
  ·exact ml ps
end
end Jt.Tu
namespace Jt.Tu
open PySem Jt L2 PyProof.Rows
def tD (ns:List Int):D:=.tup (ns.map .int)
def sortSetU:D->Option (List D)
 | .tup ds=>match fH ds with
  | some nss=>if nss.length ≤ 5∧nss.all (fun ns=>!ns.isEmpty)=true then some ((iA nss).map tD) else none
  | none=>none
 | _=>none
theorem qQ:∀ {ds:List D} {ns:List Int},cq ds=some ns->ds=ns.map .int
 | [],ns,h=>by cases h;rfl
 | d :: r,ns,h=>by
  cases d with
  | int i=>
   unfold cq at h
   cases q:cq r with
   | none=>rw [q] at h;cases h
   | some m=>
    rw [q] at h
    cases h
    rw [qQ q]
    rfl
  | _=>cases h
theorem qo:∀ {ds:List D} {nss:List (List Int)},fH ds=some nss->ds=nss.map tD
 | [],nss,h=>by cases h;rfl
 | d :: r,nss,h=>by
  cases d with
  | tup xs=>
   unfold fH at h
   cases q1:cq xs with
   | none=>rw [q1] at h;cases h
   | some ns=>
    cases q2:fH r with
    | none=>rw [q1,q2] at h;cases h
    | some nr=>
     rw [q1,q2] at h
     cases h
     rw [qo q2,qQ q1]
     rfl
  | _=>cases h
theorem tN {H:Hp}:∀ {nss:List (List Int)} {vs:List V},Rs H (nss.map tD) vs->∀ pr ∈ nss.zip (vs.map lu),R H (tD pr.1) (.ref pr.2)
 | [],vs,h,pr,hp=>by rw [List.zip_nil_left] at hp;cases hp
 | ns :: r,vs,h,pr,hp=>by
  obtain ⟨v,q,ev,h1,h2⟩:=h.inv
  subst ev
  rw [List.map_cons,List.zip_cons_cons] at hp
  rcases List.mem_cons.mp hp with e | e
  ·rw [e]
   have h1':R H (.tup (ns.map .int)) v:=h1
   obtain ⟨p,us,eu,_,_⟩:=h1'.tup
   subst eu
   exact h1
  ·exact tN h2 pr e
theorem C5 {H:Hp}:∀ {ps:List (List Int × Addr)},(∀ pr ∈ ps,R H (tD pr.1) (.ref pr.2))->Rs H ((ps.map (·.1)).map tD) (ps.map fun pr=>V.ref pr.2)
 | [],_=>.nil
 | p :: r,h=>.cons (h p List.mem_cons_self) (C5 fun pr hp=>h pr (List.mem_cons_of_mem _ hp))
theorem Fc {K:PySem.W.Frag} {H:Hp} {vs:List V} {nss:List (List Int)} (h:Cp K H vs nss):∀ pr ∈ nss.zip (vs.map lu),fI K H pr.2 (pr.1.map V.int):=fun pr hp=>by
 obtain ⟨hl,hat⟩:=k3 h
 obtain ⟨j,hj⟩:=List.mem_iff_getElem?.mp hp
 rw [List.getElem?_zip_eq_some] at hj
 obtain ⟨e1,e2⟩:=hj
 rw [List.getElem?_map] at e2
 cases q:vs[j]? with
 | none=>rw [q] at e2;cases e2
 | some v=>
  rw [q] at e2
  have hjl:j < vs.length:=(List.getElem?_eq_some_iff.mp q).1
  have:=(hat j hjl).2
  rw [List.getD_eq_getElem?_getD,q,List.getD_eq_getElem?_getD,e1] at this
  have e3:lu v=pr.2:=by simpa using e2
  rw [<- e3]
  exact this
section
variable {X:Cx} {e:Expr} {fa:M D} {p pos:Pos} {k:Nat}
def G4 (X:Cx) (te:TE):TE:=fun σ H Q=>te σ H fun x H1=>∃ p vs nss,[x]=[V.ref p]∧fI X.K H1 p vs∧Cp X.K H1 vs nss∧nss.length ≤ 5∧∀ l,H1 l=none->Q (.ref l) (upd H1 l (pS X.prog X.w l (nss.zip (vs.map lu)) nss))
theorem zV {te:TE} (hr:cm k X.A) (hm:X.mg "set" = none) (h:PE X e te) (hg:Gl X "set":=by rfl) (hc:X.calm=true:=by rfl) (he:starEach [e] X.env=[(false,eval e X.env)]:=by rfl):PE X (.Call (.Name "set" p) [e] [] pos) (G4 X te) :=
 b8 (dX (vJ hc (kA hr)) hg hm (by decide +kernel) (cY h fm he) (by decide) (by decide) he rfl) fun σ H Q h=>h
theorem df_sortedSetU {p2 pos2:Pos} (hr:cm k X.A) (hm:X.mg "sorted" = none) (hm2:X.mg "set" = none) (h:DE X e fa) (hg:Gl X "sorted":=by rfl) (hg2:Gl X "set":=by rfl) (hc:X.calm=true:=by rfl) (he:starEach [e] X.env=[(false,eval e X.env)]:=by rfl) :
  DF X (.Call (.Name "sorted" p) [.Call (.Name "set" p2) [e] [] pos2] [] pos) (do let x <- fa;lift (sortSetU x)) :=
 b8 (fE (nD hc) hg hm PyProof.Rows.boot_sorted (cY (zV hr hm2 h hg2 hc he) fm rfl) (by decide) (by decide) rfl rfl) fun σ H Q ⟨c,δ,S,T,xs,δ',s,e,k⟩=>by
  obtain ⟨x,δ1,e1,e⟩:=bind_some e
  obtain ⟨e2,rfl⟩:=aw e
  refine ⟨c,δ,S,T,x,δ1,s,e1,fun v H1 s1=>?_⟩
  cases x with
  | tup ds=>
   unfold sortSetU at e2
   dsimp only at e2
   split at e2
   ·rename_i nss en
    split at e2
    ·rename_i hn
     cases e2
     obtain ⟨q,vs,rfl,g1,g2⟩:=s1.st.head.tup
     have hds:=qo en
     have tv:Cp X.K H1 vs nss:=rO g2 en
     have l:=g2.length
     have s1e:Sl c δ1 (ds ++ S) σ (vs ++ T) H1:=s1.stk (g2.append s1.st.tail)
     refine ⟨q,vs,nss,rfl,.of (aQ _ _ g1),tv,hn.1,fun m hm=>⟨m,_,nss,rfl,aI,fun pr hpr=>?_,fun kk hkk e0=>?_,fun m2 ps hm2 es src=>?_⟩⟩
     ·rcases Fc tv pr hpr with z | z
      ·exact .inl (Rd.mono (eD hm _) z)
      ·exact .inr z
     ·have:=List.all_eq_true.mp hn.2 kk hkk
      rw [e0] at this
      cases this
     ·have s2:=s1e.grow (eD hm (pS X.prog X.w m (nss.zip (vs.map lu)) nss))
      obtain ⟨f1,f2,f3⟩:=s2.fresh hm2
      have s3:=s2.hide (o:=.lst (ps.map fun pr=>V.ref pr.2)) hm2
      have rs:=s3.st.left l
      rw [hds] at rs
      have rr:=C5 fun pr hpr=>tN rs pr (src pr hpr)
      rw [es] at rr
      exact k m2 _ _ (by rw [List.length_map,List.length_map,<- es,List.length_map]) (s3.stk (rr.append (s3.st.right l))) f1 f2 f3
    ·cases e2
   ·cases e2
  | _=>cases e2
end
end Jt.Tu
namespace Jt.Tu
open PySem Jt L2 PyProof.Rows
section
variable {prog:Program} {w:World} {A:Around} {E:Value->Shared->Prop} {s:Shared}
theorem lH {x y:List Int} {a b:Addr} {P:PySem.Fin->Shared->Prop} (hx:dD prog w s.heap x a) (hy:dD prog w s.heap y b) (h:P (.done (.ret (.bool (bK x y)))) s) :
  wpAny (model prog w) A (Builtin.«tuple.__lt__» ⟨[.ref a,.ref b],[]⟩) P E s:= by
 have hTb:=hy.typeIs
 obtain ⟨oa,xs,na,hoa,_,hda,hia⟩:=hx
 obtain ⟨ob,ys,nb,hob,_,hdb,hib⟩:=hy
 show wpAny _ _ (isInstance (.ref b) (.type "tuple") >>= _) _ _ s
 refine wpAny_bind (wpAny_isInstance hTb isSubtype_tuple_tuple ?_)
 simp only [Bool.not_true,Bool.false_eq_true,if_false]
 refine wpAny_bind (wpAny_tupleItemsOf hoa hda ?_)
 refine wpAny_bind (wpAny_tupleItemsOf hob hdb ?_)
 refine wpAny_bind ?_
 refine wpAny_forIn_list _
  (fun rest r s'=>r.1=none∧s' = s∧∃ (x' y':List Int) (xs' ys':List Value),rest=List.zip xs' ys' ∧ ItemsAre (intKind prog w) x' xs' ∧ ItemsAre (intKind prog w) y' ys' ∧ bK x' y' = bK x y∧decide (xs'.length < ys'.length)=decide (xs.size < ys.size))
  _ ?_ ?_ _ _ ⟨rfl,rfl,x,y,xs.toList,ys.toList,rfl,hia,hib,rfl,by simp⟩
 ·rintro ⟨u,v⟩ rest r s' ⟨hr,rfl,x',y',xs',ys',hz,hx',hy',hdec,hlen⟩
  cases hx' with
  | nil=>simp at hz
  | @cons k1 u' x'' xs'' h1 hx''=>
   cases hy' with
   | nil=>simp at hz
   | @cons k2 v' y'' ys'' h2 hy''=>
    simp only [List.zip_cons_cons,List.cons.injEq,Prod.mk.injEq] at hz
    obtain ⟨⟨rfl,rfl⟩,rfl⟩:=hz
    refine wpAny_bind ((intKind prog w).eqBool (a:=k1) (b:=k2) h1 h2 ?_)
    by_cases hk:k1=k2
    ·subst hk
     rw [decide_eq_true rfl]
     simp only [Bool.not_true,Bool.false_eq_true,if_false]
     refine wpAny_pure ⟨rfl,rfl,x'',y'',xs'',ys'',rfl,hx'',hy'',?_,by simpa using hlen⟩
     rw [<- hdec]
     conv=>rhs;unfold bK
     rw [if_pos rfl]
    ·rw [decide_eq_false hk]
     simp only [Bool.not_false,if_true]
     have hf:bK x y=decide (k1 < k2):= by
      rw [<- hdec]
      conv=>lhs;unfold bK
      rw [if_neg hk]
     rw [hf] at h
     obtain ⟨t1,rfl⟩:=Value.isInt_shape (show Value.isInt k1 u=true from h1)
     obtain ⟨t2,rfl⟩:=Value.isInt_shape (show Value.isInt k2 v=true from h2)
     refine wpAny_bind (wpAny_rule ?_)
     refine wpAny_bind (PyProof.Rows.lt_int (a:=k1) (b:=k2) ?_)
     exact wpAny_bind (wpAny_pure (wpAny_pure (wpAny_pure h)))
 ·rintro ⟨r1,r2⟩ s' ⟨hr,rfl,x',y',xs',ys',hz,hx',hy',hdec,hlen⟩
  simp only at hr
  subst hr
  refine wpAny_pure ?_
  have hfin:decide (xs.size < ys.size)=bK x y:= by
   rw [<- hdec,<- hlen]
   cases hx' with
   | nil=>
    cases hy' with
    | nil=>rfl
    | cons _ _=>simp [bK]
   | cons _ _=>
    cases hy' with
    | nil=>simp [bK]
    | cons _ _=>simp at hz
  show P (.done (.ret (.bool (decide (xs.size < ys.size))))) s'
  rw [hfin];exact h
theorem yI {x y:List Int} {a b:Addr} {Q:Value->Shared->Prop} (hu:A.units < cLine) (hx:dD prog w s.heap x a) (hy:dD prog w s.heap y b) (h:Q (.bool (bK x y)) s):wpAny (model prog w) A (compareOp .Lt (.ref a) (.ref b)) Q E s :=
 wpAny_richCompare_same_room (op:=.Lt) hx.typeIs hy.typeIs F.slot_tuple_lt (wpAny_call_entry F.slot_tuple_lt hx.typeIs F.entry_tuple_lt (lH hx hy ⟨_,rfl,(fun e=>nomatch e),h⟩) (F.args_tuple_lt_2 _ _)) hu
end
section
variable {X:Cx} {a b:Expr} {fa fb:M D} {pos:Pos} {k:Nat}
def G7 (K:PySem.W.Frag):R2:=fun v u H Q=>vW (fun i j=>.bl (decide (i < j))) v u H Q ∨ ∃ p q ns ms,v=.ref p∧u=.ref q∧fI K H p (ns.map V.int)∧fI K H q (ms.map V.int)∧Q (.bl (bK ns ms)) H
theorem Dq (hu:X.A.units < cLine):gc X (compareOp .Lt) (G7 X.K):= by
 intro pins s σ H v w u z Q I ru rz h
 rcases h with h | ⟨p,q,ns,ms,rfl,rfl,h1,h2,q⟩
 ·exact ng pins s σ H v w u z Q I ru rz h
 ·cases ru
  cases rz
  exact yI hu (iW I h1) (iW I h2) ⟨.bl _,H,I,rfl,q⟩
def dLtU (x y:D):Option D:=match x,y with
 | .tup xs,.tup ys=>match cq xs,cq ys with
  | some ns,some ms=>some (.bl (bK ns ms))
  | _,_=>none
 | _,_=>rb x y
theorem zM {K:PySem.W.Frag}:qq (G7 K) dLtU:=fun c δ S σ T H x y v u d Q s e k=>by
 unfold dLtU at e
 split at e
 ·rename_i xs ys
  split at e
  ·rename_i ns ms e1 e2
   cases e
   obtain ⟨p,vs,rfl,g1,g2⟩:=s.st.tail.head.tup
   obtain ⟨q,us,rfl,g3,g4⟩:=s.st.head.tup
   have h1:=fU g2 e1
   have h2:=fU g4 e2
   subst h1;subst h2
   exact .inr ⟨p,q,ns,ms,rfl,rfl,.of (aQ _ _ g1),.of (aQ _ _ g3),k _ _ (s.stk (.cons .mkB s.st.tail.tail))⟩
  ·cases e
 ·exact .inl (gS (fun _ _ _=>.mkB) c δ S σ T H x y v u d Q s e k)
theorem de_ltU (hr:cm k X.A) (ha:DE X a fa) (hb:DE X b fb):DE X (.Compare a [.Lt] [b] pos) (m2 dLtU fa fb):=jc (Dq (by have:=kA hr;omega)) zM ha hb
end
end Jt.Tu
namespace L2
open PySem PySem.Spec PyProof.Rows
section
variable {X:Cx} {a b c d:Expr} {ta tb tc td:TE} {pos:Pos}
def A4 (r r' r2:R2) (ta tb tc td:TE):TE:=fun σ H Q=>ta σ H fun x H1=>tb σ H1 fun y H2=>r x y H2 fun z H3=>∃ k,z=.bl k ∧
 (if k=true then tc σ H3 fun w' H4=>r' y w' H4 fun z' H5=>∃ k',z' = .bl k' ∧ (if k' = true then td σ H5 fun v' H6=>r2 w' v' H6 Q else Q (.bl false) H5) else Q (.bl false) H3)
theorem u0 {op op' op2:CmpOp} {r r' r2:R2} (ho:gc X (compareOp op) r) (ho':gc X (compareOp op') r') (ho2:gc X (compareOp op2) r2) (ha:PE X a ta) (hb:PE X b tb) (hc:PE X c tc) (hd:PE X d td)
  (hm:lastMarks [op,op',op2] [b,c,d]=false:=by with_unfolding_all rfl):PE X (.Compare a [op,op',op2] [b,c,d] pos) (A4 r r' r2 ta tb tc td):= by
 intro pins s σ H Q I h
 refine Compare_chain (cg (ha pins s σ H _ I h) fun v s1 ⟨x,H1,I1,r1,q1⟩=>chain_link (cg (hb pins s1 σ H1 _ I1 q1) fun u s2 ⟨y,H2,I2,r2',q2⟩=>
  cg (ho pins s2 σ H2 x y v u _ I2 r1 r2' q2) fun dd s3 ⟨z,H3,I3,r3,k,e,q3⟩=>?_)) hm
 subst e
 cases r3
 refine wpAny_truthy_bool ?_
 cases k with
 | false=>exact ite_ff ⟨.bl false,H3,I3,rfl,q3⟩
 | true=>
  refine ite_tt (chain_link (cg (hc pins s3 σ H3 _ I3 q3) fun w' s4 ⟨z',H4,I4,r4,q4⟩=>cg (ho' pins s4 σ H4 y z' u w' _ I4 r2' r4 q4) fun dd s5 ⟨z2,H5,I5,r5,k',e,q5⟩=>?_))
  subst e
  cases r5
  refine wpAny_truthy_bool ?_
  cases k' with
  | false=>exact ite_ff ⟨.bl false,H5,I5,rfl,q5⟩
  | true=>exact ite_tt (chain_last (cg (hd pins s5 σ H5 _ I5 q5) fun v' s6 ⟨z3,H6,I6,r6,q6⟩=>ho2 pins s6 σ H6 z' z3 w' v' Q I6 r4 r6 q6))
end
end L2
namespace Jt.Tu
open PySem Jt L2 PyProof.Rows
section
variable {X:Cx} {a b c0 d0:Expr} {fa fb fc fd:M D} {pos:Pos}
def chn3 (fa fb fc fd:M D):M D:=do
 let x <- fa
 let y <- fb
 let z <- lift (FC x y)
 match z with
 | .bl true=>do
  let w <- fc
  let z2 <- lift (rb y w)
  match z2 with
  | .bl true=>do
   let v <- fd
   lift (rb w v)
  | .bl false=>pure (.bl false)
  | _=>lift none
 | .bl false=>pure (.bl false)
 | _=>lift none
theorem de_leLtLt (ha:DE X a fa) (hb:DE X b fb) (hc:DE X c0 fc) (hd:DE X d0 fd) (hm:lastMarks [.LtE,.Lt,.Lt] [b,c0,d0]=false:=by with_unfolding_all rfl):DE X (.Compare a [.LtE,.Lt,.Lt] [b,c0,d0] pos) (chn3 fa fb fc fd) :=
 b8 (u0 Cj ng ng ha hb hc hd hm) fun σ H Q ⟨c,δ,S,T,d,δ',s,e,k⟩=>by
 obtain ⟨x,δ1,e1,e⟩:=bind_some e
 obtain ⟨y,δ2,e2,e⟩:=bind_some e
 obtain ⟨z,δ3,e3,e⟩:=bind_some e
 obtain ⟨e4,rfl⟩:=aw e3
 obtain ⟨i,j,rfl,rfl,_,rfl⟩:=dv e4
 refine ⟨c,δ,S,T,.int i,δ1,s,e1,fun v H1 s1=>⟨c,δ1,.int i :: S,v :: T,.int j,δ2,s1,e2,fun u H2 s2=>?_⟩⟩
 refine ⟨i,j,s2.st.tail.head.int,s2.st.head.int,?_⟩
 refine ⟨decide (i ≤ j),rfl,?_⟩
 cases hq:decide (i ≤ j) with
 | false=>
  rw [hq] at e
  obtain ⟨rfl,rfl⟩:=ao e
  rw [if_neg Bool.false_ne_true]
  exact k _ _ (s2.stk (.cons .mkB s2.st.tail.tail))
 | true=>
  rw [hq] at e
  obtain ⟨w,δ4,e5,e⟩:=bind_some e
  obtain ⟨z2,δ5,e6,e⟩:=bind_some e
  obtain ⟨e7,rfl⟩:=aw e6
  rw [if_pos rfl]
  obtain ⟨i',j',ei,rfl,_,rfl⟩:=dv e7
  cases ei
  refine ⟨c,δ2,.int j :: .int i :: S,u :: v :: T,.int j',δ4,s2,e5,fun w' H4 s4=>⟨j,j',s4.st.tail.head.int,s4.st.head.int,decide (j < j'),rfl,?_⟩⟩
  cases hq2:decide (j < j') with
  | false=>
   rw [hq2] at e
   obtain ⟨rfl,rfl⟩:=ao e
   rw [if_neg Bool.false_ne_true]
   exact k _ _ (s4.stk (.cons .mkB s4.st.tail.tail.tail))
  | true=>
   rw [hq2] at e
   obtain ⟨w2,δ6,e8,e⟩:=bind_some e
   obtain ⟨e9,rfl⟩:=aw e
   rw [if_pos rfl]
   obtain ⟨i2,j2,ei,rfl,_,rfl⟩:=dv e9
   cases ei
   exact ⟨c,δ4,.int j' :: .int j :: .int i :: S,w' :: u :: v :: T,.int j2,δ6,s4,e8,fun w3 H6 s6=>⟨j',j2,s6.st.tail.head.int,s6.st.head.int,k _ _ (s6.stk (.cons .mkB s6.st.tail.tail.tail.tail))⟩⟩
end
end Jt.Tu
namespace Jt.Tu
open PySem Jt L2 PyProof.Rows
theorem jr {α:Type} {ks:List (List Int)} {z:α} {vs:List α} (h:vs.length=ks.length):(pickT ks z vs).length=vs.length:=(pickT_perm ks z vs h).length_eq
theorem uU {ks:List (List Int)} {vs:List V} {us:List Value} (r:Vals vs us):Vals (pickT ks V.non vs) (pickT ks Value.none us):= by
 unfold pickT
 split
 ·exact r
 ·exact qK (fun i=>gY r i) _
theorem Ah {H:Hp} {ks:List (List Int)} {ds:List D} {vs:List V} (r:Rs H ds vs):Rs H (pickT ks D.non ds) (pickT ks V.non vs):= by
 unfold pickT
 split
 ·exact r
 ·exact x9 (fun i=>t9 r i) _
section
variable {X:Cx}
theorem oW:cP X (.builtin "sorted") (fun xs H Q=>∃ p vs nss,xs=[.ref p]∧(gn X.K H p vs ∨ fI X.K H p vs)∧Cp X.K H vs nss∧(∀ ns ∈ nss,ns ≠ [])∧nss.length < 64∧∀ l,H l=none->Q (.ref l) (upd H l (.lst (pickT nss V.non vs)))):= by
 intro pins s σ H xs us Q I r h
 obtain ⟨p,vs,nss,rfl,hq,ht,hne,h64,q⟩:=h
 obtain ⟨u,rfl,ru⟩:=r.one
 cases ru
 obtain ⟨hl,hat⟩:=k3 ht
 have fin:∀ {its:List Value},Vals vs its->(∀ (A':Around) (Q':List Value->Shared->Prop) (E':Value->Shared->Prop),(∀ h':Heap,(∀ b o,s.heap.get? b=some o->h'.get? b=some o)->Q' its { s with heap:=h' })->wpAny (model X.prog X.w) A' (collect (.ref p)) Q' E' s) ->
   wpAny (model X.prog X.w) X.A (call (.builtin "sorted") [.ref p]) (EP X pins σ Q) X.xe s:=fun {its} rv hc=>by
  have hil:its.length=nss.length:=by rw [<- rv.length,hl]
  have tu:oo X.prog X.w s.heap nss its:=⟨hil,fun i k e=>by
   have hi:i < vs.length:=by rw [hl];exact (List.getElem?_eq_some_iff.mp e).1
   have rr:=gY rv i
   rw [(hat i hi).1] at rr
   have hi2:i < its.length:=by omega
   refine ⟨lu (vs.getD i .non),?_,?_⟩
   ·rw [List.getElem?_eq_getElem hi2]
    have:its.getD i Value.none=its[i]:=by simp [hi2]
    rw [this] at rr
    exact congrArg some rr
   ·have:=iW I (hat i hi).2
    rw [List.getD_eq_getElem?_getD (l:=nss),e] at this
    exact this⟩
  refine kD (Ok:=fun ks ws=>ks=nss∧ws=its) (fun A' Q' E' _ hQ'=>hc A' Q' E' fun h' k=>hQ' its nss h' s.toks s.drawn ⟨rfl,rfl⟩ (by omega) hne (tu.keeps fun b o e _=>k b o e) k) fun h1 h' tk d ks ws e hok hlen k k2 hg=>?_
  obtain ⟨rfl,rfl⟩:=hok
  have I1:Inv X pins σ H { s with heap:=h1,toks:=tk,drawn:=d }:=Inv.kd I k
  refine ⟨.ref h1.objs.size,_,I1.laid (t':=tk) (o:=.lst (pickT ks V.non vs)) k2 (Nat.le_refl _) ⟨?_,pickT ks Value.none ws,e,uU rv,hg⟩,rfl,q _ (I1.hok.fresh (Nat.le_refl _))⟩
  rw [jr hl,hl,sizeLine_eq]
  omega
 rcases hq with hq | hq
 ·obtain ⟨its,rv,pl,hz⟩:=I.list hq
  obtain ⟨o,ho,hc,n,hd⟩:=pl.isList
  exact fin rv fun A' Q' E' hQ'=>wpAny_collect_seq p (.inl rfl) ho hc hd (fun h' k=>hQ' h' k) (by rw [List.size_toArray,<- rv.length];exact hz)
 ·obtain ⟨its,rv,⟨o,ho,hc,n,hd⟩,hz⟩:=I.tuple hq
  exact fin rv fun A' Q' E' hQ'=>wpAny_collect_seq p (.inr rfl) ho hc hd (fun h' k=>hQ' h' k) (by rw [List.size_toArray,<- rv.length];exact hz)
end
def sortU (xs:List D):Option (List D):=match fH xs with
 | some nss=>if nss.length < 64∧nss.all (fun ns=>!ns.isEmpty)=true then some (pickT nss D.non xs) else none
 | none=>none
section
variable {X:Cx} {e:Expr} {fq:M (List D)} {p pos:Pos}
theorem df_sortedU (hm:X.mg "sorted" = none) (h:DQ X e fq) (hg:Gl X "sorted":=by rfl) (he:starEach [e] X.env=[(false,eval e X.env)]:=by rfl):DF X (.Call (.Name "sorted" p) [e] [] pos) (mQ sortU fq) :=
 b8 (fE oW hg hm PyProof.Rows.boot_sorted (cY h fm he) (by decide) (by decide) he rfl) fun σ H Q ⟨c,δ,S,T,xs,δ',s,e,k⟩=>by
  obtain ⟨ds,δ1,e1,e⟩:=bind_some e
  obtain ⟨e2,rfl⟩:=aw e
  refine ⟨c,δ,S,T,ds,δ1,s,e1,fun q vs H1 l hq s1=>?_⟩
  unfold sortU at e2
  split at e2
  ·rename_i nss en
   split at e2
   ·rename_i hn
    cases e2
    have tv:=rO (K:=X.K) (s1.st.left l) en
    have hl:=(k3 tv).1
    refine ⟨q,vs,nss,rfl,hq,tv,fun ns hns e0=>?_,hn.1,fun m hm=>?_⟩
    ·have:=List.all_eq_true.mp hn.2 ns hns
     rw [e0] at this
     cases this
    obtain ⟨f1,f2,f3⟩:=s1.fresh hm
    have s2:=s1.hide (o:=.lst (pickT nss V.non vs)) hm
    have hd:ds.length=nss.length:=by rw [<- hl];exact l.symm
    exact k m _ _ (by rw [jr hl,jr hd,hl,hd]) (s2.stk ((Ah (s2.st.left l)).append (s2.st.right l))) f1 f2 f3
   ·cases e2
  ·cases e2
end
end Jt.Tu
namespace Jt.Tu
open PySem Jt L2 PySem.Spec PyProof.Rows
section
variable {X:Cx} {a b o:Expr} {fa fb fo:M D} {fs:M (List D)} {p pos apos cpos:Pos} {k:Nat}
theorem Bg:gc X (compareOp .IsNot) (fun x y H Q=>∃ b,x=.bl b∧y=.bl true∧Q (.bl (!b)) H):= by
 intro pins s σ H x y v u Q I rx ry h
 obtain ⟨b,rfl,rfl,q⟩:=h
 cases rx
 cases ry
 refine wpAny_isNot_plain (a:=.bool b) (b:=.bool true) (by cases b <;> rfl) ⟨.bl (!b),H,I,?_,q⟩
 cases b <;> rfl
def dNotT:D->D->Option D
 | .bl b,.bl true=>some (.bl (!b))
 | _,_=>none
theorem yd:qq (fun x y H Q=>∃ b,x=.bl b∧y=.bl true∧Q (.bl (!b)) H) dNotT:=fun c δ S σ T H x y v u d Q s e k=>by
 unfold dNotT at e
 split at e
 ·rename_i b
  cases e
  exact ⟨b,s.st.tail.head.bl,s.st.head.bl,k _ _ (s.stk (.cons .mkB s.st.tail.tail))⟩
 ·cases e
theorem dt_notT (ha:DE X a fa) (hb:DE X b fb):DT X (.Compare a [.IsNot] [b] pos) (m2 dNotT fa fb >>= dq):=fQ Bg yd ha hb
def Bc (K:PySem.W.Frag):V->List V->Hp->VK->Prop:=fun x vs H Q=>∃ (l:Addr) (ns:List Int) (c:Int),x=.ref l∧vs=[.int c]∧gn K H l (ns.map V.int)∧c ∈ ns∧Q (.int (ns.idxOf c)) H
theorem va:Jn X "list.index" (Bc X.K):= by
 intro pins s σ H x vs v us Q I rx rv h
 obtain ⟨l,ns,c,rfl,rfl,hH,hc,q⟩:=h
 cases rx
 obtain ⟨u,rfl,ru⟩:=rv.one
 obtain ⟨tc,rfl⟩:=ru
 obtain ⟨its,r,⟨⟨cls,dd,data,sl⟩,n,e0,e1,e2,e3⟩,hz⟩:=I.list hH
 simp only at e1 e2 e3
 subst e1 e3
 have hl:its.length=ns.length:=by rw [<- r.length,List.length_map]
 have hj:ns.idxOf c < ns.length:=List.idxOf_lt_length_iff.mpr hc
 have at_:∀ m (hm:m < ns.length),∃ t,its[m]? = some (.int ns[m] t):=fun m hm=>by
  obtain ⟨u,e,ru⟩:=r.get (i:=m) (x:=.int ns[m]) (by simp [hm])
  obtain ⟨t,rfl⟩:=ru
  exact ⟨t,e⟩
 have hzz:ns.length ≤ sizeLine:=by rw [List.length_map] at hz;exact hz
 have hsl:sizeLine < 2 ^ 62:=by rw [sizeLine_eq];decide
 refine call_meets F.slot_list_index ⟨_,e0,rfl⟩ F.entry_list_index (F.args_list_index_2 _ _) (PySem.SeqAt.list_indexAt l its.toArray n dd sl (.int c tc) (Iw c) (ns.idxOf c) (by simp;omega) (by omega) ?_ ?_) ⟨e0,fun y hy=>?_,?_⟩
 ·obtain ⟨t,e⟩:=at_ _ hj
  have:=(List.getElem?_eq_some_iff.mp e).2
  simp only [List.getElem_toArray]
  rw [this]
  simp [Iw,List.getElem_idxOf hj]
 ·intro m hm hlt
  have hm':m < ns.length:=by omega
  obtain ⟨t,e⟩:=at_ _ hm'
  have:=(List.getElem?_eq_some_iff.mp e).2
  simp only [List.getElem_toArray]
  rw [this]
  have ne:ns[m] ≠ c:=fun z=>by
   have:=List.not_of_lt_findIdx (p:=fun x=>x == c) (xs:=ns) (i:=m) hlt
   simp [z] at this
  simp [Iw,ne]
 ·obtain ⟨m,hm⟩:=List.mem_iff_getElem?.mp (show y ∈ its by simpa using hy)
  have hm':m < ns.length:=by rw [<- hl];exact (List.getElem?_eq_some_iff.mp hm).1
  obtain ⟨t,e⟩:=at_ _ hm'
  rw [hm] at e
  cases e
  exact SeqAt.EqAt.int_int ns[m] t c tc
 ·exact ⟨.int (ns.idxOf c),H,I.tok _,⟨_,rfl⟩,q⟩
def iX (x:D) (ds:List D):Option D:=match x,ds with
 | .lst es,[.int c]=>(cq es).bind fun ns=>if c ∈ ns then some (.int (ns.idxOf c)) else none
 | _,_=>none
def mIdxL (fo:M D) (fs:M (List D)):M D:=do
 let x <- fo
 let ds <- fs
 lift (iX x ds)
theorem de_indexL (ho:DE X o fo) (ha:DA X [a] fs)
  (hbase:attributeBase o "index" X.env (eval o X.env)=eval o X.env:=by rfl)
  (hfew:((backTo cpos (starEach [a] X.env)).all (fun x=>!x.1) && (backToKw cpos (keywordEach [] X.env)).all (fun x=>x.1.isSome)
   && decide (([a]:List Expr).length + ([]:List Keyword).length + (if ([]:List Keyword).isEmpty then 0 else 1) < 30))=true:=by rfl)
  (hline:(apos.endLine == cpos.line)=true:=by rfl) (hs:starEach [a] X.env=[(false,eval a X.env)]:=by rfl) :
  DE X (.Call (.Attribute o "index" apos) [a] [] cpos) (mIdxL fo fs) :=
 b8 (yW PySem.F.plainAttrs_list PySem.F.slot_list_index PySem.F.type_list_index va ho ha hbase hfew hline hs rfl) fun σ H Q ⟨c,δ,S,T,d,δ',s,e,k⟩=>by
  obtain ⟨x,δ1,e1,e⟩:=bind_some e
  obtain ⟨ds,δ2,e2,e⟩:=bind_some e
  obtain ⟨e3,rfl⟩:=aw e
  unfold iX at e3
  split at e3
  ·rename_i es i e2'
   cases q:cq es with
   | none=>rw [q] at e3;cases e3
   | some ns=>
    rw [q] at e3
    simp only [Option.bind_some] at e3
    split at e3
    ·rename_i hc
     cases e3
     refine ⟨c,δ,S,T,_,δ1,s,e1,fun v H1 s1=>?_⟩
     obtain ⟨p,vs,rfl,h1,h2⟩:=s1.st.head.lst
     refine ⟨?_,c,δ1,_,_,_,δ2,s1,e2,fun vs2 H2 l s2=>?_⟩
     ·exact .inl ⟨rfl,vs,.inl (Rd.mono aQ h1)⟩
     obtain ⟨v2,rfl,r2⟩:=qX (s2.st.left l)
     cases r2.int
     obtain ⟨p2,ws,ez,h3,h4⟩:=(s2.st.right l).head.lst
     cases ez
     have:=fU h4 q;subst this
     exact ⟨p,ns,i,rfl,rfl,.inl (Rd.mono aQ h3),hc,k _ _ (s2.stk (.cons .mkI (s2.st.right l).tail))⟩
    ·cases e3
  ·cases e3
theorem uV (hc:X.calm=true):cP X (.builtin "max") (fun xs H Q=>∃ (p:Addr) (ns:List Int),xs=[.ref p]∧gn X.K H p (ns.map V.int)∧0 < ns.length∧Q (.int (gg ns)) H):= by
 intro pins s σ H xs us Q I r h
 obtain ⟨p,ns,rfl,hq,hne,q⟩:=h
 obtain ⟨u,rfl,rx⟩:=r.one
 cases rx
 obtain ⟨its,rv,pl,hz⟩:=I.list hq
 have hl:=rv.length
 rw [List.length_map] at hl
 have pl':s.heap.IsList p its.toArray:=pl.isList
 have hlt:p < s.heap.objs.size:=by obtain ⟨_,e,_⟩:=pl';exact Heap.lt_size e
 have val:∀ (i:Nat) v,its.toArray[i]? = some v->∃ t,v=.int (ns.getD i 0) t:=fun i v hv=>by
  have hv':its[i]? = some v:=by simpa using hv
  have hi:i < ns.length:=by rw [hl];exact (List.getElem?_eq_some_iff.mp hv').1
  obtain ⟨u,hu,ru⟩:=rv.get (i:=i) (x:=.int (ns.getD i 0)) (by simp [hi])
  rw [hv'] at hu;cases hu
  exact ru
 refine call_max_walk (wpAny_pyIter_list pl' ?_)
 refine ⟨s.heap.objs.size,[s.heap.objs.size,p],[s.heap.objs.size],its.toArray.size,_,_,_,rfl,Walks.list (A:=X.A.in1) (I.ok.hd hc) _ p (Nat.ne_of_lt hlt) its.toArray,
  ⟨⟨_,Heap.get?_push_size _ rfl,rfl,rfl⟩,pl'.push _⟩,fun b hb=>?_,by rw [List.size_toArray];omega,CmpOf.ints_gt (fun i=>ns.getD i 0) val,fun v h' tk hP hk=>?_⟩
 ·show b < (s.heap.push _).objs.size
  rw [Heap.size_push]
  rcases List.mem_cons.mp hb with rfl | hb
  ·exact Nat.lt_succ_self _
  ·rw [List.mem_singleton.mp hb];exact Nat.lt_succ_of_lt hlt
 ·obtain ⟨t,rfl⟩:=val _ _ hP
  obtain ⟨h1,h2⟩:=argBest_gt (fun i=>ns.getD i 0) (its.toArray.size - 1)
  rw [List.size_toArray,<- hl] at h1 h2
  have e:ns.getD (argBest (fun i j=>decide (ns.getD i 0 > ns.getD j 0)) (its.toArray.size - 1)) 0=gg ns:= by
   rw [List.size_toArray,<- hl]
   refine Ba ?_ fun x hx=>?_
   ·have:argBest (fun i j=>decide (ns.getD i 0 > ns.getD j 0)) (ns.length - 1) < ns.length:=by omega
    rw [List.getD_eq_getElem?_getD,List.getElem?_eq_getElem this]
    exact List.getElem_mem this
   ·obtain ⟨j,hj,rfl⟩:=List.getElem_of_mem hx
    have:=h2 j (by omega)
    simpa [hj] using this
  exact ⟨.int (gg ns),H,I.kept fun b o eb=>hk b o (fun hm=>absurd (Heap.lt_size eb) (by rw [List.mem_singleton.mp hm];exact Nat.lt_irrefl _)) (Heap.get?_push_of_some _ eb),⟨t,by rw [e]⟩,q⟩
def dMaxL:List D->Option D
 | [.lst xs]=>match cq xs with
  | some (i :: r)=>some (.int (gg (i :: r)))
  | _=>none
 | _=>none
theorem BO {K:PySem.W.Frag}:ig (fun xs H Q=>∃ (p:Addr) (ns:List Int),xs=[.ref p]∧gn K H p (ns.map V.int)∧0 < ns.length∧Q (.int (gg ns)) H) dMaxL:=fun c δ S σ T H ds vs d Q l s e k=>by
 unfold dMaxL at e
 split at e
 ·rename_i xs
  split at e
  ·rename_i i r hi
   cases e
   obtain ⟨v,rfl,rr⟩:=qX (s.st.left l)
   obtain ⟨p,ws,rfl,h1,h2⟩:=rr.lst
   have:=fU h2 hi
   subst this
   exact ⟨p,i :: r,rfl,.inl (Rd.mono aQ h1),by simp,k _ _ (s.stk (.cons .mkI (s.st.right l)))⟩
  ·cases e
 ·cases e
theorem de_maxL (hm:X.mg "max" = none) (ha:DA X [a] fs) (hg:Gl X "max":=by rfl) (hc:X.calm=true:=by rfl) (he:starEach [a] X.env=[(false,eval a X.env)]:=by rfl):DE X (.Call (.Name "max" p) [a] [] pos) (mC dMaxL fs) :=
 fv (uV hc) BO hg hm (by decide +kernel) ha (by decide) (by decide) he rfl
end
section
variable {δ:DS}
@[simp] theorem Ok_mIdxL {fo:M D} {fs:M (List D)} {Q:D->DS->Prop}:Ok (mIdxL fo fs) δ Q ↔ Ok fo δ fun x δ1=>Ok fs δ1 fun ds δ2=>Ok (lift (iX x ds)) δ2 Q:=by unfold mIdxL;simp only [aq]
end
end Jt.Tu
namespace Jt
open PySem PySem.Spec PyProof.Rows
section
variable {prog:Program} {w:World} {A:Around} {E:Value->Shared->Prop} {s:Shared} {d:Addr} {es:Array DictEntry}
end
end Jt
namespace L2
open PySem PySem.Spec PyProof.Rows
section
variable {X:Cx} {pins:List (Addr × Obj)} {σ:St} {H:Hp} {s:Shared} {N':List Str} {px:Str} {scope:Scope} {qual:Str} {q:Addr} {cdv:Value} {A:Around}
end
end L2
namespace L2
open PySem PySem.Spec PyProof.Rows Jt
section
variable {X:Cx} {pins:List (Addr × Obj)} {σ:St} {H:Hp} {s:Shared} {h':Heap}
end
end L2
namespace L2
open PySem PySem.Spec PyProof.Rows Jt
section
variable {X:Cx} {a body:Expr} {params:Arguments} {scope:Scope} {lp kp p pos:Pos} {ta te:TE} {c P:Addr} {N':List Str} {px:Str} {k:Nat}
end
end L2
namespace Jt
open PySem L2
section
variable {X:Cx} {a:Expr} {fa fk:M D}
end
end Jt
namespace Jt
open PySem L2 PyProof.Rows
section
variable {X:Cx} {a:Expr} {fs:M (List D)} {p pos:Pos}
end
section
variable {X:Cx} {x:Str} {p pos:Pos}
end
section
variable {P:Program} {w:World} {K:PySem.W.Frag} {mg:Str->Option Value} {base:Heap} {k:Nat} {N ps:List Str} {st:Stmt} {body:M Fl} {c PT:Addr}
end
end Jt
namespace Jt
open PySem PySem.W PySem.Calls PyProof.Rows L2
end Jt
namespace Jt
open PySem PySem.W PySem.Calls PyProof.Rows L2
section
variable {K K':PySem.W.Frag}
end
end Jt
namespace K21
open PySem L2 Jt
def top (i:Nat):Stmt:=PySem.Challenge.pw_jointrees_k21_trees_looked_at.main.body.getD i (.Pass ⟨0,0,0,0⟩)
structure Bi (mg:Str->Option Value):Prop where
 all:mg "all" = none
 bool:mg "bool" = none
 divmod:mg "divmod" = none
 enumerate:mg "enumerate" = none
 int:mg "int" = none
 isinstance:mg "isinstance" = none
 len:mg "len" = none
 list:mg "list" = none
 max:mg "max" = none
 min:mg "min" = none
 range:mg "range" = none
 set:mg "set" = none
 sorted:mg "sorted" = none
 tuple:mg "tuple" = none
 zip:mg "zip" = none
section
variable {P:Program} {w:World} {K:PySem.W.Frag} {mg:Str->Option Value} {base:Heap}
abbrev yG:Stmt:=top 4
abbrev uA:List Str:=["thing"]
theorem Fu:aF uA ["thing"] (ak yG):=⟨rfl,rfl,rfl,by decide +kernel,rfl,by decide +kernel,by decide +kernel⟩
def p_:M Fl :=
 (do let d <- (jL (iz .int (ah 0)) (yV (iz .bool (ah 0))));pure (Fl.rt d))
variable (P w K mg base) in
abbrev il (k:Nat):Prop:=Kn P w K mg base di k "is_whole" ["thing"] (jM 1 (aO uA p_))
theorem Es {k:Nat} (E:Ent K mg "is_whole" ["thing"] yG) (m:Bi mg):il P w K mg base (k + 1) :=
 o4 E Fu fun _ cdv A outer s H E hr=>
  (au (aH (ix (e_ .int m.isinstance m.int (ae 0)) (iH (y4 (e_ .bool m.isinstance m.bool (ae 0)))))))
abbrev wz:Stmt:=top 5
abbrev m9:List Str:=["thing","many"]
theorem ES:aF m9 ["thing","many"] (ak wz):=⟨rfl,rfl,rfl,by decide +kernel,rfl,by decide +kernel,by decide +kernel⟩
def kJ:M Fl :=
 (do let d <- (jL (mC (aR 1 (aO uA p_)) (af (ah 0) (pure []))) (Ho FC rb (pure (.int 0)) (ah 0) (ah 1)));pure (Fl.rt d))
variable (P w K mg base) in
abbrev f9 (k:Nat):Prop:=Kn P w K mg base di k "is_below" ["thing","many"] (jM 2 (aO m9 kJ))
theorem Ec {k:Nat} (E:Ent K mg "is_below" ["thing","many"] wz) (G_q20:il P w K mg base k):f9 P w K mg base (k + 1) :=
 o4 E ES fun _ cdv A outer s H E hr=>
  (au (aH (ix (a0 G_q20 hr (ab (ae 0) ag)) (iH (Aq ai (ae 0) (ae 1))))))
abbrev y0:Stmt:=top 6
abbrev mJ:List Str:=["thing","many"]
theorem D9:aF mJ ["thing","many"] (ak y0):=⟨rfl,rfl,rfl,by decide +kernel,rfl,by decide +kernel,by decide +kernel⟩
def qN:M Fl :=
 (do let d <- (jL (iz .tup (ah 0)) (mC gi (af (do let xs <- (aX 2 1 (do let x <- (ah 0);lift (bh x)) (bo (bp 2) (pure true) (mC (aR 2 (aO m9 kJ)) (af (ah 2) (af (ah 1) (pure []))))));pure (D.lst xs)) (pure []))));pure (Fl.rt d))
variable (P w K mg base) in
abbrev gG (k:Nat):Prop:=Kn P w K mg base di k "are_below" ["thing","many"] (jM 2 (aO mJ qN))
theorem Er {k:Nat} (E:Ent K mg "are_below" ["thing","many"] y0) (m:Bi mg) (G_q22:f9 P w K mg base k):gG P w K mg base (k + 1) :=
 o4 E D9 fun _ cdv A outer s H E hr=>
  (au (aH (ix (e_ .tup m.isinstance m.tuple (ae 0)) (iH (jz m.all (ab (aE (bQ (N':=mJ) (own:=["part"]) (lo:=2) (cn (c6 (ae 0))) (fun _ _ _ _=>(az 2 (show (mJ ++ (["part"]:List Str):List Str).Nodup by decide +kernel))) (fun _ _ _ _=>cc) (fun _ _ _ _=>(a0 G_q22 hr (ab (ae 2) (ab (ae 1) ag)))))) ag))))))
abbrev E6:Stmt:=top 7
abbrev zr:List Str:=["thing","many"]
theorem Gs:aF zr ["thing","many"] (ak E6):=⟨rfl,rfl,rfl,by decide +kernel,rfl,by decide +kernel,by decide +kernel⟩
def wm:M Fl :=
 (do let d <- (jL (mC (aR 2 (aO mJ qN)) (af (ah 0) (af (ah 1) (pure [])))) (m2 (ck false) (mC bu (af (ah 0) (pure []))) (pure (.int 2))));pure (Fl.rt d))
variable (P w K mg base) in
abbrev eE (k:Nat):Prop:=Kn P w K mg base di k "is_two_below" ["thing","many"] (jM 2 (aO zr wm))
theorem GH {k:Nat} (E:Ent K mg "is_two_below" ["thing","many"] E6) (m:Bi mg) (G_q13:gG P w K mg base k):eE P w K mg base (k + 1) :=
 o4 E Gs fun _ cdv A outer s H E hr=>
  (au (aH (ix (a0 G_q13 hr (ab (ae 0) (ab (ae 1) ag))) (iH (wM (bH m.len (ab (ae 0) ag)) ai)))))
abbrev y8:Stmt:=top 8
abbrev kS:List Str:=["things"]
theorem EE:aF kS ["things"] (ak y8):=⟨rfl,rfl,rfl,by decide +kernel,rfl,by decide +kernel,by decide +kernel⟩
def qA:M Fl :=
 (do let d <- (mC gi (af (do let xs <- (aX 1 2 (mC ot (af (ah 0) (af (pK (ah 0) ((pure (.int 1)) >>= o8) (pure none)) (pure [])))) (bo (eL 2 (bU (bp 1) (bU (bp 2) gf))) (pure true) (m2 Jt.Tu.dLtU (ah 1) (ah 2))));pure (D.lst xs)) (pure [])));pure (Fl.rt d))
variable (P w K mg base) in
abbrev gI (k:Nat):Prop:=Kn P w K mg base di k "is_rising" ["things"] (jM 1 (aO kS qA))
theorem EJ {k:Nat} (E:Ent K mg "is_rising" ["things"] y8) (m:Bi mg):gI P w K mg base (k + 1) :=
 o4 E EE fun _ cdv A outer s H E hr=>
  (au (aH (jz m.all (ab (aE (bQ (N':=kS) (own:=["one","other"]) (lo:=1) (cn (DD m.zip (ab (ae 0) (ab (cf (ae 0) (cW ai) cU) ag)))) (fun _ _ _ _=>(fT (bz (az 1 (show (kS ++ (["one","other"]:List Str):List Str).Nodup by decide +kernel)) (bz (az 2 (show (kS ++ (["one","other"]:List Str):List Str).Nodup by decide +kernel)) dU)))) (fun _ _ _ _=>cc) (fun _ _ _ _=>(Jt.Tu.de_ltU hr (ae 1) (ae 2))))) ag))))
abbrev xk:Stmt:=top 9
abbrev mB:List Str:=["labels","one","other","least","most"]
theorem rG:aF mB ["labels","one","other"] (ak xk):=⟨rfl,rfl,rfl,by decide +kernel,rfl,by decide +kernel,by decide +kernel⟩
def pZ:M Fl :=
 (aK (dN 3 (mC gk (af (m2 cT (ah 0) (ah 1)) (af (m2 cT (ah 0) (ah 2)) (pure [])))))
  (aK (dN 4 (mC iu (af (m2 cT (ah 0) (ah 1)) (af (m2 cT (ah 0) (ah 2)) (pure [])))))
  (do let d <- (mC cx (af (do let xs <- (aX 5 1 (do let x <- (ah 0);lift (bh x)) (bo (bp 5) (pure true) (g9 ((m2 (iL false) (ah 5) (ah 4)) >>= dq) (ah 3) (ah 5))));pure (D.lst xs)) (pure [])));pure (Fl.rt d))))
variable (P w K mg base) in
abbrev lq (k:Nat):Prop:=Kn P w K mg base di k "linked" ["labels","one","other"] (jM 3 (aO mB pZ))
theorem Dt {k:Nat} (E:Ent K mg "linked" ["labels","one","other"] xk) (m:Bi mg):lq P w K mg base (k + 1) :=
 o4 E rG fun _ cdv A outer s H E hr=>
  (aj (a_ 3 rG.nd (kC m.min (ab (aJ (ae 0) (ae 1)) (ab (aJ (ae 0) (ae 2)) ag))))
  (aj (a_ 4 rG.nd (oH m.max (ab (aJ (ae 0) (ae 1)) (ab (aJ (ae 0) (ae 2)) ag))))
  (au (aH (dh m.tuple (ab (aE (bQ (N':=mB) (own:=["label"]) (lo:=5) (cn (c6 (ae 0))) (fun _ _ _ _=>(az 5 (show (mB ++ (["label"]:List Str):List Str).Nodup by decide +kernel))) (fun _ _ _ _=>cc) (fun _ _ _ _=>(Gd (nv hr (ae 5) (ae 4)) (ae 3) (ae 5))))) ag))))))
abbrev w9:Stmt:=top 11
abbrev kq:List Str:=["layout","column","many","heads"]
theorem sR:aF kq ["layout","column"] (ak w9):=⟨rfl,rfl,rfl,by decide +kernel,rfl,by decide +kernel,by decide +kernel⟩
def qe:M Fl :=
 (aK (do let d <- (ah 0);(eL 2 (bU (bp 2) (bU (bp 3) gf))) d;pure Fl.nx)
  (aK (g9 (gB (do let x <- (mC (aR 2 (aO m9 kJ)) (af (ah 1) (af (ah 2) (pure []))));lift (b_ x))) never (pure .nx))
  (do let d <- (mC cx (af (do let xs <- (aX 4 2 (mC jg (af (ah 3) (pure []))) (bo (eL 2 (bU (bp 4) (bU (bp 5) gf))) (m2 (lA false) (ah 1) (ah 5) >>= dq) (ah 4)));pure (D.lst xs)) (pure [])));pure (Fl.rt d))))
variable (P w K mg base) in
abbrev iE (k:Nat):Prop:=Kn P w K mg base di k "heads_of" ["layout","column"] (jM 2 (aO kq qe))
theorem ET {k:Nat} (E:Ent K mg "heads_of" ["layout","column"] w9) (m:Bi mg) (G_q22:f9 P w K mg base k):iE P w K mg base (k + 1) :=
 o4 E sR fun _ cdv A outer s H E hr=>
  (aj (sv (ae 0) (fT (bz (az 2 sR.nd) (bz (az 3 sR.nd) dU))))
  (aj (cB (dJ (cj (a0 G_q22 hr (ab (ae 1) (ab (ae 2) ag))))) (au wb) bw)
  (au (aH (dh m.tuple (ab (aE (bQ (N':=kq) (own:=["number","head"]) (lo:=4) (cn (uD m.enumerate (ab (ae 3) ag))) (fun _ _ _ _=>(fT (bz (az 4 (show (kq ++ (["number","head"]:List Str):List Str).Nodup by decide +kernel)) (bz (az 5 (show (kq ++ (["number","head"]:List Str):List Str).Nodup by decide +kernel)) dU)))) (fun _ _ _ _=>dz (jB (ae 1) (ae 5))) (fun _ _ _ _=>(ae 4)))) ag))))))
abbrev yS:Stmt:=top 13
abbrev mG:List Str:=["layout","thing"]
theorem DJ:aF mG ["layout","thing"] (ak yS):=⟨rfl,rfl,rfl,by decide +kernel,rfl,by decide +kernel,by decide +kernel⟩
def kO:M Fl :=
 (do let d <- (jL (mC (aR 2 (aO zr wm)) (af (ah 1) (af (mC bu (af (m2 cT (ah 0) (pure (.int 1))) (pure []))) (pure [])))) (m2 rb (m2 cT (ah 1) (pure (.int 0))) (m2 cT (ah 1) (pure (.int 1)))));pure (Fl.rt d))
variable (P w K mg base) in
abbrev jy (k:Nat):Prop:=Kn P w K mg base di k "is_pair" ["layout","thing"] (jM 2 (aO mG kO))
theorem Fe {k:Nat} (E:Ent K mg "is_pair" ["layout","thing"] yS) (m:Bi mg) (G_q5:eE P w K mg base k):jy P w K mg base (k + 1) :=
 o4 E DJ fun _ cdv A outer s H E hr=>
  (au (aH (ix (a0 G_q5 hr (ab (ae 1) (ab (bH m.len (ab (aJ (ae 0) ai) ag)) ag))) (iH (Gp (aJ (ae 1) ai) (aJ (ae 1) ai))))))
abbrev DM:Stmt:=top 14
abbrev xE:List Str:=["many","pairs","labels","one","other"]
theorem qa:aF xE ["many","pairs"] (ak DM):=⟨rfl,rfl,rfl,by decide +kernel,rfl,by decide +kernel,by decide +kernel⟩
def vj:M Fl :=
 (aK (dN 2 (do let xs <- mC jJ (af (ah 0) (pure []));pure (D.tup xs)))
  (aK (
  do let it <- (do let x <- (ah 1);lift (bh x));forM (eL 2 (bU (bp 3) (bU (bp 4) gf))) (aK (g9 ((m2 (iL false) (m2 cT (ah 2) (ah 3)) (m2 cT (ah 2) (ah 4))) >>= dq) (do let d <- (pure (.bl false));pure (Fl.rt d)) (pure .nx))
  (dN 2 (mC (aR 3 (aO mB pZ)) (af (ah 2) (af (ah 3) (af (ah 4) (pure []))))))) it.2 it.1)
  (do let d <- (pure (.bl true));pure (Fl.rt d))))
variable (P w K mg base) in
abbrev eU (k:Nat):Prop:=Kn P w K mg base di k "has_no_ring" ["many","pairs"] (jM 2 (aO xE vj))
theorem GS {k:Nat} (E:Ent K mg "has_no_ring" ["many","pairs"] DM) (m:Bi mg) (G_q28:lq P w K mg base k):eU P w K mg base (k + 1) :=
 o4 E qa fun _ cdv A outer s H E hr=>
  (aj (a_ 2 qa.nd (vI m.tuple m.range (ab (ae 0) ag)))
  (aj (eZ (c6 (ae 1)) (fT (bz (az 3 qa.nd) (bz (az 4 qa.nd) dU))) (aj (cB (nv hr (aJ (ae 2) (ae 3)) (aJ (ae 2) (ae 4))) (au (aH da)) bw)
  (au (a_ 2 qa.nd (a0 G_q28 hr (ab (ae 2) (ab (ae 3) (ab (ae 4) ag))))))))
  (au (aH da))))
abbrev wU:Stmt:=top 15
abbrev f_:List Str:=["layout","thing","many"]
theorem x6:aF f_ ["layout","thing"] (ak wU):=⟨rfl,rfl,rfl,by decide +kernel,rfl,by decide +kernel,by decide +kernel⟩
def dg:M Fl :=
 (aK (dN 2 (mC bu (af (m2 cT (ah 0) (pure (.int 1))) (pure []))))
  (aK (g9 (t_ (gB (do let x <- (iz .tup (ah 1));lift (b_ x))) (m2 (ck true) (mC bu (af (ah 1) (pure []))) (m2 eR (ah 2) (pure (.int 1))) >>= dq)) (do let d <- (pure (.bl false));pure (Fl.rt d)) (pure .nx))
  (aK (g9 (t_ (gB (do let x <- (mC gi (af (do let xs <- (aX 3 1 (do let x <- (ah 1);lift (bh x)) (bo (bp 3) (pure true) (mC (aR 2 (aO mG kO)) (af (ah 0) (af (ah 3) (pure []))))));pure (D.lst xs)) (pure [])));lift (b_ x))) (gB (do let x <- (mC (aR 1 (aO kS qA)) (af (ah 1) (pure [])));lift (b_ x)))) (do let d <- (pure (.bl false));pure (Fl.rt d)) (pure .nx))
  (do let d <- (mC (aR 2 (aO xE vj)) (af (ah 2) (af (ah 1) (pure []))));pure (Fl.rt d)))))
variable (P w K mg base) in
abbrev g6 (k:Nat):Prop:=Kn P w K mg base di k "is_tree" ["layout","thing"] (jM 2 (aO f_ dg))
theorem Ei {k:Nat} (E:Ent K mg "is_tree" ["layout","thing"] wU) (m:Bi mg) (G_q7:eU P w K mg base k) (G_q27:jy P w K mg base k) (G_q15:gI P w K mg base k):g6 P w K mg base (k + 1) :=
 o4 E x6 fun _ cdv A outer s H E hr=>
  (aj (a_ 2 x6.nd (bH m.len (ab (aJ (ae 0) ai) ag)))
  (aj (cB (j7 (i7 (dJ (cj (e_ .tup m.isinstance m.tuple (ae 1)))) (iB (sQ (bH m.len (ab (ae 1) ag)) (gU (ae 2) ai))))) (au (aH da)) bw)
  (aj (cB (j7 (i7 (dJ (cj (jz m.all (ab (aE (bQ (N':=f_) (own:=["pair"]) (lo:=3) (cn (c6 (ae 1))) (fun _ _ _ _=>(az 3 (show (f_ ++ (["pair"]:List Str):List Str).Nodup by decide +kernel))) (fun _ _ _ _=>cc) (fun _ _ _ _=>(a0 G_q27 hr (ab (ae 0) (ab (ae 3) ag)))))) ag)))) (iB (dJ (cj (a0 G_q15 hr (ab (ae 1) ag))))))) (au (aH da)) bw)
  (au (aH (a0 G_q7 hr (ab (ae 2) (ab (ae 1) ag))))))))
abbrev DR:Stmt:=top 16
abbrev sk:List Str:=["numbers","tree","inner"]
theorem Cm:aF sk ["numbers","tree"] (ak DR):=⟨rfl,rfl,rfl,by decide +kernel,rfl,by decide +kernel,by decide +kernel⟩
def xg:M Fl :=
 (aK (dN 2 (do let xs <- (aX 3 2 (do let x <- (ah 1);lift (bh x)) (bo (eL 2 (bU (bp 3) (bU (bp 4) gf))) (pW (m2 (lA false) (ah 3) (ah 0) >>= dq) (m2 (lA false) (ah 4) (ah 0) >>= dq)) (ah 3)));pure (D.lst xs)))
  (do let d <- (m2 IB (mC bu (af (ah 2) (pure []))) (m2 eR (mC bu (af (ah 0) (pure []))) (pure (.int 1))));pure (Fl.rt d)))
variable (P w K mg base) in
abbrev dI (k:Nat):Prop:=Kn P w K mg base di k "hang_together" ["numbers","tree"] (jM 2 (aO sk xg))
theorem Gy {k:Nat} (E:Ent K mg "hang_together" ["numbers","tree"] DR) (m:Bi mg):dI P w K mg base (k + 1) :=
 o4 E Cm fun _ cdv A outer s H E hr=>
  (aj (fC 2 Cm.nd (N':=sk) (own:=["one","other"]) (lo:=3) (cn (c6 (ae 1))) (fun _ _ _ _=>(fT (bz (az 3 (show (sk ++ (["one","other"]:List Str):List Str).Nodup by decide +kernel)) (bz (az 4 (show (sk ++ (["one","other"]:List Str):List Str).Nodup by decide +kernel)) dU)))) (fun _ _ _ _=>dz (j7 (ll (jB (ae 3) (ae 0)) (jX (jB (ae 4) (ae 0)))))) (fun _ _ _ _=>(ae 3)))
  (au (aH (Hx (bH m.len (ab (ae 2) ag)) (gU (bH m.len (ab (ae 0) ag)) ai)))))
abbrev Ew:Stmt:=top 17
abbrev pf:List Str:=["layout","thing"]
theorem FY:aF pf ["layout","thing"] (ak Ew):=⟨rfl,rfl,rfl,by decide +kernel,rfl,by decide +kernel,by decide +kernel⟩
def o6:M Fl :=
 (aK (g9 (gB (do let x <- (mC (aR 2 (aO f_ dg)) (af (ah 0) (af (ah 1) (pure []))));lift (b_ x))) (do let d <- (pure (.bl false));pure (Fl.rt d)) (pure .nx))
  (do let d <- (mC gi (af (do let xs <- (aX 2 1 (mC cC (af (m2 cT (ah 0) (pure (.int 0))) (pure []))) (bo (bp 2) (pure true) (mC (aR 2 (aO sk xg)) (af (mC (aR 2 (aO kq qe)) (af (ah 0) (af (ah 2) (pure [])))) (af (ah 1) (pure []))))));pure (D.lst xs)) (pure [])));pure (Fl.rt d)))
variable (P w K mg base) in
abbrev d6 (k:Nat):Prop:=Kn P w K mg base di k "is_join_tree" ["layout","thing"] (jM 2 (aO pf o6))
theorem GP {k:Nat} (E:Ent K mg "is_join_tree" ["layout","thing"] Ew) (m:Bi mg) (G_q1:dI P w K mg base k) (G_q21:iE P w K mg base k) (G_q26:g6 P w K mg base k):d6 P w K mg base (k + 1) :=
 o4 E FY fun _ cdv A outer s H E hr=>
  (aj (cB (dJ (cj (a0 G_q26 hr (ab (ae 0) (ab (ae 1) ag))))) (au (aH da)) bw)
  (au (aH (jz m.all (ab (aE (bQ (N':=pf) (own:=["column"]) (lo:=2) (cn (bA rfl m.range (ab (aJ (ae 0) ai) ag))) (fun _ _ _ _=>(az 2 (show (pf ++ (["column"]:List Str):List Str).Nodup by decide +kernel))) (fun _ _ _ _=>cc) (fun _ _ _ _=>(a0 G_q1 hr (ab (a0 G_q21 hr (ab (ae 0) (ab (ae 2) ag))) (ab (ae 1) ag)))))) ag)))))
abbrev yq:Stmt:=top 19
abbrev tW:List Str:=["_law_script","_law_k"]
theorem D5:aF tW ["_law_script","_law_k"] (ak yq):=⟨rfl,rfl,rfl,by decide +kernel,rfl,by decide +kernel,by decide +kernel⟩
def lb:M Fl :=
 (aK (g9 (m2 rb (ah 1) (mC bu (af (ah 0) (pure []))) >>= dq) (do let d <- (m2 cT (ah 0) (ah 1));pure (Fl.rt d)) (pure .nx))
  (do let d <- (m2 cG (m2 lJ (pure (.int 6151)) (ah 1)) (pure (.int 29)));pure (Fl.rt d)))
variable (P w K mg base) in
abbrev gN (k:Nat):Prop:=Kn P w K mg base di k "_law_cell" ["_law_script","_law_k"] (jM 2 (aO tW lb))
theorem EK {k:Nat} (E:Ent K mg "_law_cell" ["_law_script","_law_k"] yq) (m:Bi mg):gN P w K mg base (k + 1) :=
 o4 E D5 fun _ cdv A outer s H E hr=>
  (aj (cB (Hj (ae 1) (bH m.len (ab (ae 0) ag))) (au (aH (aJ (ae 0) (ae 1)))) bw)
  (au (aH (cy (oC ai (ae 1)) ai))))
abbrev yg:Stmt:=top 20
abbrev qC:List Str:=["_law_cell_here","_law_k","_law_number"]
theorem sU:aF qC ["_law_cell_here","_law_k"] (ak yg):=⟨rfl,rfl,rfl,by decide +kernel,rfl,by decide +kernel,by decide +kernel⟩
def mq:M Fl :=
 (aK (dN 2 (m2 cG (m2 lJ (m2 cG (ah 0) (pure (.int 1))) (pure (.int 40692))) (m2 lJ (pure (.int 104729)) (ah 1))))
  (aK (dN 2 (m2 cG (m2 ql (m2 mE (ah 2) (ah 2)) (pure (.int 2147483399))) (ah 1)))
  (do let d <- (m2 ql (m2 mE (ah 2) (m2 cG (ah 2) (pure (.int 31)))) (pure (.int 2147483563)));pure (Fl.rt d))))
variable (P w K mg base) in
abbrev iC (k:Nat):Prop:=Kn P w K mg base di k "_law_mix" ["_law_cell_here","_law_k"] (jM 2 (aO qC mq))
theorem DV {k:Nat} (E:Ent K mg "_law_mix" ["_law_cell_here","_law_k"] yg):iC P w K mg base (k + 1) :=
 o4 E sU fun _ cdv A outer s H E hr=>
  (aj (a_ 2 sU.nd (cy (oC (cy (ae 0) ai) ai) (oC ai (ae 1))))
  (aj (a_ 2 sU.nd (cy (oj (uQ (ae 2) (ae 2)) ai) (ae 1)))
  (au (aH (oj (uQ (ae 2) (cy (ae 2) ai)) ai)))))
abbrev xJ:Stmt:=top 21
abbrev qp:List Str:=["_law_script","_law_k","_law_here","_law_number","_law_j"]
theorem ky:aF qp ["_law_script","_law_k"] (ak xJ):=⟨rfl,rfl,rfl,by decide +kernel,rfl,by decide +kernel,by decide +kernel⟩
def m_:M Fl :=
 (aK (dN 2 (mC (aR 2 (aO tW lb)) (af (ah 0) (af (ah 1) (pure [])))))
  (aK (g9 (m2 (ck false) (m2 ql (ah 2) (pure (.int 2))) (pure (.int 0)) >>= dq) (do let d <- (df (af (m2 Ff (ah 2) (pure (.int 2))) (pure [])));pure (Fl.rf d)) (pure .nx))
  (aK (dN 3 (pure (.int 0)))
  (aK (
  do let it <- (mC cC (af (pure (.int 24)) (pure [])));forM (bp 4) (dN 3 (m2 cG (m2 lJ (ah 3) (pure (.int 2147483647))) (mC (aR 2 (aO qC mq)) (af (ah 2) (af (ah 4) (pure [])))))) it.2 it.1)
  (do let d <- (df (af (ah 3) (pure [])));pure (Fl.rf d))))))
variable (P w K mg base) in
abbrev iK (k:Nat):Prop:=Kn P w K mg base di k "_law_box" ["_law_script","_law_k"] (FL 2 (oh qp m_))
theorem Dg {k:Nat} (E:Ent K mg "_law_box" ["_law_script","_law_k"] xJ) (m:Bi mg) (G_q19:gN P w K mg base k) (G_q24:iC P w K mg base k):iK P w K mg base (k + 1) :=
 JR E ky fun _ cdv A outer s H E hr=>
  (aj (a_ 2 ky.nd (a0 G_q19 hr (ab (ae 0) (ab (ae 1) ag))))
  (aj (cB (iJ (oj (ae 2) ai) ai) (au (ua (bG (ab (ER (ae 2) ai) ag)))) bw)
  (aj (a_ 3 ky.nd ai)
  (aj (eZ (bA rfl m.range (ab ai ag)) (az 4 ky.nd) (au (a_ 3 ky.nd (cy (oC (ae 3) ai) (a0 G_q24 hr (ab (ae 2) (ab (ae 4) ag)))))))
  (au (ua (bG (ab (ae 3) ag))))))))
abbrev wu:Stmt:=top 22
abbrev bL:List Str:=["_law_box_here","_law_many","_law_left","_law_digit"]
theorem tj:aF bL ["_law_box_here","_law_many"] (ak wu):=⟨rfl,rfl,rfl,by decide +kernel,rfl,by decide +kernel,by decide +kernel⟩
def bJ:M Fl :=
 (aK (do let d <- (mC iY (af (lB 0 (pure (.int 0))) (af (ah 1) (pure []))));(eL 2 (bU (bp 2) (bU (bp 3) gf))) d;pure Fl.nx)
  (aK (nY 0 (ah 2) 0)
  (do let d <- (ah 3);pure (Fl.rt d))))
variable (P w K mg base) in
abbrev bO (k:Nat):Prop:=Kn P w K mg base di k "_law_take" ["_law_box_here","_law_many"] (vy 2 (aY bL bJ))
theorem Fj {k:Nat} (E:Ent K mg "_law_take" ["_law_box_here","_law_many"] wu) (m:Bi mg):bO P w K mg base (k + 1) :=
 Bw E tj fun _ cdv A outer s H E hr=>
  (aj (sv (vB m.divmod (ab (ku 0 ai) (ab (ae 1) ag))) (fT (bz (az 2 tj.nd) (bz (az 3 tj.nd) dU))))
  (aj (yO 0 (ae 2))
  (au (aH (ae 3)))))
abbrev wA:Stmt:=top 23
abbrev gM:List Str:=["_law_box_here","_law_many","_law_some"]
theorem r8:aF gM ["_law_box_here","_law_many"] (ak wA):=⟨rfl,rfl,rfl,by decide +kernel,rfl,by decide +kernel,by decide +kernel⟩
def ic:M Fl :=
 (aK (dN 2 (do let xs <- (aX 3 1 (mC cC (af (ah 1) (pure []))) (bo (bp 3) (m2 (ck false) (do let _ <- aA 0;bC 0 2 (aY bL bJ) (af (pure (.int 3)) (pure []))) (pure (.int 0)) >>= dq) (ah 3)));pure (D.lst xs)))
  (aK (g9 ((m2 (iL false) (ah 2) (do let xs <- (df (pure []));pure (D.lst xs))) >>= dq) (dN 2 (do let xs <- (df (af (do let _ <- aA 0;bC 0 2 (aY bL bJ) (af (ah 1) (pure []))) (pure [])));pure (D.lst xs))) (pure .nx))
  (do let d <- (mC cx (af (ah 2) (pure [])));pure (Fl.rt d))))
variable (P w K mg base) in
abbrev eJ (k:Nat):Prop:=Kn P w K mg base di k "_law_head" ["_law_box_here","_law_many"] (vy 2 (aY gM ic))
theorem DU {k:Nat} (E:Ent K mg "_law_head" ["_law_box_here","_law_many"] wA) (m:Bi mg) (G_q17:bO P w K mg base k):eJ P w K mg base (k + 1) :=
 Bw E r8 fun _ cdv A outer s H E hr=>
  (aj (fC 2 r8.nd (N':=gM) (own:=["_law_column"]) (lo:=3) (cn (bA rfl m.range (ab (ae 1) ag))) (fun _ _ _ _=>(az 3 (show (gM ++ (["_law_column"]:List Str):List Str).Nodup by decide +kernel))) (fun _ _ _ _=>dz (iJ (av 0 G_q17 hr (ab ai ag)) ai)) (fun _ _ _ _=>(ae 3)))
  (aj (cB (nv hr (ae 2) (aE (bG ag))) (au (a_ 2 r8.nd (aE (bG (ab (av 0 G_q17 hr (ab (ae 1) ag)) ag))))) bw)
  (au (aH (dh m.tuple (ab (ae 2) ag))))))
abbrev wY:Stmt:=top 24
abbrev ik:List Str:=["_law_box_here","_law_many","_law_heads","_law_found","_law_turn","_law_way","_law_base","_law_kept","_law_met","_law_fresh","_law_head_here"]
theorem eW:aF ik ["_law_box_here","_law_many","_law_heads"] (ak wY):=⟨rfl,rfl,rfl,by decide +kernel,rfl,by decide +kernel,by decide +kernel⟩
def qj:M Fl :=
 (aK (vE 3 (df (af (do let _ <- aA 0;bC 0 2 (aY gM ic) (af (ah 1) (pure []))) (pure []))))
  (aK (
  do let it <- (mC cC (af (m2 eR (ah 2) (pure (.int 1))) (pure [])));forM (bp 4) (aK (dN 5 (do let _ <- aA 0;bC 0 2 (aY bL bJ) (af (pure (.int 4)) (pure []))))
  (aK (dN 6 (lB 3 (m2 cT (do let xs <- (df (af (m2 eR (kb 3) (pure (.int 1))) (af (do let _ <- aA 0;bC 0 2 (aY bL bJ) (af (kb 3) (pure []))) (pure []))));pure (D.lst xs)) (mC jG (af (m2 uz (ah 5) (pure (.int 1))) (pure []))))))
  (aK (dN 7 (do let xs <- (aX 11 1 (do let x <- (ah 6);lift (bh x)) (bo (bp 11) (m2 uz (do let _ <- aA 0;bC 0 2 (aY bL bJ) (af (pure (.int 3)) (pure []))) (pure (.int 0)) >>= dq) (ah 11)));pure (D.lst xs)))
  (aK (dN 8 (do let xs <- (aX 11 1 (mC cC (af (ah 1) (pure []))) (bo (bp 11) ((m2 (iL true) (do let xs <- (aX 12 1 (do let xs <- aA 3;pure (cu 3 xs.length)) (bo (bp 12) (m2 (lA false) (ah 11) (ah 12) >>= dq) (ah 12)));pure (D.lst xs)) (do let xs <- (df (pure []));pure (D.lst xs))) >>= dq) (ah 11)));pure (D.lst xs)))
  (aK (dN 9 (do let xs <- (aX 11 1 (mC cC (af (ah 1) (pure []))) (bo (bp 11) (pW (m2 (lA true) (ah 11) (ah 8) >>= dq) (m2 (ck false) (do let _ <- aA 0;bC 0 2 (aY bL bJ) (af (pure (.int 2)) (pure []))) (pure (.int 0)) >>= dq)) (ah 11)));pure (D.lst xs)))
  (aK (dN 10 (do let xs <- (mQ sortI (do let x <- (do let xs <- (vU oY (do let x <- (ah 7);pure (Hn.th x)) (do let x <- (ah 9);pure (Hn.th x)));pure (D.lst xs));lift (gm x)));pure (D.lst xs)))
  (aK (g9 ((m2 (iL false) (ah 10) (do let xs <- (df (pure []));pure (D.lst xs))) >>= dq) (dN 10 (do let xs <- (df (af (m2 cT (ah 6) (do let _ <- aA 0;bC 0 2 (aY bL bJ) (af (mC bu (af (ah 6) (pure []))) (pure [])))) (pure [])));pure (D.lst xs))) (pure .nx))
  (eN 3 (af (mC cx (af (ah 10) (pure []))) (pure [])))))))))) it.2 it.1)
  (do let d <- (do let xs <- (mZ 3);pure (D.lst xs));pure (Fl.rt d))))
variable (P w K mg base) in
abbrev fM (k:Nat):Prop:=Kn P w K mg base di k "_law_grown" ["_law_box_here","_law_many","_law_heads"] (vy 3 (aY ik qj))
theorem ED {k:Nat} (E:Ent K mg "_law_grown" ["_law_box_here","_law_many","_law_heads"] wY) (m:Bi mg) (G_q16:eJ P w K mg base k) (G_q17:bO P w K mg base k):fM P w K mg base (k + 1) :=
 Bw E eW fun _ cdv A outer s H E hr=>
  (aj (fO 3 eW.nd (bG (ab (av 0 G_q16 hr (ab (ae 1) ag)) ag)))
  (aj (eZ (bA rfl m.range (ab (gU (ae 2) ai) ag)) (az 4 eW.nd) (aj (a_ 5 eW.nd (av 0 G_q17 hr (ab ai ag)))
  (aj (a_ 6 eW.nd (ku 3 (aJ (aE (bG (ab (gU (jR 3 m.len) ai) (ab (av 0 G_q17 hr (ab (jR 3 m.len) ag)) ag)))) (ub m.int (ab (Gn (ae 5) ai) ag)))))
  (aj (fC 7 eW.nd (N':=ik) (own:=["_law_column"]) (lo:=11) (cn (c6 (ae 6))) (fun _ _ _ _=>(az 11 (show (ik ++ (["_law_column"]:List Str):List Str).Nodup by decide +kernel))) (fun _ _ _ _=>dz (wI (av 0 G_q17 hr (ab ai ag)) ai)) (fun _ _ _ _=>(ae 11)))
  (aj (a_ 8 eW.nd (aE (bQ (N':=ik) (own:=["_law_column"]) (lo:=11) (cn (bA rfl m.range (ab (ae 1) ag))) (fun _ _ _ _=>(az 11 (show (ik ++ (["_law_column"]:List Str):List Str).Nodup by decide +kernel))) (fun _ _ _ _=>dz (nk hr (aE (bQ (N':=(["_law_box_here","_law_many","_law_heads","_law_found","_law_turn","_law_way","_law_base","_law_kept","_law_met","_law_fresh","?10","_law_column"]:List Str)) (own:=["_law_head_here"]) (lo:=12) (EL 3) (fun _ _ _ _=>(az 12 (show ((["_law_box_here","_law_many","_law_heads","_law_found","_law_turn","_law_way","_law_base","_law_kept","_law_met","_law_fresh","?10","_law_column"]:List Str) ++ (["_law_head_here"]:List Str):List Str).Nodup by decide +kernel))) (fun _ _ _ _=>dz (jB (ae 11) (ae 12))) (fun _ _ _ _=>(ae 12)))) (aE (bG ag)))) (fun _ _ _ _=>(ae 11)))))
  (aj (fC 9 eW.nd (N':=ik) (own:=["_law_column"]) (lo:=11) (cn (bA rfl m.range (ab (ae 1) ag))) (fun _ _ _ _=>(az 11 (show (ik ++ (["_law_column"]:List Str):List Str).Nodup by decide +kernel))) (fun _ _ _ _=>dz (j7 (ll (yw (ae 11) (ae 8)) (jX (iJ (av 0 G_q17 hr (ab ai ag)) ai))))) (fun _ _ _ _=>(ae 11)))
  (aj (a_ 10 eW.nd (aE (jf m.sorted (tH (aE (n_ (i4 (ae 7)) (i4 (ae 9))))))))
  (aj (cB (nv hr (ae 10) (aE (bG ag))) (au (a_ 10 eW.nd (aE (bG (ab (aJ (ae 6) (av 0 G_q17 hr (ab (bH m.len (ab (ae 6) ag)) ag))) ag))))) bw)
  (au (fw 3 (ab (dh m.tuple (ab (ae 10) ag)) ag)))))))))))
  (au (aH (aE (Ef 3))))))
abbrev Ek:Stmt:=top 25
abbrev lK:List Str:=["_law_box_here","_law_many","_law_size"]
theorem wd:aF lK ["_law_box_here","_law_many"] (ak Ek):=⟨rfl,rfl,rfl,by decide +kernel,rfl,by decide +kernel,by decide +kernel⟩
def v_:M Fl :=
 (aK (g9 (t_ (m2 (ck false) (ah 1) (pure (.int 3)) >>= dq) (m2 (ck false) (do let _ <- aA 0;bC 0 2 (aY bL bJ) (af (pure (.int 2)) (pure []))) (pure (.int 0)) >>= dq)) (aK (dN 2 (m2 cG (pure (.int 3)) (do let _ <- aA 0;bC 0 2 (aY bL bJ) (af (m2 eR (mC gk (af (pure (.int 6)) (af (ah 1) (pure [])))) (pure (.int 2))) (pure [])))))
  (do let d <- (do let xs <- (aX 3 1 (mC cC (af (ah 2) (pure []))) (bo (bp 3) (pure true) (mC cx (af (do let xs <- (aX 4 1 (mC cC (af (ah 2) (pure []))) (bo (bp 4) ((m2 (iL true) (ah 4) (ah 3)) >>= dq) (ah 4)));pure (D.lst xs)) (pure [])))));pure (D.lst xs));pure (Fl.rt d))) (pure .nx))
  (aK (dN 2 (m2 cG (pure (.int 4)) (do let _ <- aA 0;bC 0 2 (aY bL bJ) (af (m2 eR (mC gk (af (pure (.int 6)) (af (ah 1) (pure [])))) (pure (.int 3))) (pure [])))))
  (do let d <- (do let xs <- (aX 3 1 (mC cC (af (ah 2) (pure []))) (bo (bp 3) (pure true) (mC cx (af (do let xs <- (mQ sortI (do let x <- (do let xs <- (df (af (ah 3) (af (m2 ql (m2 cG (ah 3) (pure (.int 1))) (ah 2)) (pure []))));pure (D.lst xs));lift (gm x)));pure (D.lst xs)) (pure [])))));pure (D.lst xs));pure (Fl.rt d))))
variable (P w K mg base) in
abbrev ff (k:Nat):Prop:=Kn P w K mg base di k "_law_barred" ["_law_box_here","_law_many"] (vy 2 (aY lK v_))
theorem Gg {k:Nat} (E:Ent K mg "_law_barred" ["_law_box_here","_law_many"] Ek) (m:Bi mg) (G_q17:bO P w K mg base k):ff P w K mg base (k + 1) :=
 Bw E wd fun _ cdv A outer s H E hr=>
  (aj (cB (j7 (i7 (iJ (ae 1) ai) (iB (iJ (av 0 G_q17 hr (ab ai ag)) ai)))) (aj (a_ 2 wd.nd (cy ai (av 0 G_q17 hr (ab (gU (kC m.min (ab ai (ab (ae 1) ag))) ai) ag))))
  (au (aH (aE (bQ (N':=lK) (own:=["_law_lack"]) (lo:=3) (cn (bA rfl m.range (ab (ae 2) ag))) (fun _ _ _ _=>(az 3 (show (lK ++ (["_law_lack"]:List Str):List Str).Nodup by decide +kernel))) (fun _ _ _ _=>cc) (fun _ _ _ _=>(dh m.tuple (ab (aE (bQ (N':=(lK ++ (["_law_lack"]:List Str))) (own:=["_law_column"]) (lo:=4) (cn (bA rfl m.range (ab (ae 2) ag))) (fun _ _ _ _=>(az 4 (show ((lK ++ (["_law_lack"]:List Str)) ++ (["_law_column"]:List Str):List Str).Nodup by decide +kernel))) (fun _ _ _ _=>dz (nk hr (ae 4) (ae 3))) (fun _ _ _ _=>(ae 4)))) ag)))))))) bw)
  (aj (a_ 2 wd.nd (cy ai (av 0 G_q17 hr (ab (gU (kC m.min (ab ai (ab (ae 1) ag))) ai) ag))))
  (au (aH (aE (bQ (N':=lK) (own:=["_law_column"]) (lo:=3) (cn (bA rfl m.range (ab (ae 2) ag))) (fun _ _ _ _=>(az 3 (show (lK ++ (["_law_column"]:List Str):List Str).Nodup by decide +kernel))) (fun _ _ _ _=>cc) (fun _ _ _ _=>(dh m.tuple (ab (aE (jf m.sorted (tH (aE (bG (ab (ae 3) (ab (oj (cy (ae 3) ai) (ae 2)) ag))))))) ag)))))))))
abbrev En:Stmt:=top 26
abbrev jv:List Str:=["_law_box_here","_law_many","_law_heads","_law_left","_law_names","_law_rows","_law_found"]
theorem pe:aF jv ["_law_box_here","_law_many","_law_heads"] (ak En):=⟨rfl,rfl,rfl,by decide +kernel,rfl,by decide +kernel,by decide +kernel⟩
def pA:M Fl :=
 (aK (vE 3 (mC jJ (af (ah 1) (pure []))))
  (aK (dN 4 (do let xs <- (aX 7 1 (mC cC (af (ah 1) (pure []))) (bo (bp 7) (pure true) (xr 3 (af (do let _ <- aA 0;bC 0 2 (aY bL bJ) (af (kb 3) (pure []))) (pure [])))));pure (D.lst xs)))
  (aK (vE 5 (aX 7 1 (do let x <- (ah 2);lift (bh x)) (bo (bp 7) (pure true) (mC cx (af (do let xs <- (mQ sortI (do let x <- (do let xs <- (aX 8 1 (do let x <- (ah 7);lift (bh x)) (bo (bp 8) (pure true) (m2 cT (ah 4) (ah 8))));pure (D.lst xs));lift (gm x)));pure (D.lst xs)) (pure []))))))
  (aK (vE 6 (df (pure [])))
  (aK (CG ((vU (GF true) (Bb 5) (do let x <- (do let xs <- (df (pure []));pure (D.lst xs));pure (Hn.th x))) >>= dq) (eN 6 (af (xr 5 (af (do let _ <- aA 0;bC 0 2 (aY bL bJ) (af (kb 5) (pure []))) (pure []))) (pure []))) 7)
  (do let d <- (do let xs <- aA 6;pure (D.tup xs));pure (Fl.rt d)))))))
variable (P w K mg base) in
abbrev fW (k:Nat):Prop:=Kn P w K mg base di k "_law_named" ["_law_box_here","_law_many","_law_heads"] (vy 3 (aY jv pA))
theorem HI {k:Nat} (E:Ent K mg "_law_named" ["_law_box_here","_law_many","_law_heads"] En) (m:Bi mg) (G_q17:bO P w K mg base k):fW P w K mg base (k + 1) :=
 Bw E pe fun _ cdv A outer s H E hr=>
  (aj (fO 3 pe.nd (o_ m.list m.range (ab (ae 1) ag)))
  (aj (a_ 4 pe.nd (aE (bQ (N':=jv) (own:=["_law_turn"]) (lo:=7) (cn (bA rfl m.range (ab (ae 1) ag))) (fun _ _ _ _=>(az 7 (show (jv ++ (["_law_turn"]:List Str):List Str).Nodup by decide +kernel))) (fun _ _ _ _=>cc) (fun _ _ _ _=>(xU 3 (ab (av 0 G_q17 hr (ab (jR 3 m.len) ag)) ag))))))
  (aj (AG 5 pe.nd (N':=jv) (own:=["_law_head_here"]) (lo:=7) (cn (c6 (ae 2))) (fun _ _ _ _=>(az 7 (show (jv ++ (["_law_head_here"]:List Str):List Str).Nodup by decide +kernel))) (fun _ _ _ _=>cc) (fun _ _ _ _=>(dh m.tuple (ab (aE (jf m.sorted (tH (aE (bQ (N':=(jv ++ (["_law_head_here"]:List Str))) (own:=["_law_column"]) (lo:=8) (cn (c6 (ae 7))) (fun _ _ _ _=>(az 8 (show ((jv ++ (["_law_head_here"]:List Str)) ++ (["_law_column"]:List Str):List Str).Nodup by decide +kernel))) (fun _ _ _ _=>cc) (fun _ _ _ _=>(aJ (ae 4) (ae 8)))))))) ag))))
  (aj (fO 6 pe.nd (bG ag))
  (aj (yA 7 (Fg hr (E2 5) (i4 (aE (bG ag)))) (au (fw 6 (ab (xU 5 (ab (av 0 G_q17 hr (ab (jR 5 m.len) ag)) ag)) ag))))
  (au (aH (mM 6 m.tuple))))))))
abbrev DP:Stmt:=top 27
abbrev qF:List Str:=["_law_box_here","_law_most","_law_heads","_law_many","_law_number","_law_way","_law_some","_law_extra"]
theorem l7:aF qF ["_law_box_here","_law_most","_law_heads"] (ak DP):=⟨rfl,rfl,rfl,by decide +kernel,rfl,by decide +kernel,by decide +kernel⟩
def yt:M Fl :=
 (aK (dN 3 (m2 cG (pure (.int 1)) (do let _ <- aA 0;bC 0 2 (aY bL bJ) (af (ah 1) (pure [])))))
  (aK (dN 4 (m2 cG (pure (.int 1)) (do let _ <- aA 0;bC 0 2 (aY bL bJ) (af (ah 2) (pure [])))))
  (aK (dN 5 (do let _ <- aA 0;bC 0 2 (aY bL bJ) (af (pure (.int 5)) (pure []))))
  (aK (g9 (pW (m2 (ck false) (ah 5) (pure (.int 0)) >>= dq) (m2 uz (ah 3) (pure (.int 2)) >>= dq)) (aK (dN 6 (do let _ <- aA 0;bC 0 2 (aY lK v_) (af (ah 3) (pure []))))
  (aK (dN 7 (do let xs <- (aX 8 1 (mC cC (af (do let _ <- aA 0;bC 0 2 (aY bL bJ) (af (m2 cG (pure (.int 1)) (mC iu (af (pure (.int 0)) (af (m2 eR (ah 2) (mC bu (af (ah 6) (pure [])))) (pure []))))) (pure []))) (pure []))) (bo (bp 8) (pure true) (do let _ <- aA 0;bC 0 2 (aY gM ic) (af (ah 3) (pure [])))));pure (D.lst xs)))
  (do let d <- (b4 (af (ah 3) (af (do let _ <- aA 0;bC 0 3 (aY jv pA) (af (ah 3) (af (pK (do let xs <- (vU oY (do let x <- (ah 6);pure (Hn.th x)) (do let x <- (ah 7);pure (Hn.th x)));pure (D.lst xs)) (pure none) ((pure (.int 6)) >>= o8)) (pure [])))) (pure []))));pure (Fl.rt d)))) (pure .nx))
  (aK (g9 (m2 (ck false) (ah 5) (pure (.int 1)) >>= dq) (do let d <- (b4 (af (ah 3) (af (do let _ <- aA 0;bC 0 3 (aY jv pA) (af (ah 3) (af (do let xs <- (aX 8 1 (mC cC (af (ah 4) (pure []))) (bo (bp 8) (pure true) (do let _ <- aA 0;bC 0 2 (aY gM ic) (af (ah 3) (pure [])))));pure (D.lst xs)) (pure [])))) (pure []))));pure (Fl.rt d)) (pure .nx))
  (do let d <- (b4 (af (ah 3) (af (do let _ <- aA 0;bC 0 3 (aY jv pA) (af (ah 3) (af (do let _ <- aA 0;bC 0 3 (aY ik qj) (af (ah 3) (af (ah 4) (pure [])))) (pure [])))) (pure []))));pure (Fl.rt d)))))))
variable (P w K mg base) in
abbrev fu (k:Nat):Prop:=Kn P w K mg base di k "_law_layout" ["_law_box_here","_law_most","_law_heads"] (vy 3 (aY qF yt))
theorem Gb {k:Nat} (E:Ent K mg "_law_layout" ["_law_box_here","_law_most","_law_heads"] DP) (m:Bi mg) (G_q8:ff P w K mg base k) (G_q11:fM P w K mg base k) (G_q16:eJ P w K mg base k) (G_q9:fW P w K mg base k) (G_q17:bO P w K mg base k):fu P w K mg base (k + 1) :=
 Bw E l7 fun _ cdv A outer s H E hr=>
  (aj (a_ 3 l7.nd (cy ai (av 0 G_q17 hr (ab (ae 1) ag))))
  (aj (a_ 4 l7.nd (cy ai (av 0 G_q17 hr (ab (ae 2) ag))))
  (aj (a_ 5 l7.nd (av 0 G_q17 hr (ab ai ag)))
  (aj (cB (j7 (ll (iJ (ae 5) ai) (jX (wI (ae 3) ai)))) (aj (a_ 6 l7.nd (av 0 G_q8 hr (ab (ae 3) ag)))
  (aj (fC 7 l7.nd (N':=qF) (own:=["_law_turn"]) (lo:=8) (cn (bA rfl m.range (ab (av 0 G_q17 hr (ab (cy ai (oH m.max (ab ai (ab (gU (ae 2) (bH m.len (ab (ae 6) ag))) ag)))) ag)) ag))) (fun _ _ _ _=>(az 8 (show (qF ++ (["_law_turn"]:List Str):List Str).Nodup by decide +kernel))) (fun _ _ _ _=>cc) (fun _ _ _ _=>(av 0 G_q16 hr (ab (ae 3) ag))))
  (au (aH (aU (ab (ae 3) (ab (av 0 G_q9 hr (ab (ae 3) (ab (cf (aE (n_ (i4 (ae 6)) (i4 (ae 7)))) cU (cW ai)) ag))) ag))))))) bw)
  (aj (cB (iJ (ae 5) ai) (au (aH (aU (ab (ae 3) (ab (av 0 G_q9 hr (ab (ae 3) (ab (aE (bQ (N':=qF) (own:=["_law_turn"]) (lo:=8) (cn (bA rfl m.range (ab (ae 4) ag))) (fun _ _ _ _=>(az 8 (show (qF ++ (["_law_turn"]:List Str):List Str).Nodup by decide +kernel))) (fun _ _ _ _=>cc) (fun _ _ _ _=>(av 0 G_q16 hr (ab (ae 3) ag))))) ag))) ag))))) bw)
  (au (aH (aU (ab (ae 3) (ab (av 0 G_q9 hr (ab (ae 3) (ab (av 0 G_q11 hr (ab (ae 3) (ab (ae 4) ag))) ag))) ag))))))))))
abbrev xV:Stmt:=top 28
abbrev pz:List Str:=["_law_found"]
theorem Ea:aF pz ["_law_found"] (ak xV):=⟨rfl,rfl,rfl,by decide +kernel,rfl,by decide +kernel,by decide +kernel⟩
def mU:M Fl :=
 (do let d <- (jL (iz .int (ah 0)) (yV (iz .bool (ah 0))));pure (Fl.rt d))
variable (P w K mg base) in
abbrev fL (k:Nat):Prop:=Kn P w K mg base di k "_law_whole" ["_law_found"] (jM 1 (aO pz mU))
theorem E1 {k:Nat} (E:Ent K mg "_law_whole" ["_law_found"] xV) (m:Bi mg):fL P w K mg base (k + 1) :=
 o4 E Ea fun _ cdv A outer s H E hr=>
  (au (aH (ix (e_ .int m.isinstance m.int (ae 0)) (iH (y4 (e_ .bool m.isinstance m.bool (ae 0)))))))
abbrev wx:Stmt:=top 29
abbrev qt:List Str:=["_law_pairs","_law_some","_law_found","_law_turn","_law_one","_law_other"]
theorem jt:aF qt ["_law_pairs","_law_some"] (ak wx):=⟨rfl,rfl,rfl,by decide +kernel,rfl,by decide +kernel,by decide +kernel⟩
def l8:M Fl :=
 (aK (g9 ((m2 (iL false) (ah 1) (do let xs <- (df (pure []));pure (D.lst xs))) >>= dq) (do let d <- (pure (.bl true));pure (Fl.rt d)) (pure .nx))
  (aK (dN 2 (pK (ah 1) (pure none) ((pure (.int 1)) >>= o8)))
  (aK (
  do let it <- (mC cC (af (mC bu (af (ah 1) (pure []))) (pure [])));forM (bp 3) (
  do let it <- (do let x <- (ah 0);lift (bh x));forM (eL 2 (bU (bp 4) (bU (bp 5) gf))) (g9 (pW ((m2 (iL true) (m2 (lA false) (ah 4) (ah 2)) (m2 (lA false) (ah 5) (ah 2))) >>= dq) (pW (m2 (lA false) (ah 4) (ah 1) >>= dq) (m2 (lA false) (ah 5) (ah 1) >>= dq))) (dN 2 (do let xs <- (vU oY (do let x <- (ah 2);pure (Hn.th x)) (do let x <- (do let xs <- (df (af (m2 cT (do let xs <- (df (af (ah 4) (af (ah 5) (pure []))));pure (D.lst xs)) (mC jG (af (m2 (lA false) (ah 4) (ah 2)) (pure [])))) (pure [])));pure (D.lst xs));pure (Hn.th x)));pure (D.lst xs))) (pure .nx)) it.2 it.1) it.2 it.1)
  (do let d <- (m2 (ck false) (mC bu (af (ah 2) (pure []))) (mC bu (af (ah 1) (pure []))));pure (Fl.rt d)))))
variable (P w K mg base) in
abbrev eP (k:Nat):Prop:=Kn P w K mg base di k "_law_hang" ["_law_pairs","_law_some"] (jM 2 (aO qt l8))
theorem Ep {k:Nat} (E:Ent K mg "_law_hang" ["_law_pairs","_law_some"] wx) (m:Bi mg):eP P w K mg base (k + 1) :=
 o4 E jt fun _ cdv A outer s H E hr=>
  (aj (cB (nv hr (ae 1) (aE (bG ag))) (au (aH da)) bw)
  (aj (a_ 2 jt.nd (cf (ae 1) cU (cW ai)))
  (aj (eZ (bA rfl m.range (ab (bH m.len (ab (ae 1) ag)) ag)) (az 3 jt.nd) (au (eZ (c6 (ae 0)) (fT (bz (az 4 jt.nd) (bz (az 5 jt.nd) dU))) (au (cB (j7 (ll (nk hr (xN (ae 4) (ae 2)) (xN (ae 5) (ae 2))) (ll (jB (ae 4) (ae 1)) (jX (jB (ae 5) (ae 1)))))) (au (a_ 2 jt.nd (aE (n_ (i4 (ae 2)) (i4 (aE (bG (ab (aJ (aE (bG (ab (ae 4) (ab (ae 5) ag)))) (ub m.int (ab (xN (ae 4) (ae 2)) ag))) ag)))))))) bw)))))
  (au (aH (wM (bH m.len (ab (ae 2) ag)) (bH m.len (ab (ae 1) ag))))))))
abbrev Fs:Stmt:=top 30
abbrev qd:List Str:=["_law_layout_here","_law_thing"]
theorem GX:aF qd ["_law_layout_here","_law_thing"] (ak Fs):=⟨rfl,rfl,rfl,by decide +kernel,rfl,by decide +kernel,by decide +kernel⟩
def r9:M Fl :=
 (aK (g9 (t_ (gB (do let x <- (iz .tup (ah 1));lift (b_ x))) (t_ (m2 (ck true) (mC bu (af (ah 1) (pure []))) (pure (.int 2)) >>= dq) (gB (do let x <- (mC gi (af (do let xs <- (aX 2 1 (do let x <- (ah 1);lift (bh x)) (bo (bp 2) (pure true) (mC (aR 1 (aO pz mU)) (af (ah 2) (pure [])))));pure (D.lst xs)) (pure [])));lift (b_ x))))) (do let d <- (pure (.bl false));pure (Fl.rt d)) (pure .nx))
  (do let d <- (Jt.Tu.chn3 (pure (.int 0)) (m2 cT (ah 1) (pure (.int 0))) (m2 cT (ah 1) (pure (.int 1))) (mC bu (af (m2 cT (ah 0) (pure (.int 1))) (pure []))));pure (Fl.rt d)))
variable (P w K mg base) in
abbrev dY (k:Nat):Prop:=Kn P w K mg base di k "_law_is_pair" ["_law_layout_here","_law_thing"] (jM 2 (aO qd r9))
theorem FU {k:Nat} (E:Ent K mg "_law_is_pair" ["_law_layout_here","_law_thing"] Fs) (m:Bi mg) (G_q12:fL P w K mg base k):dY P w K mg base (k + 1) :=
 o4 E GX fun _ cdv A outer s H E hr=>
  (aj (cB (j7 (i7 (dJ (cj (e_ .tup m.isinstance m.tuple (ae 1)))) (i7 (sQ (bH m.len (ab (ae 1) ag)) ai) (iB (dJ (cj (jz m.all (ab (aE (bQ (N':=qd) (own:=["_law_one"]) (lo:=2) (cn (c6 (ae 1))) (fun _ _ _ _=>(az 2 (show (qd ++ (["_law_one"]:List Str):List Str).Nodup by decide +kernel))) (fun _ _ _ _=>cc) (fun _ _ _ _=>(a0 G_q12 hr (ab (ae 2) ag))))) ag)))))))) (au (aH da)) bw)
  (au (aH (Jt.Tu.de_leLtLt ai (aJ (ae 1) ai) (aJ (ae 1) ai) (bH m.len (ab (aJ (ae 0) ai) ag))))))
abbrev DY:Stmt:=top 31
abbrev rq:List Str:=["_law_layout_here","_law_thing"]
theorem Gz:aF rq ["_law_layout_here","_law_thing"] (ak DY):=⟨rfl,rfl,rfl,by decide +kernel,rfl,by decide +kernel,by decide +kernel⟩
def iR:M Fl :=
 (aK (g9 (t_ (gB (do let x <- (iz .tup (ah 1));lift (b_ x))) (m2 (ck true) (mC bu (af (ah 1) (pure []))) (m2 eR (mC bu (af (m2 cT (ah 0) (pure (.int 1))) (pure []))) (pure (.int 1))) >>= dq)) (do let d <- (pure (.bl false));pure (Fl.rt d)) (pure .nx))
  (aK (g9 (t_ (gB (do let x <- (mC gi (af (do let xs <- (aX 2 1 (do let x <- (ah 1);lift (bh x)) (bo (bp 2) (pure true) (mC (aR 2 (aO qd r9)) (af (ah 0) (af (ah 2) (pure []))))));pure (D.lst xs)) (pure [])));lift (b_ x))) ((m2 (iL true) (do let xs <- (mC dList (af (ah 1) (pure [])));pure (D.lst xs)) (do let xs <- (do let x <- (ah 1);lift (Jt.Tu.sortSetU x));pure (D.lst xs))) >>= dq)) (do let d <- (pure (.bl false));pure (Fl.rt d)) (pure .nx))
  (do let d <- (mC (aR 2 (aO qt l8)) (af (ah 1) (af (do let xs <- (mC jJ (af (mC bu (af (m2 cT (ah 0) (pure (.int 1))) (pure []))) (pure [])));pure (D.lst xs)) (pure []))));pure (Fl.rt d))))
variable (P w K mg base) in
abbrev dZ (k:Nat):Prop:=Kn P w K mg base di k "_law_is_tree" ["_law_layout_here","_law_thing"] (jM 2 (aO rq iR))
theorem GN {k:Nat} (E:Ent K mg "_law_is_tree" ["_law_layout_here","_law_thing"] DY) (m:Bi mg) (G_q18:eP P w K mg base k) (G_q3:dY P w K mg base k):dZ P w K mg base (k + 1) :=
 o4 E Gz fun _ cdv A outer s H E hr=>
  (aj (cB (j7 (i7 (dJ (cj (e_ .tup m.isinstance m.tuple (ae 1)))) (iB (sQ (bH m.len (ab (ae 1) ag)) (gU (bH m.len (ab (aJ (ae 0) ai) ag)) ai))))) (au (aH da)) bw)
  (aj (cB (j7 (i7 (dJ (cj (jz m.all (ab (aE (bQ (N':=rq) (own:=["_law_pair"]) (lo:=2) (cn (c6 (ae 1))) (fun _ _ _ _=>(az 2 (show (rq ++ (["_law_pair"]:List Str):List Str).Nodup by decide +kernel))) (fun _ _ _ _=>cc) (fun _ _ _ _=>(a0 G_q3 hr (ab (ae 0) (ab (ae 2) ag)))))) ag)))) (iB (nk hr (aE (jY m.list (ab (ae 1) ag))) (aE (Jt.Tu.df_sortedSetU hr m.sorted m.set (ae 1))))))) (au (aH da)) bw)
  (au (aH (a0 G_q18 hr (ab (ae 1) (ab (aE (o_ m.list m.range (ab (bH m.len (ab (aJ (ae 0) ai) ag)) ag))) ag)))))))
abbrev y6:Stmt:=top 32
abbrev i5:List Str:=["_law_layout_here","_law_tree","_law_column"]
theorem xT:aF i5 ["_law_layout_here","_law_tree"] (ak y6):=⟨rfl,rfl,rfl,by decide +kernel,rfl,by decide +kernel,by decide +kernel⟩
def ke:M Fl :=
 (aK (
  do let it <- (mC cC (af (m2 cT (ah 0) (pure (.int 0))) (pure [])));forM (bp 2) (g9 (gB (do let x <- (mC (aR 2 (aO qt l8)) (af (ah 1) (af (do let xs <- (aX 3 2 (mC jg (af (m2 cT (ah 0) (pure (.int 1))) (pure []))) (bo (eL 2 (bU (bp 3) (bU (bp 4) gf))) (m2 (lA false) (ah 2) (ah 4) >>= dq) (ah 3)));pure (D.lst xs)) (pure []))));lift (b_ x))) (do let d <- (pure (.bl false));pure (Fl.rt d)) (pure .nx)) it.2 it.1)
  (do let d <- (pure (.bl true));pure (Fl.rt d)))
variable (P w K mg base) in
abbrev fS (k:Nat):Prop:=Kn P w K mg base di k "_law_joins" ["_law_layout_here","_law_tree"] (jM 2 (aO i5 ke))
theorem Eh {k:Nat} (E:Ent K mg "_law_joins" ["_law_layout_here","_law_tree"] y6) (m:Bi mg) (G_q18:eP P w K mg base k):fS P w K mg base (k + 1) :=
 o4 E xT fun _ cdv A outer s H E hr=>
  (aj (eZ (bA rfl m.range (ab (aJ (ae 0) ai) ag)) (az 2 xT.nd) (au (cB (dJ (cj (a0 G_q18 hr (ab (ae 1) (ab (aE (bQ (N':=i5) (own:=["_law_number","_law_head_here"]) (lo:=3) (cn (uD m.enumerate (ab (aJ (ae 0) ai) ag))) (fun _ _ _ _=>(fT (bz (az 3 (show (i5 ++ (["_law_number","_law_head_here"]:List Str):List Str).Nodup by decide +kernel)) (bz (az 4 (show (i5 ++ (["_law_number","_law_head_here"]:List Str):List Str).Nodup by decide +kernel)) dU)))) (fun _ _ _ _=>dz (jB (ae 2) (ae 4))) (fun _ _ _ _=>(ae 3)))) ag))))) (au (aH da)) bw)))
  (au (aH da)))
abbrev yj:Stmt:=top 33
abbrev l6:List Str:=["_law_box_here","_law_some"]
theorem rM:aF l6 ["_law_box_here"] (ak yj):=⟨rfl,rfl,rfl,by decide +kernel,rfl,by decide +kernel,by decide +kernel⟩
def k0:M Fl :=
 (aK (dN 1 (do let xs <- (df (af (pure .non) (af (pure (.bl true)) (af (pure (.bl false)) (af (m1 v8 (pure (.int 1))) (af (pure (.int 0)) (af (pure (.int 1)) (af (pure (.int 7)) (af (pure (.int 10)) (af (pure (.str "")) (af (pure (.str "0")) (af (pure (.str "none")) (af (b4 (pure [])) (af (b4 (af (pure (.int 0)) (pure []))) (af (b4 (af (pure (.int 0)) (af (pure (.int 1)) (pure [])))) (af (b4 (af (pure (.int 1)) (af (pure (.int 0)) (pure [])))) (af (b4 (af (pure (.int 0)) (af (pure (.int 0)) (pure [])))) (af (b4 (af (pure (.int 0)) (af (pure (.bl true)) (pure [])))) (af (do let xs <- (df (af (pure (.int 0)) (pure [])));pure (D.lst xs)) (af (pure .dct) (pure [])))))))))))))))))))));pure (D.lst xs)))
  (aK (dN 1 (do let xs <- (vU oY (do let x <- (ah 1);pure (Hn.th x)) (do let x <- (do let xs <- (df (af (b4 (af (b4 (af (pure (.int 0)) (pure []))) (pure []))) (af (b4 (af (b4 (af (pure (.int 0)) (af (pure (.int 1)) (pure [])))) (pure []))) (af (do let xs <- (df (af (b4 (af (pure (.int 0)) (af (pure (.int 1)) (pure [])))) (pure [])));pure (D.lst xs)) (af (m2 xQ (pure (.int 10)) (pure (.int 39))) (af (b4 (af (pure (.int 0)) (af (pure (.int 10)) (pure [])))) (af (b4 (af (pure (.int 0)) (af (m1 v8 (pure (.int 1))) (pure [])))) (af (b4 (af (b4 (pure [])) (af (b4 (pure [])) (pure [])))) (af (b4 (af (b4 (af (pure (.int 0)) (af (pure (.int 1)) (pure [])))) (af (b4 (af (pure (.int 0)) (af (pure (.int 1)) (pure [])))) (pure [])))) (af (b4 (af (b4 (af (pure (.int 0)) (af (pure (.int 1)) (pure [])))) (af (pure .non) (pure [])))) (pure [])))))))))));pure (D.lst xs));pure (Hn.th x)));pure (D.lst xs)))
  (do let d <- (m2 cT (ah 1) (do let _ <- aA 0;bC 0 2 (aY bL bJ) (af (mC bu (af (ah 1) (pure []))) (pure []))));pure (Fl.rt d))))
variable (P w K mg base) in
abbrev f6 (k:Nat):Prop:=Kn P w K mg base di k "_law_odd" ["_law_box_here"] (vy 1 (aY l6 k0))
theorem Dh {k:Nat} (E:Ent K mg "_law_odd" ["_law_box_here"] yj) (m:Bi mg) (G_q17:bO P w K mg base k):f6 P w K mg base (k + 1) :=
 Bw E rM fun _ cdv A outer s H E hr=>
  (by
  refine aj ?_ ?_;(focus exact (by show o7 _ (Stmt.Assign [Expr.Name _ _] (Expr.List _ _) _) (dN 1 _);refine ur 1 _ _ _ _ _ ?_ ?_ ?_ ?_ ?_ ?_;(focus exact rM.nd);(focus exact rfl);(focus first | exact Or.inl rfl | exact Or.inr rfl);(focus first | exact .inl rfl | exact .inr rfl);(focus exact AA);show DE _ (Expr.List _ _) _;refine aE ?_;refine bG ?_;exact (by refine lP ?_ ?_;(focus exact xI);refine lP ?_ ?_;(focus exact da);refine lP ?_ ?_;(focus exact da);refine Jj ?_ ?_;(focus exact (yD ai));refine lP ?_ ?_;(focus exact ai);refine lP ?_ ?_;(focus exact ai);refine lP ?_ ?_;(focus exact ai);refine lP ?_ ?_;(focus exact ai);refine lP ?_ ?_;(focus exact rA);refine lP ?_ ?_;(focus exact rA);refine lP ?_ ?_;(focus exact rA);refine jw ?_ ?_;(focus exact (aU ag));refine jw ?_ ?_;(focus exact (aU (ab ai ag)));refine jw ?_ ?_;(focus exact (aU (ab ai (ab ai ag))));refine jw ?_ ?_;(focus exact (aU (ab ai (ab ai ag))));refine jw ?_ ?_;(focus exact (aU (ab ai (ab ai ag))));refine jw ?_ ?_;(focus exact (aU (ab ai (ab da ag))));refine F7 ?_ ?_;(focus exact (aE (bG (ab ai ag))));refine Ja ?_ ?_;(focus exact yK);exact ag)));exact (by
  refine aj ?_ ?_;(focus exact (by refine ur 1 _ _ _ _ _ ?_ ?_ ?_ ?_ ?_ ?_;(focus exact rM.nd);(focus exact rfl);(focus first | exact Or.inl rfl | exact Or.inr rfl);(focus first | exact .inl rfl | exact .inr rfl);(focus exact rfl);refine aE ?_;refine n_ ?_ ?_;(focus exact (i4 (ae 1)));refine i4 ?_;refine aE ?_;refine bG ?_;refine jw ?_ ?_;(focus exact (aU (ab (aU (ab ai ag)) ag)));refine jw ?_ ?_;(focus exact (aU (ab (aU (ab ai (ab ai ag))) ag)));refine F7 ?_ ?_;(focus exact (aE (bG (ab (aU (ab ai (ab ai ag))) ag))));refine ab ?_ ?_;(focus exact (EY ai ai));refine jw ?_ ?_;(focus exact (aU (ab ai (ab ai ag))));refine jw ?_ ?_;(focus exact (aU (ab ai (ab (yD ai) ag))));refine jw ?_ ?_;(focus exact (aU (ab (aU ag) (ab (aU ag) ag))));refine jw ?_ ?_;(focus exact (aU (ab (aU (ab ai (ab ai ag))) (ab (aU (ab ai (ab ai ag))) ag))));refine jw ?_ ?_;(focus exact (aU (ab (aU (ab ai (ab ai ag))) (ab xI ag))));exact ag));exact (au (aH (aJ (ae 1) (av 0 G_q17 hr (ab (bH m.len (ab (ae 1) ag)) ag)))))))
abbrev E5:Stmt:=top 34
abbrev pQ:List Str:=["_law_box_here","_law_layout_here","_law_pairs","_law_number","_law_other","_law_near"]
theorem mN:aF pQ ["_law_box_here","_law_layout_here"] (ak E5):=⟨rfl,rfl,rfl,by decide +kernel,rfl,by decide +kernel,by decide +kernel⟩
def xt:M Fl :=
 (aK (vE 2 (df (pure [])))
  (aK (
  do let it <- (mC BH (af (pure (.int 1)) (af (mC bu (af (m2 cT (ah 1) (pure (.int 1))) (pure []))) (pure []))));forM (bp 3) (aK (dN 4 (do let _ <- aA 0;bC 0 2 (aY bL bJ) (af (ah 3) (pure []))))
  (aK (dN 5 (do let xs <- (aX 6 1 (do let x <- (pK (m2 cT (ah 1) (pure (.int 1))) (pure none) ((ah 3) >>= o8));lift (bh x)) (bo (bp 6) (pure true) (mC bu (af (do let xs <- (aX 7 1 (do let x <- (m2 cT (m2 cT (ah 1) (pure (.int 1))) (ah 3));lift (bh x)) (bo (bp 7) (m2 (lA false) (ah 7) (ah 6) >>= dq) (ah 7)));pure (D.lst xs)) (pure [])))));pure (D.lst xs)))
  (aK (g9 (m2 uz (do let _ <- aA 0;bC 0 2 (aY bL bJ) (af (pure (.int 3)) (pure []))) (pure (.int 0)) >>= dq) (dN 4 (Jt.Tu.mIdxL (ah 5) (af (mC Jt.Tu.dMaxL (af (ah 5) (pure []))) (pure [])))) (pure .nx))
  (eN 2 (af (b4 (af (ah 4) (af (ah 3) (pure [])))) (pure [])))))) it.2 it.1)
  (do let d <- (mC cx (af (do let xs <- (mQ Jt.Tu.sortU (aA 2));pure (D.lst xs)) (pure [])));pure (Fl.rt d))))
variable (P w K mg base) in
abbrev du (k:Nat):Prop:=Kn P w K mg base di k "_law_some_tree" ["_law_box_here","_law_layout_here"] (vy 2 (aY pQ xt))
theorem Hu {k:Nat} (E:Ent K mg "_law_some_tree" ["_law_box_here","_law_layout_here"] E5) (m:Bi mg) (G_q17:bO P w K mg base k):du P w K mg base (k + 1) :=
 Bw E mN fun _ cdv A outer s H E hr=>
  (aj (fO 2 mN.nd (bG ag))
  (aj (eZ (ve rfl m.range (ab ai (ab (bH m.len (ab (aJ (ae 1) ai) ag)) ag))) (az 3 mN.nd) (aj (a_ 4 mN.nd (av 0 G_q17 hr (ab (ae 3) ag)))
  (aj (fC 5 mN.nd (N':=pQ) (own:=["_law_head_here"]) (lo:=6) (cn (c6 (cf (aJ (ae 1) ai) cU (cW (ae 3))))) (fun _ _ _ _=>(az 6 (show (pQ ++ (["_law_head_here"]:List Str):List Str).Nodup by decide +kernel))) (fun _ _ _ _=>cc) (fun _ _ _ _=>(bH m.len (ab (aE (bQ (N':=(pQ ++ (["_law_head_here"]:List Str))) (own:=["_law_column"]) (lo:=7) (cn (c6 (aJ (aJ (ae 1) ai) (ae 3)))) (fun _ _ _ _=>(az 7 (show ((pQ ++ (["_law_head_here"]:List Str)) ++ (["_law_column"]:List Str):List Str).Nodup by decide +kernel))) (fun _ _ _ _=>dz (jB (ae 7) (ae 6))) (fun _ _ _ _=>(ae 7)))) ag))))
  (aj (cB (wI (av 0 G_q17 hr (ab ai ag)) ai) (au (a_ 4 mN.nd (Jt.Tu.de_indexL (ae 5) (ab (Jt.Tu.de_maxL m.max (ab (ae 5) ag)) ag)))) bw)
  (au (fw 2 (ab (aU (ab (ae 4) (ab (ae 3) ag))) ag)))))))
  (au (aH (dh m.tuple (ab (aE (Jt.Tu.df_sortedU m.sorted (E8 2))) ag))))))
abbrev xR:Stmt:=top 35
abbrev j_:List Str:=["_law_box_here","_law_layout_here","_law_tree","_law_odd_here","_law_at","_law_to","_law_rows","_law_one","_law_other","_law_some","_law_pair"]
theorem gR:aF j_ ["_law_box_here","_law_layout_here","_law_tree"] (ak xR):=⟨rfl,rfl,rfl,by decide +kernel,rfl,by decide +kernel,by decide +kernel⟩
def jA:M Fl :=
 (aK (dN 3 (do let _ <- aA 0;bC 0 1 (aY l6 k0) (pure [])))
  (aK (g9 ((m2 (iL false) (ah 2) (b4 (pure []))) >>= dq) (do let d <- (m2 cT (do let xs <- (df (af (ah 3) (af (b4 (af (b4 (af (pure (.int 0)) (af (pure (.int 0)) (pure [])))) (pure []))) (af (b4 (af (b4 (af (pure (.int 0)) (af (pure (.int 1)) (pure [])))) (pure []))) (af (do let xs <- (df (pure []));pure (D.lst xs)) (af (b4 (af (ah 3) (pure []))) (pure [])))))));pure (D.lst xs)) (do let _ <- aA 0;bC 0 2 (aY bL bJ) (af (pure (.int 5)) (pure []))));pure (Fl.rt d)) (pure .nx))
  (aK (dN 4 (do let _ <- aA 0;bC 0 2 (aY bL bJ) (af (mC bu (af (ah 2) (pure []))) (pure []))))
  (aK (dN 5 (do let _ <- aA 0;bC 0 2 (aY bL bJ) (af (mC bu (af (ah 2) (pure []))) (pure []))))
  (aK (vE 6 (mC dList (af (ah 2) (pure []))))
  (aK (do let d <- (b4 (af (lB 6 (ah 5)) (af (lB 6 (ah 4)) (pure []))));(eL 2 (bU (Dy 6 (ah 4)) (bU (Dy 6 (ah 5)) gf))) d;pure Fl.nx)
  (aK (yY 7 8 (af (do let _ <- aA 0;bC 0 2 (aY bL bJ) (af (mC bu (af (m2 cT (ah 1) (pure (.int 1))) (pure []))) (pure []))) (af (do let _ <- aA 0;bC 0 2 (aY bL bJ) (af (m2 cG (pure (.int 1)) (mC bu (af (m2 cT (ah 1) (pure (.int 1))) (pure [])))) (pure []))) (pure []))))
  (aK (vE 9 (df (af (m2 c_ (pK (ah 2) (pure none) ((ah 4) >>= o8)) (pK (ah 2) ((m2 cG (ah 4) (pure (.int 1))) >>= o8) (pure none))) (af (m2 c_ (pK (ah 2) (pure none) ((m2 cG (ah 4) (pure (.int 1))) >>= o8)) (pK (ah 2) ((ah 4) >>= o8) (pure none))) (af (do let xs <- aA 6;pure (D.tup xs)) (af (do let xs <- (mC dList (af (ah 2) (pure [])));pure (D.lst xs)) (af (ah 3) (af (m2 c_ (ah 2) (b4 (af (ah 3) (pure [])))) (pure [])))))))))
  (aK (
  do let it <- (do let x <- (do let xs <- (df (af (b4 (af (ah 7) (af (ah 8) (pure [])))) (af (m1 EH (m2 cT (ah 2) (ah 4))) (af (ah 3) (af (do let xs <- (mC dList (af (m2 cT (ah 2) (ah 4)) (pure [])));pure (D.lst xs)) (af (m2 c_ (m2 cT (ah 2) (ah 4)) (b4 (af (pure (.int 0)) (pure [])))) (af (b4 (af (pure (.bl false)) (af (m2 cT (m2 cT (ah 2) (ah 4)) (pure (.int 1))) (pure [])))) (pure []))))))));pure (D.lst xs));lift (bh x));forM (bp 10) (eN 9 (af (m2 c_ (m2 c_ (pK (ah 2) (pure none) ((ah 4) >>= o8)) (b4 (af (ah 10) (pure [])))) (pK (ah 2) ((m2 cG (ah 4) (pure (.int 1))) >>= o8) (pure none))) (pure []))) it.2 it.1)
  (aK (eN 9 (af (mC cx (af (do let xs <- (mQ Jt.Tu.sortU (do let x <- (m2 c_ (m2 c_ (pK (ah 2) (pure none) ((ah 4) >>= o8)) (b4 (af (b4 (af (mC gk (af (ah 7) (af (ah 8) (pure [])))) (af (mC iu (af (ah 7) (af (ah 8) (pure [])))) (pure [])))) (pure [])))) (pK (ah 2) ((m2 cG (ah 4) (pure (.int 1))) >>= o8) (pure none)));lift (gm x)));pure (D.lst xs)) (pure []))) (pure [])))
  (do let d <- (lB 9 (do let _ <- aA 0;bC 0 2 (aY bL bJ) (af (pure (.int 13)) (pure []))));pure (Fl.rt d))))))))))))
variable (P w K mg base) in
abbrev gJ (k:Nat):Prop:=Kn P w K mg base di k "_law_bent" ["_law_box_here","_law_layout_here","_law_tree"] (vy 3 (aY j_ jA))
theorem Fy {k:Nat} (E:Ent K mg "_law_bent" ["_law_box_here","_law_layout_here","_law_tree"] xR) (m:Bi mg) (G_q25:f6 P w K mg base k) (G_q17:bO P w K mg base k):gJ P w K mg base (k + 1) :=
 Bw E gR fun _ cdv A outer s H E hr=>
  (aj (a_ 3 gR.nd (av 0 G_q25 hr ag))
  (aj (cB (nv hr (ae 2) (aU ag)) (au (aH (aJ (aE (bG (ab (ae 3) (ab (aU (ab (aU (ab ai (ab ai ag))) ag)) (ab (aU (ab (aU (ab ai (ab ai ag))) ag)) (ab (aE (bG ag)) (ab (aU (ab (ae 3) ag)) ag))))))) (av 0 G_q17 hr (ab ai ag))))) bw)
  (aj (a_ 4 gR.nd (av 0 G_q17 hr (ab (bH m.len (ab (ae 2) ag)) ag)))
  (aj (a_ 5 gR.nd (av 0 G_q17 hr (ab (bH m.len (ab (ae 2) ag)) ag)))
  (aj (fO 6 gR.nd (jY m.list (ab (ae 2) ag)))
  (aj (sv (aU (ab (ku 6 (ae 5)) (ab (ku 6 (ae 4)) ag))) (fT (bz (Cg 6 (ae 4)) (bz (Cg 6 (ae 5)) dU))))
  (aj (v7 7 8 gR.nd (ab (av 0 G_q17 hr (ab (bH m.len (ab (aJ (ae 1) ai) ag)) ag)) (ab (av 0 G_q17 hr (ab (cy ai (bH m.len (ab (aJ (ae 1) ai) ag))) ag)) ag)))
  (aj (fO 9 gR.nd (bG (ab (eG (cf (ae 2) cU (cW (ae 4))) (cf (ae 2) (cW (cy (ae 4) ai)) cU)) (ab (eG (cf (ae 2) cU (cW (cy (ae 4) ai))) (cf (ae 2) (cW (ae 4)) cU)) (ab (mM 6 m.tuple) (ab (aE (jY m.list (ab (ae 2) ag))) (ab (ae 3) (ab (eG (ae 2) (aU (ab (ae 3) ag))) ag))))))))
  (aj (eZ (c6 (aE (bG (ab (aU (ab (ae 7) (ab (ae 8) ag))) (ab (Fi (aJ (ae 2) (ae 4))) (ab (ae 3) (ab (aE (jY m.list (ab (aJ (ae 2) (ae 4)) ag))) (ab (eG (aJ (ae 2) (ae 4)) (aU (ab ai ag))) (ab (aU (ab da (ab (aJ (aJ (ae 2) (ae 4)) ai) ag))) ag))))))))) (az 10 gR.nd) (au (fw 9 (ab (eG (eG (cf (ae 2) cU (cW (ae 4))) (aU (ab (ae 10) ag))) (cf (ae 2) (cW (cy (ae 4) ai)) cU)) ag))))
  (aj (fw 9 (ab (dh m.tuple (ab (aE (Jt.Tu.df_sortedU m.sorted (tH (eG (eG (cf (ae 2) cU (cW (ae 4))) (aU (ab (aU (ab (kC m.min (ab (ae 7) (ab (ae 8) ag))) (ab (oH m.max (ab (ae 7) (ab (ae 8) ag))) ag))) ag))) (cf (ae 2) (cW (cy (ae 4) ai)) cU))))) ag)) ag))
  (au (aH (ku 9 (av 0 G_q17 hr (ab ai ag)))))))))))))))
abbrev qE:Stmt:=top 36
abbrev yX:List Str:=["_law_script","_law_k","_law_box_here","_law_layout_here","_law_tree","_law_thing","_law_found","_law_joins_here","_law_due"]
theorem gy:aF yX ["_law_script"] (ak qE):=⟨rfl,rfl,rfl,by decide +kernel,rfl,by decide +kernel,by decide +kernel⟩
def uI:M Fl :=
 (aK (
  do let it <- (mC cC (af (mC iu (af (pure (.int 1)) (af (mC gk (af (mC bu (af (ah 0) (pure []))) (af (pure (.int 6)) (pure [])))) (pure [])))) (pure [])));forM (bp 1) (aK (vE 2 (mC (aR 2 (oh qp m_)) (af (ah 0) (af (ah 1) (pure [])))))
  (aK (dN 3 (do let _ <- aA 2;bC 2 3 (aY qF yt) (af (pure (.int 7)) (af (pure (.int 6)) (pure [])))))
  (aK (dN 4 (do let _ <- aA 2;bC 2 2 (aY pQ xt) (af (ah 3) (pure []))))
  (aK (
  do let it <- (do let x <- (do let xs <- (df (af (ah 4) (af (do let _ <- aA 2;bC 2 3 (aY j_ jA) (af (ah 3) (af (ah 4) (pure [])))) (af (do let _ <- aA 2;bC 2 3 (aY j_ jA) (af (ah 3) (af (ah 4) (pure [])))) (af (do let _ <- aA 2;bC 2 1 (aY l6 k0) (pure [])) (pure []))))));pure (D.lst xs));lift (bh x));forM (bp 5) (aK (yY 6 7 (af (mC (aR 2 (aO f_ dg)) (af (ah 3) (af (ah 5) (pure [])))) (af (mC (aR 2 (aO pf o6)) (af (ah 3) (af (ah 5) (pure [])))) (pure []))))
  (aK (dN 8 (mC (aR 2 (aO rq iR)) (af (ah 3) (af (ah 5) (pure [])))))
  (aK (g9 (t_ (gB (do let x <- (iz .bool (ah 6));lift (b_ x))) (t_ (gB (do let x <- (iz .bool (ah 7));lift (b_ x))) ((m2 (iL true) (ah 6) (ah 8)) >>= dq))) (do let d <- (pure (.bl false));pure (Fl.rt d)) (pure .nx))
  (g9 ((m2 (iL true) (ah 7) (jL (ah 8) (mC (aR 2 (aO i5 ke)) (af (ah 3) (af (ah 5) (pure [])))))) >>= dq) (do let d <- (pure (.bl false));pure (Fl.rt d)) (pure .nx))))) it.2 it.1)
  (g9 (m2 Jt.Tu.dNotT (mC (aR 2 (aO f_ dg)) (af (ah 3) (af (ah 4) (pure [])))) (pure (.bl true)) >>= dq) (do let d <- (pure (.bl false));pure (Fl.rt d)) (pure .nx)))))) it.2 it.1)
  (do let d <- (pure (.bl true));pure (Fl.rt d)))
theorem FQ {k:Nat} (m:Bi mg) (G_q14:gJ P w K mg base k) (G_q23:iK P w K mg base k) (G_q2:dZ P w K mg base k) (G_q10:fS P w K mg base k) (G_q6:fu P w K mg base k) (G_q25:f6 P w K mg base k) (G_q0:du P w K mg base k) (G_q4:d6 P w K mg base k) (G_q26:g6 P w K mg base k) (f:Addr) (cdv:Value) (A:Around) (outer:List Env) (s:Shared) (H:Hp) (E:XK) (hr:cm k (A.deeper (PyProof.Rows.envOfC "law" (ak qE) s.heap.objs.size f cdv))):q_ (iZ di P w K mg base yX "law" (ak qE) f cdv A outer s H E).nox (bX qE) uI :=
  (aj (eZ (bA rfl m.range (ab (oH m.max (ab ai (ab (kC m.min (ab (bH m.len (ab (ae 0) ag)) (ab ai ag))) ag))) ag)) (az 1 gy.nd) (aj (fO 2 gy.nd (yk G_q23 hr (ab (ae 0) (ab (ae 1) ag))))
  (aj (a_ 3 gy.nd (av 2 G_q6 hr (ab ai (ab ai ag))))
  (aj (a_ 4 gy.nd (av 2 G_q0 hr (ab (ae 3) ag)))
  (aj (eZ (c6 (aE (bG (ab (ae 4) (ab (av 2 G_q14 hr (ab (ae 3) (ab (ae 4) ag))) (ab (av 2 G_q14 hr (ab (ae 3) (ab (ae 4) ag))) (ab (av 2 G_q25 hr ag) ag))))))) (az 5 gy.nd) (aj (v7 6 7 gy.nd (ab (a0 G_q26 hr (ab (ae 3) (ab (ae 5) ag))) (ab (a0 G_q4 hr (ab (ae 3) (ab (ae 5) ag))) ag)))
  (aj (a_ 8 gy.nd (a0 G_q2 hr (ab (ae 3) (ab (ae 5) ag))))
  (aj (cB (j7 (i7 (dJ (cj (e_ .bool m.isinstance m.bool (ae 6)))) (i7 (dJ (cj (e_ .bool m.isinstance m.bool (ae 7)))) (iB (nk hr (ae 6) (ae 8)))))) (au (aH da)) bw)
  (au (cB (nk hr (ae 7) (ix (ae 8) (iH (a0 G_q10 hr (ab (ae 3) (ab (ae 5) ag)))))) (au (aH da)) bw))))))
  (au (cB (Jt.Tu.dt_notT (a0 G_q26 hr (ab (ae 3) (ab (ae 4) ag))) da) (au (aH da)) bw)))))))
  (au (aH da)))
end
end K21
namespace K21
inductive eF (E:List (Nat × Nat)):Nat->Nat->Prop
 | refl (a:Nat):eF E a a
 | step {a b c:Nat}:((a,b) ∈ E ∨ (b,a) ∈ E)->eF E b c->eF E a c
theorem eF.trans {E:List (Nat × Nat)} {a b c:Nat} (h:eF E a b) (g:eF E b c):eF E a c:= by
 induction h with
 | refl=>exact g
 | step e _ ih=>exact .step e (ih g)
theorem eF.one {E:List (Nat × Nat)} {a b:Nat} (h:(a,b) ∈ E ∨ (b,a) ∈ E):eF E a b:=.step h (.refl b)
theorem eF.symm {E:List (Nat × Nat)} {a b:Nat} (h:eF E a b):eF E b a:= by
 induction h with
 | refl=>exact .refl _
 | step e _ ih=>exact ih.trans (.one e.symm)
theorem eF.mono {E F:List (Nat × Nat)} (s:∀ e ∈ E,e ∈ F) {a b:Nat} (h:eF E a b):eF F a b:= by
 induction h with
 | refl=>exact .refl _
 | step e _ ih=>exact .step (e.imp (s _) (s _)) ih
theorem eF.nil {a b:Nat} (h:eF [] a b):a=b:= by
 cases h with
 | refl=>rfl
 | step e _=>rcases e with e | e <;> cases e
theorem qi {E:List (Nat × Nat)} {u v a b:Nat}:eF ((u,v) :: E) a b ↔ eF E a b ∨ (eF E a u∧eF E v b) ∨ (eF E a v∧eF E u b):= by
 constructor
 ·intro h
  induction h with
  | refl=>exact .inl (.refl _)
  | @step a b c e _ ih=>
   have e':(a=u∧b=v) ∨ (a=v∧b=u) ∨ (a,b) ∈ E ∨ (b,a) ∈ E:= by
    rcases e with e | e
    ·rcases List.mem_cons.mp e with e | e
     ·cases e;exact .inl ⟨rfl,rfl⟩
     ·exact .inr (.inr (.inl e))
    ·rcases List.mem_cons.mp e with e | e
     ·cases e;exact .inr (.inl ⟨rfl,rfl⟩)
     ·exact .inr (.inr (.inr e))
   rcases e' with ⟨rfl,rfl⟩ | ⟨rfl,rfl⟩ | e
   ·rcases ih with h | ⟨_,h⟩ | ⟨_,h⟩
    ·exact .inr (.inl ⟨.refl _,h⟩)
    ·exact .inr (.inl ⟨.refl _,h⟩)
    ·exact .inl h
   ·rcases ih with h | ⟨_,h⟩ | ⟨_,h⟩
    ·exact .inr (.inr ⟨.refl _,h⟩)
    ·exact .inl h
    ·exact .inr (.inr ⟨.refl _,h⟩)
   ·rcases ih with h | ⟨h1,h2⟩ | ⟨h1,h2⟩
    ·exact .inl (.step e h)
    ·exact .inr (.inl ⟨.step e h1,h2⟩)
    ·exact .inr (.inr ⟨.step e h1,h2⟩)
 ·have m:∀ e ∈ E,e ∈ (u,v) :: E:=fun e he=>List.mem_cons_of_mem _ he
  have uv:eF ((u,v) :: E) u v:=.one (.inl List.mem_cons_self)
  rintro (h | ⟨h1,h2⟩ | ⟨h1,h2⟩)
  ·exact h.mono m
  ·exact (h1.mono m).trans (uv.trans (h2.mono m))
  ·exact (h1.mono m).trans (uv.symm.trans (h2.mono m))
def CK (f:Nat->Nat) (E:List (Nat × Nat)):Prop:=∀ a b,f a=f b ↔ eF E a b
def Bq (f:Nat->Nat) (u v:Nat):Nat->Nat:=fun a=>if f a=f u then f v else f a
theorem Bh:CK id []:=fun a b=>⟨fun h=>by cases h;exact .refl _,fun h=>h.nil⟩
theorem tU {f:Nat->Nat} {E:List (Nat × Nat)} (L:CK f E) (u v:Nat):CK (Bq f u v) ((u,v) :: E):=fun a b=>by
 rw [qi,<- L a b,<- L a u,<- L v b,<- L a v,<- L u b]
 unfold Bq
 by_cases h1:f a=f u <;> by_cases h2:f b=f u
 ·simp [h1,h2]
 ·simp [h1,h2]
  constructor
  ·exact fun h=>.inr (.inl h)
  ·rintro (h | h | ⟨_,h⟩)
   ·exact absurd h.symm h2
   ·exact h
   ·exact absurd h.symm h2
 ·simp [h1,h2]
 ·have h3:¬ f u=f b:=fun z=>h2 z.symm
  simp [h1,h2,h3]
theorem kQ:∀ E:List (Nat × Nat),∃ f,CK f E
 | []=>⟨id,Bh⟩
 | (u,v) :: E=>by
  obtain ⟨f,L⟩:=kQ E
  exact ⟨_,tU L u v⟩
def uq:List Nat->List Nat
 | []=>[]
 | x :: l=>if x ∈ l then uq l else x :: uq l
theorem dw {a:Nat}:∀ {l:List Nat},a ∈ uq l ↔ a ∈ l
 | []=>Iff.rfl
 | x :: l=>by
  unfold uq
  split
  ·rename_i h
   rw [dw,List.mem_cons]
   exact ⟨.inr,fun z=>z.elim (fun e=>e ▸ h) id⟩
  ·rw [List.mem_cons,dw,List.mem_cons]
theorem mX:∀ l:List Nat,(uq l).Nodup
 | []=>List.nodup_nil
 | x :: l=>by
  unfold uq
  split
  ·exact mX l
  ·rename_i h
   exact List.nodup_cons.mpr ⟨fun z=>h (dw.mp z),mX l⟩
theorem C3:∀ {l:List Nat},l.Nodup->uq l=l
 | [],_=>rfl
 | x :: l,h=>by
  have h:=List.nodup_cons.mp h
  unfold uq
  rw [if_neg h.1,C3 h.2]
def cls (f:Nat->Nat) (V:List Nat):Nat:=(uq (V.map f)).length
theorem j8 {f g:Nat->Nat}:∀ {V:List Nat},(∀ a ∈ V,∀ b ∈ V,f a=f b ↔ g a=g b)->cls f V=cls g V
 | [],_=>rfl
 | x :: V,h=>by
  have ih:=j8 (f:=f) (g:=g) (V:=V) fun a ha b hb=>h a (List.mem_cons_of_mem _ ha) b (List.mem_cons_of_mem _ hb)
  have e:f x ∈ V.map f ↔ g x ∈ V.map g:= by
   rw [List.mem_map,List.mem_map]
   constructor
   ·rintro ⟨y,hy,e⟩
    exact ⟨y,hy,(h y (List.mem_cons_of_mem _ hy) x List.mem_cons_self).mp e⟩
   ·rintro ⟨y,hy,e⟩
    exact ⟨y,hy,(h y (List.mem_cons_of_mem _ hy) x List.mem_cons_self).mpr e⟩
  unfold cls at *
  rw [List.map_cons,List.map_cons]
  unfold uq
  by_cases q:f x ∈ V.map f
  ·rw [if_pos q,if_pos (e.mp q)];exact ih
  ·rw [if_neg q,if_neg fun z=>q (e.mpr z),List.length_cons,List.length_cons,ih]
theorem AV {f:Nat->Nat} {V:List Nat} {u v:Nat} (hu:u ∈ V) (hv:v ∈ V) (h:f u ≠ f v):cls (Bq f u v) V + 1=cls f V:= by
 have p:(uq (V.map (Bq f u v)) ++ [f u]).Perm (uq (V.map f)):= by
  refine (List.perm_ext_iff_of_nodup (List.nodup_append.mpr ⟨mX _,by simp,?_⟩) (mX _)).mpr fun a=>?_
  ·intro a ha b hb e
   rw [List.mem_singleton.mp hb] at e
   subst e
   obtain ⟨y,_,e⟩:=List.mem_map.mp (dw.mp ha)
   unfold Bq at e
   split at e
   ·exact h e.symm
   ·rename_i q;exact q e
  ·rw [List.mem_append,dw,dw,List.mem_map,List.mem_map,List.mem_singleton]
   constructor
   ·rintro (⟨y,hy,e⟩ | rfl)
    ·unfold Bq at e
     split at e
     ·exact ⟨v,hv,e⟩
     ·exact ⟨y,hy,e⟩
    ·exact ⟨u,hu,rfl⟩
   ·rintro ⟨y,hy,rfl⟩
    by_cases q:f y=f u
    ·exact .inr q
    ·exact .inl ⟨y,hy,if_neg q⟩
 have:=p.length_eq
 rw [List.length_append] at this
 exact this
theorem sx {f:Nat->Nat} {V:List Nat}:cls f V ≤ 1 ↔ ∀ a ∈ V,∀ b ∈ V,f a=f b:= by
 constructor
 ·intro h a ha b hb
  have h1:f a ∈ uq (V.map f):=dw.mpr (List.mem_map.mpr ⟨a,ha,rfl⟩)
  have h2:f b ∈ uq (V.map f):=dw.mpr (List.mem_map.mpr ⟨b,hb,rfl⟩)
  unfold cls at h
  match e:uq (V.map f),h with
  | [],_=>rw [e] at h1;cases h1
  | [x],_=>
   rw [e] at h1 h2
   rw [List.mem_singleton.mp h1,List.mem_singleton.mp h2]
  | _ :: _ :: _,h=>simp at h
 ·intro h
  unfold cls
  match e:uq (V.map f) with
  | []=>simp
  | [x]=>simp
  | x :: y :: r=>
   have hx:x ∈ uq (V.map f):=by rw [e];simp
   have hy:y ∈ uq (V.map f):=by rw [e];simp
   obtain ⟨a,ha,ea⟩:=List.mem_map.mp (dw.mp hx)
   obtain ⟨b,hb,eb⟩:=List.mem_map.mp (dw.mp hy)
   have nd:=mX (V.map f)
   rw [e] at nd
   have:=(List.nodup_cons.mp nd).1
   exact absurd (by rw [<- ea,<- eb,h a ha b hb];simp) this
def iG (E:List (Nat × Nat)):Prop:=∀ k,(h:k < E.length)->¬ eF (E.take k) E[k].1 E[k].2
theorem iG.sub {E:List (Nat × Nat)} {p:Nat × Nat->Bool} (h:iG E):iG (E.filter p):= by
 have gen:∀ (F:List (Nat × Nat)),iG F->iG (F.filter p):= by
  intro F
  have rev:∀ (n:Nat) (F:List (Nat × Nat)),F.length=n->iG F->iG (F.filter p):= by
   intro n
   induction n with
   | zero=>
    intro F hl _
    rw [List.eq_nil_of_length_eq_zero hl]
    intro k hk
    simp at hk
   | succ n ih=>
    intro F hl hF
    have hne:F ≠ []:=fun z=>by rw [z] at hl;cases hl
    have e:=List.dropLast_concat_getLast hne
    generalize hG:F.dropLast=G at *
    generalize hx:F.getLast hne=x at *
    have lG:G.length=n:=by rw [<- hG,List.length_dropLast,hl];rfl
    have fG:iG G:=fun k hk z=>by
     have hk':k < F.length:=by omega
     refine hF k hk' ?_
     have e1:F.take k=G.take k:=by rw [<- e,List.take_append_of_le_length (by omega)]
     have e2:F[k]=G[k]:= by
      have:F[k]? = G[k]?:=by rw [<- e,List.getElem?_append_left hk]
      rw [List.getElem?_eq_getElem hk',List.getElem?_eq_getElem hk] at this
      exact Option.some.inj this
     rw [e1,e2];exact z
    have nx:¬ eF G x.1 x.2:=fun z=>by
     have hk':n < F.length:=by omega
     refine hF n hk' ?_
     have e1:F.take n=G:=by rw [<- e,List.take_append_of_le_length (by omega),<- lG,List.take_length]
     have e2:F[n]=x:= by
      have:F[n]? = some x:=by rw [<- e,List.getElem?_append_right (by omega),lG];simp
      rw [List.getElem?_eq_getElem hk'] at this
      exact Option.some.inj this
     rw [e1,e2];exact z
    have ih:=ih G lG fG
    rw [<- e,List.filter_append]
    cases hp:p x with
    | false=>simpa [hp] using ih
    | true=>
     have:[x].filter p=[x]:=by simp [hp]
     rw [this]
     intro k hk
     rw [List.length_append,List.length_singleton] at hk
     by_cases q:k < (G.filter p).length
     ·rw [List.take_append_of_le_length (by omega),List.getElem_append_left q]
      exact ih k q
     ·have:k=(G.filter p).length:=by omega
      subst this
      rw [List.take_append_of_le_length (Nat.le_refl _),List.take_length,List.getElem_append_right (Nat.le_refl _)]
      simp only [Nat.sub_self,List.getElem_cons_zero]
      exact fun z=>nx (z.mono fun e he=>(List.mem_filter.mp he).1)
  exact rev _ F rfl
 exact gen E h
theorem i3 {V:List Nat} (nd:V.Nodup):∀ (E:List (Nat × Nat)) (k:Nat),(∀ e ∈ E,e.1 ∈ V∧e.2 ∈ V)->k ≤ E.length->∀ f,CK f (E.take k)->V.length ≤ cls f V + k∧((∀ j,(h:j < E.length)->j < k->¬ eF (E.take j) E[j].1 E[j].2) ↔ cls f V + k=V.length)
 | E,0,hE,hk,f,L=>by
  have e:cls f V=V.length:= by
   have:=j8 (f:=f) (g:=id) (V:=V) fun a _ b _=>by
    rw [L a b]
    exact ⟨fun h=>by rw [List.take_zero] at h;exact h.nil,fun h=>by cases h;exact .refl _⟩
   rw [this]
   unfold cls
   rw [List.map_id,C3 nd]
  rw [e]
  exact ⟨by omega,⟨fun _=>by omega,fun _ j _ hj=>by omega⟩⟩
 | E,k + 1,hE,hk,f,L=>by
  have hk':k < E.length:=by omega
  obtain ⟨g,Lg⟩:=kQ (E.take k)
  obtain ⟨i1,i2⟩:=i3 nd E k hE (by omega) g Lg
  obtain ⟨mu,mv⟩:=hE _ (List.getElem_mem hk')
  have tk:E.take (k + 1)=E.take k ++ [E[k]]:=List.take_succ_eq_append_getElem hk'
  have L2:=tU Lg E[k].1 E[k].2
  have same:cls f V=cls (Bq g E[k].1 E[k].2) V:=j8 fun a _ b _=>by
   rw [L a b,L2 a b,tk]
   constructor
   ·exact eF.mono fun e he=>by
     rcases List.mem_append.mp he with he | he
     ·exact List.mem_cons_of_mem _ he
     ·rw [List.mem_singleton.mp he];exact List.mem_cons_self
   ·exact eF.mono fun e he=>by
     rcases List.mem_cons.mp he with he | he
     ·rw [he];exact List.mem_append.mpr (.inr (List.mem_singleton.mpr rfl))
     ·exact List.mem_append.mpr (.inl he)
  by_cases q:g E[k].1=g E[k].2
  ·have e:Bq g E[k].1 E[k].2=g:= by
    funext a
    unfold Bq
    split
    ·rename_i z;rw [z,q]
    ·rfl
   rw [same,e]
   refine ⟨by omega,⟨fun h=>absurd ((Lg _ _).mp q) (h k hk' (by omega)),fun h=>by omega⟩⟩
  ·have c:=AV (f:=g) mu mv q
   rw [same]
   refine ⟨by omega,?_⟩
   constructor
   ·intro h
    have:=i2.mp fun j hj hjk=>h j hj (by omega)
    omega
   ·intro h j hj hjk
    by_cases e:j=k
    ·subst e
     exact fun z=>q ((Lg _ _).mpr z)
    ·exact i2.mpr (by omega) j hj (by omega)
theorem hR {V:List Nat} (nd:V.Nodup) {E:List (Nat × Nat)} (hE:∀ e ∈ E,e.1 ∈ V∧e.2 ∈ V) {f:Nat->Nat} (L:CK f E):V.length ≤ cls f V + E.length∧(iG E ↔ cls f V + E.length=V.length):= by
 have h:=i3 nd E E.length hE (Nat.le_refl _) f (by rw [List.take_length];exact L)
 exact ⟨h.1,⟨fun z=>h.2.mp fun j hj _=>z j hj,fun z j hj=>h.2.mpr z j hj hj⟩⟩
def Ht (E:List (Nat × Nat)) (V:List Nat):Prop:=∀ a ∈ V,∀ b ∈ V,eF E a b
theorem t6 {E:List (Nat × Nat)} {V:List Nat} {f:Nat->Nat} (L:CK f E):Ht E V ↔ cls f V ≤ 1:= by
 rw [sx]
 exact ⟨fun h a ha b hb=>(L a b).mpr (h a ha b hb),fun h a ha b hb=>(L a b).mp (h a ha b hb)⟩
theorem A_ {f:Nat->Nat} {V:List Nat} (h:V ≠ []):1 ≤ cls f V:= by
 unfold cls
 cases V with
 | nil=>exact absurd rfl h
 | cons x V=>
  refine List.length_pos_of_mem (a:=f x) (dw.mpr ?_)
  simp
theorem wH {V:List Nat} (nd:V.Nodup) (hne:V ≠ []) {E:List (Nat × Nat)} (hE:∀ e ∈ E,e.1 ∈ V∧e.2 ∈ V) (hl:E.length + 1=V.length):iG E ↔ Ht E V:= by
 obtain ⟨f,L⟩:=kQ E
 have h:=hR nd hE L
 have p:=A_ (f:=f) hne
 rw [h.2,t6 L]
 omega
theorem sh {V:List Nat} (nd:V.Nodup) {E:List (Nat × Nat)} (hE:∀ e ∈ E,e.1 ∈ V∧e.2 ∈ V) (hF:iG E):V.length ≤ E.length + 1 ↔ Ht E V:= by
 obtain ⟨f,L⟩:=kQ E
 have h:=(hR nd hE L).2.mp hF
 rw [t6 L]
 omega
end K21
namespace K21
abbrev Pr:=Nat × Nat
theorem ug {E:List Pr} {e:Pr} (h:e ∈ E):eF E e.1 e.2:=.one (.inl h)
theorem um:iG []:=fun k h=>absurd h (by simp)
theorem yZ {A B:List Pr} (h:iG (A ++ B)):iG A:=fun k hk=>by
 have:=h k (by simp;omega)
 rw [List.take_append_of_le_length (by omega),List.getElem_append_left hk] at this
 exact this
theorem p6 {T:List Pr} {e:Pr}:iG (T ++ [e]) ↔ iG T∧¬ eF T e.1 e.2:= by
 constructor
 ·intro h
  refine ⟨yZ h,?_⟩
  have:=h T.length (by simp)
  rw [List.take_append_of_le_length (Nat.le_refl _),List.take_length,List.getElem_append_right (Nat.le_refl _)] at this
  simpa using this
 ·rintro ⟨h1,h2⟩ k hk
  by_cases hk':k < T.length
  ·rw [List.take_append_of_le_length (by omega),List.getElem_append_left hk']
   exact h1 k hk'
  ·have:k=T.length:=by simp at hk;omega
   subst this
   rw [List.take_append_of_le_length (Nat.le_refl _),List.take_length,List.getElem_append_right (Nat.le_refl _)]
   simpa using h2
def ends (E:List Pr):List Nat:=uq (E.map (·.1) ++ E.map (·.2))
theorem qM {E:List Pr} {e:Pr} (h:e ∈ E):e.1 ∈ ends E∧e.2 ∈ ends E :=
 ⟨dw.mpr (List.mem_append.mpr (.inl (List.mem_map.mpr ⟨e,h,rfl⟩))),dw.mpr (List.mem_append.mpr (.inr (List.mem_map.mpr ⟨e,h,rfl⟩)))⟩
theorem xW {E F:List Pr} (p:E.Perm F) (h:iG E):iG F:= by
 obtain ⟨f,Lf⟩:=kQ E
 have Lg:CK f F:=fun a b=>(Lf a b).trans ⟨eF.mono fun e he=>p.mem_iff.mp he,eF.mono fun e he=>p.mem_iff.mpr he⟩
 have nd:(ends E).Nodup:=mX _
 have c1:=(hR nd (fun e he=>qM he) Lf).2.mp h
 refine (hR nd (fun e he=>qM (p.mem_iff.mpr he)) Lg).2.mpr ?_
 rw [<- p.length_eq];exact c1
open Classical in
def wt (w:Pr->Int) (L:List Pr):Int:=(L.map w).sum
end K21
namespace K21
def subs:Nat->List Pr->List (List Pr)
 | 0,_=>[[]]
 | k + 1,[]=>[]
 | k + 1,e :: r=>(subs k r).map (e :: ·) ++ subs (k + 1) r
section
variable (w:Pr->Int) (M:List Pr->Int)
open Classical in
end
section
variable {w:Pr->Int} {SL PL:List Pr} {n:Nat}
def Pk (w:Pr->Int) (T:List Pr) (d:Int) (X:List Pr):Prop:=iG (T ++ X)∧wt w X=d
open Classical in
def HR (w:Pr->Int) (T:List Pr) (d:Int) (k:Nat) (R:List Pr):Option (List Pr):=((subs k R).filter fun X=>decide (Pk w T d X)).head?
open Classical in
end
end K21
namespace K21
section
variable {hs:List (List Int)} {M:Nat} {t:List Pr}
def co (hs:List (List Int)) (c i:Nat):Bool:=decide ((c:Int) ∈ hs.getD i [])
def wh (hs:List (List Int)) (e:Pr):Int:=(((hs.getD e.1 []).filter fun x=>decide (x ∈ hs.getD e.2 [])).length:Nat)
def vc (hs:List (List Int)) (c:Nat):List Nat:=(List.range hs.length).filter fun i=>co hs c i
def ec (hs:List (List Int)) (t:List Pr) (c:Nat):List Pr:=t.filter fun e=>co hs c e.1 && co hs c e.2
end
def stH (sm f:List Nat) (e:Pr):List Nat:=if (decide (e.1 ∈ f) != decide (e.2 ∈ f)) && decide (e.1 ∈ sm) && decide (e.2 ∈ sm) then f ++ [if e.1 ∈ f then e.2 else e.1] else f
def rdH (sm:List Nat) (P:List Pr) (f:List Nat):List Nat:=P.foldl (stH sm) f
def mR (sm:List Nat) (P:List Pr):Nat->List Nat->List Nat
 | 0,f=>f
 | k + 1,f=>rdH sm P (mR sm P k f)
def dM (P:List Pr) (sm:List Nat):Bool:=if sm=[] then true else (mR sm P sm.length (sm.take 1)).length == sm.length
section
variable {sm:List Nat} {P:List Pr}
theorem zC (f:List Nat) (e:Pr):f.length ≤ (stH sm f e).length∧((stH sm f e).length=f.length->stH sm f e=f):= by
 unfold stH
 split
 ·simp
 ·exact ⟨Nat.le_refl _,fun _=>rfl⟩
theorem tR:∀ (P:List Pr) (f:List Nat),f.length ≤ (rdH sm P f).length∧((rdH sm P f).length=f.length->rdH sm P f=f∧∀ e ∈ P,stH sm f e=f)
 | [],f=>⟨Nat.le_refl _,fun _=>⟨rfl,fun e he=>(nomatch he)⟩⟩
 | e :: r,f=>by
  have h1:=zC (sm:=sm) f e
  have h2:=tR r (stH sm f e)
  have e0:rdH sm (e :: r) f=rdH sm r (stH sm f e):=rfl
  rw [e0]
  refine ⟨by omega,fun h=>?_⟩
  have k1:=h1.2 (by omega)
  rw [k1] at h2 h ⊢
  have k2:=h2.2 h
  exact ⟨k2.1,fun x hx=>by
   rcases List.mem_cons.mp hx with rfl | hx
   ·exact k1
   ·exact k2.2 x hx⟩
theorem yf:∀ {P:List Pr} {f:List Nat},(∀ e ∈ P,stH sm f e=f)->rdH sm P f=f
 | [],f,_=>rfl
 | e :: r,f,h=>by
  show rdH sm r (stH sm f e)=f
  rw [h e List.mem_cons_self]
  exact yf fun x hx=>h x (List.mem_cons_of_mem _ hx)
theorem tm (P:List Pr) (f:List Nat):∀ k,(∀ e ∈ P,stH sm (mR sm P k f) e=mR sm P k f) ∨ f.length + k ≤ (mR sm P k f).length
 | 0=>.inr (Nat.le_refl _)
 | k + 1=>by
  show (∀ e ∈ P,stH sm (rdH sm P (mR sm P k f)) e=rdH sm P (mR sm P k f)) ∨ _ ≤ (rdH sm P (mR sm P k f)).length
  rcases tm P f k with h | h
  ·rw [yf h];exact .inl h
  ·have h2:=tR (sm:=sm) P (mR sm P k f)
   by_cases q:(rdH sm P (mR sm P k f)).length=(mR sm P k f).length
   ·obtain ⟨a,b⟩:=h2.2 q
    rw [a];exact .inl b
   ·exact .inr (by omega)
def both (sm:List Nat) (P:List Pr):List Pr:=P.filter fun e=>decide (e.1 ∈ sm) && decide (e.2 ∈ sm)
structure JH (sm:List Nat) (P:List Pr) (x:Nat) (f:List Nat):Prop where
 nd:f.Nodup
 sub:∀ a ∈ f,a ∈ sm
 root:x ∈ f
 rch:∀ a ∈ f,eF (both sm P) x a
theorem JH.st {x:Nat} {f:List Nat} {e:Pr} (h:JH sm P x f) (he:e ∈ P):JH sm P x (stH sm f e):= by
 unfold stH
 split
 ·rename_i c
  simp only [Bool.and_eq_true,bne_iff_ne,ne_eq,decide_eq_true_eq,decide_eq_decide] at c
  have hb:e ∈ both sm P:=List.mem_filter.mpr ⟨he,by simp [c.1.2,c.2]⟩
  by_cases q:e.1 ∈ f
  ·have q2:e.2 ∉ f:=fun z=>c.1.1 ⟨fun _=>z,fun _=>q⟩
   rw [if_pos q]
   refine ⟨?_,fun a ha=>?_,List.mem_append.mpr (.inl h.root),fun a ha=>?_⟩
   ·exact List.nodup_append.mpr ⟨h.nd,by simp,fun a ha b hb z=>q2 (by rw [List.mem_singleton.mp hb] at z;exact z ▸ ha)⟩
   ·rcases List.mem_append.mp ha with z | z
    ·exact h.sub a z
    ·rw [List.mem_singleton.mp z];exact c.2
   ·rcases List.mem_append.mp ha with z | z
    ·exact h.rch a z
    ·rw [List.mem_singleton.mp z];exact (h.rch _ q).trans (ug hb)
  ·have q2:e.2 ∈ f:= by
    by_cases z:e.2 ∈ f
    ·exact z
    ·exact absurd ⟨fun y=>absurd y q,fun y=>absurd y z⟩ c.1.1
   rw [if_neg q]
   refine ⟨?_,fun a ha=>?_,List.mem_append.mpr (.inl h.root),fun a ha=>?_⟩
   ·exact List.nodup_append.mpr ⟨h.nd,by simp,fun a ha b hb z=>q (by rw [List.mem_singleton.mp hb] at z;exact z ▸ ha)⟩
   ·rcases List.mem_append.mp ha with z | z
    ·exact h.sub a z
    ·rw [List.mem_singleton.mp z];exact c.1.2
   ·rcases List.mem_append.mp ha with z | z
    ·exact h.rch a z
    ·rw [List.mem_singleton.mp z];exact (h.rch _ q2).trans (ug hb).symm
 ·exact h
theorem JH.rd {x:Nat}:∀ {Q:List Pr} {f:List Nat},(∀ e ∈ Q,e ∈ P)->JH sm P x f->JH sm P x (rdH sm Q f)
 | [],f,_,h=>h
 | e :: r,f,hq,h=>JH.rd (Q:=r) (fun y hy=>hq y (List.mem_cons_of_mem _ hy)) (h.st (hq e List.mem_cons_self))
theorem JH.it {x:Nat} {f:List Nat} (h:JH sm P x f):∀ k,JH sm P x (mR sm P k f)
 | 0=>h
 | k + 1=>JH.rd (fun _ z=>z) (JH.it h k)
theorem uH {a b:List Nat} (nd:a.Nodup) (h:∀ x ∈ a,x ∈ b):a.length ≤ b.length:= by
 induction a generalizing b with
 | nil=>exact Nat.zero_le _
 | cons x r ih=>
  have n:=List.nodup_cons.mp nd
  have hx:x ∈ b:=h x List.mem_cons_self
  have:=ih (b:=b.erase x) n.2 fun y hy=>(List.mem_erase_of_ne (show y ≠ x from fun z=>n.1 (z ▸ hy))).mpr (h y (List.mem_cons_of_mem _ hy))
  rw [List.length_erase_of_mem hx] at this
  have p:=List.length_pos_of_mem hx
  rw [List.length_cons]
  omega
theorem Fw {a b:List Nat} (nd:a.Nodup) (h:∀ x ∈ a,x ∈ b) (hl:b.length ≤ a.length):∀ x ∈ b,x ∈ a:=fun x hx=>by
 by_cases q:x ∈ a
 ·exact q
 ·have:=uH (a:=x :: a) (b:=b) (List.nodup_cons.mpr ⟨q,nd⟩) fun y hy=>by
   rcases List.mem_cons.mp hy with rfl | hy
   ·exact hx
   ·exact h y hy
  rw [List.length_cons] at this
  omega
theorem tL (nd:sm.Nodup):dM P sm=true ↔ Ht (both sm P) sm:= by
 unfold dM
 split
 ·rename_i e
  subst e
  exact ⟨fun _ a ha=>(nomatch ha),fun _=>rfl⟩
 ·rename_i ne
  obtain ⟨x,r,rfl⟩:∃ x r,sm=x :: r:= by
   cases sm with
   | nil=>exact absurd rfl ne
   | cons x r=>exact ⟨x,r,rfl⟩
  have j0:JH (x :: r) P x ((x :: r).take 1):=⟨by simp,fun a ha=>by
   have:a=x:=by simpa using ha
   rw [this];exact List.mem_cons_self,by simp,fun a ha=>by
   have:a=x:=by simpa using ha
   rw [this];exact .refl _⟩
  have j:=j0.it (x :: r).length
  have le:=uH j.nd j.sub
  have closed:∀ e ∈ P,stH (x :: r) (mR (x :: r) P (x :: r).length ((x :: r).take 1)) e=mR (x :: r) P (x :: r).length ((x :: r).take 1):= by
   rcases tm (sm:=x :: r) P ((x :: r).take 1) (x :: r).length with h | h
   ·exact h
   ·have:((x :: r).take 1).length=1:=by simp
    omega
  generalize mR (x :: r) P (x :: r).length ((x :: r).take 1)=f at j le closed
  rw [beq_iff_eq]
  have cl:∀ a b,eF (both (x :: r) P) a b->a ∈ f->b ∈ f:= by
   intro a b h
   induction h with
   | refl a=>exact id
   | step z _ ih=>
    rename_i a b c
    intro ha
    refine ih ?_
    have edge:∀ e ∈ both (x :: r) P,(e.1 ∈ f ↔ e.2 ∈ f):=fun e he=>by
     obtain ⟨h1,h2⟩:=List.mem_filter.mp he
     have hc:=closed e h1
     unfold stH at hc
     split at hc
     ·have:=congrArg List.length hc
      simp at this
     ·rename_i nc
      simp only [Bool.and_eq_true,decide_eq_true_eq] at h2
      simp only [h2.1,h2.2,decide_true,Bool.and_true,bne_iff_ne,ne_eq,decide_eq_decide,Decidable.not_not] at nc
      exact nc
    rcases z with z | z
    ·exact (edge _ z).mp ha
    ·exact (edge _ z).mpr ha
  constructor
  ·intro e a ha b hb
   have all:=Fw j.nd j.sub (by omega)
   exact (j.rch a (all a ha)).symm.trans (j.rch b (all b hb))
  ·intro h
   have:(x :: r).length ≤ f.length:=uH nd fun a ha=>cl x a (h x List.mem_cons_self a ha) j.root
   omega
end
end K21
namespace K21
open PySem L2 Jt
def hD (h:List Int):D:=.tup (h.map .int)
def cb (m:Int) (hs:List (List Int)):D:=.tup [.int m,.tup (hs.map hD)]
def lD (ls:List Nat):List D:=ls.map fun (i:Nat)=>.int (i:Int)
def G (hs:List (List Int)) (i:Nat):List Int:=hs.getD i []
theorem vh (h:List Int):k8 (h.map .int)=some (h.map V.int):= by
 induction h with
 | nil=>rfl
 | cons a r ih=>simp [k8,flat,ih]
theorem AI (c:Int) (h:List Int):FJ (.int c) (h.map V.int)=decide (c ∈ h):= by
 induction h with
 | nil=>rfl
 | cons a r ih=>
  show (a == c || FJ (.int c) (r.map V.int))=_
  rw [ih]
  by_cases e:c=a
  ·subst e;simp
  ·simp [e,Ne.symm e]
theorem qG (neg:Bool) (c:Int) (h:List Int):lA neg (.int c) (hD h)=some (.bl (if neg then !decide (c ∈ h) else decide (c ∈ h))):= by
 simp [lA,hD,gm,flat,vh,AI]
theorem km (h:List Int):bh (hD h)=some (aW (h.map .int)):=rfl
theorem dR {α:Type} (f:α->Bool) (as:List α):boolsOf (as.map fun a=>.bl (f a))=some (as.map f):= by
 induction as with
 | nil=>rfl
 | cons a r ih=>simp [boolsOf,ih]
theorem cV {α:Type} (xs:List α) (i:Nat) (h:i < xs.length):ju xs (i:Int)=some xs[i]:= by
 have h1:(i:Int) < xs.length:=by omega
 simp [ju,q0,h1,h]
theorem Ft {hs:List (List Int)} {i:Nat} (h:i < hs.length):cT (.tup (hs.map hD)) (.int (i:Int))=some (hD (G hs i)):= by
 show ju _ _=_
 rw [cV _ _ (by simpa using h)]
 simp [G,h]
theorem fJ (m:Int) (hs:List (List Int)):cT (cb m hs) (.int 1)=some (.tup (hs.map hD)):=rfl
theorem qf (m:Int) (hs:List (List Int)):cT (cb m hs) (.int 0)=some (.int m):=rfl
theorem AX (neg:Bool) (a b:Int):iL neg (.int a) (.int b)=some (.bl (if neg then !decide (a=b) else decide (a=b))):= by
 exact D2 neg a b
theorem jW (neg:Bool) (a b:Nat):iL neg (.int (a:Int)) (.int (b:Int))=some (.bl (if neg then !decide (a=b) else decide (a=b))):= by
 rw [AX]
 simp only [Int.natCast_inj,show ((a:Int)=(b:Int))=(a=b) from propext Int.ofNat_inj]
theorem eO (neg:Bool) (xs:List D):iL neg (.lst xs) (.lst [])=some (.bl (if neg then !xs.isEmpty else xs.isEmpty)):= by
 cases xs <;> simp [iL,jN,cJ,cJ.go]
theorem k7 (n:Nat):bF 0 n=lD (List.range n):= by
 simp [bF,lD]
theorem fP (n i:Nat) (h:i < (bF 0 n).length):(bF 0 n)[i]=.int (i:Int):=by simp [bF]
variable {hs:List (List Int)} {ls:List Nat} {x:D}
theorem sE {i j:Int} (h:-(2 ^ 64) < j) (h2:j < 2 ^ 64):lJ (.int i) (.int j)=some (.int (i * j)):= by
 show (if ((decide (-(2 ^ 64) < i) && decide (i < 2 ^ 64)) || (decide (-(2 ^ 64) < j) && decide (j < 2 ^ 64)))=true then _ else _)=_
 rw [if_pos (by rw [decide_eq_true h,decide_eq_true h2];simp)]
def dQ (m:Int) (h:List Int):Prop:=h ≠ []∧h.Pairwise (· < ·)∧∀ c ∈ h,0 ≤ c∧c < m
theorem nT:∀ (l:List Int) (lo hi:Int),l.Pairwise (· < ·)->(∀ y ∈ l,lo ≤ y∧y < hi)->lo ≤ hi->(l.length:Int) ≤ hi - lo
 | [],lo,hi,_,_,h=>by simp;omega
 | z :: t,lo,hi,hp,hb,h=>by
  rw [List.pairwise_cons] at hp
  have hz:=hb z List.mem_cons_self
  have:=nT t (z + 1) hi hp.2 (fun y hy=>⟨by have:=hp.1 y hy;omega,(hb y (List.mem_cons_of_mem _ hy)).2⟩) (by omega)
  rw [List.length_cons];omega
theorem dQ.len {m:Int} {h:List Int} (H:dQ m h) (h1:1 ≤ m) (hm:m ≤ 7):h.length ≤ 7:= by
 have:=nT h 0 m H.2.1 H.2.2 (by omega)
 omega
theorem kl {l:List Int} (h:l.Nodup):(cN l).Pairwise (· < ·):= by
 refine ((kE l).and ((d4 l).nodup_iff.mpr h)).imp fun {a b} h=>?_
 have:=h.1
 have:=h.2
 omega
theorem je {a:Int} {l:List Int}:a ∈ cN l ↔ a ∈ l:=(d4 l).mem_iff
def LQ (d:D) (xs:List D):Prop:=∃ (m:Int) (hs:List (List Int)) (n:Int),d=cb m hs∧xs=[.int n]∧1 ≤ hs.length∧hs.length ≤ 6∧(1 ≤ m∧m ≤ 7)∧∀ h ∈ hs,dQ m h
theorem gZ (h:List Int):cq (h.map .int)=some h:= by
 induction h with
 | nil=>rfl
 | cons a r ih=>simp [cq,ih]
theorem mm (h:List Int):(cN h).length=h.length:=(d4 h).length_eq
theorem oi (neg:Bool) (xs:List D):GF neg (.lst xs) (.lst [])=some (.bl (if neg then !xs.isEmpty else xs.isEmpty)):=eO neg xs
theorem yN (hs:List (List Int)) (n:Int) (hp:0 < hs.length):∃ h ∈ hs,cT (.lst (hs.map hD)) (.int (n % (hs.length:Int)))=some (hD h):= by
 have h1:=Int.emod_nonneg n (show (hs.length:Int) ≠ 0 by omega)
 have h2:=Int.emod_lt_of_pos n (show (0:Int) < hs.length by omega)
 obtain ⟨j,hj⟩:∃ j:Nat,n % (hs.length:Int)=(j:Int):=⟨(n % (hs.length:Int)).toNat,by omega⟩
 have hlt:j < hs.length:=by omega
 refine ⟨hs[j],List.getElem_mem hlt,?_⟩
 rw [hj]
 show ju _ _=_
 rw [cV _ _ (by simpa using hlt)]
 simp
theorem jo {α β:Type} (f:α->β):∀ (l:List α) (j:Nat),(l.map f).eraseIdx j=(l.eraseIdx j).map f
 | [],_=>rfl
 | _ :: _,0=>rfl
 | a :: r,j + 1=>by
  show f a :: (r.map f).eraseIdx j=f a :: (r.eraseIdx j).map f
  rw [jo f r j]
theorem c7 (xs:List D):cx [.lst xs]=some (.tup xs):=rfl
def isInt:D->Bool
 | .int _=>true
 | _=>false
def eS (n:Int):D->Bool
 | .int i=>decide (0 ≤ i) && decide (i < n)
 | _=>false
theorem vX (x:D):aO uA p_ [x]=some (.bl (isInt x)):= by
 apply ba
 show Ok p_ [.pu x] _
 unfold p_
 cases x <;> simp [bx,lr,isInt]
theorem pB (x:D):aO pz mU [x]=some (.bl (isInt x)):= by
 apply ba
 show Ok mU [.pu x] _
 unfold mU
 cases x <;> simp [bx,lr,isInt]
theorem CW (x:D) (n:Int):aO m9 kJ [x,.int n]=some (.bl (eS n x)):= by
 apply ba
 show Ok kJ [.pu x,.pu (.int n)] _
 unfold kJ
 cases x with
 | int i=>
  by_cases h:0 ≤ i
  ·simp [aR,vX,isInt,eS,FC,rb,bT,h]
  ·simp [aR,vX,isInt,eS,FC,rb,bT,h]
 | _=>simp [aR,vX,isInt,eS]
def gC (n:Int):D->Bool
 | .tup xs=>xs.all (eS n)
 | _=>false
def Short (x:D):Prop:=∀ xs,x=.tup xs->xs.length ≤ 60
theorem Gw {x:D} (n:Int) (h:Short x):aO mJ qN [x,.int n]=some (.bl (gC n x)):= by
 apply ba
 show Ok qN [.pu x,.pu (.int n)] _
 unfold qN
 cases x with
 | tup xs=>
  have hl:=h xs rfl
  simp [bx,lr]
  refine bP xs id (fun x=>some (.bl (eS n x))) rfl ?_ (by omega) (fun x hx=>?_) ?_
  ·simp [bh]
  ·simp [aR,CW]
  ·simp [gi,dR,List.filterMap_eq_map,gC,Function.comp_def]
 | _=>simp [bx,lr,gC]
theorem rZ (ls:List Nat):(lD ls).length=ls.length:=by simp [lD]
variable {hs:List (List Int)} {ls:List Nat}
theorem lg (xs:List D) (k:Nat):cutD xs none (some (k:Int))=xs.take k:= by
 unfold cutD
 rw [show HT.sIx xs.length 0 none=0 from rfl,HT.sIx_nat,List.drop_zero,Nat.sub_zero]
 rw [List.take_eq_take_iff]
 omega
theorem A7 (ls:List Nat) (k:Nat):(lD ls).take k=lD (ls.take k):=by simp [lD,List.map_take]
variable {hs:List (List Int)} {ls:List Nat}
theorem y3 (n:Nat):∀ (a b:List Int),cJ.go (n + 1) (a.map D.int) (b.map D.int)=some (decide (a.take b.length=b.take a.length)):= by
 intro a
 induction a with
 | nil=>intro b;cases b <;> simp [cJ.go]
 | cons x r ih=>
  intro b
  cases b with
  | nil=>simp [cJ.go]
  | cons y t=>
   by_cases e:x=y
   ·subst e
    simp [cJ.go,cJ,flat,vN,ih]
   ·simp [cJ.go,cJ,flat,vN,e,ih]
theorem sf (neg:Bool) (k:Nat) (ls:List Nat):lA neg (.int (k:Int)) (.tup (lD ls))=some (.bl (if neg then !decide (k ∈ ls) else decide (k ∈ ls))):= by
 have:lD ls=(ls.map fun (i:Nat)=>(i:Int)).map .int:=by simp [lD]
 have e:=qG neg k (ls.map fun (i:Nat)=>(i:Int))
 unfold hD at e
 rw [this,e]
 have:((k:Int) ∈ ls.map fun (i:Nat)=>(i:Int))=(k ∈ ls):= by
  refine propext ⟨fun h=>?_,fun h=>List.mem_map.mpr ⟨k,h,rfl⟩⟩
  obtain ⟨i,hi,e⟩:=List.mem_map.mp h
  rw [<- Int.ofNat_inj.mp e];exact hi
 simp only [this]
variable {hs:List (List Int)} {ls:List Nat}
theorem oG (xs:List D) (n:Int) (h:0 < xs.length):∃ d ∈ xs,cT (.lst xs) (.int (n % (xs.length:Int)))=some d:= by
 have h1:=Int.emod_nonneg n (show (xs.length:Int) ≠ 0 by omega)
 have h2:=Int.emod_lt_of_pos n (show (0:Int) < xs.length by omega)
 obtain ⟨j,hj⟩:∃ j:Nat,n % (xs.length:Int)=(j:Int):=⟨(n % (xs.length:Int)).toNat,by omega⟩
 have hlt:j < xs.length:=by omega
 refine ⟨xs[j],List.getElem_mem hlt,?_⟩
 rw [hj]
 show ju _ _=_
 rw [cV _ _ hlt]
variable {hs:List (List Int)} {ls:List Nat}
theorem u4 (xs ys:List D) (h1:xs.length ≤ 100) (h2:ys.length ≤ 100):c_ (.tup xs) (.tup ys)=some (.tup (xs ++ ys)):= by
 show (if xs.length + ys.length ≤ 100000 then _ else _)=_
 rw [if_pos (by omega)]
theorem mw {xs:List D} (h:xs.length ≤ 60):Short (.tup xs):=fun ys e=>by cases e;exact h
end K21
namespace K21
open PySem L2 Jt
open Builtin.Int (intBits)
theorem rL (ns:List Int) (hb:∀ i ∈ ns,intBits i ≤ 2 ^ 20) (k:Nat) (hk:k < 100):∃ c:Int,aO tW lb [.lst (ns.map .int),.int k]=some (.int c)∧intBits c ≤ 2 ^ 20:= by
 by_cases h:k < ns.length
 ·refine ⟨ns[k],ba ?_,hb _ (List.getElem_mem h)⟩
  show Ok lb [.pu (.lst (ns.map .int)),.pu (.int k)] _
  unfold lb
  have e:cT (.lst (ns.map .int)) (.int (k:Int))=some (.int ns[k]):= by
   show ju _ _=_
   rw [cV _ _ (by simpa using h)]
   simp
  simp [bu,rb,bT,h,e]
 ·refine ⟨6151 * (k:Int) + 29,ba ?_,?_⟩
  ·show Ok lb [.pu (.lst (ns.map .int)),.pu (.int k)] _
   unfold lb
   simp [bu,rb,bT,h,lJ,cG]
  ·exact Nat.le_trans (intBits_le_64 (by omega) (by omega)) (by decide)
theorem qH {i j:Int} (h:intBits i + intBits j ≤ 134217728):mE (.int i) (.int j)=some (.int (i * j)):= by
 show (if decide (intBits i + intBits j ≤ 134217728)=true then _ else _)=_
 rw [decide_eq_true h];rfl
theorem u9 {c:Int} (hc:intBits c ≤ 2 ^ 20) (k:Nat) (hk:k < 100):∃ n:Int,aO qC mq [.int c,.int k]=some (.int n):= by
 have key:∃ d,aO qC mq [.int c,.int k]=some d∧∃ n,d=.int n:= by
  apply oy
  show Ok mq [.pu (.int c),.pu (.int k),.un] _
  unfold mq
  have s1:∀ z:Int,-(2 ^ 63) < z->z < 2 ^ 63->intBits z ≤ 64:=fun z h1 h2=>intBits_le_64 (by omega) (by omega)
  have e1:lJ (.int (c + 1)) (.int 40692)=some (.int ((c + 1) * 40692)):=sE (by omega) (by omega)
  have e2:lJ (.int 104729) (.int (k:Int))=some (.int (104729 * (k:Int))):=sE (by omega) (by omega)
  have b1:=PyProof.Rows.bits_add hc (s1 1 (by omega) (by omega))
  have b2:=PyProof.Rows.bits_mul b1 (s1 40692 (by omega) (by omega))
  have b3:=PyProof.Rows.bits_add b2 (s1 (104729 * (k:Int)) (by omega) (by omega))
  have e3:mE (.int ((c + 1) * 40692 + 104729 * (k:Int))) (.int ((c + 1) * 40692 + 104729 * (k:Int)))=some (.int (((c + 1) * 40692 + 104729 * (k:Int)) * ((c + 1) * 40692 + 104729 * (k:Int)))):=qH (Nat.le_trans (Nat.add_le_add b3 b3) (by decide))
  have g1:=Int.emod_nonneg (((c + 1) * 40692 + 104729 * (k:Int)) * ((c + 1) * 40692 + 104729 * (k:Int))) (show (2147483399:Int) ≠ 0 by omega)
  have g2:=Int.emod_lt_of_pos (((c + 1) * 40692 + 104729 * (k:Int)) * ((c + 1) * 40692 + 104729 * (k:Int))) (show (0:Int) < 2147483399 by omega)
  simp only [br,cM,dC,aZ,ar,List.getElem?_cons_zero,List.getElem?_cons_succ,Option.some.injEq,Jt.Slot.pu.injEq,exists_eq_left',cG,bT,if_true,aV,e1,e2]
  refine ⟨by simp,?_⟩
  simp only [List.set_cons_succ,List.set_cons_zero,List.getElem?_cons_zero,List.getElem?_cons_succ,Option.some.injEq,Jt.Slot.pu.injEq,exists_eq_left',dC,aZ,e3,aV,ar,ql,bT]
  generalize (((c + 1) * 40692 + 104729 * (k:Int)) * ((c + 1) * 40692 + 104729 * (k:Int))) % 2147483399=z at g1 g2 ⊢
  have e4:mE (.int (z + k)) (.int (z + k + 31))=some (.int ((z + k) * (z + k + 31))):=qH (Nat.le_trans (Nat.add_le_add (s1 (z + k) (by omega) (by omega)) (s1 (z + k + 31) (by omega) (by omega))) (by decide))
  simp [e4,cG,bT]
 obtain ⟨d,e,n,rfl⟩:=key
 exact ⟨n,e⟩
theorem vO (ns:List Int) (hb:∀ i ∈ ns,intBits i ≤ 2 ^ 20) (k:Nat) (hk:k < 100):∃ n:Int,oh qp m_ [.lst (ns.map .int),.int k]=some [.int n]:= by
 obtain ⟨c,ec,bc⟩:=rL ns hb k hk
 have:∃ d,oh qp m_ [.lst (ns.map .int),.int k]=some d∧∃ c,d=[.int c]:= by
  apply zv
  show Ok m_ [.pu (.lst (ns.map .int)),.pu (.int k),.un,.un,.un] _
  unfold m_
  simp [aR,ec,ql,Ff,bT,cX]
  by_cases h:c % 2=0
  ·simp [h]
  ·simp [h,cC,bg]
   refine sA (bF 0 24) (fun _ δ=>∃ a x,δ=[.pu (.lst (ns.map .int)),.pu (.int k),.pu (.int c),.pu (.int a),x]) ?_ (fun i hk δ hI=>?_) (fun δ hI=>?_)
   ·exact ⟨_,_,rfl⟩
   ·obtain ⟨a,x,rfl⟩:=hI
    have hk':i < 24:=by simpa [bF] using hk
    have e4:∀ z:Int,lJ (.int z) (.int 2147483647)=some (.int (z * 2147483647)):=fun z=>sE (by omega) (by omega)
    obtain ⟨m,em⟩:=u9 bc i (by omega)
    rw [fP]
    simp [e4,aR,em,cG,bT]
   ·obtain ⟨a,x,rfl⟩:=hI
    simp
 obtain ⟨d,e,c,rfl⟩:=this
 exact ⟨c,e⟩
theorem aB (n j:Int) (h:0 < j) (h2:j < 1073741824):aY bL bJ [.int n] [.int j]=some (.int (n % j),[.int (n / j)]):= by
 have:∃ d xs',aY bL bJ [.int n] [.int j]=some (d,xs')∧(d=.int (n % j)∧xs' = [.int (n / j)]):= by
  apply dW
  show Ok bJ [.ow true [.int n],.pu (.int j),.un,.un] _
  unfold bJ
  simp [iY,cT,ju,q0,h,h2]
 obtain ⟨d,xs',e,rfl,rfl⟩:=this
 exact e
def Up (M k:Nat) (cs:List Int):Prop:=cs.Pairwise (· < ·)∧∀ c ∈ cs,0 ≤ c∧c < (k:Int)∧c < (M:Int)
theorem Up.snoc {M k:Nat} {cs:List Int} (h:Up M k cs) (hk:k < M):Up M (k + 1) (cs ++ [(k:Int)]):= by
 refine ⟨List.pairwise_append.mpr ⟨h.1,by simp,fun a ha b hb=>?_⟩,fun c hc=>?_⟩
 ·rw [List.mem_singleton.mp hb];exact (h.2 a ha).2.1
 ·rcases List.mem_append.mp hc with q | q
  ·have:=h.2 c q;omega
  ·rw [List.mem_singleton.mp q];omega
theorem Up.more {M k:Nat} {cs:List Int} (h:Up M k cs):Up M (k + 1) cs:=⟨h.1,fun c hc=>by have:=h.2 c hc;omega⟩
theorem j9 (n0:Int) {M:Nat} (hM1:1 ≤ M) (hM7:M ≤ 7):∃ d xs',aY gM ic [.int n0] [.int M]=some (d,xs')∧(∃ h,d=hD h∧dQ M h)∧∃ n:Int,xs' = [.int n]:= by
 apply dW
 show Ok ic [.ow true [.int n0],.pu (.int M),.un] _
 unfold ic
 have sM:bg M=true:=by simp [bg];omega
 refine aG (fun δ=>∃ (n:Int) (cs:List Int),δ=[.ow true [.int n],.pu (.int M),.pu (.lst (cs.map .int))]∧Up M M cs) ?_ ?_
 ·simp only [cM,aq,ar]
  refine dG (bF 0 M) (fun k acc δ=>∃ (n:Int) (cs:List Int),acc=cs.map .int∧δ=[.ow true [.int n],.pu (.int M),.un]∧Up M k cs) rfl ?_ (by simp [bF];omega) ⟨n0,[],rfl,rfl,List.Pairwise.nil,by simp⟩ ?_ ?_
  ·simp [cC,sM]
  ·rintro j hj acc _ ha hl ⟨n,cs,rfl,rfl,hb⟩
   have hj':j < M:=by simpa [bF] using hj
   rw [fP]
   by_cases q:n % 3=0
   ·simp [-Prod.exists,aB,cX,q]
    exact ⟨_,cs ++ [(j:Int)],by simp,rfl,hb.snoc hj'⟩
   ·simp [-Prod.exists,aB,cX,q]
    exact ⟨_,cs,rfl,rfl,hb.more⟩
  ·rintro xs _ hx hl ⟨n,cs,rfl,rfl,hb⟩
   have:(bF 0 M).length=M:=by simp [bF]
   rw [this] at hb
   exact ⟨by simp,trivial,n,cs,rfl,hb⟩
 rintro _ ⟨n,cs,rfl,hb⟩
 have et:=aB n M (by omega) (by omega)
 by_cases q:cs=[]
 ·subst q
  simp [-Prod.exists,eO,et,c7]
  refine ⟨[n % (M:Int)],rfl,by simp,by simp,fun c hc=>?_⟩
  rw [List.mem_singleton.mp hc]
  exact ⟨Int.emod_nonneg n (by omega),Int.emod_lt_of_pos n (by omega)⟩
 ·have q':(cs.map D.int).isEmpty=false:= by
   cases cs with
   | nil=>exact absurd rfl q
   | cons a r=>rfl
  simp only [br,yE,aq,dC,aZ,eK,ar,cw,List.getElem?_cons_zero,List.getElem?_cons_succ,Option.some.injEq,Jt.Slot.pu.injEq,exists_eq_left',List.length_nil,Nat.zero_le,true_and,eO,q',aV,gP,Bool.false_eq_true,if_false,D.bl.injEq,b9,ay,c7]
  exact ⟨_,_,rfl,rfl,⟨cs,rfl,q,hb.1,fun c hc=>by have:=hb.2 c hc;omega⟩,n,rfl⟩
end K21
namespace K21
open PySem L2 Jt
open Builtin.Int (intBits)
theorem IU (hs:List (List Int)) (c:Int):((hs.filter fun h=>decide (c ∈ h)).map hD).isEmpty = !(hs.any fun h=>decide (c ∈ h)):= by
 rw [List.isEmpty_map,Bool.eq_iff_iff,List.isEmpty_iff,List.filter_eq_nil_iff,Bool.not_eq_true',List.any_eq_false]
theorem uZ {a b:List Int} (h1:a.Pairwise (· < ·)) (h2:b.Pairwise (· < ·)) (h:∀ x ∈ a,x ∉ b):(a ++ b).Nodup :=
 List.nodup_append.mpr ⟨h1.imp fun {x y} (q:x < y)=>Int.ne_of_lt q,h2.imp fun {x y} (q:x < y)=>Int.ne_of_lt q,fun x hx y hy e=>h x hx (e ▸ hy)⟩
def se (M:Nat) (hs:List (List Int)):List Nat:=(List.range M).filter fun c=>hs.any fun h=>decide ((c:Int) ∈ h)
theorem ye (a b:D):cT (.lst [a,b]) (.int 0)=some a:=rfl
theorem xX (a b:D):cT (.lst [a,b]) (.int 1)=some b:=rfl
theorem nV (neg:Bool) (k:Nat) (ls:List Nat):lA neg (.int (k:Int)) (.lst (lD ls))=some (.bl (if neg then !decide (k ∈ ls) else decide (k ∈ ls))):=sf neg k ls
theorem qJ (n0:Int) {M Z:Nat} (hM1:1 ≤ M) (hM7:M ≤ 7) (hZ1:1 ≤ Z) (hZ6:Z ≤ 6):∃ d xs',aY ik qj [.int n0] [.int M,.int Z]=some (d,xs')∧(∃ hs:List (List Int),d=.lst (hs.map hD)∧hs.length=Z∧∀ h ∈ hs,dQ M h)∧∃ n:Int,xs' = [.int n]:= by
 apply dW
 show Ok qj [.ow true [.int n0],.pu (.int M),.pu (.int Z),.un,.un,.un,.un,.un,.un,.un,.un] _
 unfold qj
 have sM:bg M=true:=by simp [bg];omega
 obtain ⟨d,xs',eh,⟨h0,rfl,hh0⟩,n1,rfl⟩:=j9 n0 hM1 hM7
 refine aG (fun δ=>δ=[.ow true [.int n1],.pu (.int M),.pu (.int Z),.ow false [hD h0],.un,.un,.un,.un,.un,.un,.un]) ?_ ?_
 ·simp [-Prod.exists,eh]
 rintro _ rfl
 have hZ':((Z:Int) - 1)=((Z - 1:Nat):Int):=by omega
 have sZ:bg ((Z - 1:Nat):Int)=true:=by simp [bg];omega
 refine aG (fun δ=>∃ (n:Int) (hs:List (List Int)) (a4 a5 a6 a7 a8 a9 a10:Jt.Slot),δ=[.ow true [.int n],.pu (.int M),.pu (.int Z),.ow false (hs.map hD),a4,a5,a6,a7,a8,a9,a10]∧hs.length=Z∧∀ h ∈ hs,dQ M h) ?_ ?_
 ·refine jC (bF 0 (Z - 1)) (fun k δ=>∃ (n:Int) (hs:List (List Int)) (a4 a5 a6 a7 a8 a9 a10:Jt.Slot),δ=[.ow true [.int n],.pu (.int M),.pu (.int Z),.ow false (hs.map hD),a4,a5,a6,a7,a8,a9,a10]∧hs.length=k + 1∧∀ h ∈ hs,dQ M h) ?_ ⟨n1,[h0],_,_,_,_,_,_,_,rfl,rfl,by simpa using hh0⟩ ?_ ?_
  ·simp [eR,bT,hZ',cC,sZ]
  ·rintro k hk _ ⟨n,hs,a4,a5,a6,a7,a8,a9,a10,rfl,hlen,hq⟩
   have hk':k < Z - 1:=by simpa [bF] using hk
   rw [fP,bR]
   refine ⟨by simp,?_⟩
   simp only [List.set_cons_succ,List.set_cons_zero]
   refine aG (fun δ=>∃ n way:Int,δ=[.ow true [.int n],.pu (.int M),.pu (.int Z),.ow false (hs.map hD),.pu (.int k),.pu (.int way),a6,a7,a8,a9,a10]) ?_ ?_
   ·simp [-Prod.exists,aB]
   rintro _ ⟨n,way,rfl⟩
   have hpos:0 < hs.length:=by omega
   have et:=aB n hs.length (by omega) (by omega)
   refine aG (fun δ=>∃ (n:Int) (h:List Int),h ∈ hs∧δ=[.ow true [.int n],.pu (.int M),.pu (.int Z),.ow false (hs.map hD),.pu (.int k),.pu (.int way),.pu (hD h),a7,a8,a9,a10]) ?_ ?_
   ·obtain ⟨h,hh,eh⟩:=yN hs n hpos
    have el:cT (.lst (hs.map hD)) (.int ((hs.length:Int) - 1))=some (hD hs[hs.length - 1]):= by
     rw [show (hs.length:Int) - 1=((hs.length - 1:Nat):Int) by omega]
     show ju _ _=_
     rw [cV _ _ (by simp;omega)]
     simp
    by_cases q:1 < way
    ·simp [-Prod.exists,et,eR,uz,bT,jG,q,xX,eh]
     exact ⟨_,h,hh,rfl,rfl⟩
    ·simp [-Prod.exists,et,eR,uz,bT,jG,q,ye,el]
     exact ⟨_,_,List.getElem_mem (by omega),rfl,rfl⟩
   rintro _ ⟨n,h,hh,rfl⟩
   have hok:=hq h hh
   have h7:=hok.len (by omega) (by omega)
   refine aG (fun δ=>∃ (n:Int) (cs:List Int),δ=[.ow true [.int n],.pu (.int M),.pu (.int Z),.ow false (hs.map hD),.pu (.int k),.pu (.int way),.pu (hD h),.pu (.lst (cs.map .int)),a8,a9,a10]∧cs.Sublist h) ?_ ?_
   ·simp only [cM,aq,ar]
    refine dG (h.map .int) (fun j acc δ=>∃ (n:Int) (cs:List Int),acc=cs.map .int∧δ=[.ow true [.int n],.pu (.int M),.pu (.int Z),.ow false (hs.map hD),.pu (.int k),.pu (.int way),.pu (hD h),a7,a8,a9,a10]∧cs.Sublist (h.take j)) rfl ?_ (by simp;omega) ⟨n,[],rfl,rfl,by simp⟩ ?_ ?_
    ·simp [km]
    ·rintro j hj acc _ ha hl ⟨n,cs,rfl,rfl,hb⟩
     have hj':j < h.length:=by simpa using hj
     rw [List.getElem_map]
     have e3:=aB n 3 (by omega) (by omega)
     have tk:h.take (j + 1)=h.take j ++ [h[j]]:=List.take_succ_eq_append_getElem hj'
     by_cases q:0 < n % 3
     ·simp [-Prod.exists,e3,uz,bT,q]
      exact ⟨_,cs ++ [h[j]],by simp,rfl,by rw [tk];exact List.Sublist.append hb (List.Sublist.refl _)⟩
     ·simp [-Prod.exists,e3,uz,bT,q]
      exact ⟨_,cs,rfl,rfl,by rw [tk];exact hb.trans (List.sublist_append_left _ _)⟩
    ·rintro xs _ hx hl ⟨n,cs,rfl,rfl,hb⟩
     rw [List.length_map,List.take_length] at hb
     exact ⟨by simp,trivial,n,cs,rfl,hb⟩
   rintro _ ⟨n,cs,rfl,hcs⟩
   refine aG (fun δ=>δ=[.ow true [.int n],.pu (.int M),.pu (.int Z),.ow false (hs.map hD),.pu (.int k),.pu (.int way),.pu (hD h),.pu (.lst (cs.map .int)),.pu (.lst (lD (se M hs))),a9,a10]) ?_ ?_
   ·simp only [cM,aq,ar]
    refine bP (List.range M) (fun (i:Nat)=>.int (i:Int)) (fun c=>if (hs.any fun h=>decide ((c:Int) ∈ h))=true then some (.int (c:Int)) else none) rfl ?_ (by simp;omega) (fun c hc=>?_) ?_
    ·simp [cC,sM,bF]
    ·simp only [dH,bR,aq,dC]
     refine ⟨by simp,?_⟩
     refine wB (i:=3) (b:=false) hs hD (fun h=>if decide ((c:Int) ∈ h)=true then some (hD h) else none) rfl rfl ?_ (by omega) (fun h hh=>?_) ?_
     ·simp
     ·by_cases q:(c:Int) ∈ h <;> simp [qG,q]
     ·rw [b7]
      have:=IU hs (c:Int)
      cases q:(hs.any fun h=>decide ((c:Int) ∈ h)) with
      | true=>
       rw [q] at this
       simp only [ar,eK,cw,List.length_nil,Nat.zero_le,true_and,eO,this,aV,gP,if_true,D.bl.injEq,exists_eq_left']
       simp
      | false=>
       rw [q] at this
       simp only [ar,eK,cw,List.length_nil,Nat.zero_le,true_and,eO,this,aV,gP,if_true,D.bl.injEq,exists_eq_left']
       simp
    ·rw [b7]
     simp [lD,se]
   rintro _ rfl
   refine aG (fun δ=>∃ (n:Int) (fs:List Int),δ=[.ow true [.int n],.pu (.int M),.pu (.int Z),.ow false (hs.map hD),.pu (.int k),.pu (.int way),.pu (hD h),.pu (.lst (cs.map .int)),.pu (.lst (lD (se M hs))),.pu (.lst (fs.map .int)),a10]∧Up M M fs∧∀ c ∈ fs,c ∉ h) ?_ ?_
   ·simp only [cM,aq,ar]
    refine dG (bF 0 M) (fun j acc δ=>∃ (n:Int) (fs:List Int),acc=fs.map .int∧δ=[.ow true [.int n],.pu (.int M),.pu (.int Z),.ow false (hs.map hD),.pu (.int k),.pu (.int way),.pu (hD h),.pu (.lst (cs.map .int)),.pu (.lst (lD (se M hs))),a9,a10]∧Up M j fs∧∀ c ∈ fs,c ∉ h) rfl ?_ (by simp [bF];omega) ⟨n,[],rfl,rfl,⟨List.Pairwise.nil,by simp⟩,by simp⟩ ?_ ?_
    ·simp [cC,sM]
    ·rintro j hj acc _ ha hl ⟨n,fs,rfl,rfl,hb,hn⟩
     have hj':j < M:=by simpa [bF] using hj
     rw [fP]
     have e2:=aB n 2 (by omega) (by omega)
     by_cases q:j ∈ se M hs
     ·simp only [dH,bR,oM,aq,dC,aZ]
      simp [-Prod.exists,nV,q]
      exact ⟨_,fs,rfl,rfl,hb.more,hn⟩
     ·have nh:(j:Int) ∉ h:=fun z=>q (List.mem_filter.mpr ⟨List.mem_range.mpr hj',List.any_eq_true.mpr ⟨h,hh,decide_eq_true z⟩⟩)
      by_cases q2:n % 2=0
      ·simp only [dH,bR,oM,aq,dC,aZ]
       simp [-Prod.exists,nV,q,e2,cX,q2]
       refine ⟨_,fs ++ [(j:Int)],by simp,rfl,hb.snoc hj',fun c hc=>?_⟩
       rcases List.mem_append.mp hc with z | z
       ·exact hn c z
       ·rw [List.mem_singleton.mp z];exact nh
      ·simp only [dH,bR,oM,aq,dC,aZ]
       simp [-Prod.exists,nV,q,e2,cX,q2]
       exact ⟨_,fs,rfl,rfl,hb.more,hn⟩
    ·rintro xs _ hx hl ⟨n,fs,rfl,rfl,hb,hn⟩
     have:(bF 0 M).length=M:=by simp [bF]
     rw [this] at hb
     exact ⟨by simp,trivial,n,fs,rfl,hb,hn⟩
   rintro _ ⟨n,fs,rfl,hfs,hfn⟩
   have hcl:=hcs.length_le
   have hfl:fs.length ≤ 7:= by
    have:=nT fs 0 M hfs.1 (fun c hc=>by have:=hfs.2 c hc;omega) (by omega)
    omega
   have l1:cs.length + fs.length ≤ 100000:=by omega
   have l2:(cs ++ fs).length < 64:=by rw [List.length_append];omega
   refine aG (fun δ=>δ=[.ow true [.int n],.pu (.int M),.pu (.int Z),.ow false (hs.map hD),.pu (.int k),.pu (.int way),.pu (hD h),.pu (.lst (cs.map .int)),.pu (.lst (lD (se M hs))),.pu (.lst (fs.map .int)),.pu (.lst ((cN (cs ++ fs)).map .int))]) ?_ ?_
   ·have e:cq (cs.map D.int ++ fs.map D.int)=some (cs ++ fs):=by rw [<- List.map_append,gZ]
    have es:sortI (cs.map D.int ++ fs.map D.int)=some ((cN (cs ++ fs)).map D.int):= by
     unfold sortI
     rw [e]
     exact if_pos l2
    simp [oY,sH,l1,gm,es]
   rintro _ rfl
   have hnd:(cs ++ fs).Nodup:=uZ (hok.2.1.sublist hcs) hfs.1 fun x hx hy=>hfn x hy (hcs.subset hx)
   have hpos':0 < h.length:=List.length_pos_iff.mpr hok.1
   have e7:=aB n h.length (by omega) (by omega)
   refine aG (fun δ=>∃ (n:Int) (g:List Int),δ=[.ow true [.int n],.pu (.int M),.pu (.int Z),.ow false (hs.map hD),.pu (.int k),.pu (.int way),.pu (hD h),.pu (.lst (cs.map .int)),.pu (.lst (lD (se M hs))),.pu (.lst (fs.map .int)),.pu (.lst (g.map .int))]∧dQ M g) ?_ ?_
   ·by_cases q:cN (cs ++ fs)=[]
    ·obtain ⟨j,hj,ej⟩:∃ j,∃ hj:j < h.length,n % (h.length:Int)=(j:Int):= by
      have g1:=Int.emod_nonneg n (show (h.length:Int) ≠ 0 by omega)
      have g2:=Int.emod_lt_of_pos n (show (0:Int) < h.length by omega)
      exact ⟨(n % (h.length:Int)).toNat,by omega,by omega⟩
     rw [ej] at e7
     have ei:cT (hD h) (.int (j:Int))=some (.int h[j]):= by
      show ju _ _=_
      rw [cV _ _ (by simpa using hj)]
      simp
     have el:bu [hD h]=some (.int h.length):=by simp [hD,bu]
     simp [-Prod.exists,q,eO,el,e7,ei]
     refine ⟨_,[h[j]],⟨rfl,rfl⟩,by simp,by simp,fun c hc=>?_⟩
     rw [List.mem_singleton.mp hc]
     exact hok.2.2 _ (List.getElem_mem hj)
    ·have q':((cN (cs ++ fs)).map D.int).isEmpty=false:= by
      cases z:cN (cs ++ fs) with
      | nil=>exact absurd z q
      | cons a r=>rfl
     simp only [yE,aq,dC,aZ,eK,ar,cw,List.getElem?_cons_zero,List.getElem?_cons_succ,Option.some.injEq,Jt.Slot.pu.injEq,exists_eq_left',List.length_nil,Nat.zero_le,true_and,eO,q',aV,gP,Bool.false_eq_true,if_false,D.bl.injEq]
     refine ⟨n,_,rfl,q,kl hnd,fun c hc=>?_⟩
     rw [je] at hc
     rcases List.mem_append.mp hc with z | z
     ·exact hok.2.2 c (hcs.subset z)
     ·have:=hfs.2 c z;omega
   rintro _ ⟨n,g,rfl,hg⟩
   refine d_ ⟨_,_,rfl⟩ ?_
   have hl3:hs.length ≤ 100000:=by omega
   simp [c7,hl3]
   refine ⟨_,hs ++ [g],⟨rfl,by simp [hD]⟩,by simp [hlen],fun h' hh'=>?_⟩
   rcases List.mem_append.mp hh' with z | z
   ·exact hq h' z
   ·rw [List.mem_singleton.mp z];exact hg
  ·rintro _ ⟨n,hs,a4,a5,a6,a7,a8,a9,a10,rfl,hlen,hq⟩
   have:(bF 0 (Z - 1)).length=Z - 1:=by simp [bF]
   rw [this] at hlen
   exact ⟨rfl,n,hs,_,_,_,_,_,_,_,rfl,by omega,hq⟩
 rintro _ ⟨n,hs,a4,a5,a6,a7,a8,a9,a10,rfl,hlen,hq⟩
 simp
 exact ⟨hs,rfl,hlen,hq⟩
end K21
namespace K21
open PySem L2 Jt
open Builtin.Int (intBits)
theorem zx {M S k:Nat} (hS:3 ≤ S) (hSM:S ≤ M) (hk:k < S):dQ M (cN [(k:Int),((k:Int) + 1) % (S:Int)]):= by
 have a1:=Int.emod_nonneg ((k:Int) + 1) (show (S:Int) ≠ 0 by omega)
 have a2:=Int.emod_lt_of_pos ((k:Int) + 1) (show (0:Int) < S by omega)
 have ne:(k:Int) ≠ ((k:Int) + 1) % (S:Int):= by
  by_cases q:k + 1 < S
  ·rw [Int.emod_eq_of_lt (by omega) (by omega)];omega
  ·rw [show (k:Int) + 1=S by omega,Int.emod_self];omega
 refine ⟨?_,kl (by simpa using ne),?_⟩
 ·intro e
  have:=congrArg List.length e
  rw [mm] at this
  simp at this
 ·intro c hc
  rw [je] at hc
  rcases List.mem_cons.mp hc with rfl | hc
  ·omega
  ·rw [List.mem_singleton.mp hc];omega
theorem A6 {M S k:Nat} (hS:3 ≤ S) (hSM:S ≤ M):dQ M (((List.range S).filter fun i=>decide (i ≠ k)).map fun (i:Nat)=>(i:Int)):= by
 refine ⟨?_,?_,?_⟩
 ·intro e
  have:(if k=0 then 1 else 0) ∈ (List.range S).filter fun i=>decide (i ≠ k):= by
   rw [List.mem_filter,List.mem_range]
   split <;> simp <;> omega
  rw [List.map_eq_nil_iff] at e
  rw [e] at this;cases this
 ·refine List.Pairwise.map _ (fun a b hab=>?_) (List.Pairwise.filter _ List.pairwise_lt_range)
  exact Int.ofNat_lt.mpr hab
 ·intro c hc
  obtain ⟨i,hi,rfl⟩:=List.mem_map.mp hc
  have:=List.mem_range.mp (List.mem_filter.mp hi).1
  omega
theorem nR (n0:Int) {M:Nat} (hM3:3 ≤ M) (hM7:M ≤ 7):∃ d xs',aY lK v_ [.int n0] [.int M]=some (d,xs')∧(∃ hs:List (List Int),d=.lst (hs.map hD)∧3 ≤ hs.length∧hs.length ≤ 6∧∀ h ∈ hs,dQ M h)∧∃ n:Int,xs' = [.int n]:= by
 apply dW
 show Ok v_ [.ow true [.int n0],.pu (.int M),.un] _
 unfold v_
 obtain ⟨N,hN,hN1,hN2,hNM⟩:∃ N:Nat,(if (M:Int) < 6 then (M:Int) else 6)=(N:Int)∧3 ≤ N∧N ≤ 6∧N ≤ M:= by
  refine ⟨(if (M:Int) < 6 then (M:Int) else 6).toNat,?_,?_,?_,?_⟩ <;> split <;> omega
 have lot:∀ n:Int,Ok (aK (dN 2 (m2 cG (pure (.int 3)) (do let _ <- aA 0;bC 0 2 (aY bL bJ) (af (m2 eR (mC gk (af (pure (.int 6)) (af (ah 1) (pure [])))) (pure (.int 2))) (pure [])))))
  (do let d <- (do let xs <- (aX 3 1 (mC cC (af (ah 2) (pure []))) (bo (bp 3) (pure true) (mC cx (af (do let xs <- (aX 4 1 (mC cC (af (ah 2) (pure []))) (bo (bp 4) ((m2 (iL true) (ah 4) (ah 3)) >>= dq) (ah 4)));pure (D.lst xs)) (pure [])))));pure (D.lst xs));pure (Fl.rt d))) [.ow true [.int n],.pu (.int M),.un] (fun fl δ=>∃ d,fl=.rt d∧∃ xs',δ[0]? = some (.ow true xs')∧(∃ hs:List (List Int),d=.lst (hs.map hD)∧3 ≤ hs.length∧hs.length ≤ 6∧∀ h ∈ hs,dQ M h)∧∃ n:Int,xs' = [.int n]):= by
  intro n
  have hp:(0:Int) < N - 2:=by omega
  have hq:(N:Int) - 2 < 1073741824:=by omega
  obtain ⟨S,hS,hS1,hS2⟩:∃ S:Nat,3 + n % ((N:Int) - 2)=(S:Int)∧3 ≤ S∧S ≤ N:= by
   have h1:=Int.emod_nonneg n (show (N:Int) - 2 ≠ 0 by omega)
   have h2:=Int.emod_lt_of_pos n hp
   exact ⟨(3 + n % ((N:Int) - 2)).toNat,by omega,by omega,by omega⟩
  have hsm:bg S=true:=by simp [bg];omega
  refine aG (fun δ=>δ=[.ow true [.int (n / ((N:Int) - 2))],.pu (.int M),.pu (.int S)]) ?_ ?_
  ·simp [-Prod.exists,gk,hN,eR,cG,bT,aB _ _ hp hq,hS]
  rintro _ rfl
  simp only [aq,ar]
  refine bP (List.range S) (fun (k:Nat)=>.int (k:Int)) (fun k=>some (hD (((List.range S).filter fun i=>decide (i ≠ k)).map fun (i:Nat)=>(i:Int)))) rfl ?_ (by simp;omega) (fun k _=>?_) ?_
  ·simp [cC,hsm,bF]
  ·simp
   refine bP (List.range S) (fun (k:Nat)=>.int (k:Int)) (fun i=>if decide (i ≠ k)=true then some (.int (i:Int)) else none) rfl ?_ (by simp;omega) (fun i _=>?_) ?_
   ·simp [cC,hsm,bF]
   ·by_cases e:i=k <;> simp [jW,e]
   ·rw [b7]
    simp [cx,gm,hD]
  ·refine ⟨_,rfl,_,rfl,⟨(List.range S).map fun (k:Nat)=>(((List.range S).filter fun i=>decide (i ≠ k)).map fun (i:Nat)=>(i:Int)),by simp [List.filterMap_eq_map'],by simp;omega,by simp;omega,fun h hh=>?_⟩,_,rfl⟩
   obtain ⟨k,hk,rfl⟩:=List.mem_map.mp hh
   exact A6 hS1 (by omega)
 by_cases h3:M=3
 ·rw [br]
  have:(M:Int)=3:=by omega
  refine cZ (fun b δ=>b=true∧δ=[.ow true [.int n0],.pu (.int M),.un]) ?_ ?_ ?_
  ·simp [cX,this]
  ·rintro _ ⟨_,rfl⟩
   refine (lot n0).mono fun fl δ1 ⟨d,e,xs',q⟩=>?_
   subst e
   exact ⟨d,xs',rfl,q⟩
  ·rintro _ ⟨h,_⟩;cases h
 ·have h3':¬ ((M:Int)=3):=by omega
  have e2:=aB n0 2 (by omega) (by omega)
  rw [br]
  refine cZ (fun b δ=>δ=[.ow true [.int (n0 / 2)],.pu (.int M),.un]) ?_ ?_ ?_
  ·simp [-Prod.exists,cX,h3',e2]
   omega
  ·rintro _ rfl
   refine (lot _).mono fun fl δ1 ⟨d,e,xs',q⟩=>?_
   subst e
   exact ⟨d,xs',rfl,q⟩
  ·rintro _ rfl
   rw [ar]
   generalize n0 / 2=n
   have hp:(0:Int) < N - 3:=by omega
   have hq:(N:Int) - 3 < 1073741824:=by omega
   obtain ⟨S,hS,hS1,hS2⟩:∃ S:Nat,4 + n % ((N:Int) - 3)=(S:Int)∧3 ≤ S∧S ≤ N:= by
    have h1:=Int.emod_nonneg n (show (N:Int) - 3 ≠ 0 by omega)
    have h2:=Int.emod_lt_of_pos n hp
    exact ⟨(4 + n % ((N:Int) - 3)).toNat,by omega,by omega,by omega⟩
   have hsm:bg S=true:=by simp [bg];omega
   refine aG (fun δ=>δ=[.ow true [.int (n / ((N:Int) - 3))],.pu (.int M),.pu (.int S)]) ?_ ?_
   ·simp [-Prod.exists,gk,hN,eR,cG,bT,aB _ _ hp hq,hS]
   rintro _ rfl
   simp only [aq,ar]
   refine bP (List.range S) (fun (k:Nat)=>.int (k:Int)) (fun k=>some (hD (cN [(k:Int),((k:Int) + 1) % (S:Int)]))) rfl ?_ (by simp;omega) (fun k _=>?_) ?_
   ·simp [cC,hsm,bF]
   ·have:0 < S:=by omega
    simp [cG,ql,bT,gm,sortI,cq,this,cx,hD]
   ·refine ⟨_,_,rfl,rfl,⟨(List.range S).map fun (k:Nat)=>cN [(k:Int),((k:Int) + 1) % (S:Int)],by simp [List.filterMap_eq_map'],by simp;omega,by simp;omega,fun h hh=>?_⟩,_,rfl⟩
    obtain ⟨k,hk,rfl⟩:=List.mem_map.mp hh
    exact zx hS1 (by omega) (List.mem_range.mp hk)
theorem xl {ls:List Nat} (h:ls.Nodup) (j:Nat):(ls.eraseIdx j).Nodup:=h.sublist (List.eraseIdx_sublist ls j)
theorem ji {ls:List Nat} (h:ls.Nodup) {j:Nat} (hj:j < ls.length):ls[j] ∉ ls.eraseIdx j:=fun hm=>by
 obtain ⟨i,hi,e⟩:=List.mem_eraseIdx_iff_getElem.mp hm
 obtain ⟨hl,e⟩:=e
 have:=(List.getElem_inj h).mp e
 exact hl this
theorem o9 (n0:Int) {M:Nat} {hs:List (List Int)} (hM1:1 ≤ M) (hM7:M ≤ 7) (h1:1 ≤ hs.length) (h6:hs.length ≤ 6) (hq:∀ h ∈ hs,dQ M h):∃ d xs',aY jv pA [.int n0] [.int M,.lst (hs.map hD)]=some (d,xs')∧(∃ gs:List (List Int),d=.tup (gs.map hD)∧gs.length=hs.length∧∀ g ∈ gs,dQ M g)∧∃ n:Int,xs' = [.int n]:= by
 apply dW
 show Ok pA [.ow true [.int n0],.pu (.int M),.pu (.lst (hs.map hD)),.un,.un,.un,.un] _
 unfold pA
 have hn:(M:Int) < 100000:=by omega
 have sM:bg M=true:=by simp [bg];omega
 refine aG (fun δ=>δ=[.ow true [.int n0],.pu (.int M),.pu (.lst (hs.map hD)),.ow false (lD (List.range M)),.un,.un,.un]) (by simp [jJ,hn,k7]) ?_
 rintro _ rfl
 refine aG (fun δ=>∃ (n:Int) (ls os:List Nat),δ=[.ow true [.int n],.pu (.int M),.pu (.lst (hs.map hD)),.ow false (lD ls),.pu (.lst (lD os)),.un,.un]∧os.length=M∧os.Nodup∧∀ o ∈ os,o < M) ?_ ?_
 ·simp only [cM,aq,ar]
  refine dG (bF 0 M) (fun k acc δ=>∃ (n:Int) (ls os:List Nat),acc=lD os∧δ=[.ow true [.int n],.pu (.int M),.pu (.lst (hs.map hD)),.ow false (lD ls),.un,.un,.un]∧os.length=k∧ls.length + k=M∧os.Nodup∧ls.Nodup∧(∀ o ∈ os,o < M∧o ∉ ls)∧∀ o ∈ ls,o < M) rfl ?_ (by simp [bF];omega) ⟨n0,List.range M,[],rfl,rfl,rfl,by simp,by simp,List.nodup_range,by simp,by simp⟩ ?_ ?_
  ·simp [cC,sM]
  ·rintro k hk acc _ ha hl ⟨n,ls,os,rfl,rfl,h1,h2,h3,h4,h5,h6⟩
   have hk':k < M:=by simpa [bF] using hk
   have et:=aB n ls.length (by omega) (by omega)
   have g1:=Int.emod_nonneg n (show (ls.length:Int) ≠ 0 by omega)
   have g2:=Int.emod_lt_of_pos n (show (0:Int) < ls.length by omega)
   obtain ⟨j,hj⟩:∃ j:Nat,n % (ls.length:Int)=(j:Int):=⟨(n % (ls.length:Int)).toNat,by omega⟩
   have hlt:j < ls.length:=by omega
   rw [hj] at et
   rw [fP]
   simp only [dH,bR,ar]
   refine ⟨by simp,?_⟩
   simp only [if_true]
   refine tX ⟨_,_,rfl⟩ ?_
   simp [-Prod.exists,rZ,et]
   have hne:=ji h4 hlt
   have hmem:=List.getElem_mem hlt
   refine ⟨j,rfl,by omega,.int (ls[j]:Int),by simp [lD,hlt],_,ls.eraseIdx j,os ++ [ls[j]],by simp [lD],⟨rfl,jo _ ls j⟩,by simp [h1],?_,?_,xl h4 j,?_,fun o ho=>h6 o (List.mem_of_mem_eraseIdx ho)⟩
   ·rw [List.length_eraseIdx,if_pos hlt];omega
   ·refine List.nodup_append.mpr ⟨h3,by simp,fun a ha b hb e=>?_⟩
    rw [List.mem_singleton.mp hb] at e
    exact (h5 a ha).2 (e ▸ hmem)
   ·intro o ho
    rcases List.mem_append.mp ho with z | z
    ·exact ⟨(h5 o z).1,fun q=>(h5 o z).2 (List.mem_of_mem_eraseIdx q)⟩
    ·rw [List.mem_singleton.mp z];exact ⟨h6 _ hmem,hne⟩
  ·rintro xs _ hx hl ⟨n,ls,os,rfl,rfl,h1,h2,h3,h4,h5,h6⟩
   have:(bF 0 M).length=M:=by simp [bF]
   exact ⟨by simp,trivial,n,ls,os,rfl,by omega,h3,fun o ho=>(h5 o ho).1⟩
 rintro _ ⟨n,ls,os,rfl,o1,o2,o3⟩
 let mv:List Int->List Int:=fun h=>cN (h.map fun c=>((os.getD c.toNat 0:Nat):Int))
 have mvOk:∀ h ∈ hs,dQ M (mv h):=fun h hh=>by
  obtain ⟨q1,q2,q3⟩:=hq h hh
  have inj:(h.map fun c=>((os.getD c.toNat 0:Nat):Int)).Nodup:= by
   refine List.Pairwise.map _ (fun a b (hab:a ∈ h∧b ∈ h∧a < b) e=>?_) (List.Pairwise.imp_of_mem (fun {a b} ha hb (l:a < b)=>(⟨ha,hb,l⟩:a ∈ h∧b ∈ h∧a < b)) q2)
   have ha:=q3 a hab.1
   have hb:=q3 b hab.2.1
   have e':=Int.ofNat_inj.mp e
   rw [List.getD_eq_getElem?_getD,List.getD_eq_getElem?_getD,List.getElem?_eq_getElem (by omega),List.getElem?_eq_getElem (by omega)] at e'
   have:=(List.getElem_inj o2).mp e'
   have:=hab.2.2
   omega
  refine ⟨?_,kl inj,fun c hc=>?_⟩
  ·intro e
   have:=congrArg List.length e
   rw [mm,List.length_map] at this
   exact q1 (List.eq_nil_of_length_eq_zero this)
  ·rw [je] at hc
   obtain ⟨x,hx,rfl⟩:=List.mem_map.mp hc
   have:=q3 x hx
   have hlt:x.toNat < os.length:=by omega
   rw [List.getD_eq_getElem?_getD,List.getElem?_eq_getElem hlt]
   have:=o3 _ (List.getElem_mem hlt)
   simp;omega
 refine aG (fun δ=>δ=[.ow true [.int n],.pu (.int M),.pu (.lst (hs.map hD)),.ow false (lD ls),.pu (.lst (lD os)),.ow false ((hs.map mv).map hD),.un]) ?_ ?_
 ·simp only [ym]
  refine bP hs hD (fun h=>some (hD (mv h))) rfl ?_ (by omega) (fun h hh=>?_) ?_
  ·simp [bh]
  ·have h7:=(hq h hh).len (by omega) (by omega)
   simp only [dH,bR,ar,if_true,b9,ay,aq,xx]
   refine ⟨by simp,?_⟩
   refine bP h .int (fun c=>some (.int ((os.getD c.toNat 0:Nat):Int))) rfl ?_ (by omega) (fun c hc=>?_) ?_
   ·simp [km]
   ·have hb:=(hq h hh).2.2 c hc
    have e:cT (.lst (lD os)) (.int c)=some (.int ((os.getD c.toNat 0:Nat):Int)):= by
     obtain ⟨i,rfl⟩:∃ i:Nat,c=(i:Int):=⟨c.toNat,by omega⟩
     show ju _ _=_
     have:i < os.length:=by omega
     rw [cV _ _ (by rw [rZ];omega)]
     simp [lD,this]
    simp [e]
   ·have es:sortI (h.map fun c=>D.int ((os.getD c.toNat 0:Nat):Int))=some ((mv h).map D.int):= by
     have:(h.map fun c=>D.int ((os.getD c.toNat 0:Nat):Int))=(h.map fun c=>((os.getD c.toNat 0:Nat):Int)).map D.int:=by rw [List.map_map];rfl
     unfold sortI
     rw [this,gZ]
     exact if_pos (by rw [List.length_map];omega)
    simp only [List.filterMap_eq_map',gm,aV,es,c7,ar]
    simp [hD]
  ·simp [List.filterMap_eq_map']
 rintro _ rfl
 refine aG (fun δ=>δ=[.ow true [.int n],.pu (.int M),.pu (.lst (hs.map hD)),.ow false (lD ls),.pu (.lst (lD os)),.ow false ((hs.map mv).map hD),.ow false []]) (by simp) ?_
 rintro _ rfl
 refine aG (fun δ=>∃ (n:Int) (gs:List (List Int)) (a5:Jt.Slot),δ=[.ow true [.int n],.pu (.int M),.pu (.lst (hs.map hD)),.ow false (lD ls),.pu (.lst (lD os)),a5,.ow false (gs.map hD)]∧gs.length=hs.length∧∀ g ∈ gs,dQ M g) ?_ ?_
 ·refine tF (fun k δ=>∃ (n:Int) (rs gs:List (List Int)),δ=[.ow true [.int n],.pu (.int M),.pu (.lst (hs.map hD)),.ow false (lD ls),.pu (.lst (lD os)),.ow false (rs.map hD),.ow false (gs.map hD)]∧rs.length=k∧gs.length + k=hs.length∧(∀ g ∈ gs,dQ M g)∧∀ g ∈ rs,dQ M g) ?_ 7 hs.length _ (by omega) ⟨n,hs.map mv,[],rfl,by simp,by simp,by simp,fun g hg=>?_⟩
  ·rintro k _ ⟨n,rs,gs,rfl,r1,r2,r3,r4⟩
   have e1:(rs.map hD).isEmpty=rs.isEmpty:=by rw [List.isEmpty_map]
   cases q:rs.isEmpty with
   | true=>
    have:k=0:=by rw [<- r1,List.isEmpty_iff.mp q];rfl
    simp [oi,e1,q]
    exact .inl ⟨List.isEmpty_iff.mp q,_,gs,⟨rfl,rfl⟩,by omega,r3⟩
   | false=>
    simp only [aq,wJ,AO,eK,ar,cw,gP,Fq,x5,List.getElem?_cons_zero,List.getElem?_cons_succ,Option.some.injEq,List.length_nil,Nat.zero_le,true_and,oi,D.bl.injEq]
    refine ⟨_,_,rfl,_,_,rfl,?_⟩
    simp only [oi,e1,q,aV,D.bl.injEq,exists_eq_left']
    refine ⟨fun _=>?_,fun h=>by cases h⟩
    have hpos:0 < rs.length:=List.length_pos_iff.mpr fun z=>by rw [z] at q;cases q
    have et:=aB n rs.length (by omega) (by omega)
    have g1:=Int.emod_nonneg n (show (rs.length:Int) ≠ 0 by omega)
    have g2:=Int.emod_lt_of_pos n (show (0:Int) < rs.length by omega)
    obtain ⟨j,hj⟩:∃ j:Nat,n % (rs.length:Int)=(j:Int):=⟨(n % (rs.length:Int)).toNat,by omega⟩
    have hlt:j < rs.length:=by omega
    rw [hj] at et
    refine ⟨k - 1,by omega,?_⟩
    refine d_ ⟨_,_,rfl⟩ ?_
    simp only [ay]
    refine tX ⟨_,_,rfl⟩ ?_
    simp [-Prod.exists,et]
    refine ⟨j,rfl,by omega,hD rs[j],by simp [hlt],by omega,n / (rs.length:Int),rs.eraseIdx j,gs ++ [rs[j]],⟨rfl,jo _ rs j,by simp⟩,?_,by simp;omega,fun g hg=>?_,fun g hg=>r4 g (List.mem_of_mem_eraseIdx hg)⟩
    ·rw [List.length_eraseIdx,if_pos hlt];omega
    ·rcases List.mem_append.mp hg with z | z
     ·exact r3 g z
     ·rw [List.mem_singleton.mp z];exact r4 _ (List.getElem_mem hlt)
  ·obtain ⟨h,hh,rfl⟩:=List.mem_map.mp hg
   exact mvOk h hh
 rintro _ ⟨n,gs,a5,rfl,g1,g2⟩
 simp
 exact ⟨gs,rfl,g1,g2⟩
end K21
namespace K21
open PySem L2 Jt
open Builtin.Int (intBits)
theorem rk {lo own:Nat} {fi:M jx} {turn:D->M (Option D)} {Q:List D->DS->Prop} {δ:DS} (hl:δ.length=lo) (h:Ok fi δ fun it δ'=>Ok (aX lo own (pure it) turn) δ' Q):Ok (aX lo own fi turn) δ Q:= by
 obtain ⟨it,δ',e,z⟩:=h
 obtain ⟨xs,δ2,e2,q⟩:=z
 refine ⟨xs,δ2,?_,q⟩
 unfold aX at e2 ⊢
 obtain ⟨u,δ3,e3,e4⟩:=bind_some e2
 obtain ⟨it',δ4,e5,e6⟩:=bind_some e4
 obtain ⟨rfl,rfl⟩:=ao e5
 have e7:δ3=δ':= by
  unfold ib at e3
  split at e3
  ·cases e3;rfl
  ·cases e3
 subst e7
 show (ib lo >>= _) δ=_
 have:ib lo δ=some ((),δ):=by unfold ib;rw [if_pos hl]
 simp only [M.bind_def,this,e] at e6 ⊢
 exact e6
theorem kF {M:Nat} (hM1:1 ≤ M) (hM7:M ≤ 7) (Z:Nat) (hZ:Z ≤ 100) (n:Int) {a1 a2 a4 a5 a6 a7:Jt.Slot} {fi:Jt.M jx} {Q:List D->DS->Prop}
  (hi:Ok fi [.ow true [.int n],a1,a2,.pu (.int M),a4,a5,a6,a7] fun it δ'=>it=aW (bF 0 Z)∧δ' = [.ow true [.int n],a1,a2,.pu (.int M),a4,a5,a6,a7])
  (hQ:∀ (hs:List (List Int)) (n:Int),hs.length=Z->(∀ h ∈ hs,dQ M h)->Q (hs.map hD) [.ow true [.int n],a1,a2,.pu (.int M),a4,a5,a6,a7]) :
  Ok (aX 8 1 fi (bo (bp 8) (pure true) (do let _ <- aA 0;bC 0 2 (aY gM ic) (af (ah 3) (pure []))))) [.ow true [.int n],a1,a2,.pu (.int M),a4,a5,a6,a7] Q:= by
 refine dG (bF 0 Z) (fun k acc δ=>∃ (n:Int) (hs:List (List Int)),acc=hs.map hD∧δ=[.ow true [.int n],a1,a2,.pu (.int M),a4,a5,a6,a7]∧hs.length=k∧∀ h ∈ hs,dQ M h) rfl hi (by simp [bF];omega) ⟨n,[],rfl,rfl,rfl,by simp⟩ ?_ ?_
 ·rintro k hk acc _ ha hl ⟨n,hs,rfl,rfl,h1,h2⟩
  rw [fP]
  obtain ⟨d,xs',eh,⟨h,rfl,hh⟩,n',rfl⟩:=j9 n hM1 hM7
  simp [-Prod.exists,eh]
  refine ⟨n',hs ++ [h],by simp,rfl,by simp [h1],fun g hg=>?_⟩
  rcases List.mem_append.mp hg with z | z
  ·exact h2 g z
  ·rw [List.mem_singleton.mp z];exact hh
 ·rintro xs _ hx hl ⟨n,hs,rfl,rfl,h1,h2⟩
  exact hQ hs n (by rw [h1];simp [bF]) h2
theorem nZ (n0:Int) {P Z:Nat} (hP1:1 ≤ P) (hP7:P ≤ 7) (hZ1:1 ≤ Z) (hZ6:Z ≤ 6):∃ d xs',aY qF yt [.int n0] [.int P,.int Z]=some (d,xs')∧LQ d xs':= by
 apply dW
 show Ok yt [.ow true [.int n0],.pu (.int P),.pu (.int Z),.un,.un,.un,.un,.un] _
 unfold yt
 obtain ⟨M,hM,hM1,hM7⟩:∃ M:Nat,1 + n0 % (P:Int)=(M:Int)∧1 ≤ M∧M ≤ 7:= by
  have h1:=Int.emod_nonneg n0 (show (P:Int) ≠ 0 by omega)
  have h2:=Int.emod_lt_of_pos n0 (show (0:Int) < P by omega)
  exact ⟨(1 + n0 % (P:Int)).toNat,by omega,by omega,by omega⟩
 refine aG (fun δ=>∃ n:Int,δ=[.ow true [.int n],.pu (.int P),.pu (.int Z),.pu (.int M),.un,.un,.un,.un]) ?_ ?_
 ·simp [-Prod.exists,aB n0 P (by omega) (by omega),cG,bT,hM]
 rintro _ ⟨n,rfl⟩
 obtain ⟨N,hN,hN1,hN7⟩:∃ M:Nat,1 + n % (Z:Int)=(M:Int)∧1 ≤ M∧M ≤ Z:= by
  have h1:=Int.emod_nonneg n (show (Z:Int) ≠ 0 by omega)
  have h2:=Int.emod_lt_of_pos n (show (0:Int) < Z by omega)
  exact ⟨(1 + n % (Z:Int)).toNat,by omega,by omega,by omega⟩
 refine aG (fun δ=>∃ n:Int,δ=[.ow true [.int n],.pu (.int P),.pu (.int Z),.pu (.int M),.pu (.int N),.un,.un,.un]) ?_ ?_
 ·simp [-Prod.exists,aB n Z (by omega) (by omega),cG,bT,hN]
 rintro _ ⟨n,rfl⟩
 refine aG (fun δ=>∃ n way:Int,δ=[.ow true [.int n],.pu (.int P),.pu (.int Z),.pu (.int M),.pu (.int N),.pu (.int way),.un,.un]) ?_ ?_
 ·simp [-Prod.exists,aB n 5 (by omega) (by omega)]
 rintro _ ⟨n,way,rfl⟩
 have fin:∀ {hs:List (List Int)} (n:Int),1 ≤ hs.length->hs.length ≤ 6->(∀ h ∈ hs,dQ M h)->∃ d xs',aY jv pA [.int n] [.int M,.lst (hs.map hD)]=some (d,xs')∧LQ (.tup [.int M,d]) xs':=fun n h1 h6 hq=>by
  obtain ⟨d,xs',e,⟨gs,rfl,g1,g2⟩,n',rfl⟩:=o9 n hM1 hM7 h1 h6 hq
  exact ⟨_,_,e,M,gs,n',rfl,rfl,by omega,by omega,by omega,g2⟩
 refine jT (decide (way=0∧2 < M)) ?_ ?_ ?_
 ·by_cases q:way=0
  ·by_cases q2:2 < M
   ·simp [cX,uz,bT,q,q2]
    omega
   ·have:¬ (M:Int) > 2:=by omega
    simp [cX,uz,bT,q,q2]
    omega
  ·simp [cX,uz,bT,q]
 ·intro hw
  obtain ⟨hw,hM2⟩:=of_decide_eq_true hw
  obtain ⟨d,xs',eb,⟨bs,rfl,b3,b6,bq⟩,n',rfl⟩:=nR n (by omega) hM7
  refine aG (fun δ=>δ=[.ow true [.int n'],.pu (.int P),.pu (.int Z),.pu (.int M),.pu (.int N),.pu (.int way),.pu (.lst (bs.map hD)),.un]) (by simp [-Prod.exists,eb]) ?_
  rintro _ rfl
  refine aG (fun δ=>∃ (n:Int) (es:List (List Int)),δ=[.ow true [.int n],.pu (.int P),.pu (.int Z),.pu (.int M),.pu (.int N),.pu (.int way),.pu (.lst (bs.map hD)),.pu (.lst (es.map hD))]∧bs.length + es.length ≤ 6∧∀ h ∈ es,dQ M h) ?_ ?_
  ·simp only [cM,aq,ar]
   refine rk rfl ?_
   obtain ⟨W,hW,hW1,hW2⟩:∃ W:Nat,1 + (if bs.length < Z then (Z:Int) - (bs.length:Int) else 0)=(W:Int)∧1 ≤ W∧bs.length + W ≤ 7:= by
    refine ⟨(1 + (if bs.length < Z then (Z:Int) - (bs.length:Int) else 0)).toNat,?_,?_,?_⟩ <;> split <;> omega
   obtain ⟨V,hV,hV1⟩:∃ V:Nat,n' % (W:Int)=(V:Int)∧V < W:= by
    have h1:=Int.emod_nonneg n' (show (W:Int) ≠ 0 by omega)
    have h2:=Int.emod_lt_of_pos n' (show (0:Int) < W by omega)
    exact ⟨(n' % (W:Int)).toNat,by omega,by omega⟩
   have sV:bg V=true:=by simp [bg];omega
   have hcomp:∀ n:Int,Ok (aX 8 1 (pure (aW (bF 0 V))) (bo (bp 8) (pure true) (do let _ <- aA 0;bC 0 2 (aY gM ic) (af (ah 3) (pure []))))) [.ow true [.int n],.pu (.int P),.pu (.int Z),.pu (.int M),.pu (.int N),.pu (.int way),.pu (.lst (bs.map hD)),.un] (fun xs δ=>∃ (m:Int) (es:List (List Int)),xs=es.map hD∧δ=[.ow true [.int m],.pu (.int P),.pu (.int Z),.pu (.int M),.pu (.int N),.pu (.int way),.pu (.lst (bs.map hD)),.un]∧es.length=V∧∀ h ∈ es,dQ M h):=fun n=>
    kF hM1 hM7 V (by omega) n (by simp) fun hs m h1 h2=>⟨m,hs,rfl,rfl,h1,h2⟩
   have et:=aB n' W (by omega) (by omega)
   simp [-Prod.exists,bu,eR,iu,cG,bT,hW,et,hV,cC,sV]
   refine (hcomp _).mono fun xs δ ⟨m,es,e1,e2,e3,e4⟩=>?_
   subst e1;subst e2
   simp
   exact ⟨m,es,⟨rfl,rfl⟩,by omega,e4⟩
  rintro _ ⟨n,es,rfl,hl,eq⟩
  obtain ⟨d,xs',e,z⟩:=fin (hs:=bs ++ es) n (by simp;omega) (by simp;omega) fun h hh=>by
   rcases List.mem_append.mp hh with z | z
   ·exact bq h z
   ·exact eq h z
  have ec:cutD (bs.map hD ++ es.map hD) none (some 6)=(bs ++ es).map hD:= by
   rw [<- List.map_append]
   unfold cutD
   rw [HT.sIx_none,show (some (6:Int))=some ((6:Nat):Int) from rfl,HT.sIx_nat,List.drop_zero,List.length_map,List.take_of_length_le]
   rw [List.length_map,List.length_append];simp;omega
  have hc:sH (bs.map hD) (es.map hD)=some (bs.map hD ++ es.map hD):= by
   unfold sH;rw [if_pos (by simp;omega)]
  rw [List.map_append] at e
  simp [-Prod.exists,oY,hc,CZ,ec,e]
  exact z
 ·intro _
  refine jT (decide (way=1)) ?_ ?_ ?_
  ·by_cases q:way=1 <;> simp [cX,q]
  ·intro _
   have sN:bg N=true:=by simp [bg];omega
   have hcomp:Ok (aX 8 1 (mC cC (af (ah 4) (pure []))) (bo (bp 8) (pure true) (do let _ <- aA 0;bC 0 2 (aY gM ic) (af (ah 3) (pure []))))) [.ow true [.int n],.pu (.int P),.pu (.int Z),.pu (.int M),.pu (.int N),.pu (.int way),.un,.un] (fun xs δ=>∃ (m:Int) (es:List (List Int)),xs=es.map hD∧δ=[.ow true [.int m],.pu (.int P),.pu (.int Z),.pu (.int M),.pu (.int N),.pu (.int way),.un,.un]∧es.length=N∧∀ h ∈ es,dQ M h) :=
    kF hM1 hM7 N (by omega) n (by simp [cC,sN]) fun hs m h1 h2=>⟨m,hs,rfl,rfl,h1,h2⟩
   simp only [aq,hU,ay,aZ,i8,ar,b5,List.getElem?_cons_zero,List.getElem?_cons_succ,Option.some.injEq,Jt.Slot.pu.injEq,exists_eq_left']
   refine ⟨_,_,rfl,hcomp.mono fun xs δ ⟨m,es,e1,e2,e3,e4⟩=>?_⟩
   subst e1;subst e2
   obtain ⟨d,xs',e,z⟩:=fin (hs:=es) m (by omega) (by omega) e4
   simp [-Prod.exists,e]
   exact z
  ·intro _
   obtain ⟨d,xs',eg,⟨hs,rfl,g1,g2⟩,n',rfl⟩:=qJ n hM1 hM7 hN1 (Z:=N) (by omega)
   obtain ⟨d,xs',e,z⟩:=fin (hs:=hs) n' (by omega) (by omega) g2
   simp [-Prod.exists,eg,e]
   exact z
end K21
namespace K21
open PySem L2 Jt
variable {hs:List (List Int)} {M:Nat}
theorem k6:∀ (hs:List (List Int)) (n:Nat),kz n (hs.map hD)=(List.range hs.length).map fun (i:Nat)=>.tup [.int ((n + i:Nat):Int),hD (G hs i)]:= by
 intro hs
 induction hs with
 | nil=>intro n;rfl
 | cons h r ih=>
  intro n
  show D.tup [.int (n:Int),hD h] :: kz (n + 1) (r.map hD)=_
  rw [ih,List.length_cons,List.range_succ_eq_map,List.map_cons,List.map_map]
  congr 1
  refine List.map_congr_left fun i _=>?_
  simp [G,Function.comp]
  omega
theorem HB {M:Nat} (h6:hs.length ≤ 6) (c:Nat) (hc:c < M):aO kq qe [cb M hs,.int c]=some (.tup (lD (vc hs c))):= by
 apply ba
 show Ok qe [.pu (cb M hs),.pu (.int c),.un,.un] _
 unfold qe
 refine aG (fun δ=>δ=[.pu (cb M hs),.pu (.int c),.pu (.int M),.pu (.tup (hs.map hD))]) ?_ ?_
 ·simp [cb]
 rintro _ rfl
 have eb:aO m9 kJ [.int (c:Int),.int (M:Int)]=some (.bl true):= by
  rw [CW]
  simp [eS]
  omega
 refine jT false ?_ (by simp) fun _=>?_
 ·simp [aR,eb,b_]
 simp only [aq,b9,ay,ar]
 refine bP (List.range hs.length) (fun (i:Nat)=>.tup [.int (i:Int),hD (G hs i)]) (fun i=>if decide ((c:Int) ∈ G hs i)=true then some (.int (i:Int)) else none) rfl ?_ (by simp;omega) (fun i hi=>?_) ?_
 ·have:=k6 hs 0
  simp [jg,oZ,this]
 ·by_cases q:(c:Int) ∈ G hs i <;> simp [qG,q]
 ·rw [b7]
  simp [cx,gm,lD,vc,co,G]
theorem k4 (hs:List (List Int)):bu [.tup (hs.map hD)]=some (.int (hs.length:Int)):=by simp [bu]
theorem uo {H:List Nat} {k:Nat} (h:k < H.length):cT (.tup (lD H)) (.int (k:Int))=some (.int ((H.getD k 0:Nat):Int)):= by
 show ju (lD H) (k:Int)=_
 rw [cV (lD H) k (by rw [rZ];exact h)]
 simp [lD,h]
def chg (x y:Nat) (l:List Nat):List Nat:=l.map fun z=>if z=x then y else z
def lnk (l:List Nat) (a b:Nat):List Nat:=chg (max (l.getD a 0) (l.getD b 0)) (min (l.getD a 0) (l.getD b 0)) l
theorem FV {l:List Nat} (h6:l.length ≤ 6) {a b:Nat} (ha:a < l.length) (hb:b < l.length):aO mB pZ [.tup (lD l),.int (a:Int),.int (b:Int)]=some (.tup (lD (lnk l a b))):= by
 apply ba
 show Ok pZ [.pu (.tup (lD l)),.pu (.int (a:Int)),.pu (.int (b:Int)),.un,.un] _
 unfold pZ
 have xa:=uo ha
 have xb:=uo hb
 have mn:gk [.int ((l.getD a 0:Nat):Int),.int ((l.getD b 0:Nat):Int)]=some (.int ((min (l.getD a 0) (l.getD b 0):Nat):Int)):= by
  simp only [gk]
  congr 2
  omega
 have mx:iu [.int ((l.getD a 0:Nat):Int),.int ((l.getD b 0:Nat):Int)]=some (.int ((max (l.getD a 0) (l.getD b 0):Nat):Int)):= by
  simp only [iu]
  congr 2
  omega
 have si:bh (.tup (lD l))=some (aW (l.map fun (i:Nat)=>D.int (i:Int))):=rfl
 unfold lnk
 generalize min (l.getD a 0) (l.getD b 0)=mi at *
 generalize max (l.getD a 0) (l.getD b 0)=ma at *
 generalize ((l.getD a 0:Nat):Int)=ya at *
 generalize ((l.getD b 0:Nat):Int)=yb at *
 generalize D.tup (lD l)=ld at *
 refine aG (fun δ=>δ=[.pu ld,.pu (.int (a:Int)),.pu (.int (b:Int)),.pu (.int (mi:Int)),.un]) (by simp [xa,xb,mn]) ?_
 rintro _ rfl
 refine aG (fun δ=>δ=[.pu ld,.pu (.int (a:Int)),.pu (.int (b:Int)),.pu (.int (mi:Int)),.pu (.int (ma:Int))]) (by simp [xa,xb,mx]) ?_
 rintro _ rfl
 simp only [aq,b9,ay,ar]
 refine bP l (fun (i:Nat)=>.int (i:Int)) (fun z=>some (.int ((if z=ma then mi else z:Nat):Int))) rfl ?_ (by omega) (fun z _=>?_) ?_
 ·simp [si]
 ·by_cases q:z=ma
  ·simp [jW,q]
  ·simp [jW,q]
 ·rw [List.filterMap_eq_map']
  simp [c7,chg,lD]
structure GI (n:Nat) (l:List Nat) (T:List Pr):Prop where
 len:l.length=n
 eq:∀ a b,a < n->b < n->(l.getD a 0=l.getD b 0 ↔ eF T a b)
theorem B4 (n:Nat):GI n (List.range n) []:=⟨List.length_range,fun a b ha hb=>by
 simp only [List.getD_eq_getElem?_getD,List.getElem?_range ha,List.getElem?_range hb,Option.getD_some]
 exact ⟨fun h=>by cases h;exact .refl _,fun h=>h.nil⟩⟩
theorem ud {x y a:Nat} {l:List Nat} (ha:a < l.length):(chg x y l).getD a 0=if l.getD a 0=x then y else l.getD a 0:= by
 unfold chg
 simp [List.getD_eq_getElem?_getD,List.getElem?_eq_getElem ha]
theorem GI.lnk {n:Nat} {l:List Nat} {T:List Pr} (h:GI n l T) {u v:Nat} (hu:u < n) (hv:v < n):GI n (lnk l u v) (T ++ [(u,v)]):= by
 refine ⟨by unfold K21.lnk chg;rw [List.length_map];exact h.len,fun a b ha hb=>?_⟩
 have e:eF (T ++ [(u,v)]) a b ↔ eF ((u,v) :: T) a b:=⟨eF.mono fun e he=>by
  rcases List.mem_append.mp he with z | z
  ·exact List.mem_cons_of_mem _ z
  ·rw [List.mem_singleton.mp z];exact List.mem_cons_self,eF.mono fun e he=>by
  rcases List.mem_cons.mp he with z | z
  ·rw [z];exact List.mem_append.mpr (.inr (List.mem_singleton.mpr rfl))
  ·exact List.mem_append.mpr (.inl z)⟩
 rw [e,qi,<- h.eq a b ha hb,<- h.eq a u ha hu,<- h.eq v b hv hb,<- h.eq a v ha hv,<- h.eq u b hu hb]
 unfold K21.lnk
 rw [ud (by rw [h.len];exact ha),ud (by rw [h.len];exact hb)]
 generalize l.getD a 0=A
 generalize l.getD b 0=B
 generalize l.getD u 0=U
 generalize l.getD v 0=V
 by_cases q:U ≤ V
 ·rw [Nat.max_eq_right q,Nat.min_eq_left q]
  by_cases h1:A=V
  ·rw [if_pos h1]
   by_cases h2:B=V
   ·rw [if_pos h2];omega
   ·rw [if_neg h2];omega
  ·rw [if_neg h1]
   by_cases h2:B=V
   ·rw [if_pos h2];omega
   ·rw [if_neg h2];omega
 ·rw [Nat.max_eq_left (by omega),Nat.min_eq_right (by omega)]
  by_cases h1:A=U
  ·rw [if_pos h1]
   by_cases h2:B=U
   ·rw [if_pos h2];omega
   ·rw [if_neg h2];omega
  ·rw [if_neg h1]
   by_cases h2:B=U
   ·rw [if_pos h2];omega
   ·rw [if_neg h2];omega
end K21
namespace K21
open PySem L2 Jt
variable {hs:List (List Int)} {M:Nat}
def pD (e:Pr):D:=.tup [.int (e.1:Int),.int (e.2:Int)]
def tD (X:List Pr):D:=.tup (X.map pD)
theorem wo (k:Nat) (ls:List Nat):lA false (.int (k:Int)) (.lst (lD ls))=some (.bl (decide (k ∈ ls))):=sf false k ls
theorem x4 {sm:List Nat} {X:List Pr} {f:List Nat} {j:Nat} (h:j < X.length):K21.rdH sm (X.take (j + 1)) f=stH sm (K21.rdH sm (X.take j) f) X[j]:= by
 unfold K21.rdH
 rw [List.take_succ_eq_append_getElem h,List.foldl_append]
 rfl
theorem wZ {sm:List Nat} {X:List Pr} (hne:sm ≠ []) (i j:Nat):(K21.rdH sm (X.take j) (mR sm X i (sm.take 1))).length ≤ sm.length:= by
 obtain ⟨x,r,rfl⟩:∃ x r,sm=x :: r:= by
  cases sm with
  | nil=>exact absurd rfl hne
  | cons x r=>exact ⟨x,r,rfl⟩
 have j0:JH (x :: r) X x ((x :: r).take 1):=⟨by simp,fun a ha=>by
  have:a=x:=by simpa using ha
  rw [this];exact List.mem_cons_self,by simp,fun a ha=>by
  have:a=x:=by simpa using ha
  rw [this];exact .refl _⟩
 have h:=JH.rd (Q:=X.take j) (fun e he=>List.mem_of_mem_take he) (j0.it i)
 exact uH h.nd h.sub
theorem tS (a b:Bool):iL true (.bl a) (.bl b)=some (.bl (a != b)):=by cases a <;> cases b <;> rfl
theorem kY {X:List Pr} {sm:List Nat} (hs6:sm.length ≤ 6):aO qt l8 [tD X,.lst (lD sm)]=some (.bl (dM X sm)):= by
 apply ba
 show Ok l8 [.pu (tD X),.pu (.lst (lD sm)),.un,.un,.un,.un] _
 unfold l8
 have e0:=eO false (lD sm)
 have i1:=fun k=>wo k sm
 have si:bh (tD X)=some (aW (X.map pD)):=rfl
 have sl:CZ (.lst (lD sm)) none (some 1)=some (.lst (lD (sm.take 1))):= by
  show some (D.lst (cutD (lD sm) none (some ((1:Nat):Int))))=_
  rw [lg,A7]
 have ln:bu [.lst (lD sm)]=some (.int (sm.length:Int)):=by simp [bu,lD]
 have sN:bg (sm.length:Int)=true:=by simp [bg];omega
 by_cases hne:sm=[]
 ·subst hne
  rw [br]
  refine cZ (fun b δ=>b=true∧δ=[.pu (tD X),.pu (.lst (lD [])),.un,.un,.un,.un]) ?_ ?_ (fun _ h=>by cases h.1)
  ·have:iL false (.lst (lD [])) (.lst [])=some (.bl true):=rfl
   generalize D.lst (lD [])=z at *
   simp [this]
  ·rintro _ ⟨_,rfl⟩
   simp [dM]
 ·have hemp:(lD sm).isEmpty=false:= by
   cases sm with
   | nil=>exact absurd rfl hne
   | cons _ _=>rfl
  rw [hemp,if_neg (by simp)] at e0
  unfold dM
  rw [if_neg hne]
  generalize tD X=td at *
  generalize hsd:D.lst (lD sm)=sd at *
  refine jT false ?_ (by simp) fun _=>?_
  ·simp [e0]
  refine aG (fun δ=>δ=[.pu td,.pu sd,.pu (.lst (lD (sm.take 1))),.un,.un,.un]) (by simp [sl]) ?_
  rintro _ rfl
  rw [br]
  refine jC (lD (List.range sm.length)) (fun i δ=>∃ a b c:Jt.Slot,δ=[.pu td,.pu sd,.pu (.lst (lD (mR sm X i (sm.take 1)))),a,b,c]) ?_ ⟨_,_,_,rfl⟩ ?_ ?_
  ·simp [ln,cC,sN,k7]
  ·rintro i hi _ ⟨a,b,c,rfl⟩
   have itm:(lD (List.range sm.length))[i]=.int (i:Int):=by simp [lD]
   rw [itm]
   simp only [bR,List.length_cons,List.length_nil,List.set_cons_succ,List.set_cons_zero]
   refine ⟨by omega,?_⟩
   refine jC (X.map pD) (fun j δ=>∃ b c:Jt.Slot,δ=[.pu td,.pu sd,.pu (.lst (lD (K21.rdH sm (X.take j) (mR sm X i (sm.take 1))))),.pu (.int (i:Int)),b,c]) ?_ ⟨b,c,rfl⟩ ?_ ?_
   ·simp [si]
   ·rintro j hj _ ⟨b,c,rfl⟩
    have hj2:j < X.length:=by simpa using hj
    have itj:(X.map pD)[j]=pD X[j]:=by simp
    rw [itj,x4 hj2]
    have hl:=wZ (X:=X) hne i j
    generalize K21.rdH sm (X.take j) (mR sm X i (sm.take 1))=f at *
    generalize X[j]=e at *
    have f1:=wo e.1 f
    have f2:=wo e.2 f
    have g1:=i1 e.1
    have g2:=i1 e.2
    have bb:=tS (decide (e.1 ∈ f)) (decide (e.2 ∈ f))
    have ct:oY (.lst (lD f)) (.lst [.int ((if e.1 ∈ f then e.2 else e.1:Nat):Int)])=some (lD (f ++ [if e.1 ∈ f then e.2 else e.1])):= by
     show sH _ _=_
     unfold sH
     rw [if_pos (by simp [lD];omega)]
     simp [lD]
    have hst:stH sm f e=if (decide (e.1 ∈ f) != decide (e.2 ∈ f)) && decide (e.1 ∈ sm) && decide (e.2 ∈ sm) then f ++ [if e.1 ∈ f then e.2 else e.1] else f:=rfl
    have pick:cT (.lst [.int (e.1:Int),.int (e.2:Int)]) (.int (if decide (e.1 ∈ f)=true then 1 else 0))=some (.int ((if e.1 ∈ f then e.2 else e.1:Nat):Int)):= by
     by_cases q:e.1 ∈ f <;> simp [q] <;> rfl
    show Ok (eL 2 _ (.tup [.int (e.1:Int),.int (e.2:Int)])) _ _
    generalize stH sm f e=f' at *
    generalize hf:D.lst (lD f)=fd at *
    generalize (if e.1 ∈ f then e.2 else e.1)=v at *
    generalize decide (e.1 ∈ f)=q1 at *
    generalize decide (e.2 ∈ f)=q2 at *
    generalize decide (e.1 ∈ sm)=q3 at *
    generalize decide (e.2 ∈ sm)=q4 at *
    simp only [oJ,List.length_cons,List.length_nil,if_true,g_,bR,kj,List.set_cons_succ,List.set_cons_zero]
    refine ⟨by omega,by omega,?_⟩
    refine cZ (fun b δ=>b=((q1 != q2) && q3 && q4)∧δ=[.pu td,.pu sd,.pu fd,.pu (.int (i:Int)),.pu (.int (e.1:Int)),.pu (.int (e.2:Int))]) ?_ ?_ ?_
    ·cases hq:(q1 != q2) <;> rw [hq] at bb <;> cases q3 <;> simp [f1,f2,bb,g1,g2]
    ·rintro _ ⟨h,rfl⟩
     rw [if_pos h.symm] at hst
     simp only [cM,aq,wJ,aZ,ar,eK,ay,dC,b9,cw,x5,List.getElem?_cons_succ,List.getElem?_cons_zero,Option.some.injEq,Jt.Slot.pu.injEq,exists_eq_left',f1,aV,jG,pick,List.length_cons,List.length_nil,List.set_cons_succ,List.set_cons_zero,ct]
     exact ⟨by omega,by omega,by omega,_,_,by rw [hst]⟩
    ·rintro _ ⟨h,rfl⟩
     rw [if_neg (by rw [<- h];simp)] at hst
     refine ar.mpr ⟨.pu (.int (e.1:Int)),.pu (.int (e.2:Int)),?_⟩
     rw [hst,hf]
   ·rintro _ ⟨b,c,rfl⟩
    have:X.take (X.map pD).length=X:=by simp
    rw [this]
    exact ⟨_,_,_,rfl⟩
  ·rintro _ ⟨a,b,c,rfl⟩
   have:(lD (List.range sm.length)).length=sm.length:=by simp [lD]
   rw [this]
   generalize mR sm X sm.length (sm.take 1)=f
   have lf:bu [.lst (lD f)]=some (.int (f.length:Int)):=by simp [bu,lD]
   have eqf:ck false (.int (f.length:Int)) (.int (sm.length:Int))=some (.bl (f.length == sm.length)):= by
    have:ck false (.int (f.length:Int)) (.int (sm.length:Int))=some (.bl (decide ((f.length:Int)=(sm.length:Int)))):=by simp [ck,flat,l0]
    rw [this]
    refine congrArg (fun b:Bool=>some (D.bl b)) ?_
    rw [Bool.eq_iff_iff,decide_eq_true_eq,beq_iff_eq]
    omega
   generalize D.lst (lD f)=fd at *
   simp [lf,ln,eqf]
theorem Fv (h6:hs.length ≤ 6) (c:Nat):(vc hs c).length ≤ 6:= by
 unfold vc
 have:=List.length_filter_le (fun i=>co hs c i) (List.range hs.length)
 rw [List.length_range] at this
 omega
def fj (hs:List (List Int)) (M:Nat) (X:List Pr):Bool:=decide (∀ c,c < M->dM X (vc hs c)=true)
theorem qh (h6:hs.length ≤ 6) (hM:M ≤ 7) (X:List Pr):aO i5 ke [cb M hs,tD X]=some (.bl (fj hs M X)):= by
 have:∃ d,aO i5 ke [cb M hs,tD X]=some d∧d=.bl (fj hs M X):= by
  apply oy
  show Ok ke [.pu (cb M hs),.pu (tD X),.un] _
  unfold ke
  have e0:=qf (M:Int) hs
  have e1:=fJ (M:Int) hs
  have hg:=fun c=>kY (X:=X) (Fv h6 c)
  have nd:=k6 hs 0
  have sM:bg (M:Int)=true:=by simp [bg];omega
  generalize cb (M:Int) hs=lay at *
  generalize tD X=td at *
  rw [br]
  refine jC (lD (List.range M)) (fun c δ=>∃ a:Jt.Slot,δ=[.pu lay,.pu td,a]∧∀ i,i < c->dM X (vc hs i)=true) ?_ ⟨_,rfl,fun i h=>by omega⟩ ?_ ?_
  ·simp [e0,cC,sM,k7]
  ·rintro c hc _ ⟨a,rfl,hz⟩
   have hc2:c < M:=by simpa [lD] using hc
   have itm:(lD (List.range M))[c]=.int (c:Int):=by simp [lD]
   rw [itm]
   simp only [bR,List.length_cons,List.length_nil,List.set_cons_succ,List.set_cons_zero]
   refine ⟨by omega,?_⟩
   refine cZ (fun b δ=>b = !dM X (vc hs c)∧δ=[.pu lay,.pu td,.pu (.int (c:Int))]) ?_ ?_ ?_
   ·simp only [dP,aq,b9,ay,aZ,ar,List.getElem?_cons_succ,List.getElem?_cons_zero,Option.some.injEq,Jt.Slot.pu.injEq,exists_eq_left']
    refine bP (List.range hs.length) (fun (i:Nat)=>.tup [.int (i:Int),hD (G hs i)]) (fun i=>if decide ((c:Int) ∈ G hs i)=true then some (.int (i:Int)) else none) rfl ?_ (by simp;omega) (fun i hi=>?_) ?_
    ·simp [e1,jg,oZ,nd]
    ·by_cases q:(c:Int) ∈ G hs i <;> simp [qG,q]
    ·rw [b7]
     have ev:((List.range hs.length).filter fun i=>decide ((c:Int) ∈ G hs i)).map (fun (i:Nat)=>D.int (i:Int))=lD (vc hs c):=rfl
     rw [ev]
     have h:=hg c
     generalize D.lst (lD (vc hs c))=vd at *
     simp [aR,h,b_]
   ·rintro _ ⟨h,rfl⟩
    have h:dM X (vc hs c)=false:=by simpa using h.symm
    simp only [aq,ar]
    refine ⟨_,rfl,?_⟩
    have:fj hs M X=false:= by
     unfold fj
     rw [decide_eq_false_iff_not]
     intro z
     have:=z c hc2
     rw [h] at this;cases this
    rw [this]
   ·rintro _ ⟨h,rfl⟩
    have h:dM X (vc hs c)=true:=by simpa using h.symm
    refine ar.mpr ⟨_,rfl,fun i hi=>?_⟩
    by_cases e:i=c
    ·rw [e];exact h
    ·exact hz i (by omega)
  ·rintro _ ⟨a,rfl,hz⟩
   have:(lD (List.range M)).length=M:=by simp [lD]
   rw [this] at hz
   simp only [aq,ar]
   refine ⟨_,rfl,?_⟩
   have:fj hs M X=true:= by
    unfold fj
    rw [decide_eq_true_eq];exact hz
   rw [this]
 obtain ⟨d,h,rfl⟩:=this
 exact h
end K21
namespace K21
open PySem L2 Jt
def pv:List D:=[.non,.bl true,.bl false,.int (-1),.int 0,.int 1,.int 7,.int 10,.str "",.str "0",.str "none",.tup [],.tup [.int 0],.tup [.int 0,.int 1],.tup [.int 1,.int 0],.tup [.int 0,.int 0],.tup [.int 0,.bl true],.lst [.int 0],.dct,
 .tup [.tup [.int 0]],.tup [.tup [.int 0,.int 1]],.lst [.tup [.int 0,.int 1]],.int (10 ^ 39),.tup [.int 0,.int 10],.tup [.int 0,.int (-1)],.tup [.tup [],.tup []],.tup [.tup [.int 0,.int 1],.tup [.int 0,.int 1]],.tup [.tup [.int 0,.int 1],.non]]
end K21
namespace K21
open PySem L2 Jt
variable {hs:List (List Int)} {M:Nat}
def cK (n:Nat):D->Bool
 | .tup [.int a,.int b]=>decide (0 ≤ a) && decide (a < b) && decide (b < (n:Int))
 | _=>false
def lU (n:Nat):D->Bool
 | .tup [.int a,.int b]=>(decide (0 ≤ a) && decide (a < (n:Int))) && (decide (0 ≤ b) && decide (b < (n:Int)))
 | _=>false
theorem vP {n:Nat}:∀ {xs:List D},gC (n:Int) (.tup xs)=true->lU n (.tup xs)=decide (xs.length=2)
 | [],_=>rfl
 | [p],_=>by cases p <;> rfl
 | [p,q],h=>by
  cases p <;> cases q <;> first | (simp [gC,eS] at h;done) | (simp [gC,eS] at h;simp [lU,h])
 | p :: q :: r :: s,_=>by
  have:lU n (.tup (p :: q :: r :: s))=false:=by cases p <;> cases q <;> rfl
  rw [this];simp
theorem mD {n:Nat} {x:D} (h:lU n x=true):∃ a b,x=.tup [.int a,.int b]∧0 ≤ a∧a < (n:Int)∧0 ≤ b∧b < (n:Int):= by
 unfold lU at h
 split at h
 ·rename_i a b
  simp at h
  exact ⟨a,b,rfl,h.1.1,h.1.2,h.2.1,h.2.2⟩
 ·cases h
theorem Ih {n:Nat} {x:D} (h:Short x):aO zr wm [x,.int (n:Int)]=some (.bl (lU n x)):= by
 apply ba
 show Ok wm [.pu x,.pu (.int (n:Int))] _
 unfold wm
 have e:=Gw (n:Int) h
 cases q:gC (n:Int) x with
 | false=>
  rw [q] at e
  have:lU n x=false:= by
   cases q2:lU n x with
   | false=>rfl
   | true=>
    obtain ⟨a,b,rfl,h1,h2,h3,h4⟩:=mD q2
    simp [gC,eS,h1,h2,h3,h4] at q
  rw [this]
  simp [aR,e]
 | true=>
  rw [q] at e
  cases x with
  | tup xs=>
   have ln:bu [.tup xs]=some (.int (xs.length:Int)):=by simp [bu]
   have eqf:ck false (.int (xs.length:Int)) (.int 2)=some (.bl (decide (xs.length=2))):= by
    have:ck false (.int (xs.length:Int)) (.int 2)=some (.bl (decide ((xs.length:Int)=2))):=by simp [ck,flat,l0]
    rw [this]
    refine congrArg (fun b:Bool=>some (D.bl b)) ?_
    rw [decide_eq_decide]
    omega
   rw [vP q]
   generalize D.tup xs=t at *
   simp [aR,e,ln,eqf]
  | _=>cases q
theorem FK (m:Int) {x:D} (h:Short x):aO mG kO [cb m hs,x]=some (.bl (cK hs.length x)):= by
 apply ba
 show Ok kO [.pu (cb m hs),.pu x] _
 unfold kO
 have e:=Ih (n:=hs.length) h
 have e1:=fJ m hs
 have e2:=k4 hs
 generalize cb m hs=lay at *
 cases q:lU hs.length x with
 | false=>
  rw [q] at e
  have:cK hs.length x=false:= by
   cases q2:cK hs.length x with
   | false=>rfl
   | true=>
    unfold cK at q2
    split at q2
    ·rename_i a b
     simp at q2
     exfalso
     simp [lU] at q
     omega
    ·cases q2
  rw [this]
  simp [aR,e,e1,e2]
 | true=>
  rw [q] at e
  obtain ⟨a,b,rfl,h1,h2,h3,h4⟩:=mD q
  have x0:cT (.tup [.int a,.int b]) (.int 0)=some (.int a):=rfl
  have x1:cT (.tup [.int a,.int b]) (.int 1)=some (.int b):=rfl
  have lt:rb (.int a) (.int b)=some (.bl (decide (a < b))):=rfl
  have ep:cK hs.length (.tup [.int a,.int b])=decide (a < b):=by simp [cK,h1,h4]
  rw [ep]
  generalize D.tup [.int a,.int b]=t at *
  simp [aR,e,e1,e2,x0,x1,lt]
theorem kB {n:Nat} {x:D} (h:cK n x=true):∃ a b,x=.tup [.int a,.int b]:= by
 unfold cK at h
 split at h
 ·exact ⟨_,_,rfl⟩
 ·cases h
theorem pN {x:D} (h:isInt x=true):∃ a,x=.int a:= by
 cases x <;> first | exact ⟨_,rfl⟩ | cases h
theorem lL (m:Int) {x:D} (h:Short x):aO qd r9 [cb m hs,x]=some (.bl (cK hs.length x)):= by
 apply ba
 show Ok r9 [.pu (cb m hs),.pu x] _
 unfold r9
 have e1:=fJ m hs
 have e2:=k4 hs
 generalize cb m hs=lay at *
 by_cases ht:∃ xs,x=.tup xs
 ·obtain ⟨xs,rfl⟩:=ht
  have ln:bu [.tup xs]=some (.int (xs.length:Int)):=by simp [bu]
  have si:bh (.tup xs)=some (aW xs):=rfl
  have isi:bx .tup (.tup xs)=true:=by simp [bx,lr]
  by_cases h2:xs.length=2
  ·have nq:ck true (.int (xs.length:Int)) (.int 2)=some (.bl false):=by rw [h2];rfl
   match xs,h2 with
   | [p,q],_=>
   have whole:Ok (aX 2 1 (do let x <- ah 1;lift (bh x)) (bo (bp 2) (pure true) (mC (aR 1 (aO pz mU)) (af (ah 2) (pure []))))) [.pu lay,.pu (.tup [p,q])] fun ys δ=>ys=[.bl (isInt p),.bl (isInt q)]∧δ=[.pu lay,.pu (.tup [p,q])]:= by
    refine uh [p,q] (fun d=>some (.bl (isInt d))) rfl ?_ (by simp) (fun d hd=>?_) ⟨rfl,rfl⟩
    ·simp [si]
    ·have:=pB d
     simp [aR,this]
   have all:gi [.lst [.bl (isInt p),.bl (isInt q)]]=some (.bl (isInt p && isInt q)):=by simp [gi,boolsOf]
   cases hw:(isInt p && isInt q) with
   | false=>
    have hp:cK hs.length (.tup [p,q])=false:=Bool.eq_false_iff.mpr fun z=>by
     obtain ⟨a,b,e⟩:=kB z
     injection e with e
     injection e with w1 w2
     injection w2 with w2
     subst w1;subst w2
     exact absurd hw (show ¬ true=false by decide)
    rw [hp,br]
    refine cZ (fun b δ=>b=true∧δ=[.pu lay,.pu (.tup [p,q])]) ?_ ?_ (fun _ h=>by cases h.1)
    ·rw [hw] at all
     generalize D.tup [p,q]=t at *
     simp only [gK,dP,aq,tG,aZ,List.getElem?_cons_succ,List.getElem?_cons_zero,Option.some.injEq,Jt.Slot.pu.injEq,exists_eq_left',isi,b_,aV,Bool.not_true,Bool.false_eq_true,if_false,dC,b9,ay,ar,ln,nq,gP,D.bl.injEq]
     refine whole.mono fun ys δ ⟨e3,e4⟩=>?_
     subst e3;subst e4
     simp [all,b_]
    ·rintro _ ⟨_,rfl⟩
     simp
   | true=>
    obtain ⟨a,rfl⟩:=pN (Bool.and_eq_true_iff.mp hw).1
    obtain ⟨b,rfl⟩:=pN (Bool.and_eq_true_iff.mp hw).2
    refine aG (fun δ=>δ=[.pu lay,.pu (.tup [.int a,.int b])]) ?_ ?_
    ·refine cZ (fun b' δ=>b' = false∧δ=[.pu lay,.pu (.tup [.int a,.int b])]) ?_ (fun _ h=>by cases h.1) ?_
     ·rw [hw] at all
      generalize D.tup [.int a,.int b]=t at *
      simp only [gK,dP,aq,tG,aZ,List.getElem?_cons_succ,List.getElem?_cons_zero,Option.some.injEq,Jt.Slot.pu.injEq,exists_eq_left',isi,b_,aV,Bool.not_true,Bool.false_eq_true,if_false,dC,b9,ay,ar,ln,nq,gP,D.bl.injEq]
      refine whole.mono fun ys δ ⟨e3,e4⟩=>?_
      subst e3;subst e4
      simp [all,b_]
     ·rintro _ ⟨_,rfl⟩
      simp
    rintro _ rfl
    have x0:cT (.tup [.int a,.int b]) (.int 0)=some (.int a):=rfl
    have x1:cT (.tup [.int a,.int b]) (.int 1)=some (.int b):=rfl
    have le:FC (.int 0) (.int a)=some (.bl (decide (0 ≤ a))):=rfl
    have lt:rb (.int a) (.int b)=some (.bl (decide (a < b))):=rfl
    have lt2:rb (.int b) (.int (hs.length:Int))=some (.bl (decide (b < (hs.length:Int)))):=rfl
    have ep:cK hs.length (.tup [.int a,.int b])=(decide (0 ≤ a) && decide (a < b) && decide (b < (hs.length:Int))):=rfl
    rw [ep]
    generalize D.tup [.int a,.int b]=t at *
    unfold Jt.Tu.chn3
    cases q1:decide (0 ≤ a) <;> cases q2:decide (a < b) <;> rw [q1] at le <;> rw [q2] at lt <;> simp [x0,x1,le,lt,lt2,e1,e2]
  ·have hp:cK hs.length (.tup xs)=false:=Bool.eq_false_iff.mpr fun z=>by
    obtain ⟨a,b,e⟩:=kB z
    injection e with e
    subst e
    exact h2 rfl
   have nq:ck true (.int (xs.length:Int)) (.int 2)=some (.bl true):= by
    have:ck true (.int (xs.length:Int)) (.int 2)=some (.bl (!decide ((xs.length:Int)=2))):=by simp [ck,flat,l0]
    rw [this,decide_eq_false (by omega)]
    rfl
   rw [hp,br]
   refine cZ (fun b δ=>b=true∧δ=[.pu lay,.pu (.tup xs)]) ?_ ?_ (fun _ h=>by cases h.1)
   ·generalize D.tup xs=t at *
    simp [isi,b_,ln,nq]
   ·rintro _ ⟨_,rfl⟩
    simp
 ·have hp:cK hs.length x=false:=Bool.eq_false_iff.mpr fun z=>by
   obtain ⟨a,b,e⟩:=kB z
   exact ht ⟨_,e⟩
  have isi:bx .tup x=false:= by
   cases x <;> first | rfl | exact absurd ⟨_,rfl⟩ ht
  rw [hp,br]
  refine cZ (fun b δ=>b=true∧δ=[.pu lay,.pu x]) ?_ ?_ (fun _ h=>by cases h.1)
  ·simp [isi,b_]
  ·rintro _ ⟨_,rfl⟩
   simp
end K21
namespace K21
open PySem L2 Jt
open Jt.Tu (bK lex_trans iA vt d8 gW fB sortSetU dLtU)
variable {hs:List (List Int)} {M:Nat}
def kp (e:Pr):List Int:=[(e.1:Int),(e.2:Int)]
theorem DZ {e f:Pr} (h:kp e=kp f):e=f:= by
 unfold kp at h
 injection h with h1 h2
 injection h2 with h2 _
 ext <;> omega
theorem pV {n:Nat}:∀ {xs:List D},xs.all (cK n)=true->∃ X:List Pr,xs=X.map pD∧∀ e ∈ X,e.1 < e.2∧e.2 < n
 | [],_=>⟨[],rfl,fun e he=>nomatch he⟩
 | x :: xs,h=>by
  rw [List.all_cons,Bool.and_eq_true] at h
  obtain ⟨X,rfl,hX⟩:=pV h.2
  have hx:=h.1
  unfold cK at hx
  split at hx
  ·rename_i a b
   simp at hx
   obtain ⟨⟨h1,h2⟩,h3⟩:=hx
   refine ⟨(a.toNat,b.toNat) :: X,?_,fun e he=>?_⟩
   ·rw [List.map_cons]
    congr 1
    unfold pD
    have e1:((a.toNat:Nat):Int)=a:=by omega
    have e2:((b.toNat:Nat):Int)=b:=by omega
    rw [e1,e2]
   ·rcases List.mem_cons.mp he with rfl | he
    ·dsimp only;omega
    ·exact hX e he
  ·cases hx
theorem B9 {n:Nat} {e:Pr} (h:e.1 < e.2∧e.2 < n):cK n (pD e)=true:= by
 simp [cK,pD]
 omega
def C9:List (List Int)->Bool
 | a :: b :: r=>bK a b && C9 (b :: r)
 | _=>true
theorem og:∀ {l:List (List Int)},C9 l=true ↔ vt l
 | []=>⟨fun _=>.nil,fun _=>rfl⟩
 | [a]=>⟨fun _=>List.pairwise_singleton _ _,fun _=>rfl⟩
 | a :: b :: r=>by
  unfold C9
  rw [Bool.and_eq_true,og]
  constructor
  ·rintro ⟨h1,h2⟩
   refine List.pairwise_cons.mpr ⟨fun z hz=>?_,h2⟩
   rcases List.mem_cons.mp hz with rfl | hz
   ·exact h1
   ·exact lex_trans h1 ((List.pairwise_cons.mp h2).1 z hz)
  ·intro h
   have h':=List.pairwise_cons.mp h
   exact ⟨h'.1 b List.mem_cons_self,h'.2⟩
theorem yC:∀ X Y:List Pr,ia (X.map pD) (Y.map pD)=(X.zip Y).map fun p=>.tup [pD p.1,pD p.2]
 | [],Y=>by cases Y <;> simp [ia]
 | x :: X,[]=>by simp [ia]
 | x :: X,y :: Y=>by
  show D.tup [pD x,pD y] :: ia (X.map pD) (Y.map pD)=_
  rw [yC X Y];rfl
theorem mI (xs:List D) (k:Nat):cutD xs (some (k:Int)) none=xs.drop k:= by
 unfold cutD
 have h1:HT.sIx xs.length xs.length none=xs.length:=rfl
 have h2:HT.sIx xs.length 0 (some (k:Int))=min k xs.length:= by
  simp [HT.sIx]
  omega
 rw [h1,h2]
 by_cases h:k ≤ xs.length
 ·rw [Nat.min_eq_left h]
  exact List.take_of_length_le (by rw [List.length_drop];omega)
 ·rw [Nat.min_eq_right (by omega),List.drop_eq_nil_of_le (Nat.le_refl _),List.drop_eq_nil_of_le (by omega),List.take_nil]
theorem uO:∀ X:List Pr,((X.zip (X.drop 1)).map fun p=>bK (kp p.1) (kp p.2)).all id=C9 (X.map kp)
 | []=>rfl
 | [a]=>rfl
 | a :: b :: r=>by
  have ih:=uO (b :: r)
  rw [List.drop_succ_cons,List.drop_zero,List.zip_cons_cons,List.map_cons,List.all_cons,List.map_cons,List.map_cons,C9]
  rw [List.drop_succ_cons,List.drop_zero] at ih
  rw [ih]
  rfl
theorem Hz {X:List Pr} (h:X.length ≤ 60):aO kS qA [tD X]=some (.bl (C9 (X.map kp))):= by
 apply ba
 show Ok qA [.pu (tD X)] _
 unfold qA
 have sl:CZ (tD X) (some 1) none=some (tD (X.drop 1)):= by
  show some (D.tup (cutD (X.map pD) (some ((1:Nat):Int)) none))=_
  rw [mI,<- List.map_drop]
  rfl
 have zi:ot [tD X,tD (X.drop 1)]=some (aW ((X.zip (X.drop 1)).map fun p=>.tup [pD p.1,pD p.2])):= by
  rw [<- yC]
  rfl
 simp only [aq,b9,ay,ar]
 refine bP (X.zip (X.drop 1)) (fun p=>.tup [pD p.1,pD p.2]) (fun p=>some (.bl (bK (kp p.1) (kp p.2)))) rfl ?_ (by simp;omega) (fun p _=>?_) ?_
 ·generalize tD X=t at *
  generalize tD (X.drop 1)=t1 at *
  simp [sl,zi]
 ·have lt:dLtU (pD p.1) (pD p.2)=some (.bl (bK (kp p.1) (kp p.2))):=rfl
  generalize pD p.1=a at *
  generalize pD p.2=b at *
  simp [lt]
 ·rw [List.filterMap_eq_map']
  have:gi [.lst ((X.zip (X.drop 1)).map fun p=>D.bl (bK (kp p.1) (kp p.2)))]=some (.bl (C9 (X.map kp))):= by
   show (boolsOf ((X.zip (X.drop 1)).map fun p=>D.bl (bK (kp p.1) (kp p.2)))).map _=_
   rw [dR,<- uO]
   rfl
  rw [this]
  simp
theorem GY (n:Nat) (a b:List Int):cJ (n + 2) (Jt.Tu.tD a) (Jt.Tu.tD b)=some (decide (a=b)):= by
 have h:=y3 n a b
 unfold Jt.Tu.tD cJ
 rw [h]
 by_cases e:a=b
 ·subst e;simp
 ·have:(decide (a.take b.length=b.take a.length) && (a.map D.int).length == (b.map D.int).length)=false:= by
   rw [Bool.and_eq_false_iff]
   by_cases hl:a.length=b.length
   ·left
    rw [decide_eq_false_iff_not]
    intro z
    rw [List.take_of_length_le (by omega),List.take_of_length_le (by omega)] at z
    exact e z
   ·right
    simpa using hl
  show some (decide (a.take b.length=b.take a.length) && (a.map D.int).length == (b.map D.int).length)=_
  rw [this,decide_eq_false e]
theorem HA (n:Nat):∀ {a b:List (List Int)},a.length=b.length->cJ.go (n + 2) (a.map Jt.Tu.tD) (b.map Jt.Tu.tD)=some (decide (a=b))
 | [],[],_=>by simp [cJ.go]
 | [],_ :: _,h=>by cases h
 | _ :: _,[],h=>by cases h
 | x :: a,y :: b,h=>by
  rw [List.map_cons,List.map_cons]
  unfold cJ.go
  rw [GY,HA n (by simpa using h)]
  simp
theorem xp (a b:List (List Int)):iL true (.lst (a.map Jt.Tu.tD)) (.lst (b.map Jt.Tu.tD))=some (.bl (!decide (a=b))):= by
 unfold iL
 rw [if_pos (show jN (.lst (a.map Jt.Tu.tD)) (.lst (b.map Jt.Tu.tD))=true from rfl)]
 have:cJ 9 (.lst (a.map Jt.Tu.tD)) (.lst (b.map Jt.Tu.tD))=some (decide (a=b)):= by
  unfold cJ
  by_cases h:a.length=b.length
  ·rw [if_pos (by simpa using h)]
   exact HA 6 h
  ·rw [if_neg (by simpa using h),decide_eq_false fun z=>h (by rw [z])]
 rw [this]
 rfl
theorem xY {l:List (List Int)}:l=iA l ↔ vt l:=⟨fun h=>by rw [h];exact d8 l,fun h=>gW h (d8 l) fun z=>fB.symm⟩
theorem Fp {X:List Pr} (h:X.length ≤ 5):sortSetU (tD X)=some ((iA (X.map kp)).map Jt.Tu.tD):= by
 unfold sortSetU tD
 dsimp only
 have e:X.map pD=(X.map kp).map fun ns=>.tup (ns.map .int):=by rw [List.map_map];rfl
 rw [e,jh]
 dsimp only
 rw [if_pos ⟨by simpa using h,by simp [kp]⟩]
open Classical in
theorem IL {n:Nat} {X:List Pr} (h6:n ≤ 6) (hX:∀ e ∈ X,e.1 < n∧e.2 < n):aO xE vj [.int (n:Int),tD X]=some (.bl (decide (iG X))):= by
 have:∃ d,aO xE vj [.int (n:Int),tD X]=some d∧d=.bl (decide (iG X)):= by
  apply oy
  show Ok vj [.pu (.int (n:Int)),.pu (tD X),.un,.un,.un] _
  unfold vj
  have rl:jJ [.int (n:Int)]=some (lD (List.range n)):= by
   have:((n:Int) < 100000 ∧ -(2 ^ 62) ≤ (n:Int)):=by omega
   simp [jJ,this,k7]
  have si:bh (tD X)=some (aW (X.map pD)):=rfl
  generalize tD X=td at *
  refine aG (fun δ=>δ=[.pu (.int (n:Int)),.pu td,.pu (.tup (lD (List.range n))),.un,.un]) (by simp [rl]) ?_
  rintro _ rfl
  rw [br]
  refine jC (X.map pD) (fun k δ=>∃ (l:List Nat) (a b:Jt.Slot),GI n l (X.take k)∧iG (X.take k)∧δ=[.pu (.int (n:Int)),.pu td,.pu (.tup (lD l)),a,b]) ?_ ⟨_,.un,.un,B4 n,um,rfl⟩ ?_ ?_
  ·simp [si]
  ·rintro k hk _ ⟨l,a,b,hL,hF,rfl⟩
   have hk2:k < X.length:=by simpa using hk
   have itm:(X.map pD)[k]=pD X[k]:=by simp
   rw [itm]
   have hm:=hX _ (List.getElem_mem hk2)
   have ek:X.take (k + 1)=X.take k ++ [X[k]]:=List.take_succ_eq_append_getElem hk2
   have hF1:iG X->¬ eF (X.take k) X[k].1 X[k].2:=fun h=>h k hk2
   rw [ek]
   generalize X[k]=e at *
   have x1:=uo (H:=l) (k:=e.1) (by rw [hL.len];omega)
   have x2:=uo (H:=l) (k:=e.2) (by rw [hL.len];omega)
   have lk:=FV (l:=l) (by rw [hL.len];exact h6) (a:=e.1) (b:=e.2) (by rw [hL.len];omega) (by rw [hL.len];omega)
   have ee:=hL.eq e.1 e.2 (by omega) (by omega)
   have hL2:=hL.lnk (u:=e.1) (v:=e.2) (by omega) (by omega)
   have ne:=jW false (l.getD e.1 0) (l.getD e.2 0)
   show Ok (eL 2 _ (.tup [.int (e.1:Int),.int (e.2:Int)])) _ _
   generalize lnk l e.1 e.2=l2 at *
   generalize l.getD e.1 0=y1 at *
   generalize l.getD e.2 0=y2 at *
   simp only [oJ,List.length_cons,List.length_nil,if_true,g_,bR,kj,List.set_cons_succ,List.set_cons_zero]
   refine ⟨by omega,by omega,?_⟩
   by_cases q:eF (X.take k) e.1 e.2
   ·rw [br]
    refine cZ (fun b δ=>b=true∧δ=[.pu (.int (n:Int)),.pu td,.pu (.tup (lD l)),.pu (.int (e.1:Int)),.pu (.int (e.2:Int))]) ?_ ?_ (fun _ h=>by cases h.1)
    ·rw [decide_eq_true (ee.mpr q)] at ne
     simp [x1,x2,ne]
    ·rintro _ ⟨_,rfl⟩
     simp only [aq,ar]
     refine ⟨_,rfl,?_⟩
     rw [decide_eq_false fun z=>hF1 z q]
   ·have q':¬ y1=y2:=fun z=>q (ee.mp z)
    refine aG (fun δ=>δ=[.pu (.int (n:Int)),.pu td,.pu (.tup (lD l)),.pu (.int (e.1:Int)),.pu (.int (e.2:Int))]) ?_ ?_
    ·refine cZ (fun b δ=>b=false∧δ=[.pu (.int (n:Int)),.pu td,.pu (.tup (lD l)),.pu (.int (e.1:Int)),.pu (.int (e.2:Int))]) ?_ (fun _ h=>by cases h.1) ?_
     ·simp only [decide_eq_false q'] at ne
      simp [x1,x2,ne]
     ·rintro _ ⟨_,rfl⟩
      simp
    rintro _ rfl
    simp only [cM,b9,ay,aZ,ar,List.getElem?_cons_succ,List.getElem?_cons_zero,Option.some.injEq,Jt.Slot.pu.injEq,exists_eq_left',aR,if_true,lk,aV,List.length_cons,List.length_nil,List.set_cons_succ,List.set_cons_zero]
    exact ⟨by omega,l2,_,_,hL2,p6.mpr ⟨hF,q⟩,rfl⟩
  ·rintro _ ⟨l,a,b,hL,hF,rfl⟩
   have:X.take (X.map pD).length=X:=by simp
   rw [this] at hF
   simp only [aq,ar]
   exact ⟨_,rfl,by rw [decide_eq_true hF]⟩
 obtain ⟨d,h,rfl⟩:=this
 exact h
end K21
namespace K21
open PySem L2 Jt
open Jt.Tu (bK lex_trans iA vt d8 gW fB sortSetU dLtU)
variable {hs:List (List Int)} {M:Nat}
def gj (t:D):Prop:=Short t∧∀ xs,t=.tup xs->∀ x ∈ xs,Short x
structure Ig (n:Nat) (X:List Pr):Prop where
 len:X.length + 1=n
 ok:∀ e ∈ X,e.1 < e.2∧e.2 < n
 srt:vt (X.map kp)
 fst:iG X
theorem xo {X Y:List Pr} (h:tD X=tD Y):X=Y:= by
 unfold tD at h
 injection h with h
 have gen:∀ {X Y:List Pr},X.map pD=Y.map pD->X=Y:= by
  intro X
  induction X with
  | nil=>intro Y h;cases Y with
   | nil=>rfl
   | cons _ _=>cases h
  | cons x r ih=>
   intro Y h
   cases Y with
   | nil=>cases h
   | cons y q=>
    rw [List.map_cons,List.map_cons] at h
    injection h with h1 h2
    have e:x=y:= by
     unfold pD at h1
     injection h1 with h1
     injection h1 with a b
     injection a with a
     injection b with b _
     injection b with b
     ext <;> omega
    rw [e,ih h2]
 exact gen h
theorem sg {n:Nat} (h1:1 ≤ n) {X:List Pr} (hl:X.length + 1=n) (hX:∀ e ∈ X,e.1 < e.2∧e.2 < n):dM X (List.range n)=true ↔ iG X:= by
 have r:∀ e ∈ X,e.1 < n∧e.2 < n:=fun e he=>by have:=hX e he;omega
 have e:both (List.range n) X=X:=List.filter_eq_self.mpr fun e he=>by simp [r e he]
 rw [tL List.nodup_range,e]
 refine (wH List.nodup_range (fun z=>?_) (fun e he=>?_) ?_).symm
 ·have:=congrArg List.length z
  rw [List.length_range,List.length_nil] at this
  omega
 ·exact ⟨List.mem_range.mpr (r e he).1,List.mem_range.mpr (r e he).2⟩
 ·rw [hl,List.length_range]
theorem l_ {lay:D} {xs:List D} {n:Nat} {N:List Str} {body:Jt.M Fl} {a b:Jt.Slot} {δ:DS} (hδ:δ[0]? = some (.pu lay)∧δ[1]? = some (.pu (.tup xs))) (lo:Nat) (hlo:δ.length=lo) (hlo2:2 ≤ lo) (hx:xs.length ≤ 60) (hp:∀ x ∈ xs,aO N body [lay,x]=some (.bl (cK n x))) :
  Ok (aX lo 1 (do let x <- ah 1;lift (bh x)) (bo (bp lo) (pure true) (mC (aR 2 (aO N body)) (af (ah 0) (af (ah lo) (pure [])))))) δ fun ys δ'=>gi [.lst ys]=some (.bl (xs.all (cK n)))∧δ' = δ:= by
 refine uh xs (fun d=>some (.bl (cK n d))) hlo ?_ (by omega) (fun d hd=>?_) ⟨?_,rfl⟩
 ·simp [hδ.2,bh]
 ·have g0:(δ ++ List.replicate 1 Jt.Slot.un)[0]? = some (.pu lay):=by rw [List.getElem?_append_left (by omega)];exact hδ.1
  simp only [dH,bR,ar,if_true,b9,ay,aZ]
  refine ⟨by simp [hlo],lay,?_,d,?_,?_⟩
  ·rw [List.getElem?_set_ne (by omega)];exact g0
  ·rw [List.getElem?_set_self (by simp [hlo])]
  ·simp only [aR,List.length_cons,List.length_nil,if_true,hp d hd,aV]
   refine ⟨trivial,?_⟩
   rw [List.take_set_of_le (by omega),List.take_append_of_le_length (by omega),List.take_of_length_le (by omega)]
 ·rw [List.filterMap_eq_map']
  show (boolsOf (xs.map fun a=>.bl (cK n a))).map _=_
  rw [dR]
  simp
open Classical in
theorem mV (h1:1 ≤ hs.length) (h6:hs.length ≤ 6) {t:D} (ht:gj t):∃ b,aO f_ dg [cb M hs,t]=some (.bl b)∧aO rq iR [cb M hs,t]=some (.bl b)∧(b=true->∃ X,Ig hs.length X∧t=tD X)∧(∀ X,Ig hs.length X->t=tD X->b=true):= by
 have e1:=fJ (M:Int) hs
 have e2:=k4 hs
 have ip:=fun {x:D} (h:Short x)=>FK (hs:=hs) (M:Int) h
 have lp:=fun {x:D} (h:Short x)=>lL (hs:=hs) (M:Int) h
 have es:eR (.int (hs.length:Int)) (.int 1)=some (.int ((hs.length - 1:Nat):Int)):= by
  simp only [eR,bT,if_true]
  refine congrArg (fun z:Int=>some (D.int z)) ?_
  omega
 generalize cb (M:Int) hs=lay at *
 by_cases htt:∃ xs,t=.tup xs
 ·obtain ⟨xs,rfl⟩:=htt
  have hx60:xs.length ≤ 60:=ht.1 xs rfl
  have ln:bu [.tup xs]=some (.int (xs.length:Int)):=by simp [bu]
  have isi:bx .tup (.tup xs)=true:=by simp [bx,lr]
  have nq:ck true (.int (xs.length:Int)) (.int ((hs.length - 1:Nat):Int))=some (.bl (!decide (xs.length + 1=hs.length))):= by
   have:ck true (.int (xs.length:Int)) (.int ((hs.length - 1:Nat):Int))=some (.bl (!decide ((xs.length:Int)=((hs.length - 1:Nat):Int)))):=by simp [ck,flat,l0]
   rw [this]
   refine congrArg (fun b:Bool=>some (D.bl (!b))) ?_
   rw [decide_eq_decide]
   omega
  by_cases hl:xs.length + 1=hs.length
  ·rw [decide_eq_true hl] at nq
   have al1:=fun (δ:DS) (hδ:δ[0]? = some (.pu lay)∧δ[1]? = some (.pu (.tup xs))) (lo:Nat) (h0:δ.length=lo) (h2:2 ≤ lo)=>l_ (a:=.un) (b:=.un) (n:=hs.length) (N:=mG) (body:=kO) hδ lo h0 h2 hx60 fun x hx=>ip (ht.2 xs rfl x hx)
   have al2:=fun (δ:DS) (hδ:δ[0]? = some (.pu lay)∧δ[1]? = some (.pu (.tup xs))) (lo:Nat) (h0:δ.length=lo) (h2:2 ≤ lo)=>l_ (a:=.un) (b:=.un) (n:=hs.length) (N:=qd) (body:=r9) hδ lo h0 h2 hx60 fun x hx=>lp (ht.2 xs rfl x hx)
   have a1:=al1 [.pu lay,.pu (.tup xs),.pu (.int (hs.length:Int))] ⟨rfl,rfl⟩ 3 rfl (by omega)
   have a2:=al2 [.pu lay,.pu (.tup xs)] ⟨rfl,rfl⟩ 2 rfl (by omega)
   have first1:∀ {g:Jt.M Fl} {Q:Fl->DS->Prop},Ok g [.pu lay,.pu (.tup xs),.pu (.int (hs.length:Int))] Q->Ok (aK (dN 2 (mC bu (af (m2 cT (ah 0) (pure (.int 1))) (pure []))))
     (aK (g9 (t_ (gB (do let x <- (iz .tup (ah 1));lift (b_ x))) (m2 (ck true) (mC bu (af (ah 1) (pure []))) (m2 eR (ah 2) (pure (.int 1))) >>= dq)) (do let d <- (pure (.bl false));pure (Fl.rt d)) (pure .nx)) g)) [.pu lay,.pu (.tup xs),.un] Q:=fun {g Q} hg=>by
    refine aG (fun δ=>δ=[.pu lay,.pu (.tup xs),.pu (.int (hs.length:Int))]) (by simp [e1,e2]) ?_
    rintro _ rfl
    refine aG (fun δ=>δ=[.pu lay,.pu (.tup xs),.pu (.int (hs.length:Int))]) ?_ (by rintro _ rfl;exact hg)
    refine cZ (fun b δ=>b=false∧δ=[.pu lay,.pu (.tup xs),.pu (.int (hs.length:Int))]) ?_ (fun _ h=>by cases h.1) ?_
    ·generalize D.tup xs=tt at *
     simp [isi,b_,ln,es,nq]
    ·rintro _ ⟨_,rfl⟩
     simp
   have first2:∀ {g:Jt.M Fl} {Q:Fl->DS->Prop},Ok g [.pu lay,.pu (.tup xs)] Q->Ok (aK (g9 (t_ (gB (do let x <- (iz .tup (ah 1));lift (b_ x))) (m2 (ck true) (mC bu (af (ah 1) (pure []))) (m2 eR (mC bu (af (m2 cT (ah 0) (pure (.int 1))) (pure []))) (pure (.int 1))) >>= dq)) (do let d <- (pure (.bl false));pure (Fl.rt d)) (pure .nx)) g) [.pu lay,.pu (.tup xs)] Q:=fun {g Q} hg=>by
    refine aG (fun δ=>δ=[.pu lay,.pu (.tup xs)]) ?_ (by rintro _ rfl;exact hg)
    refine cZ (fun b δ=>b=false∧δ=[.pu lay,.pu (.tup xs)]) ?_ (fun _ h=>by cases h.1) ?_
    ·generalize D.tup xs=tt at *
     simp [isi,b_,ln,e1,e2,es,nq]
    ·rintro _ ⟨_,rfl⟩
     simp
   cases hp:xs.all (cK hs.length) with
   | false=>
    rw [hp] at a1 a2
    refine ⟨false,?_,?_,fun z=>(by cases z),fun X TX e=>?_⟩
    ·apply ba
     show Ok dg [.pu lay,.pu (.tup xs),.un] _
     unfold dg
     refine first1 ?_
     rw [br]
     refine cZ (fun b δ=>b=true∧δ=[.pu lay,.pu (.tup xs),.pu (.int (hs.length:Int))]) ?_ ?_ (fun _ h=>by cases h.1)
     ·simp only [gK,dP,aq,b9,ay,ar]
      refine a1.mono fun ys δ ⟨h3,h4⟩=>?_
      subst h4
      simp [h3,b_]
     ·rintro _ ⟨_,rfl⟩
      simp
    ·apply ba
     show Ok iR [.pu lay,.pu (.tup xs)] _
     unfold iR
     refine first2 ?_
     rw [br]
     refine cZ (fun b δ=>b=true∧δ=[.pu lay,.pu (.tup xs)]) ?_ ?_ (fun _ h=>by cases h.1)
     ·simp only [gK,dP,aq,b9,ay,ar]
      refine a2.mono fun ys δ ⟨h3,h4⟩=>?_
      subst h4
      simp [h3,b_]
     ·rintro _ ⟨_,rfl⟩
      simp
    ·exfalso
     have e:D.tup xs=D.tup (X.map pD):=e
     injection e with e
     rw [e,List.all_eq_false] at hp
     obtain ⟨x,hx,hn⟩:=hp
     obtain ⟨p,hpm,rfl⟩:=List.mem_map.mp hx
     exact hn (B9 (TX.ok p hpm))
   | true=>
    rw [hp] at a1 a2
    obtain ⟨X,rfl,hX⟩:=pV hp
    have hXl:X.length ≤ 5:=by rw [List.length_map] at hl;omega
    rw [List.length_map] at hl
    have rs:=Hz (X:=X) (by omega)
    have nr:=IL (n:=hs.length) (X:=X) h6 fun e he=>by have:=hX e he;omega
    have ss:=Fp hXl
    have nl:=xp (X.map kp) (iA (X.map kp))
    have dl:dList [tD X]=some ((X.map kp).map Jt.Tu.tD):= by
     show some (X.map pD)=_
     rw [List.map_map]
     rfl
    have hg:=kY (X:=X) (sm:=List.range hs.length) (by rw [List.length_range];exact h6)
    have hr:dM X (List.range hs.length)=decide (iG X):= by
     rw [Bool.eq_iff_iff,decide_eq_true_eq]
     exact sg h1 hl hX
    rw [hr] at hg
    have rl:jJ [.int (hs.length:Int)]=some (lD (List.range hs.length)):= by
     have:((hs.length:Int) < 100000 ∧ -(2 ^ 62) ≤ (hs.length:Int)):=by omega
     simp [jJ,this,k7]
    have a1:Ok (aX 3 1 (do let x <- ah 1;lift (bh x)) (bo (bp 3) (pure true) (mC (aR 2 (aO mG kO)) (af (ah 0) (af (ah 3) (pure [])))))) [.pu lay,.pu (tD X),.pu (.int (hs.length:Int))] (fun ys δ'=>gi [.lst ys]=some (.bl true)∧δ' = [.pu lay,.pu (tD X),.pu (.int (hs.length:Int))]):=a1
    have a2:Ok (aX 2 1 (do let x <- ah 1;lift (bh x)) (bo (bp 2) (pure true) (mC (aR 2 (aO qd r9)) (af (ah 0) (af (ah 2) (pure [])))))) [.pu lay,.pu (tD X)] (fun ys δ'=>gi [.lst ys]=some (.bl true)∧δ' = [.pu lay,.pu (tD X)]):=a2
    have first1':∀ {g:Jt.M Fl} {Q:Fl->DS->Prop},Ok g [.pu lay,.pu (tD X),.pu (.int (hs.length:Int))] Q->_:=fun {g Q} h=>first1 (g:=g) (Q:=Q) h
    have first2':∀ {g:Jt.M Fl} {Q:Fl->DS->Prop},Ok g [.pu lay,.pu (tD X)] Q->_:=fun {g Q} h=>first2 (g:=g) (Q:=Q) h
    by_cases hsr:vt (X.map kp)
    ·rw [og.mpr hsr] at rs
     rw [decide_eq_true (xY.mpr hsr)] at nl
     refine ⟨decide (iG X),?_,?_,fun z=>⟨X,⟨hl,hX,hsr,of_decide_eq_true z⟩,rfl⟩,fun Y TY e=>?_⟩
     ·apply ba
      show Ok dg [.pu lay,.pu (tD X),.un] _
      unfold dg
      refine first1' ?_
      refine aG (fun δ=>δ=[.pu lay,.pu (tD X),.pu (.int (hs.length:Int))]) ?_ ?_
      ·refine cZ (fun b δ=>b=false∧δ=[.pu lay,.pu (tD X),.pu (.int (hs.length:Int))]) ?_ (fun _ h=>by cases h.1) ?_
       ·simp only [gK,dP,aq,b9,ay,ar]
        refine a1.mono fun ys δ ⟨h3,h4⟩=>?_
        subst h4
        generalize tD X=tt at *
        simp [h3,b_,aR,rs]
       ·rintro _ ⟨_,rfl⟩
        simp
      rintro _ rfl
      generalize tD X=tt at *
      simp [aR,nr]
     ·apply ba
      show Ok iR [.pu lay,.pu (tD X)] _
      unfold iR
      refine first2' ?_
      refine aG (fun δ=>δ=[.pu lay,.pu (tD X)]) ?_ ?_
      ·refine cZ (fun b δ=>b=false∧δ=[.pu lay,.pu (tD X)]) ?_ (fun _ h=>by cases h.1) ?_
       ·simp only [gK,dP,aq,b9,ay,ar]
        refine a2.mono fun ys δ ⟨h3,h4⟩=>?_
        subst h4
        generalize tD X=tt at *
        generalize (X.map kp).map Jt.Tu.tD=l1 at *
        generalize (iA (X.map kp)).map Jt.Tu.tD=l2 at *
        simp [h3,b_,dl,ss,nl]
       ·rintro _ ⟨_,rfl⟩
        simp
      rintro _ rfl
      generalize tD X=tt at *
      generalize lD (List.range hs.length)=rg at *
      simp [aR,hg,e1,e2,rl]
     ·have:=xo (show tD X=tD Y from e)
      subst this
      exact decide_eq_true TY.fst
    ·have ra:C9 (X.map kp)=false:=Bool.eq_false_iff.mpr fun z=>hsr (og.mp z)
     rw [ra] at rs
     rw [decide_eq_false fun z=>hsr (xY.mp z)] at nl
     refine ⟨false,?_,?_,fun z=>(by cases z),fun Y TY e=>?_⟩
     ·apply ba
      show Ok dg [.pu lay,.pu (tD X),.un] _
      unfold dg
      refine first1' ?_
      rw [br]
      refine cZ (fun b δ=>b=true∧δ=[.pu lay,.pu (tD X),.pu (.int (hs.length:Int))]) ?_ ?_ (fun _ h=>by cases h.1)
      ·simp only [gK,dP,aq,b9,ay,ar]
       refine a1.mono fun ys δ ⟨h3,h4⟩=>?_
       subst h4
       generalize tD X=tt at *
       simp [h3,b_,aR,rs]
      ·rintro _ ⟨_,rfl⟩
       simp
     ·apply ba
      show Ok iR [.pu lay,.pu (tD X)] _
      unfold iR
      refine first2' ?_
      rw [br]
      refine cZ (fun b δ=>b=true∧δ=[.pu lay,.pu (tD X)]) ?_ ?_ (fun _ h=>by cases h.1)
      ·simp only [gK,dP,aq,b9,ay,ar]
       refine a2.mono fun ys δ ⟨h3,h4⟩=>?_
       subst h4
       generalize tD X=tt at *
       generalize (X.map kp).map Jt.Tu.tD=l1 at *
       generalize (iA (X.map kp)).map Jt.Tu.tD=l2 at *
       simp [h3,b_,dl,ss,nl]
      ·rintro _ ⟨_,rfl⟩
       simp
     ·exfalso
      have:=xo (show tD X=tD Y from e)
      subst this
      exact hsr TY.srt
  ·rw [decide_eq_false hl] at nq
   refine ⟨false,?_,?_,fun z=>(by cases z),fun X TX e=>?_⟩
   ·apply ba
    show Ok dg [.pu lay,.pu (.tup xs),.un] _
    unfold dg
    refine aG (fun δ=>δ=[.pu lay,.pu (.tup xs),.pu (.int (hs.length:Int))]) (by simp [e1,e2]) ?_
    rintro _ rfl
    rw [br]
    refine cZ (fun b δ=>b=true∧δ=[.pu lay,.pu (.tup xs),.pu (.int (hs.length:Int))]) ?_ ?_ (fun _ h=>by cases h.1)
    ·generalize D.tup xs=tt at *
     simp [isi,b_,ln,es,nq]
    ·rintro _ ⟨_,rfl⟩
     simp
   ·apply ba
    show Ok iR [.pu lay,.pu (.tup xs)] _
    unfold iR
    rw [br]
    refine cZ (fun b δ=>b=true∧δ=[.pu lay,.pu (.tup xs)]) ?_ ?_ (fun _ h=>by cases h.1)
    ·generalize D.tup xs=tt at *
     simp [isi,b_,ln,e1,e2,es,nq]
    ·rintro _ ⟨_,rfl⟩
     simp
   ·exfalso
    have e:D.tup xs=D.tup (X.map pD):=e
    injection e with e
    rw [e,List.length_map] at hl
    exact hl TX.len
 ·have isi:bx .tup t=false:= by
   cases t <;> first | rfl | exact absurd ⟨_,rfl⟩ htt
  refine ⟨false,?_,?_,fun z=>(by cases z),fun X TX e=>absurd ⟨_,e⟩ htt⟩
  ·apply ba
   show Ok dg [.pu lay,.pu t,.un] _
   unfold dg
   refine aG (fun δ=>δ=[.pu lay,.pu t,.pu (.int (hs.length:Int))]) (by simp [e1,e2]) ?_
   rintro _ rfl
   rw [br]
   refine cZ (fun b δ=>b=true∧δ=[.pu lay,.pu t,.pu (.int (hs.length:Int))]) ?_ ?_ (fun _ h=>by cases h.1)
   ·simp [isi,b_]
   ·rintro _ ⟨_,rfl⟩
    simp
  ·apply ba
   show Ok iR [.pu lay,.pu t] _
   unfold iR
   rw [br]
   refine cZ (fun b δ=>b=true∧δ=[.pu lay,.pu t]) ?_ ?_ (fun _ h=>by cases h.1)
   ·simp [isi,b_]
   ·rintro _ ⟨_,rfl⟩
    simp
end K21
namespace K21
open PySem L2 Jt
open Jt.Tu (bK lex_trans kg iA vt d8 gW fB sortSetU dLtU pickT_perm fX pickT_map pickT_any sortU mIdxL iX dMaxL)
variable {hs:List (List Int)} {M:Nat}
theorem IW {X:List Pr} {sm:List Nat} (hX:X.length ≤ 60):aO sk xg [.tup (lD sm),tD X]=some (.bl (decide (sm.length ≤ (both sm X).length + 1))):= by
 apply ba
 show Ok xg [.pu (.tup (lD sm)),.pu (tD X),.un] _
 unfold xg
 have si:bh (tD X)=some (aW (X.map pD)):=rfl
 have ln:bu [.tup (lD sm)]=some (.int (sm.length:Int)):=by simp [bu,lD]
 have i1:=fun k=>sf false k sm
 generalize D.tup (lD sm)=sd at *
 refine aG (fun δ=>δ=[.pu sd,.pu (tD X),.pu (.lst ((both sm X).map fun e=>.int (e.1:Int)))]) ?_ ?_
 ·simp only [cM,aq,ar]
  refine bP X pD (fun e=>if (decide (e.1 ∈ sm) && decide (e.2 ∈ sm))=true then some (.int (e.1:Int)) else none) rfl ?_ (by omega) (fun e _=>?_) ?_
  ·generalize tD X=td at *
   simp [si]
  ·have h1:=i1 e.1
   have h2:=i1 e.2
   show Ok (bo _ _ _ (.tup [.int (e.1:Int),.int (e.2:Int)])) _ _
   by_cases q1:e.1 ∈ sm
   ·by_cases q2:e.2 ∈ sm
    ·simp [h1,h2,q1,q2]
    ·simp [h1,h2,q1,q2]
   ·simp [h1,q1]
  ·rw [b7]
   simp [both]
 rintro _ rfl
 have l2:bu [.lst ((both sm X).map fun e=>D.int (e.1:Int))]=some (.int ((both sm X).length:Int)):=by simp [bu]
 generalize D.lst ((both sm X).map fun e=>D.int (e.1:Int))=ld at *
 generalize (both sm X).length=bl at *
 have ge:IB (.int (bl:Int)) (.int ((sm.length:Int) - 1))=some (.bl (decide (sm.length ≤ bl + 1))):= by
  show some (D.bl (decide ((bl:Int) ≥ (sm.length:Int) - 1)))=_
  refine congrArg (fun b:Bool=>some (D.bl b)) ?_
  rw [decide_eq_decide]
  omega
 generalize tD X=td at *
 simp [ln,l2,eR,bT,ge]
theorem zI {X:List Pr} (hF:iG X) (c:Nat):decide ((vc hs c).length ≤ (both (vc hs c) X).length + 1)=dM X (vc hs c):= by
 have nd:(vc hs c).Nodup:=List.nodup_range.filter _
 rw [Bool.eq_iff_iff,decide_eq_true_eq,tL nd]
 refine sh nd (fun e he=>?_) hF.sub
 have:=(List.mem_filter.mp he).2
 simpa using this
theorem vC {t:D} (h:aO f_ dg [cb M hs,t]=some (.bl false)):aO pf o6 [cb M hs,t]=some (.bl false):= by
 apply ba
 show Ok o6 [.pu (cb M hs),.pu t] _
 unfold o6
 generalize cb (M:Int) hs=lay at *
 rw [br]
 refine cZ (fun b δ=>b=true∧δ=[.pu lay,.pu t]) ?_ ?_ (fun _ h=>by cases h.1)
 ·simp [aR,h,b_]
 ·rintro _ ⟨_,rfl⟩
  simp
theorem rF {X:List Pr} (h6:hs.length ≤ 6) (hM:M ≤ 7) (hX:X.length ≤ 60) (hF:iG X) (h:aO f_ dg [cb M hs,tD X]=some (.bl true)):aO pf o6 [cb M hs,tD X]=some (.bl (fj hs M X)):= by
 apply ba
 show Ok o6 [.pu (cb M hs),.pu (tD X)] _
 unfold o6
 have e0:=qf (M:Int) hs
 have ho:=fun (c:Nat) (hc:c < M)=>HB h6 c hc
 have ht:=fun (sm:List Nat)=>IW (X:=X) (sm:=sm) hX
 have sM:bg (M:Int)=true:=by simp [bg];omega
 generalize cb (M:Int) hs=lay at *
 generalize tD X=td at *
 refine aG (fun δ=>δ=[.pu lay,.pu td]) ?_ ?_
 ·refine cZ (fun b δ=>b=false∧δ=[.pu lay,.pu td]) ?_ (fun _ h=>by cases h.1) ?_
  ·simp [aR,h,b_]
  ·rintro _ ⟨_,rfl⟩
   simp
 rintro _ rfl
 simp only [aq,b9,ay,ar]
 refine bP (List.range M) (fun (c:Nat)=>.int (c:Int)) (fun c=>some (.bl (dM X (vc hs c)))) rfl ?_ (by simp;omega) (fun c hc=>?_) ?_
 ·simp [e0,cC,sM,bF]
 ·have h1:=ho c (List.mem_range.mp hc)
  have h2:=ht (vc hs c)
  rw [zI hF] at h2
  generalize D.tup (lD (vc hs c))=vd at *
  simp [aR,h1,h2]
 ·rw [List.filterMap_eq_map']
  have:gi [.lst ((List.range M).map fun c=>D.bl (dM X (vc hs c)))]=some (.bl (fj hs M X)):= by
   show (boolsOf ((List.range M).map fun c=>D.bl (dM X (vc hs c)))).map _=_
   rw [dR]
   refine congrArg (fun b:Bool=>some (D.bl b)) ?_
   unfold fj
   rw [Bool.eq_iff_iff,decide_eq_true_eq]
   simp
  rw [this]
  simp
theorem Aj {P:List Pr} {v:Nat} (h:∀ e ∈ P,e.1 ≠ v∧e.2 ≠ v) {a b:Nat} (r:eF P a b):b=v->a=v:= by
 induction r with
 | refl a=>exact id
 | step z _ ih=>
  intro e
  have:=ih e
  subst this
  rcases z with z | z
  ·exact absurd rfl (h _ z).2
  ·exact absurd rfl (h _ z).1
theorem Bz {P:List Pr} (h:P.length < 64) (nd:(P.map kp).Nodup):∃ X:List Pr,sortU (P.map pD)=some (X.map pD)∧X.Perm P∧vt (X.map kp):= by
 refine ⟨Jt.Tu.pickT (P.map kp) (0,0) P,?_,pickT_perm _ _ _ (by simp),?_⟩
 ·unfold sortU
  have e:P.map pD=(P.map kp).map fun ns=>.tup (ns.map .int):=by rw [List.map_map];rfl
  have et:fH (P.map pD)=some (P.map kp):=by rw [e,jh]
  rw [et]
  dsimp only
  rw [if_pos ⟨by simpa using h,by simp [kp]⟩]
  refine congrArg some ?_
  rw [pickT_map]
  exact pickT_any (by simp) _ _
 ·have e1:(Jt.Tu.pickT (P.map kp) (0,0) P).map kp=Jt.Tu.pickT (P.map kp) [] (P.map kp):= by
   rw [pickT_map]
   exact pickT_any (by simp) _ _
  have so:=fX (P.map kp)
  rw [<- e1] at so
  have ndp:((Jt.Tu.pickT (P.map kp) (0,0) P).map kp).Nodup:=((pickT_perm (P.map kp) (0,0) P (by simp)).map kp).nodup_iff.mpr nd
  rw [List.nodup_iff_pairwise_ne] at ndp
  exact (so.and ndp).imp fun {a b} z=>by
   cases q3:bK a b with
   | true=>rfl
   | false=>exact absurd (kg q3 z.1) z.2
theorem jO (h1:1 ≤ hs.length) (h6:hs.length ≤ 6) (h7:∀ h ∈ hs,h.length ≤ 7) (n0:Int):∃ d xs',aY pQ xt [.int n0] [cb M hs]=some (d,xs')∧(∃ X,d=tD X∧Ig hs.length X)∧∃ n:Int,xs' = [.int n]:= by
 apply dW
 show Ok xt [.ow true [.int n0],.pu (cb M hs),.un,.un,.un,.un] _
 unfold xt
 have e1:=fJ (M:Int) hs
 have e2:=k4 hs
 have gh:=fun {i:Nat} (h:i < hs.length)=>Ft h
 have g7:∀ i,i < hs.length->(G hs i).length ≤ 7:=fun i hi=>by
  have:G hs i=hs[i]:=by simp [G,hi]
  rw [this];exact h7 _ (List.getElem_mem hi)
 have sl:∀ k:Nat,CZ (.tup (hs.map hD)) none (some (k:Int))=some (.tup ((hs.take k).map hD)):=fun k=>by
  show some (D.tup (cutD (hs.map hD) none (some (k:Int))))=_
  rw [lg,List.map_take]
 have sN:bg (hs.length:Int)=true:=by simp [bg];omega
 have s1:bg 1=true:=rfl
 have edn:((hs.length:Int) - 1).toNat=hs.length - 1:=by omega
 generalize cb (M:Int) hs=lay at *
 refine aG (fun δ=>δ=[.ow true [.int n0],.pu lay,.ow false [],.un,.un,.un]) (by simp) ?_
 rintro _ rfl
 refine aG (fun δ=>∃ (m:Int) (P:List Pr) (a b c:Jt.Slot),δ=[.ow true [.int m],.pu lay,.ow false (P.map pD),a,b,c]∧P.length=hs.length - 1∧(∀ (i:Nat) (e:Pr),P[i]? = some e->e.2=i + 1∧e.1 < e.2)∧iG P) ?_ ?_
 ·refine jC (bF 1 (hs.length - 1)) (fun k δ=>∃ (m:Int) (P:List Pr) (a b c:Jt.Slot),δ=[.ow true [.int m],.pu lay,.ow false (P.map pD),a,b,c]∧P.length=k∧(∀ (i:Nat) (e:Pr),P[i]? = some e->e.2=i + 1∧e.1 < e.2)∧iG P) ?_ ⟨n0,[],.un,.un,.un,rfl,rfl,fun i e h=>by simp at h,um⟩ ?_ ?_
  ·simp [e1,e2,BH,s1,sN,edn]
  ·rintro k hk _ ⟨m,P,a,b,c,rfl,hP,hP2,hF⟩
   have hk2:k < hs.length - 1:=by simpa [bF] using hk
   have itm:(bF 1 (hs.length - 1))[k]=.int ((k + 1:Nat):Int):= by
    simp [bF]
    omega
   rw [itm]
   simp only [bR,List.length_cons,List.length_nil,List.set_cons_succ,List.set_cons_zero]
   refine ⟨by omega,?_⟩
   have t1:=aB m ((k + 1:Nat):Int) (by omega) (by omega)
   obtain ⟨o1,ho1,ho1l⟩:∃ o1:Nat,m % ((k + 1:Nat):Int)=(o1:Int)∧o1 < k + 1:= by
    have a1:=Int.emod_nonneg m (show ((k + 1:Nat):Int) ≠ 0 by omega)
    have a2:=Int.emod_lt_of_pos m (show (0:Int) < ((k + 1:Nat):Int) by omega)
    exact ⟨(m % ((k + 1:Nat):Int)).toNat,by omega,by omega⟩
   rw [ho1] at t1
   refine aG (fun δ=>δ=[.ow true [.int (m / ((k + 1:Nat):Int))],.pu lay,.ow false (P.map pD),.pu (.int ((k + 1:Nat):Int)),.pu (.int (o1:Int)),c]) ?_ ?_
   ·simp only [cM,aq,b5,i8,ay,aZ,ar,List.getElem?_cons_succ,List.getElem?_cons_zero,Option.some.injEq,Jt.Slot.ow.injEq,Jt.Slot.pu.injEq,exists_eq_left',List.length_cons,List.length_nil]
    exact ⟨true,_,⟨rfl,rfl⟩,true,_,⟨rfl,rfl⟩,trivial,_,t1,by simp⟩
   rintro _ rfl
   generalize m / ((k + 1:Nat):Int)=m1
   obtain ⟨ns,hns⟩:∃ ns:List Int,ns=(hs.take (k + 1)).map fun h=>(((G hs (k + 1)).filter fun x=>decide (x ∈ h)).length:Int):=⟨_,rfl⟩
   have hnl:ns.length=k + 1:=by rw [hns];simp;omega
   have ghk:=gh (show k + 1 < hs.length by omega)
   have slk:=sl (k + 1)
   have g7k:=g7 (k + 1) (by omega)
   refine aG (fun δ=>δ=[.ow true [.int m1],.pu lay,.ow false (P.map pD),.pu (.int ((k + 1:Nat):Int)),.pu (.int (o1:Int)),.pu (.lst (ns.map .int))]) ?_ ?_
   ·simp only [cM,aq,ar]
    refine bP (hs.take (k + 1)) hD (fun h=>some (.int (((G hs (k + 1)).filter fun x=>decide (x ∈ h)).length:Int))) rfl ?_ (by simp;omega) (fun h _=>?_) ?_
    ·generalize (((k + 1:Nat):Int))=kk at *
     simp [e1,slk,bh]
    ·simp only [dH,bR,ar,if_true,b9,ay,aq]
     refine ⟨by simp,?_⟩
     show Ok _ [.ow true [.int m1],.pu lay,.ow false (P.map pD),.pu (.int ((k + 1:Nat):Int)),.pu (.int (o1:Int)),c,.pu (hD h)] _
     refine bP (G hs (k + 1)) .int (fun x=>if decide (x ∈ h)=true then some (.int x) else none) rfl ?_ (by omega) (fun x _=>?_) ?_
     ·generalize (((k + 1:Nat):Int))=kk at *
      simp [e1,ghk,km]
     ·by_cases q:x ∈ h <;> simp [qG,q]
     ·rw [b7]
      simp [bu]
    ·rw [List.filterMap_eq_map']
     refine ⟨by simp,trivial,?_⟩
     rw [hns,List.map_map]
     rfl
   rintro _ rfl
   have t2:=aB m1 3 (by omega) (by omega)
   have hmax:dMaxL [.lst (ns.map .int)]=some (.int (gg ns)):= by
    show (match cq (ns.map .int) with | some (i :: r)=>some (D.int (gg (i :: r))) | _=>none)=_
    rw [gZ]
    cases ns with
    | nil=>simp at hnl
    | cons i r=>rfl
   have hmm:gg ns ∈ ns:=ka (fun z=>by rw [z] at hnl;simp at hnl)
   have hidx:iX (.lst (ns.map .int)) [.int (gg ns)]=some (.int (ns.idxOf (gg ns))):= by
    show (cq (ns.map .int)).bind _=_
    rw [gZ]
    simp [hmm]
   have hil:ns.idxOf (gg ns) < k + 1:=by rw [<- hnl];exact List.idxOf_lt_length_iff.mpr hmm
   refine aG (fun δ=>∃ (o:Nat),o < k + 1∧δ=[.ow true [.int (m1 / 3)],.pu lay,.ow false (P.map pD),.pu (.int ((k + 1:Nat):Int)),.pu (.int (o:Int)),.pu (.lst (ns.map .int))]) ?_ ?_
   ·generalize (((k + 1:Nat):Int))=kk at *
    generalize D.lst (ns.map .int)=nd at *
    refine cZ (fun b δ=>δ=[.ow true [.int (m1 / 3)],.pu lay,.ow false (P.map pD),.pu (.int kk),.pu (.int (o1:Int)),.pu nd]) ?_ ?_ ?_
    ·simp only [aq,dC,b5,i8,ay,ar,List.getElem?_cons_succ,List.getElem?_cons_zero,Option.some.injEq,Jt.Slot.ow.injEq,List.length_cons,List.length_nil,gP]
     refine ⟨true,_,⟨rfl,rfl⟩,true,_,⟨rfl,rfl⟩,trivial,_,t2,?_⟩
     simp [uz,bT]
     omega
    ·rintro _ rfl
     simp only [cM,Jt.Tu.Ok_mIdxL,aZ,ay,b9,ar,List.getElem?_cons_succ,List.getElem?_cons_zero,Option.some.injEq,Jt.Slot.pu.injEq,exists_eq_left',hmax,hidx,aV,List.length_cons,List.length_nil,List.set_cons_succ,List.set_cons_zero]
     exact ⟨by omega,by simp,_,hil,rfl⟩
    ·rintro _ rfl
     simp only [ar]
     exact ⟨by simp,o1,ho1l,rfl⟩
   rintro _ ⟨o,hol,rfl⟩
   refine d_ ⟨_,_,rfl⟩ ?_
   simp only [ay,hU,aZ,ar,cw,List.getElem?_cons_succ,List.getElem?_cons_zero,Option.some.injEq,Jt.Slot.pu.injEq,exists_eq_left',List.length_cons,List.length_nil]
   refine ⟨by omega,_,false,_,rfl,rfl,by simp;omega,m1 / 3,P ++ [(o,k + 1)],.pu (.int ((k + 1:Nat):Int)),.pu (.int (o:Int)),.pu (.lst (ns.map .int)),?_,by simp [hP],fun i e he=>?_,p6.mpr ⟨hF,fun r=>?_⟩⟩
   ·rw [List.map_append]
    rfl
   ·by_cases hi:i < P.length
    ·rw [List.getElem?_append_left hi] at he
     exact hP2 i e he
    ·rw [List.getElem?_append_right (by omega)] at he
     cases hz:i - P.length with
     | zero=>
      rw [hz] at he
      cases he
      exact ⟨by dsimp only;omega,by dsimp only;omega⟩
     | succ z=>rw [hz] at he;simp at he
   ·have:=Aj (v:=k + 1) (fun e he=>by
     obtain ⟨i,hi⟩:=List.mem_iff_getElem?.mp he
     have:=hP2 i e hi
     have hl:=(List.getElem?_eq_some_iff.mp hi).1
     omega) r rfl
    dsimp only at this
    omega
  ·rintro _ ⟨m,P,a,b,c,rfl,hP,hP2,hF⟩
   rw [show (bF 1 (hs.length - 1)).length=hs.length - 1 by simp [bF]] at hP
   exact ⟨rfl,m,P,a,b,c,rfl,hP,hP2,hF⟩
 rintro _ ⟨m,P,a,b,c,rfl,hP,hP2,hF⟩
 have nd:(P.map kp).Nodup:= by
  rw [List.nodup_iff_pairwise_ne,List.pairwise_map,List.pairwise_iff_getElem]
  intro i j hi hj hij e
  have h1:=hP2 i _ (List.getElem?_eq_getElem hi)
  have h2:=hP2 j _ (List.getElem?_eq_getElem hj)
  have:=DZ e
  rw [this] at h1
  omega
 obtain ⟨X,eX,pX,sX⟩:=Bz (P:=P) (by omega) nd
 have hok:∀ e ∈ X,e.1 < e.2∧e.2 < hs.length:=fun e he=>by
  obtain ⟨i,hi⟩:=List.mem_iff_getElem?.mp (pX.mem_iff.mp he)
  have h1:=hP2 i e hi
  have hl:=(List.getElem?_eq_some_iff.mp hi).1
  omega
 simp only [aq,b9,ay,xx,b5,ar,List.getElem?_cons_succ,List.getElem?_cons_zero,Option.some.injEq,Jt.Slot.ow.injEq]
 refine ⟨false,P.map pD,⟨rfl,rfl⟩,?_⟩
 rw [eX,aV]
 simp only [c7,aV]
 exact ⟨_,_,rfl,rfl,⟨X,rfl,by rw [pX.length_eq,hP];omega,hok,sX,xW pX.symm hF⟩,_,rfl⟩
end K21
namespace K21
open PySem L2 Jt Jt.Tu
variable {hs:List (List Int)} {M:Nat}
theorem kN {ys:List D} (h:ys.length ≤ 60) (h2:∀ y ∈ ys,Short y):gj (.tup ys):=⟨mw h,fun xs e=>by cases e;exact h2⟩
theorem G_ {d:D} (h:∀ xs,d ≠ .tup xs):gj d:=⟨fun xs e=>absurd e (h xs),fun xs e=>absurd e (h xs)⟩
theorem qy (e:Pr):Short (pD e):=mw (by simp)
def Jq:D->Bool
 | .tup xs=>decide (xs.length ≤ 60)
 | _=>true
def Jy:D->Bool
 | .tup xs=>decide (xs.length ≤ 60) && xs.all Jq
 | _=>true
theorem md {d:D} (h:Jq d=true):Short d:=fun xs e=>by subst e;exact of_decide_eq_true h
theorem uc {d:D} (h:Jy d=true):gj d:= by
 refine ⟨fun xs e=>?_,fun xs e x hx=>?_⟩ <;> subst e <;> have h:=Bool.and_eq_true_iff.mp h
 ·exact of_decide_eq_true h.1
 ·exact md (List.all_eq_true.mp h.2 x hx)
theorem xP {d:D} (h:d ∈ pv):gj d:=uc (List.all_eq_true.mp (show pv.all Jy=true by decide +kernel) d h)
theorem tV {X:List Pr} (h:X.length ≤ 60):gj (tD X):=kN (by simpa using h) fun y hy=>by
 obtain ⟨e,_,rfl⟩:=List.mem_map.mp hy
 exact qy e
theorem Cf (n0:Int):∃ d xs',aY l6 k0 [.int n0] []=some (d,xs')∧gj d∧∃ n:Int,xs' = [.int n]:= by
 apply dW
 show Ok k0 [.ow true [.int n0],.un] _
 unfold k0
 have et:=aB n0 28 (by omega) (by omega)
 have ep:xQ (.int 10) (.int 39)=some (.int (10 ^ 39)):=by first | rfl | (simp [xQ];done) | (unfold xQ;rw [if_pos (by decide)];rfl)
 obtain ⟨d,hd,e⟩:=oG pv n0 (by decide)
 refine aG (fun δ=>δ=[.ow true [.int n0],.pu (.lst (pv.take 19))]) (by simp [v8,pv]) ?_
 rintro _ rfl
 refine aG (fun δ=>δ=[.ow true [.int n0],.pu (.lst pv)]) (by simp [v8,pv,oY,sH,ep]) ?_
 rintro _ rfl
 have el:bu [.lst pv]=some (.int 28):=rfl
 simp [-Prod.exists,el,et]
 exact fZ e ⟨_,rfl,xP hd,_,rfl⟩
theorem tJ {n j:Nat} (h:j < n):q0 n (j:Int)=some j:= by
 unfold q0
 simp
 omega
theorem Bx {b0 z1 z2 z3 z7 z8 z9 za:Jt.Slot} {xs:List D} {j k:Nat} (hj:j < xs.length) (hk:k < xs.length) {Q:Fl->DS->Prop} (hQ:∀ rs:List D,rs.length=xs.length->(∀ r ∈ rs,r ∈ xs)->Q .nx [b0,z1,z2,z3,.pu (.int (j:Int)),.pu (.int (k:Int)),.ow false rs,z7,z8,z9,za]) :
  Ok (do let d <- (b4 (af (lB 6 (ah 5)) (af (lB 6 (ah 4)) (pure []))));(eL 2 (bU (Dy 6 (ah 4)) (bU (Dy 6 (ah 5)) gf))) d;pure Fl.nx) [b0,z1,z2,z3,.pu (.int (j:Int)),.pu (.int (k:Int)),.ow false xs,z7,z8,z9,za] Q:= by
 have e1:cT (.lst xs) (.int (k:Int))=some xs[k]:=cV xs k hk
 have e2:cT (.lst xs) (.int (j:Int))=some xs[j]:=cV xs j hj
 simp only [aq,hU,ay,ar]
 refine nQ.mpr ⟨⟨_,_,rfl⟩,aZ.mpr ⟨_,rfl,false,xs,rfl,fZ e1 ?_⟩⟩
 refine nQ.mpr ⟨⟨_,_,rfl⟩,aZ.mpr ⟨_,rfl,false,xs,rfl,fZ e2 ?_⟩⟩
 refine cw.mpr ⟨by simp,oJ.mpr ?_⟩
 rw [if_pos (by simp)]
 refine g_.mpr (yT ⟨_,_,rfl⟩ (aZ.mpr ⟨_,rfl,(j:Int),false,xs,j,rfl,rfl,tJ hj,?_⟩))
 refine g_.mpr (yT ⟨_,_,rfl⟩ (aZ.mpr ⟨_,rfl,(k:Int),false,xs.set j xs[k],k,rfl,rfl,tJ (by rw [List.length_set];exact hk),?_⟩))
 refine kj.mpr (hQ _ (by rw [List.length_set,List.length_set]) fun r hr=>?_)
 rcases List.mem_or_eq_of_mem_set hr with h | rfl
 ·rcases List.mem_or_eq_of_mem_set h with h | rfl
  ·exact h
  ·exact List.getElem_mem hk
 ·exact List.getElem_mem hj
theorem jZ (n:Int) {l:Nat} (h:0 < l):∃ j:Nat,j < l∧n % (l:Int)=(j:Int):= by
 have g1:=Int.emod_nonneg n (show (l:Int) ≠ 0 by omega)
 have g2:=Int.emod_lt_of_pos n (show (0:Int) < l by omega)
 exact ⟨(n % (l:Int)).toNat,by omega,by omega⟩
theorem HH (j:Nat):cG (.int (j:Int)) (.int 1)=some (.int ((j + 1:Nat):Int)):=by simp [cG,bT]
theorem oQ (T:List D) (k:Nat):CZ (.tup T) none (some (k:Int))=some (.tup (T.take k)):= by
 show some (D.tup (cutD T none (some (k:Int))))=_
 rw [lg]
theorem oT (T:List D) (k:Nat):CZ (.tup T) (some (k:Int)) none=some (.tup (T.drop k)):= by
 show some (D.tup (cutD T (some (k:Int)) none))=_
 rw [mI]
theorem yR {δ:DS} {j:Nat} {o:D} {T:List D} {fo:Jt.M D} (h2:δ[2]? = some (.pu (.tup T))) (h4:δ[4]? = some (.pu (.int (j:Int)))) (h7:T.length ≤ 7) {Q:D->DS->Prop} (ho:Ok fo δ fun d δ'=>δ' = δ∧d=o) (hQ:Q (.tup (T.take j ++ [o] ++ T.drop (j + 1))) δ) :
  Ok (m2 c_ (m2 c_ (pK (ah 2) (pure none) ((ah 4) >>= o8)) (b4 (af fo (pure [])))) (pK (ah 2) ((m2 cG (ah 4) (pure (.int 1))) >>= o8) (pure none))) δ Q:= by
 have k1:(T.take j).length ≤ 7:=by rw [List.length_take];omega
 have k2:(T.drop (j + 1)).length ≤ 7:=by rw [List.length_drop];omega
 have c1:c_ (.tup (T.take j)) (.tup [o])=some (.tup (T.take j ++ [o])):=u4 _ _ (by omega) (by simp)
 have c2:c_ (.tup (T.take j ++ [o])) (.tup (T.drop (j + 1)))=some (.tup (T.take j ++ [o] ++ T.drop (j + 1))):=u4 _ _ (by simp;omega) (by omega)
 have s1:=oQ T j
 have s2:=oT T (j + 1)
 simp only [dC,xu,aZ,ar,aq,rn,hU,ay,h2,h4,Option.some.injEq,Jt.Slot.pu.injEq,exists_eq_left',D.int.injEq,s1,aV]
 refine ho.mono fun d δ' ⟨e1,e2⟩=>?_
 subst e1;subst e2
 simp only [cw,c1,aV,h2,h4,Option.some.injEq,Jt.Slot.pu.injEq,exists_eq_left',HH,D.int.injEq,s2,c2]
 exact ⟨by simp,hQ⟩
theorem xc {P:List Pr} (h:P.length < 64):∃ X:List Pr,Jt.Tu.sortU (P.map pD)=some (X.map pD)∧X.length=P.length:= by
 refine ⟨Jt.Tu.pickT (P.map kp) (0,0) P,?_,(Jt.Tu.pickT_perm _ _ _ (by simp)).length_eq⟩
 unfold Jt.Tu.sortU
 have e:P.map pD=(P.map kp).map fun ns=>.tup (ns.map .int):=by rw [List.map_map];rfl
 have et:fH (P.map pD)=some (P.map kp):=by rw [e,jh]
 rw [et]
 dsimp only
 rw [if_pos ⟨by simpa using h,by simp [kp]⟩]
 refine congrArg some ?_
 rw [Jt.Tu.pickT_map]
 exact Jt.Tu.pickT_any (by simp) _ _
theorem oV {δ:DS} {m k r m':Int} {fa:Jt.M D} (et:aY bL bJ [.int m] [.int k]=some (.int r,[.int m'])) (h0:δ[0]? = some (.ow true [.int m])) (ha:Ok fa δ fun d δ'=>δ' = δ∧d=.int k) {Q:D->DS->Prop} (hQ:Q (.int r) (δ.set 0 (.ow true [.int m']))):Ok (do let _ <- aA 0;bC 0 2 (aY bL bJ) (af fa (pure []))) δ Q:= by
 simp only [aq,b5,i8,ay,ar]
 refine ⟨true,_,h0,?_⟩
 refine ha.mono fun d δ' ⟨e1,e2⟩=>?_
 subst e1;subst e2
 exact ⟨true,_,h0,rfl,_,et,hQ⟩
theorem wD {δ:DS} {x:D} {k:Int} {i:Nat} (h2:δ[i]? = some (.pu x)) (el:bu [x]=some (.int k)):Ok (mC bu (af (ah i) (pure []))) δ fun d δ'=>δ' = δ∧d=.int k:= by
 simp only [b9,ay,aZ,ar]
 exact ⟨_,h2,by rw [el];exact aV.mpr ⟨rfl,rfl⟩⟩
theorem ki (n0:Int) {X:List Pr} (h1:1 ≤ hs.length) (h6:hs.length ≤ 6) (hX:X.length ≤ 5):∃ d xs',aY j_ jA [.int n0] [cb M hs,tD X]=some (d,xs')∧gj d∧∃ n:Int,xs' = [.int n]:= by
 apply dW
 show Ok jA [.ow true [.int n0],.pu (cb M hs),.pu (tD X),.un,.un,.un,.un,.un,.un,.un,.un] _
 unfold jA
 obtain ⟨d0,xs',eo,dd,n1,rfl⟩:=Cf n0
 have e1:=fJ (M:Int) hs
 have e2:=k4 hs
 generalize cb (M:Int) hs=lay at *
 refine aG (fun δ=>δ=[.ow true [.int n1],.pu lay,.pu (tD X),.pu d0,.un,.un,.un,.un,.un,.un,.un]) ?_ ?_
 ·generalize tD X=td
  simp [-Prod.exists,eo]
 rintro _ rfl
 by_cases hX0:X=[]
 ·subst hX0
  rw [br]
  refine cZ (fun b δ=>b=true∧δ=[.ow true [.int n1],.pu lay,.pu (tD []),.pu d0,.un,.un,.un,.un,.un,.un,.un]) ?_ ?_ (fun _ h=>by cases h.1)
  ·have e:iL false (tD []) (.tup [])=some (.bl true):=rfl
   generalize tD []=td at *
   simp [e]
  ·rintro _ ⟨_,rfl⟩
   have et:=aB n1 5 (by omega) (by omega)
   obtain ⟨d,hd,e⟩:=oG [d0,.tup [.tup [.int 0,.int 0]],.tup [.tup [.int 0,.int 1]],.lst [],.tup [d0]] n1 (by simp)
   have dp:gj d:= by
    simp only [List.mem_cons,List.not_mem_nil,or_false] at hd
    rcases hd with rfl | rfl | rfl | rfl | rfl
    ·exact dd
    ·exact uc rfl
    ·exact uc rfl
    ·exact uc rfl
    ·exact kN (by simp) fun y hy=>by rw [List.mem_singleton.mp hy];exact dd.1
   simp [-Prod.exists,et]
   exact fZ e ⟨_,rfl,dp,_,rfl⟩
 have hX1:1 ≤ X.length:= by
  cases X with
  | nil=>exact absurd rfl hX0
  | cons _ _=>simp
 refine aG (fun δ=>δ=[.ow true [.int n1],.pu lay,.pu (tD X),.pu d0,.un,.un,.un,.un,.un,.un,.un]) ?_ ?_
 ·refine cZ (fun b δ=>b=false∧δ=[.ow true [.int n1],.pu lay,.pu (tD X),.pu d0,.un,.un,.un,.un,.un,.un,.un]) ?_ (fun _ h=>by cases h.1) ?_
  ·have e:iL false (tD X) (.tup [])=some (.bl false):= by
    cases X with
    | nil=>exact absurd rfl hX0
    | cons _ _=>rfl
   generalize tD X=td at *
   simp [e]
  ·rintro _ ⟨_,rfl⟩
   simp
 rintro _ rfl
 have sT:∀ x ∈ X.map pD,Short x:=fun x hx=>by obtain ⟨e,_,rfl⟩:=List.mem_map.mp hx;exact qy e
 have lT:(X.map pD).length=X.length:=List.length_map ..
 have td:tD X=.tup (X.map pD):=rfl
 rw [td]
 have gT:∀ {j:Nat} (h:j < X.length),(X.map pD)[j]? = some (pD X[j]):=fun h=>by simp [h]
 have tk:∀ j,(X.map pD).take j=(X.take j).map pD:=fun j=>by rw [List.map_take]
 have dk:∀ j,(X.map pD).drop j=(X.drop j).map pD:=fun j=>by rw [List.map_drop]
 clear td
 generalize X.map pD=T at *
 have el:bu [.tup T]=some (.int (X.length:Int)):=by simp [bu,lT]
 obtain ⟨j,hj,ej⟩:=jZ n1 (l:=X.length) (by omega)
 have et:=aB n1 X.length (by omega) (by omega)
 rw [ej] at et
 generalize n1 / (X.length:Int)=n2 at et
 refine aG (fun δ=>δ=[.ow true [.int n2],.pu lay,.pu (.tup T),.pu d0,.pu (.int (j:Int)),.un,.un,.un,.un,.un,.un]) (cM.mpr (oV et rfl (wD rfl el) ⟨by show 4 < 11;decide,rfl,rfl⟩)) ?_
 rintro _ rfl
 obtain ⟨k,hk,ek⟩:=jZ n2 (l:=X.length) (by omega)
 have et2:=aB n2 X.length (by omega) (by omega)
 rw [ek] at et2
 generalize n2 / (X.length:Int)=n3 at et2
 refine aG (fun δ=>δ=[.ow true [.int n3],.pu lay,.pu (.tup T),.pu d0,.pu (.int (j:Int)),.pu (.int (k:Int)),.un,.un,.un,.un,.un]) (cM.mpr (oV et2 rfl (wD rfl el) ⟨by show 5 < 11;decide,rfl,rfl⟩)) ?_
 rintro _ rfl
 refine aG (fun δ=>δ=[.ow true [.int n3],.pu lay,.pu (.tup T),.pu d0,.pu (.int (j:Int)),.pu (.int (k:Int)),.ow false T,.un,.un,.un,.un]) (by simp [dList,gm]) ?_
 rintro _ rfl
 refine aG (fun δ=>∃ rs:List D,rs.length=X.length∧(∀ r ∈ rs,Short r)∧δ=[.ow true [.int n3],.pu lay,.pu (.tup T),.pu d0,.pu (.int (j:Int)),.pu (.int (k:Int)),.ow false rs,.un,.un,.un,.un]) ?_ ?_
 ·exact Bx (by omega) (by omega) fun rs hr hm=>⟨rfl,rs,by omega,fun r h=>sT r (hm r h),rfl⟩
 rintro _ ⟨rs,hrs,srs,rfl⟩
 obtain ⟨o,ho,eo1⟩:=jZ n3 (l:=hs.length) (by omega)
 have et3:=aB n3 hs.length (by omega) (by omega)
 rw [eo1] at et3
 generalize n3 / (hs.length:Int)=n4 at et3
 obtain ⟨p,hp,ep1⟩:=jZ n4 (l:=1 + hs.length) (by omega)
 have et4:=aB n4 ((1 + hs.length:Nat):Int) (by omega) (by omega)
 rw [ep1] at et4
 generalize n4 / ((1 + hs.length:Nat):Int)=n5 at et4
 have ad:cG (.int 1) (.int (hs.length:Int))=some (.int ((1 + hs.length:Nat):Int)):=by simp [cG,bT]
 refine aG (fun δ=>δ=[.ow true [.int n5],.pu lay,.pu (.tup T),.pu d0,.pu (.int (j:Int)),.pu (.int (k:Int)),.ow false rs,.pu (.int (o:Int)),.pu (.int (p:Int)),.un,.un]) ?_ ?_
 ·unfold yY
  generalize ((1 + hs.length:Nat):Int)=hp1 at *
  have lh:∀ δ:DS,δ[1]? = some (.pu lay)->Ok (mC bu (af (m2 cT (ah 1) (pure (.int 1))) (pure []))) δ fun d δ'=>δ' = δ∧d=.int (hs.length:Int):=fun δ h=>by
   simp only [b9,ay,dC,aZ,ar]
   exact ⟨_,h,by rw [e1,aV,e2,aV];exact ⟨rfl,rfl⟩⟩
  rw [aq,ay]
  refine oV et3 rfl (lh _ rfl) ?_
  rw [ay]
  refine oV et4 rfl ?_ ?_
  ·rw [dC,ar]
   refine (lh _ rfl).mono fun d δ' ⟨w1,w2⟩=>?_
   subst w1;subst w2
   rw [ad,aV]
   exact ⟨rfl,rfl⟩
  ·rw [ar]
   simp only [aq,bR,ar]
   exact ⟨by show 7 < 11;decide,by show 8 < 11;decide,trivial,rfl⟩
 rintro _ rfl
 have l1:(T.take j).length ≤ 5:=by rw [List.length_take];omega
 have l2:(T.drop (j + 1)).length ≤ 5:=by rw [List.length_drop];omega
 have l3:(T.take (j + 1)).length ≤ 5:=by rw [List.length_take];omega
 have l4:(T.drop j).length ≤ 5:=by rw [List.length_drop];omega
 have c1:c_ (.tup (T.take j)) (.tup (T.drop (j + 1)))=some (.tup (T.take j ++ T.drop (j + 1))):=u4 _ _ (by omega) (by omega)
 have c2:c_ (.tup (T.take (j + 1))) (.tup (T.drop j))=some (.tup (T.take (j + 1) ++ T.drop j)):=u4 _ _ (by omega) (by omega)
 have c3:c_ (.tup T) (.tup [d0])=some (.tup (T ++ [d0])):=u4 _ _ (by omega) (by simp)
 have s1:=oQ T j
 have s2:=oT T (j + 1)
 have s3:=oQ T (j + 1)
 have s4:=oT T j
 have a1:=HH j
 refine aG (fun δ=>∃ ts:List D,ts.length=6∧(∀ t ∈ ts,gj t)∧δ=[.ow true [.int n5],.pu lay,.pu (.tup T),.pu d0,.pu (.int (j:Int)),.pu (.int (k:Int)),.ow false rs,.pu (.int (o:Int)),.pu (.int (p:Int)),.ow false ts,.un]) ?_ ?_
 ·simp only [ym,aq,eK,ay,hU,dC,xu,aZ,b5,ar,rn,C_,b9,List.getElem?_cons_zero,List.getElem?_cons_succ,Option.some.injEq,Jt.Slot.pu.injEq,Jt.Slot.ow.injEq,exists_eq_left',D.int.injEq,s1,s2,s3,s4,a1,aV,c1,c2,c3,dList,gm]
  refine ⟨false,rs,⟨rfl,rfl⟩,cw.mpr ⟨by simp,?_⟩⟩
  refine cw.mpr ⟨by simp,by simp,trivial,_,rfl,?_,rfl⟩
  intro t ht
  simp only [List.mem_cons,List.not_mem_nil,or_false] at ht
  rcases ht with rfl | rfl | rfl | rfl | rfl | rfl
  ·exact kN (by simp;omega) fun y hy=>sT y ((List.mem_append.mp hy).elim List.mem_of_mem_take List.mem_of_mem_drop)
  ·exact kN (by simp;omega) fun y hy=>sT y ((List.mem_append.mp hy).elim List.mem_of_mem_take List.mem_of_mem_drop)
  ·exact kN (by omega) srs
  ·exact G_ fun xs e=>by cases e
  ·exact dd
  ·refine kN (by simp;omega) fun y hy=>?_
   rcases List.mem_append.mp hy with h | h
   ·exact sT y h
   ·rw [List.mem_singleton.mp h];exact dd.1
 rintro _ ⟨ts,ht6,hts,rfl⟩
 obtain ⟨a,b,eab⟩:∃ a b:Nat,T[j]? = some (.tup [.int (a:Int),.int (b:Int)]):=⟨_,_,gT hj⟩
 have gx:cT (.tup T) (.int (j:Int))=some (.tup [.int (a:Int),.int (b:Int)]):= by
  show ju T (j:Int)=_
  rw [cV T j (by omega),<- eab,List.getElem?_eq_getElem]
 have gb:cT (.tup [.int (a:Int),.int (b:Int)]) (.int 1)=some (.int (b:Int)):=rfl
 have cz:c_ (.tup [.int (a:Int),.int (b:Int)]) (.tup [.int 0])=some (.tup [.int (a:Int),.int (b:Int),.int 0]):=u4 _ _ (by simp) (by simp)
 obtain ⟨vs,hvs⟩:∃ vs:List D,vs=[.tup [.int (o:Int),.int (p:Int)],.tup [.int (b:Int),.int (a:Int)],d0,.lst [.int (a:Int),.int (b:Int)],.tup [.int (a:Int),.int (b:Int),.int 0],.tup [.bl false,.int (b:Int)]]:=⟨_,rfl⟩
 have svs:∀ v ∈ vs,Short v:= by
  intro v hv
  rw [hvs] at hv
  simp only [List.mem_cons,List.not_mem_nil,or_false] at hv
  rcases hv with rfl | rfl | rfl | rfl | rfl | rfl
  ·exact md rfl
  ·exact md rfl
  ·exact dd.1
  ·exact md rfl
  ·exact md rfl
  ·exact md rfl
 have put:∀ v,Short v->gj (.tup (T.take j ++ [v] ++ T.drop (j + 1))):=fun v hv=>by
  refine kN (by simp;omega) fun y hy=>?_
  rcases List.mem_append.mp hy with h | h
  ·rcases List.mem_append.mp h with h | h
   ·exact sT y (List.mem_of_mem_take h)
   ·rw [List.mem_singleton.mp h];exact hv
  ·exact sT y (List.mem_of_mem_drop h)
 refine aG (fun δ=>∃ (ts:List D) (aa:Jt.Slot),ts.length=12∧(∀ t ∈ ts,gj t)∧δ=[.ow true [.int n5],.pu lay,.pu (.tup T),.pu d0,.pu (.int (j:Int)),.pu (.int (k:Int)),.ow false rs,.pu (.int (o:Int)),.pu (.int (p:Int)),.ow false ts,aa]) ?_ ?_
 ·refine jC vs (fun i δ=>∃ (ts:List D) (aa:Jt.Slot),ts.length=6 + i∧(∀ t ∈ ts,gj t)∧δ=[.ow true [.int n5],.pu lay,.pu (.tup T),.pu d0,.pu (.int (j:Int)),.pu (.int (k:Int)),.ow false rs,.pu (.int (o:Int)),.pu (.int (p:Int)),.ow false ts,aa]) ?_ ⟨ts,_,ht6,hts,rfl⟩ ?_ ?_
  ·rw [hvs]
   generalize (D.tup T)=tt at *
   simp only [aq,eK,ay,hU,dC,aZ,ar,C_,b9,List.getElem?_cons_zero,List.getElem?_cons_succ,Option.some.injEq,Jt.Slot.pu.injEq,exists_eq_left',gx,gb,aV,EH,dList,gm,cw,cz,bh,List.reverse_cons,List.reverse_nil,List.nil_append,List.cons_append]
   simp
  ·rintro i hi _ ⟨ts,aa,h6,hts,rfl⟩
   have hi6:i < 6:=by rw [hvs] at hi;exact hi
   rw [bR]
   refine ⟨by simp,?_⟩
   refine d_ ⟨_,_,rfl⟩ ?_
   simp only [ay,ar]
   refine yR (T:=T) (j:=j) (o:=vs[i]) rfl rfl (by omega) (aZ.mpr ⟨_,rfl,rfl,rfl⟩) ?_
   refine ⟨_,false,ts,rfl,rfl,by omega,ts ++ [_],_,by simp;omega,fun t ht=>?_,rfl⟩
   rcases List.mem_append.mp ht with z | z
   ·exact hts t z
   ·rw [List.mem_singleton.mp z];exact put _ (svs _ (List.getElem_mem hi))
  ·rintro _ ⟨ts,aa,h6,hts,rfl⟩
   rw [hvs] at h6
   exact ⟨rfl,ts,aa,h6,hts,rfl⟩
 rintro _ ⟨ts,aa,ht12,hts,rfl⟩
 obtain ⟨lo,hlo⟩:∃ lo:Nat,gk [.int (o:Int),.int (p:Int)]=some (.int (lo:Int)):= by
  by_cases q:(p:Int) < (o:Int)
  ·exact ⟨p,by simp [gk,q]⟩
  ·exact ⟨o,by simp [gk,q]⟩
 obtain ⟨hi,hhi⟩:∃ hi:Nat,iu [.int (o:Int),.int (p:Int)]=some (.int (hi:Int)):= by
  by_cases q:(p:Int) > (o:Int)
  ·exact ⟨p,by simp [iu,q]⟩
  ·exact ⟨o,by simp [iu,q]⟩
 obtain ⟨Y,eY,lY⟩:=xc (P:=X.take j ++ [(lo,hi)] ++ X.drop (j + 1)) (by simp;omega)
 have lY2:Y.length ≤ 60:=by rw [lY];simp;omega
 have eT:T.take j ++ [pD (lo,hi)] ++ T.drop (j + 1)=(X.take j ++ [(lo,hi)] ++ X.drop (j + 1)).map pD:= by
  rw [List.map_append,List.map_append,tk,dk]
  rfl
 rw [<- eT] at eY
 refine aG (fun δ=>∃ (ts:List D),ts.length=13∧(∀ t ∈ ts,gj t)∧δ=[.ow true [.int n5],.pu lay,.pu (.tup T),.pu d0,.pu (.int (j:Int)),.pu (.int (k:Int)),.ow false rs,.pu (.int (o:Int)),.pu (.int (p:Int)),.ow false ts,aa]) ?_ ?_
 ·refine d_ ⟨_,_,rfl⟩ ?_
  simp only [ay,ar,b9,aq,xx]
  refine yR (T:=T) (j:=j) (o:=pD (lo,hi)) rfl rfl (by omega) ?_ ?_
  ·simp [hlo,hhi,pD]
  ·have sq:gm (.tup (T.take j ++ [pD (lo,hi)] ++ T.drop (j + 1)))=some (T.take j ++ [pD (lo,hi)] ++ T.drop (j + 1)):=rfl
   rw [sq,aV,eY,aV]
   simp only [c7,aV]
   refine ⟨_,false,ts,rfl,rfl,by omega,trivial,ts ++ [_],by simp;omega,fun t ht=>?_,rfl⟩
   rcases List.mem_append.mp ht with z | z
   ·exact hts t z
   ·rw [List.mem_singleton.mp z];exact tV lY2
 rintro _ ⟨ts,ht13,hts,rfl⟩
 have et5:=aB n5 13 (by omega) (by omega)
 obtain ⟨t,ht,e⟩:=oG ts n5 (by omega)
 rw [ht13] at e
 simp only [aq,ar]
 refine nQ.mpr ⟨⟨_,_,rfl⟩,?_⟩
 simp [-Prod.exists,et5]
 refine fZ e ⟨_,rfl,hts t ht,_,rfl⟩
end K21
namespace K21
open PySem L2 Jt
open Builtin.Int (intBits)
variable {hs:List (List Int)} {M:Nat}
theorem xG (h1:1 ≤ hs.length) (h6:hs.length ≤ 6) (hM:M ≤ 7) {t:D} (ht:gj t):∃ b c,aO f_ dg [cb M hs,t]=some (.bl b)∧aO rq iR [cb M hs,t]=some (.bl b)∧aO pf o6 [cb M hs,t]=some (.bl c)∧(b=false->c=false)∧(b=true->aO i5 ke [cb M hs,t]=some (.bl c)):= by
 obtain ⟨b,e1,e2,q,_⟩:=mV (M:=M) h1 h6 ht
 cases b with
 | false=>exact ⟨false,false,e1,e2,vC e1,fun _=>rfl,fun z=>by cases z⟩
 | true=>
  obtain ⟨X,TX,rfl⟩:=q rfl
  have hl:=TX.len
  exact ⟨true,fj hs M X,e1,e2,rF h6 hM (by omega) TX.fst e1,fun z=>(by cases z),fun _=>qh h6 hM X⟩
inductive LS (z0:Jt.Slot):DS->Prop
 | mk (a1 a2 a3 a4 a5 a6 a7 a8:Jt.Slot):LS z0 [z0,a1,a2,a3,a4,a5,a6,a7,a8]
theorem xD:∀ ns:List Int,ns.length ≤ 63->(∀ i ∈ ns,intBits i ≤ 2 ^ 20)->aO yX uI [.lst (ns.map .int)]=some (.bl true):= by
 intro ns hns hbits
 apply ba
 show Ok uI [.pu (.lst (ns.map .int)),.un,.un,.un,.un,.un,.un,.un,.un] _
 unfold uI
 refine aG (LS (.pu (.lst (ns.map .int)))) ?_ ?_
 ·obtain ⟨N,hN,hN2⟩:∃ N:Nat,(if (if (6:Int) < ns.length then 6 else (ns.length:Int)) > 1 then (if (6:Int) < ns.length then 6 else (ns.length:Int)) else 1)=(N:Int)∧N ≤ 6:= by
   refine ⟨(if (if (6:Int) < ns.length then 6 else (ns.length:Int)) > 1 then (if (6:Int) < ns.length then 6 else (ns.length:Int)) else 1).toNat,?_,?_⟩ <;> split <;> split <;> omega
  have sN:bg N=true:=by simp [bg];omega
  refine jC (bF 0 N) (fun _ δ=>LS (.pu (.lst (ns.map .int))) δ) ?_ (.mk ..) ?_ ?_
  ·simp only [b9,ay,aZ,ar,List.getElem?_cons_zero,Option.some.injEq,Jt.Slot.pu.injEq,exists_eq_left',bu,aV,gk,iu,List.length_map,hN,cC,sN,if_true]
   simp
  ·rintro k hk' _ ⟨a1,a2,a3,a4,a5,a6,a7,a8⟩
   have hkN:k < N:=by simpa [bF] using hk'
   rw [fP,bR]
   refine ⟨by simp,?_⟩
   simp only [List.set_cons_succ,List.set_cons_zero]
   obtain ⟨n,en⟩:=vO ns hbits k (by omega)
   obtain ⟨d,xs',el,m,hs,n1,rfl,rfl,h1,h6,hm,hq⟩:=nZ n (P:=7) (Z:=6) (by omega) (by omega) (by omega) (by omega)
   obtain ⟨M,rfl⟩:∃ M:Nat,m=(M:Int):=⟨m.toNat,by omega⟩
   have h7:∀ h ∈ hs,h.length ≤ 7:=fun h hh=>(hq h hh).len (by omega) (by omega)
   obtain ⟨d,xs',es,⟨X,rfl,TX⟩,n2,rfl⟩:=jO (M:=M) h1 h6 h7 n1
   have hX:X.length ≤ 5:=by have:=TX.len;omega
   obtain ⟨t1,xs',eb1,d1,n3,rfl⟩:=ki (M:=M) n2 h1 h6 hX
   obtain ⟨t2,xs',eb2,d2,n4,rfl⟩:=ki (M:=M) n3 h1 h6 hX
   obtain ⟨t3,xs',eo,d3,n5,rfl⟩:=Cf n4
   have d0:gj (tD X):=tV (by omega)
   have ok:∀ {t:D},gj t->_:=fun {t} ht=>xG (M:=M) h1 h6 (by omega) (t:=t) ht
   have it:aO f_ dg [cb M hs,tD X]=some (.bl true):= by
    obtain ⟨b,e,_,_,q⟩:=mV (M:=M) h1 h6 d0
    rw [q X TX rfl] at e
    exact e
   have h7':((7:Nat):Int)=7:=rfl
   have h6':((6:Nat):Int)=6:=rfl
   rw [h7',h6'] at el
   generalize cb (M:Int) hs=lay at *
   generalize tD X=td at *
   refine aG (fun δ=>δ=[.pu (.lst (ns.map .int)),.pu (.int (k:Int)),.ow false [.int n],a3,a4,a5,a6,a7,a8]) (by simp [aR,en]) ?_
   rintro _ rfl
   refine aG (fun δ=>δ=[.pu (.lst (ns.map .int)),.pu (.int (k:Int)),.ow false [.int n1],.pu lay,a4,a5,a6,a7,a8]) ?_ ?_
   ·simp only [cM,aq,b5,i8,ay,ar,List.getElem?_cons_succ,List.getElem?_cons_zero,Option.some.injEq,Jt.Slot.ow.injEq,List.length_cons,List.length_nil]
    exact ⟨false,_,⟨rfl,rfl⟩,false,_,⟨rfl,rfl⟩,trivial,_,el,by simp⟩
   rintro _ rfl
   generalize D.lst (ns.map .int)=nsd
   refine aG (fun δ=>δ=[.pu nsd,.pu (.int (k:Int)),.ow false [.int n2],.pu lay,.pu td,a5,a6,a7,a8]) (by simp [-Prod.exists,es]) ?_
   rintro _ rfl
   refine aG (fun δ=>∃ a5 a6 a7 a8:Jt.Slot,δ=[.pu nsd,.pu (.int (k:Int)),.ow false [.int n5],.pu lay,.pu td,a5,a6,a7,a8]) ?_ ?_
   ·rw [aq]
    have hi:Ok (do let x <- (do let xs <- (df (af (ah 4) (af (do let _ <- aA 2;bC 2 3 (aY j_ jA) (af (ah 3) (af (ah 4) (pure [])))) (af (do let _ <- aA 2;bC 2 3 (aY j_ jA) (af (ah 3) (af (ah 4) (pure [])))) (af (do let _ <- aA 2;bC 2 1 (aY l6 k0) (pure [])) (pure []))))));pure (D.lst xs));lift (bh x)) [.pu nsd,.pu (.int (k:Int)),.ow false [.int n2],.pu lay,.pu td,a5,a6,a7,a8]
      fun it δ=>it=aW [td,t1,t2,t3]∧δ=[.pu nsd,.pu (.int (k:Int)),.ow false [.int n5],.pu lay,.pu td,a5,a6,a7,a8]:= by
     simp [-Prod.exists,eb1,eb2,eo,bh]
    refine hi.mono fun it δ' ⟨w1,w2⟩=>?_
    subst w1;subst w2
    refine sA [td,t1,t2,t3] (fun _ δ=>∃ a5 a6 a7 a8:Jt.Slot,δ=[.pu nsd,.pu (.int (k:Int)),.ow false [.int n5],.pu lay,.pu td,a5,a6,a7,a8]) ⟨_,_,_,_,rfl⟩ ?_ ?_
    ·rintro j hj _ ⟨a5,a6,a7,a8,rfl⟩
     have dt:gj [td,t1,t2,t3][j]:= by
      have:=List.getElem_mem hj
      simp only [List.mem_cons,List.not_mem_nil,or_false] at this
      rcases this with e | e | e | e <;> rw [e] <;> assumption
     generalize [td,t1,t2,t3][j]=t at *
     obtain ⟨b,c,q1,q2,q3,q4,q5⟩:=ok dt
     rw [bR]
     refine ⟨by simp,?_⟩
     simp only [List.set_cons_succ,List.set_cons_zero]
     refine aG (fun δ=>δ=[.pu nsd,.pu (.int (k:Int)),.ow false [.int n5],.pu lay,.pu td,.pu t,.pu (.bl b),.pu (.bl c),a8]) (by unfold yY;simp [aR,q1,q3]) ?_
     rintro _ rfl
     refine aG (fun δ=>δ=[.pu nsd,.pu (.int (k:Int)),.ow false [.int n5],.pu lay,.pu td,.pu t,.pu (.bl b),.pu (.bl c),.pu (.bl b)]) (by simp [aR,q2]) ?_
     rintro _ rfl
     have eqb:=tS b b
     refine aG (fun δ=>δ=[.pu nsd,.pu (.int (k:Int)),.ow false [.int n5],.pu lay,.pu td,.pu t,.pu (.bl b),.pu (.bl c),.pu (.bl b)]) ?_ ?_
     ·refine cZ (fun b' δ=>b' = false∧δ=[.pu nsd,.pu (.int (k:Int)),.ow false [.int n5],.pu lay,.pu td,.pu t,.pu (.bl b),.pu (.bl c),.pu (.bl b)]) ?_ (fun _ h=>by cases h.1) ?_
      ·simp [bx,lr,b_,eqb]
      ·rintro _ ⟨_,rfl⟩
       simp
     rintro _ rfl
     refine cZ (fun b' δ=>b' = false∧δ=[.pu nsd,.pu (.int (k:Int)),.ow false [.int n5],.pu lay,.pu td,.pu t,.pu (.bl b),.pu (.bl c),.pu (.bl b)]) ?_ (fun _ h=>by cases h.1) ?_
     ·cases b with
      | false=>
       rw [q4 rfl]
       have e:=tS false false
       simp [jL,b_,e]
      | true=>
       have q:=q5 rfl
       have e:=tS c c
       simp [jL,b_,aR,q,e]
     ·rintro _ ⟨_,rfl⟩
      exact ar.mpr ⟨_,_,_,_,rfl⟩
    ·rintro _ ⟨a5,a6,a7,a8,rfl⟩
     exact ⟨rfl,_,_,_,_,rfl⟩
   rintro _ ⟨a5,a6,a7,a8,rfl⟩
   refine cZ (fun b δ=>b=false∧δ=[.pu nsd,.pu (.int (k:Int)),.ow false [.int n5],.pu lay,.pu td,a5,a6,a7,a8]) ?_ (fun _ h=>by cases h.1) ?_
   ·have e:Jt.Tu.dNotT (.bl true) (.bl true)=some (.bl false):=rfl
    simp [aR,it,e]
   ·rintro _ ⟨_,rfl⟩
    exact ar.mpr (.mk ..)
  ·rintro δ h
   exact ⟨rfl,h⟩
 ·rintro _ ⟨⟩
  simp
end K21
namespace K21
open PySem L2 Jt
theorem uy {us:List Value} (h:us.length=1):∃ a,us=[a]:=by match us,h with | [a],_=>exact ⟨a,rfl⟩
theorem c8 {us:List Value} (h:us.length=2):∃ a b,us=[a,b]:=by match us,h with | [a,b],_=>exact ⟨a,b,rfl⟩
theorem pJ {us:List Value} (h:us.length=3):∃ a b c,us=[a,b,c]:=by match us,h with | [a,b,c],_=>exact ⟨a,b,c,rfl⟩
theorem all_mk {l:PySem.W.OpenLaw} {w:World} {K:PySem.W.Frag} {h:Heap} {mg:Str->Option Value} {fa:Addr} (X:K.In h) (G:h.Ns mainGlobals mg) (hfa:mg "law" = some (.ref fa))
  (e_is_whole:Fh K "is_whole" yG)
  (e_is_below:Fh K "is_below" wz)
  (e_are_below:Fh K "are_below" y0)
  (e_is_two_below:Fh K "is_two_below" E6)
  (e_is_rising:Fh K "is_rising" y8)
  (e_linked:Fh K "linked" xk)
  (e_heads_of:Fh K "heads_of" w9)
  (e_is_pair:Fh K "is_pair" yS)
  (e_has_no_ring:Fh K "has_no_ring" DM)
  (e_is_tree:Fh K "is_tree" wU)
  (e_hang_together:Fh K "hang_together" DR)
  (e_is_join_tree:Fh K "is_join_tree" Ew)
  (e__law_cell:Fh K "_law_cell" yq)
  (e__law_mix:Fh K "_law_mix" yg)
  (e__law_box:Fh K "_law_box" xJ)
  (e__law_take:Fh K "_law_take" wu)
  (e__law_head:Fh K "_law_head" wA)
  (e__law_grown:Fh K "_law_grown" wY)
  (e__law_barred:Fh K "_law_barred" Ek)
  (e__law_named:Fh K "_law_named" En)
  (e__law_layout:Fh K "_law_layout" DP)
  (e__law_whole:Fh K "_law_whole" xV)
  (e__law_hang:Fh K "_law_hang" wx)
  (e__law_is_pair:Fh K "_law_is_pair" Fs)
  (e__law_is_tree:Fh K "_law_is_tree" DY)
  (e__law_joins:Fh K "_law_joins" y6)
  (e__law_odd:Fh K "_law_odd" yj)
  (e__law_some_tree:Fh K "_law_some_tree" E5)
  (e__law_bent:Fh K "_law_bent" xR)
  (e_law:Fh K "law" qE)
  (z:PySem.W.nsIn K mainGlobals "all" = some none∧PySem.W.nsIn K mainGlobals "bool" = some none∧PySem.W.nsIn K mainGlobals "divmod" = some none∧PySem.W.nsIn K mainGlobals "enumerate" = some none∧PySem.W.nsIn K mainGlobals "int" = some none∧PySem.W.nsIn K mainGlobals "isinstance" = some none∧PySem.W.nsIn K mainGlobals "len" = some none∧PySem.W.nsIn K mainGlobals "list" = some none∧PySem.W.nsIn K mainGlobals "max" = some none∧PySem.W.nsIn K mainGlobals "min" = some none∧PySem.W.nsIn K mainGlobals "range" = some none∧PySem.W.nsIn K mainGlobals "set" = some none∧PySem.W.nsIn K mainGlobals "sorted" = some none∧PySem.W.nsIn K mainGlobals "tuple" = some none∧PySem.W.nsIn K mainGlobals "zip" = some none)
 :∃ fd:FuncData,(∀ (s:Shared) (v:Value),BindsTo s fd ⟨[v],[]⟩ [("_law_script",v)])∧∀ base:Heap,K.In base->base.Ns mainGlobals mg->dF l.prog w K mg base di 8 fa fd ["_law_script"] rT:= by
 have m:Bi mg:=⟨PySem.W.mg_none_of X G z.1,PySem.W.mg_none_of X G z.2.1,PySem.W.mg_none_of X G z.2.2.1,PySem.W.mg_none_of X G z.2.2.2.1,PySem.W.mg_none_of X G z.2.2.2.2.1,PySem.W.mg_none_of X G z.2.2.2.2.2.1,PySem.W.mg_none_of X G z.2.2.2.2.2.2.1,PySem.W.mg_none_of X G z.2.2.2.2.2.2.2.1,PySem.W.mg_none_of X G z.2.2.2.2.2.2.2.2.1,PySem.W.mg_none_of X G z.2.2.2.2.2.2.2.2.2.1,PySem.W.mg_none_of X G z.2.2.2.2.2.2.2.2.2.2.1,PySem.W.mg_none_of X G z.2.2.2.2.2.2.2.2.2.2.2.1,PySem.W.mg_none_of X G z.2.2.2.2.2.2.2.2.2.2.2.2.1,PySem.W.mg_none_of X G z.2.2.2.2.2.2.2.2.2.2.2.2.2.1,PySem.W.mg_none_of X G z.2.2.2.2.2.2.2.2.2.2.2.2.2.2⟩
 have E_is_whole:=ent X G e_is_whole (ps:=["thing"]) fun _ _ _ _ _ _ us hl=>by obtain ⟨_,rfl⟩:=uy hl;rfl
 have E_is_below:=ent X G e_is_below (ps:=["thing","many"]) fun _ _ _ _ _ _ us hl=>by obtain ⟨_,_,rfl⟩:=c8 hl;rfl
 have E_are_below:=ent X G e_are_below (ps:=["thing","many"]) fun _ _ _ _ _ _ us hl=>by obtain ⟨_,_,rfl⟩:=c8 hl;rfl
 have E_is_two_below:=ent X G e_is_two_below (ps:=["thing","many"]) fun _ _ _ _ _ _ us hl=>by obtain ⟨_,_,rfl⟩:=c8 hl;rfl
 have E_is_rising:=ent X G e_is_rising (ps:=["things"]) fun _ _ _ _ _ _ us hl=>by obtain ⟨_,rfl⟩:=uy hl;rfl
 have E_linked:=ent X G e_linked (ps:=["labels","one","other"]) fun _ _ _ _ _ _ us hl=>by obtain ⟨_,_,_,rfl⟩:=pJ hl;rfl
 have E_heads_of:=ent X G e_heads_of (ps:=["layout","column"]) fun _ _ _ _ _ _ us hl=>by obtain ⟨_,_,rfl⟩:=c8 hl;rfl
 have E_is_pair:=ent X G e_is_pair (ps:=["layout","thing"]) fun _ _ _ _ _ _ us hl=>by obtain ⟨_,_,rfl⟩:=c8 hl;rfl
 have E_has_no_ring:=ent X G e_has_no_ring (ps:=["many","pairs"]) fun _ _ _ _ _ _ us hl=>by obtain ⟨_,_,rfl⟩:=c8 hl;rfl
 have E_is_tree:=ent X G e_is_tree (ps:=["layout","thing"]) fun _ _ _ _ _ _ us hl=>by obtain ⟨_,_,rfl⟩:=c8 hl;rfl
 have E_hang_together:=ent X G e_hang_together (ps:=["numbers","tree"]) fun _ _ _ _ _ _ us hl=>by obtain ⟨_,_,rfl⟩:=c8 hl;rfl
 have E_is_join_tree:=ent X G e_is_join_tree (ps:=["layout","thing"]) fun _ _ _ _ _ _ us hl=>by obtain ⟨_,_,rfl⟩:=c8 hl;rfl
 have E__law_cell:=ent X G e__law_cell (ps:=["_law_script","_law_k"]) fun _ _ _ _ _ _ us hl=>by obtain ⟨_,_,rfl⟩:=c8 hl;rfl
 have E__law_mix:=ent X G e__law_mix (ps:=["_law_cell_here","_law_k"]) fun _ _ _ _ _ _ us hl=>by obtain ⟨_,_,rfl⟩:=c8 hl;rfl
 have E__law_box:=ent X G e__law_box (ps:=["_law_script","_law_k"]) fun _ _ _ _ _ _ us hl=>by obtain ⟨_,_,rfl⟩:=c8 hl;rfl
 have E__law_take:=ent X G e__law_take (ps:=["_law_box_here","_law_many"]) fun _ _ _ _ _ _ us hl=>by obtain ⟨_,_,rfl⟩:=c8 hl;rfl
 have E__law_head:=ent X G e__law_head (ps:=["_law_box_here","_law_many"]) fun _ _ _ _ _ _ us hl=>by obtain ⟨_,_,rfl⟩:=c8 hl;rfl
 have E__law_grown:=ent X G e__law_grown (ps:=["_law_box_here","_law_many","_law_heads"]) fun _ _ _ _ _ _ us hl=>by obtain ⟨_,_,_,rfl⟩:=pJ hl;rfl
 have E__law_barred:=ent X G e__law_barred (ps:=["_law_box_here","_law_many"]) fun _ _ _ _ _ _ us hl=>by obtain ⟨_,_,rfl⟩:=c8 hl;rfl
 have E__law_named:=ent X G e__law_named (ps:=["_law_box_here","_law_many","_law_heads"]) fun _ _ _ _ _ _ us hl=>by obtain ⟨_,_,_,rfl⟩:=pJ hl;rfl
 have E__law_layout:=ent X G e__law_layout (ps:=["_law_box_here","_law_most","_law_heads"]) fun _ _ _ _ _ _ us hl=>by obtain ⟨_,_,_,rfl⟩:=pJ hl;rfl
 have E__law_whole:=ent X G e__law_whole (ps:=["_law_found"]) fun _ _ _ _ _ _ us hl=>by obtain ⟨_,rfl⟩:=uy hl;rfl
 have E__law_hang:=ent X G e__law_hang (ps:=["_law_pairs","_law_some"]) fun _ _ _ _ _ _ us hl=>by obtain ⟨_,_,rfl⟩:=c8 hl;rfl
 have E__law_is_pair:=ent X G e__law_is_pair (ps:=["_law_layout_here","_law_thing"]) fun _ _ _ _ _ _ us hl=>by obtain ⟨_,_,rfl⟩:=c8 hl;rfl
 have E__law_is_tree:=ent X G e__law_is_tree (ps:=["_law_layout_here","_law_thing"]) fun _ _ _ _ _ _ us hl=>by obtain ⟨_,_,rfl⟩:=c8 hl;rfl
 have E__law_joins:=ent X G e__law_joins (ps:=["_law_layout_here","_law_tree"]) fun _ _ _ _ _ _ us hl=>by obtain ⟨_,_,rfl⟩:=c8 hl;rfl
 have E__law_odd:=ent X G e__law_odd (ps:=["_law_box_here"]) fun _ _ _ _ _ _ us hl=>by obtain ⟨_,rfl⟩:=uy hl;rfl
 have E__law_some_tree:=ent X G e__law_some_tree (ps:=["_law_box_here","_law_layout_here"]) fun _ _ _ _ _ _ us hl=>by obtain ⟨_,_,rfl⟩:=c8 hl;rfl
 have E__law_bent:=ent X G e__law_bent (ps:=["_law_box_here","_law_layout_here","_law_tree"]) fun _ _ _ _ _ _ us hl=>by obtain ⟨_,_,_,rfl⟩:=pJ hl;rfl
 exact Jl X G hfa e_law (fun _ _ _ _ _ _ s v=>.of_eq rfl) gy (fun base=>by
  have G_q20:il l.prog w K mg base 1:=Es (k:=0) E_is_whole m
  have G_q22:f9 l.prog w K mg base 2:=Ec (k:=1) E_is_below (G_q20.up (by decide))
  have G_q13:gG l.prog w K mg base 3:=Er (k:=2) E_are_below m (G_q22.up (by decide))
  have G_q5:eE l.prog w K mg base 4:=GH (k:=3) E_is_two_below m (G_q13.up (by decide))
  have G_q15:gI l.prog w K mg base 1:=EJ (k:=0) E_is_rising m
  have G_q28:lq l.prog w K mg base 1:=Dt (k:=0) E_linked m
  have G_q21:iE l.prog w K mg base 3:=ET (k:=2) E_heads_of m (G_q22.up (by decide))
  have G_q27:jy l.prog w K mg base 5:=Fe (k:=4) E_is_pair m (G_q5.up (by decide))
  have G_q7:eU l.prog w K mg base 2:=GS (k:=1) E_has_no_ring m (G_q28.up (by decide))
  have G_q26:g6 l.prog w K mg base 6:=Ei (k:=5) E_is_tree m (G_q7.up (by decide)) (G_q27.up (by decide)) (G_q15.up (by decide))
  have G_q1:dI l.prog w K mg base 1:=Gy (k:=0) E_hang_together m
  have G_q4:d6 l.prog w K mg base 7:=GP (k:=6) E_is_join_tree m (G_q1.up (by decide)) (G_q21.up (by decide)) (G_q26.up (by decide))
  have G_q19:gN l.prog w K mg base 1:=EK (k:=0) E__law_cell m
  have G_q24:iC l.prog w K mg base 1:=DV (k:=0) E__law_mix
  have G_q23:iK l.prog w K mg base 2:=Dg (k:=1) E__law_box m (G_q19.up (by decide)) (G_q24.up (by decide))
  have G_q17:bO l.prog w K mg base 1:=Fj (k:=0) E__law_take m
  have G_q16:eJ l.prog w K mg base 2:=DU (k:=1) E__law_head m (G_q17.up (by decide))
  have G_q11:fM l.prog w K mg base 3:=ED (k:=2) E__law_grown m (G_q16.up (by decide)) (G_q17.up (by decide))
  have G_q8:ff l.prog w K mg base 2:=Gg (k:=1) E__law_barred m (G_q17.up (by decide))
  have G_q9:fW l.prog w K mg base 2:=HI (k:=1) E__law_named m (G_q17.up (by decide))
  have G_q6:fu l.prog w K mg base 4:=Gb (k:=3) E__law_layout m (G_q8.up (by decide)) (G_q11.up (by decide)) (G_q16.up (by decide)) (G_q9.up (by decide)) (G_q17.up (by decide))
  have G_q12:fL l.prog w K mg base 1:=E1 (k:=0) E__law_whole m
  have G_q18:eP l.prog w K mg base 1:=Ep (k:=0) E__law_hang m
  have G_q3:dY l.prog w K mg base 2:=FU (k:=1) E__law_is_pair m (G_q12.up (by decide))
  have G_q2:dZ l.prog w K mg base 3:=GN (k:=2) E__law_is_tree m (G_q18.up (by decide)) (G_q3.up (by decide))
  have G_q10:fS l.prog w K mg base 2:=Eh (k:=1) E__law_joins m (G_q18.up (by decide))
  have G_q25:f6 l.prog w K mg base 2:=Dh (k:=1) E__law_odd m (G_q17.up (by decide))
  have G_q0:du l.prog w K mg base 2:=Hu (k:=1) E__law_some_tree m (G_q17.up (by decide))
  have G_q14:gJ l.prog w K mg base 3:=Fy (k:=2) E__law_bent m (G_q25.up (by decide)) (G_q17.up (by decide))
  exact FQ (k:=7) m (G_q14.up (by decide)) (G_q23.up (by decide)) (G_q2.up (by decide)) (G_q10.up (by decide)) (G_q6.up (by decide)) (G_q25.up (by decide)) (G_q0.up (by decide)) (G_q4.up (by decide)) (G_q26.up (by decide))) fun _ _ _ F=>Bo F xD
end K21
open PySem PySem.W PyProof.Rows
set_option maxRecDepth 100000
set_option maxHeartbeats 0
namespace TopAll
open PySem PySem.W PySem.Calls PyProof.Rows
def run (st:SharedT→Thread→Option (SharedT×Thread)) (ok:Thread→Bool):Nat→SharedT→Thread→Option SharedT
 |0,_,_=>none
 |n+1,s,t=>match through t with
  |true=>some s
  |false=>match ok t with
   |false=>none
   |true=>match st s t with
    |some (s',t')=>run st ok n s' t'
    |none=>none
theorem run_spec {tb:String→Option Builtin} {p:Program} {w:World} {m:Nat} {an:Option Value}:∀ {n:Nat} {s s':SharedT} {t:Thread},
  run (stepT (denote tb) p w) (stepOk m an) n s t=some s' → topRun tb p w m an n s.abs t=some s'.abs
 |0,_,_,_,h=>by cases h
 |n+1,s,s',t,h=>by
  unfold run at h
  unfold topRun
  cases ht:through t with
  |true=>rw [ht] at h;cases h;rfl
  |false=>
   rw [ht] at h
   cases hk:stepOk m an t with
   |false=>rw [hk] at h;cases h
   |true=>
    rw [hk] at h
    cases hs:stepT (denote tb) p w s t with
    |none=>rw [hs] at h;cases h
    |some r=>obtain ⟨s2,t2⟩:=r;rw [hs] at h;rw [stepT_spec hs];exact run_spec h
noncomputable def boot (w:World) (os:OsState):SharedT:=⟨(boot_heap w.params).objs.toList.zipIdx.foldl (fun t x=>t.ins x.2 x.1) BT.nil,11,(boot_heap w.params).life,Array.mk [],boot_drawn,boot_toks,os⟩
theorem boot_abs (w:World) (os:OsState):(boot w os).abs=⟨boot_heap w.params,Array.mk [],boot_drawn,boot_toks,os⟩:=by kernel_rfl
theorem boot_size (w:World):((boot_heap w.params).isNs mainGlobals && (Array.mk []:Array GenState).size==0,(boot_heap w.params).objs.size,(boot_heap w.params).nsMap mainGlobals "__annotations__")=(true,11,some (.ref 6)):=by kernel_rfl
noncomputable abbrev go (p:Program) (w:World) (N:Nat) (os:OsState):Option SharedT:=run (Fast.tw10156331382660048174 (Fast.tw11892475500146522536 Fast.tw14364793385576792824) p w) (Fast.tw6613529449190102663 11 (some (.ref 6))) N (boot w os) (topStub p)
theorem left {p q:Program} {lo:List Str} {Xt:Shared→Bool} {α:Type} {Yf:Shared→α} {Ya:World→α} {N:Nat} {g0:Bool}
  (e:opening p=plainProg p.main.scope.names) (hN:Nat.ble 600 N=true) (f:∀ s,fenceModules? p s=some s)
  (u1:∀ w:World,(fun os=>(go p w N os).map fun S=>((staticsOk (importedModules p.main.body) (boot_heap w.params) S.abs.heap && namesBound p S.abs.heap && gensDone S.abs && laidKept (boot_heap w.params) S.abs.heap),
   (Fast.tw4187177175401517315 q lo (Fast.tw5923862056798008813 p.main.body) Xt g0 S.abs).1))=fun _=>some (true,(openGood q lo).1))
  (u2:∀ w:World,(fun os=>(go p w N os).map fun S=>(Fast.tw4187177175401517315 q lo (Fast.tw5923862056798008813 p.main.body) Xt g0 S.abs).2)=fun _=>some (openGood q lo).2)
  (u3:∀ w:World,(fun os=>(go p w N os).map fun S=>Yf S.abs)=fun _=>some (Ya w)):LeftO p q lo Xt Yf Ya N g0:=fun w=>by
 obtain ⟨⟨h,gs,d,k,os⟩,e1,e'⟩:=Option.map_eq_some_iff.mp (boot_open e hN f w)
 obtain ⟨rfl,rfl,rfl,rfl⟩:h=boot_heap w.params∧gs=Array.mk []∧d=boot_drawn∧k=boot_toks:=by simpa using e'
 obtain ⟨z1,z2,z3⟩:_∧_∧_:=by simpa only [Prod.mk.injEq] using boot_size w
 obtain ⟨S,r,l1⟩:=Option.map_eq_some_iff.mp (congrFun (u1 w) os)
 have l2:=congrFun (u2 w) os
 have l3:=congrFun (u3 w) os
 simp only [r,Option.map_some,Option.some.injEq] at l2 l3
 obtain ⟨l1,l4⟩:=Prod.mk.inj l1
 rw [←Fast.te4187177175401517315,←Fast.te5923862056798008813] at l2 l4
 unfold go at r
 rw [←Fast.te10156331382660048174,←Fast.te11892475500146522536,←Fast.te14364793385576792824,←Fast.te6613529449190102663] at r
 have r:=run_spec r
 rw [boot_abs] at r
 have t:topFrom treeTable p w N ⟨boot_heap w.params,Array.mk [],boot_drawn,boot_toks,os⟩=some S.abs:=by
  unfold topFrom
  dsimp only
  rw [z1,z2,z3,r]
  show (match staticsOk (importedModules p.main.body) (boot_heap w.params) S.abs.heap && namesBound p S.abs.heap && gensDone S.abs && laidKept (boot_heap w.params) S.abs.heap with |true=>_|false=>_)=_
  rw [l1]
 unfold openEnds
 rw [e1]
 show (topFrom treeTable p w N _).map _=_
 rw [t]
 exact congrArg some (Prod.ext (Prod.ext l4 l2) l3)
end TopAll
abbrev TopAll.q:PySem.Program:=PySem.W.view PySem.Challenge.rw_jointrees_k21_trees_looked_at.prog [1,2,4,5,6,7,8,9,11,13,14,15,16,17,19,20,21,22,23,24,25,26,27,28,29,30,31,32,33,34,35,36]
open PySem PySem.W PySem.Calls PyProof.Rows
theorem TopAll.law:PySem.Challenge.rw_jointrees_k21_trees_looked_at.wellSaid=true:=by
 rw [Fast.te9446332074065402090]
 kernel_rfl
theorem TopAll.u1 (w:World):(fun os=>(TopAll.go PySem.Challenge.rw_jointrees_k21_trees_looked_at.row.prog w 8000 os).map fun S=>((staticsOk (importedModules PySem.Challenge.rw_jointrees_k21_trees_looked_at.row.prog.main.body) (boot_heap w.params) S.abs.heap && namesBound PySem.Challenge.rw_jointrees_k21_trees_looked_at.row.prog S.abs.heap && gensDone S.abs && laidKept (boot_heap w.params) S.abs.heap),
   (Fast.tw4187177175401517315 TopAll.q [] (Fast.tw5923862056798008813 PySem.Challenge.rw_jointrees_k21_trees_looked_at.row.prog.main.body) (fun s=>xlAt TopAll.q [] s && recOk [] s) true S.abs).1))=fun _=>some (true,(openGood TopAll.q []).1):=by kernel_rfl
theorem TopAll.u2 (w:World):(fun os=>(TopAll.go PySem.Challenge.rw_jointrees_k21_trees_looked_at.row.prog w 8000 os).map fun S=>(Fast.tw4187177175401517315 TopAll.q [] (Fast.tw5923862056798008813 PySem.Challenge.rw_jointrees_k21_trees_looked_at.row.prog.main.body) (fun s=>xlAt TopAll.q [] s && recOk [] s) true S.abs).2)=fun _=>some (openGood TopAll.q []).2:=by kernel_rfl
set_option hygiene false in
local macro_rules |`(tactic|o_head $H)=>`(tactic|(refine holds_open (r:=PySem.Challenge.rw_jointrees_k21_trees_looked_at.row) (q:=TopAll.q) (loose:=[]) (Xt:=fun s=>xlAt TopAll.q [] s && recOk [] s) (XP:=XL TopAll.q []) (Yf:=Hook.obs $H) (Ya:=Hook.val $H) (YP:=Hook.says $H) (N:=8000) ?hl (Hook.of $H) (Hook.keeps $H) (fun s e=>xl_of s (Bool.and_eq_true_iff.mp e).1) XL.keeps (by rfl) (by rfl) (by rfl) (fun s e=>recFacts_of (Bool.and_eq_true_iff.mp e).2) (by rfl) (by assumption) (by decide +kernel) ⟨rfl,rfl,rfl,rfl,rfl,by decide +kernel⟩ ?hw ?hc;(case hl=>exact TopAll.left (by kernel_rfl) (by decide) (fun s=>by kernel_rfl) TopAll.u1 TopAll.u2 (fun w=>by kernel_rfl))))
set_option maxRecDepth 100000 in
set_option maxHeartbeats 0 in
theorem PySem.Challenge.cw_jointrees_k21_trees_looked_at_holds : PySem.Challenge.rw_jointrees_k21_trees_looked_at.Holds := by
 w_on;refine holds_law TopAll.law fun said=>?_;k_head;(case hw=>w_witness2)
 k_fill
 refine Jt.walkB (l:=PySem.Challenge.rw_jointrees_k21_trees_looked_at) (k:=8) rfl rfl ⟨rfl,by decide,by decide,rfl⟩ (fun w h Y=>PySem.W.kIn_of Y) ?L ?T ?F
 case L=>intro w;kernel_rfl
 case T=>intro w;kernel_rfl
 case F=>
  intro w mg fa h KX G hmg
  refine' K21.all_mk KX G hmg ?_ ?_ ?_ ?_ ?_ ?_ ?_ ?_ ?_ ?_ ?_ ?_ ?_ ?_ ?_ ?_ ?_ ?_ ?_ ?_ ?_ ?_ ?_ ?_ ?_ ?_ ?_ ?_ ?_ ?_ ?z
  case z=>refine ⟨?_,?_,?_,?_,?_,?_,?_,?_,?_,?_,?_,?_,?_,?_,?_⟩ <;> k_is
  all_goals (refine' Jt.fh_mk ?a ?l ?c ?k;(case a=>k_is);(case l=>k_is);(case c=>k_is);(case k=>k_is))
